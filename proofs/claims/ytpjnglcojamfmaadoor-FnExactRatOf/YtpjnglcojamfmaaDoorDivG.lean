import Derived.Test.YtpjnglcojamfmaaDoorOfImpl
import Derived.Test.YtpjnglcojamfmaaDoorM4
import Derived.Test.YtpjnglcojamfmaaDoorMulLimbs
import Derived.Test.YtpjnglcojamfmaaDoorM2
namespace Go.Proofs.YtpjnglcojamfmaaDoor
open Go.ChangeShapes Go.WideShapes Go.ChangeAt Go.RowKit
theorem wl_trim (n k : Nat) (h0 : n / 1000000000 ^ k = 0) (h1 : k = 0 ∨ n / 1000000000 ^ (k - 1) ≠ 0) : isTrim (wl n k) := by
  intro hne
  cases k with
  | zero => exact absurd rfl hne
  | succ k =>
    have h2 : n / 1000000000 ^ k ≠ 0 := by
      rcases h1 with h | h
      · omega
      · rwa [Nat.add_sub_cancel] at h
    have e : (wl n (k + 1)).getLast hne = n / 1000000000 ^ k % 1000000000 := by simp [wl_succ]
    rw [e]
    rw [Nat.pow_succ, ← Nat.div_div_eq_div_mul] at h0
    omega
set_option maxRecDepth 100000 in
set_option maxHeartbeats 1000000 in
theorem limbsOf_trim0 (n : Nat) (w : World) (hn : n < 18446744073709551616) :
    Calls Tryd.prog 64 #[.int .u64 (n : Nat)] w fun e w' => ∃ v k, e = .returned v ∧ k ≤ 3 ∧ IsL w.heap.size w' v (wl n k) ∧ val (wl n k) = n ∧ (n / 1000000000 ^ k = 0 ∧ (k = 0 ∨ n / 1000000000 ^ (k - 1) ≠ 0)) ∧ Below w.heap.size w w' := by
  obtain ⟨i0, hinf, hz0, hz1, hz2⟩ := info_parts Tryd.info_u32
  have HN : Hid (n < 18446744073709551616) := hn
  clear hn
  go_enter Tryd.func64, Tryd.ntmps64
  go_wp2
  go_loopw [0, 3] (fun q v wr => ∃ k : Nat, (k ≤ 3 ∧ (k = 0 ∨ n / 1000000000 ^ (k - 1) ≠ 0)) ∧ q = .int .u64 (n / 1000000000 ^ k : Nat) ∧
      wr.ownsRow w.heap.size 51 1 v k ((wl n k).map (fun x => Value.int .u32 (x : Nat))) ∧ Below w.heap.size w wr) (fun q _ _ => (intOf q).toNat)
  case atStart => exact ⟨0, ⟨by omega, .inl rfl⟩, val_int (by simp), World.ownsRow_nil _ _ _ _, Below.refl _ _⟩
  case round =>
    obtain ⟨k, ⟨hk, hkt⟩, rfl, hown, hB⟩ := hrel
    have HKT : Hid (k = 0 ∨ n / 1000000000 ^ (k - 1) ≠ 0) := hkt
    clear hkt
    obtain ⟨q, hq⟩ : ∃ q, n / 1000000000 ^ k = q := ⟨_, rfl⟩
    have HQ : Hid (n / 1000000000 ^ k = q) := hq
    rw [hq]
    clear hq
    by_cases h0 : q = 0
    · have HV : Hid (val (wl n k) = n) := by
        show val (wl n k) = n
        have := wl_val n k
        rw [HQ.out, h0] at this
        simpa using this
      have hL : IsL w.heap.size wr u3 (wl n k) := isL_of_owns (e := 51) (by rw [wl_length]; exact hown) (wl_ok n k)
      have HL : Hid (IsL w.heap.size wr u3 (wl n k)) := hL
      have HB : Hid (Below w.heap.size w wr) := hB
      have HQ0 : Hid (n / 1000000000 ^ k = 0) := HQ.out.trans h0
      clear hL hown hB
      subst h0
      go_wp2
      go_ret
      exact ⟨_, k, rfl, hk, HL.out, HV.out, ⟨HQ0.out, HKT.out⟩, HB.out⟩
    · have hk3 : k < 3 := by
        apply Classical.byContradiction
        intro hc
        obtain rfl : k = 3 := by omega
        have := HQ.out
        have h3 : (1000000000 : Nat) ^ 3 = 1000000000000000000000000000 := by decide
        rw [h3] at this
        have := HN.out
        omega
      obtain ⟨x, hx⟩ : ∃ x : Int, (q : Int) = x := ⟨_, rfl⟩
      have HX : Hid ((q : Int) = x) := hx
      rw [hx]
      have x0 : 0 < x := by omega
      have x1 : x < 18446744073709551616 := by
        have h1 := Nat.div_le_self n (1000000000 ^ k)
        rw [HQ.out] at h1
        have := HN.out
        omega
      have HM : Hid (x % 1000000000 = (n / 1000000000 ^ k % 1000000000 : Nat)) := by show x % 1000000000 = (n / 1000000000 ^ k % 1000000000 : Nat); rw [HQ.out, ← HX.out]; rfl
      have HD : Hid (x / 1000000000 = (n / 1000000000 ^ (k + 1) : Nat)) := by
        show x / 1000000000 = (n / 1000000000 ^ (k + 1) : Nat)
        rw [Nat.pow_succ, ← Nat.div_div_eq_div_mul, HQ.out, ← HX.out]; rfl
      have HN0 : Hid (n / 1000000000 ^ k ≠ 0) := by show n / 1000000000 ^ k ≠ 0; rw [HQ.out]; exact h0
      clear hx h0
      go_wp2_with (at_builtin; refine wpList_append_own _ rfl _ _ 26 rfl w.heap.size 51 i0 (.int .u32 0) 1 4 Tryd.underlying26 hinf hz0 hz1 hz2 rfl (by decide) _ _ _ rfl (hown.alloc _) ⟨wr.heap.size, 0, none⟩ 1 1 [_] rfl rfl (cell_one_new _ _ _) ?c2 ?c3 ?c4 ?c5 ?_)
      case c2 => first | rfl | (intro u hu; simp at hu; subst hu; rfl)
      case c3 => unfold maxLen; omega
      case c4 => omega
      case c5 => have := hB.size; simp; omega
      intro v' w1 hown' hgrow' _
      have hB' : Below w.heap.size w w1 := (hB.alloc hB.size _).grown hgrow' (by have := hB.size; simp; omega) (fun q hq => (hown.lt q hq).1)
      have HO : Hid (w1.ownsRow w.heap.size 51 1 v' (k + 1) ((wl n (k + 1)).map (fun x => Value.int .u32 (x : Nat)))) := by
        show w1.ownsRow w.heap.size 51 1 v' (k + 1) ((wl n (k + 1)).map (fun x => Value.int .u32 (x : Nat)))
        rw [wl_succ, List.map_append, List.map_cons, List.map_nil, ← HM.out]
        exact hown'
      clear hgrow' hown hB hown'
      go_wp2
      go_roundw
      case rel => exact ⟨k + 1, ⟨by omega, .inr (by rw [Nat.add_sub_cancel]; exact HN0.out)⟩, val_int HD.out, HO.out, hB'⟩
      case measure => simp [intOf]; omega
theorem limbsOf_trim (n : Nat) (w : World) (hn : n < 18446744073709551616) :
    Calls Tryd.prog 64 #[.int .u64 (n : Nat)] w fun e w' => ∃ v t, e = .returned v ∧ IsL w.heap.size w' v t ∧ isTrim t ∧ val t = n ∧ t.length ≤ 3 ∧ Below w.heap.size w w' := by
  refine (limbsOf_trim0 n w hn).mono ?_
  rintro e w' ⟨v, k, rfl, hk, hL, hv, ⟨h0, h1⟩, hb⟩
  exact ⟨v, _, rfl, hL, wl_trim n k h0 h1, hv, by rw [wl_length]; exact hk, hb⟩
end Go.Proofs.YtpjnglcojamfmaaDoor
namespace Go.Proofs.YtpjnglcojamfmaaDoor
open Go.ChangeShapes Go.WideShapes Go.ChangeAt Go.RowKit
/-- Of the blocks that were there, block R alone may have turned. -/
structure Only (R : Nat) (w w' : World) : Prop where
  below : Below R w w'
  block : ∀ k, k < w.heap.size → k ≠ R → w'.heap[k]? = w.heap[k]?
theorem Only.refl (R : Nat) (w : World) : Only R w w := ⟨Below.refl _ _, fun _ _ _ => rfl⟩
theorem Only.trans {R : Nat} {a b c : World} (h : Only R a b) (k : Only R b c) : Only R a c :=
  ⟨h.below.trans k.below, fun i hi hn => (k.block i (Nat.lt_of_lt_of_le hi h.below.size) hn).trans (h.block i hi hn)⟩
theorem Only.of {R : Nat} {w w' : World} (h : Below w.heap.size w w') (hR : R ≤ w.heap.size) : Only R w w' := ⟨h.mono hR, fun k hk _ => h.block k hk⟩
theorem Only.setCell {R : Nat} {w w' : World} (h : Only R w w') (i : Nat) (u : Value) : Only R w (w'.setCell ⟨R, i, none⟩ u) :=
  ⟨h.below.setCell (Nat.le_refl _) u, fun k hk hn => by
    refine Eq.trans ?_ (h.block k hk hn)
    show (w'.heap.modify R _)[k]? = _
    rw [Array.getElem?_modify, if_neg (fun e => hn e.symm)]⟩
theorem Only.cell {R : Nat} {w w' : World} (h : Only R w w') {p : Addr} (hp : p.block < w.heap.size) (hn : p.block ≠ R) : w'.cell? p = w.cell? p := by
  unfold World.cell?
  rw [h.block _ hp hn]
theorem Only.rowT {R D : Nat} {w w' : World} {l : List Nat} (h : Only R w w') (hD : D ≠ R) (hr : RowT w D l) : RowT w' D l := by
  have hlt := hr.lt
  obtain ⟨t, hr⟩ := hr
  exact ⟨t, (h.block D hlt hD).trans hr⟩
theorem drop_set' (L : List Nat) (off i x : Nat) : (L.set (off + i) x).drop off = (L.drop off).set i x := by
  rw [List.drop_set, if_neg (by omega), Nat.add_sub_cancel_left]
theorem drop_getD (A : List Nat) (off i : Nat) : (A.drop off).getD i 0 = A.getD (off + i) 0 := by
  rw [List.getD_eq_getElem?_getD, List.getD_eq_getElem?_getD, List.getElem?_drop]
theorem take_set' (L A : List Nat) (off i x : Nat) (h : L.take off = A.take off) : (L.set (off + i) x).take off = A.take off := by
  rw [List.take_set_of_le (by omega), h]
theorem val_seg_set (L : List Nat) (off i x : Nat) (hi : off + i < L.length) : val (((L.set (off + i) x).drop off).take (i + 1)) = val ((L.drop off).take i) + 1000000000 ^ i * x := by
  rw [drop_set', val_take_set _ _ _ (by simp; omega)]
theorem val_seg_succ (A : List Nat) (off i : Nat) : val ((A.drop off).take (i + 1)) = val ((A.drop off).take i) + 1000000000 ^ i * A.getD (off + i) 0 := by
  rw [val_take_succ, drop_getD]
set_option maxRecDepth 100000 in
set_option maxHeartbeats 2000000 in
theorem subScaledAt_any (R off cap f : Nat) (pb : Option Addr) (cb : Nat) (A b : List Nat) (w : World) (hR : RowT w R A) (hAok : okL A) (hn : off + b.length ≤ A.length) (hA : A.length ≤ 1000000) (hbok : okL b) (hf : f ≤ 1000000000)
    (hcb : ∀ i, i < b.length → ∃ c off, pb = some ⟨c, off, none⟩ ∧ (c < w.heap.size ∧ c ≠ R) ∧ w.cell? ⟨c, off + i, none⟩ = some (.int .u32 (b.getD i 0 : Nat))) :
    Calls Tryd.prog 78 #[.slice (some ⟨R, off, none⟩) b.length cap, .slice pb b.length cb, .int .u64 (f : Nat)] w fun e w' => ∃ c L, e = .returned (.int .u64 (c : Nat)) ∧ RowT w' R L ∧ L.length = A.length ∧ okL L ∧ L.drop (off + b.length) = A.drop (off + b.length) ∧ L.take off = A.take off ∧ c ≤ f ∧
      val ((L.drop off).take b.length) + f * val b = val ((A.drop off).take b.length) + 1000000000 ^ b.length * c ∧ Only R w w' := by
  have HB : Hid (∀ i, i < b.length → ∃ c off, pb = some ⟨c, off, none⟩ ∧ (c < w.heap.size ∧ c ≠ R) ∧ w.cell? ⟨c, off + i, none⟩ = some (.int .u32 (b.getD i 0 : Nat))) := hcb
  clear hcb
  go_enter Tryd.func78, Tryd.ntmps78
  go_wp2
  go_loopw [7, 12] (fun cv iv wr => ∃ (i c : Nat) (L : List Nat), i ≤ b.length ∧ c ≤ f ∧ L.length = A.length ∧ okL L ∧ RowT wr R L ∧ L.drop (off + i) = A.drop (off + i) ∧ L.take off = A.take off ∧ cv = .int .u64 (c : Nat) ∧ iv = .int .i64 i ∧
      val ((L.drop off).take i) + f * val (b.take i) = val ((A.drop off).take i) + 1000000000 ^ i * c ∧ Only R w wr) (fun _ iv _ => b.length - (intOf iv).toNat)
  case atStart => exact ⟨0, 0, A, by omega, by omega, rfl, hAok, hR, rfl, rfl, rfl, rfl, by simp [val], Only.refl _ _⟩
  case round =>
    clear hR
    obtain ⟨i, c, L, hi, hcf, hLl, hLok, hR, hdr, htk, rfl, rfl, hval, hB⟩ := hrel
    have hc : c ≤ 1000000000 := by omega
    by_cases hib : i < b.length
    · have hcell := hR.cell (off + i) (by omega)
      have hx := getD_drop L A (off + i) hdr
      have hxb := okL_getD A hAok (off + i) (by omega)
      rw [hx] at hcell
      clear hx
      obtain ⟨x, hx⟩ : ∃ x, A.getD (off + i) 0 = x := ⟨_, rfl⟩
      rw [hx] at hxb hcell
      obtain ⟨bb, ob, rfl, hlb', hcb⟩ := HB.out i hib
      rw [← hB.cell (p := ⟨bb, ob + i, none⟩) hlb'.1 hlb'.2] at hcb
      have hyb := okL_getD b hbok i hib
      obtain ⟨y, hy⟩ : ∃ y, b.getD i 0 = y := ⟨_, rfl⟩
      rw [hy] at hcb hyb
      obtain ⟨F, hF⟩ : ∃ F, f * y = F := ⟨_, rfl⟩
      have hFb : F ≤ f * 999999999 := by rw [← hF]; exact Nat.mul_le_mul_left f (by omega)
      obtain ⟨X, hX⟩ : ∃ X : Int, (x : Int) = X := ⟨_, rfl⟩
      have HX : Hid ((x : Int) = X) := hX
      have x1 : 0 ≤ X := by omega
      have x2 : X < 1000000000 := by omega
      rw [hX] at hcell
      obtain ⟨C, hC⟩ : ∃ C : Int, (c : Int) = C := ⟨_, rfl⟩
      have HC : Hid ((c : Int) = C) := hC
      have c1 : 0 ≤ C := by omega
      have c2 : C ≤ 1000000000 := by omega
      rw [hC]
      obtain ⟨G, hG⟩ : ∃ G : Int, (f : Int) = G := ⟨_, rfl⟩
      rw [hG]
      obtain ⟨Y, hY⟩ : ∃ Y : Int, (y : Int) = Y := ⟨_, rfl⟩
      have hFI : (F : Int) = G * Y := by rw [← hF, ← hG, ← hY]; rfl
      have HFI : Hid ((F : Int) = G * Y) := hFI
      have g1 : 0 ≤ G * Y := by rw [← hFI]; omega
      have g2 : G * Y ≤ 999999999000000000 := by rw [← hFI]; omega
      have y1 : 0 ≤ Y := by omega
      have y2 : Y < 1000000000 := by omega
      rw [hY] at hcb
      by_cases hov : x < (c + F) % 1000000000
      · skip
        have hst := scaled_step (1000000000 ^ i) _ _ _ c x y (x + 1000000000 - (c + F) % 1000000000) ((c + F) / 1000000000 + 1) f hval (by rw [hF]; omega)
        have HST : Hid (val (((L.set (off + i) (x + 1000000000 - (c + F) % 1000000000)).drop off).take (i + 1)) + f * val (b.take (i + 1)) = val ((A.drop off).take (i + 1)) + 1000000000 ^ (i + 1) * ((c + F) / 1000000000 + 1)) := by
          show val (((L.set (off + i) (x + 1000000000 - (c + F) % 1000000000)).drop off).take (i + 1)) + f * val (b.take (i + 1)) = val ((A.drop off).take (i + 1)) + 1000000000 ^ (i + 1) * ((c + F) / 1000000000 + 1)
          rw [val_seg_set L off i _ (by omega), val_seg_succ, val_take_succ, hx, hy, Nat.pow_succ]
          exact hst
        have hfr := hR.frozen (off + i)
        have HR2 : Hid (∀ (u : Nat) (v : Int) (hv : v = (((x + 1000000000 - (c + F) % 1000000000) : Nat) : Int)), RowT ((wr.setCell ⟨R, off + i, none⟩ (.int .u32 (X + 1000000000))).setCell ⟨R, off + i, none⟩ (.int .u32 v)) R (L.set (off + i) (x + 1000000000 - (c + F) % 1000000000))) := fun u v hv => by
          have e : X + 1000000000 = ((x + 1000000000 : Nat) : Int) := by have := HX.out; omega
          have h := (hR.set (off + i) (x + 1000000000) (by omega)).set (off + i) (x + 1000000000 - (c + F) % 1000000000) (by simp; omega)
          rw [List.set_set] at h
          rw [hv, e]
          exact h
        have HR1 : Hid (∀ v : Int, v = (((x + 1000000000 - (c + F) % 1000000000) : Nat) : Int) → RowT (wr.setCell ⟨R, off + i, none⟩ (.int .u32 v)) R (L.set (off + i) (x + 1000000000 - (c + F) % 1000000000))) := fun v hv => by
          rw [hv]
          exact hR.set (off + i) _ (by omega)
        have HB2 : Hid (∀ u v, Only R w (wr.setCell ⟨R, off + i, none⟩ u) ∧ Only R w ((wr.setCell ⟨R, off + i, none⟩ u).setCell ⟨R, off + i, none⟩ v)) := fun u v => ⟨hB.setCell _ u, (hB.setCell _ u).setCell _ v⟩
        have HOK : Hid (okL (L.set (off + i) (x + 1000000000 - (c + F) % 1000000000))) := okL_set L hLok (off + i) _ (by omega)
        have HDR : Hid ((L.set (off + i) (x + 1000000000 - (c + F) % 1000000000)).drop (off + (i + 1)) = A.drop (off + (i + 1)) ∧ (L.set (off + i) (x + 1000000000 - (c + F) % 1000000000)).take off = A.take off) := ⟨drop_set_succ L A (off + i) _ hdr, take_set' L A off i _ htk⟩
        have HCF : Hid (((c + F) / 1000000000 + 1) ≤ f) := by
          show ((c + F) / 1000000000 + 1) ≤ f
          omega
        have t1 : X < (C + G * Y) % 1000000000 := by have := HX.out; have := HC.out; have := HFI.out; omega
        have HHOV : Hid _ := hov
        clear hst hval hx hy hR hB hLok hdr htk hX hxb hov hC hG hY hFI hyb hF hFb hc hcf
        go_wp2
        go_roundw
        case rel =>
          refine ⟨i + 1, ((c + F) / 1000000000 + 1), L.set (off + i) (x + 1000000000 - (c + F) % 1000000000), by omega, HCF.out, by simp [hLl], HOK.out, ?_, HDR.out.1, HDR.out.2, ?_, by go_num, HST.out, ?_⟩
          · have key : ∀ v : Int, v = (((x + 1000000000 - (c + F) % 1000000000) : Nat) : Int) → v = (((x + 1000000000 - (c + F) % 1000000000) : Nat) : Int) := fun _ h => h
            first
              | exact HR1.out _ (key _ (by have := HX.out; have := HC.out; have := HHOV.out; have := HFI.out; omega))
              | exact HR2.out 0 _ (key _ (by have := HX.out; have := HC.out; have := HHOV.out; have := HFI.out; omega))
          · congr 1; have := HX.out; have := HC.out; have := HHOV.out; have := HFI.out; omega
          · first | exact (HB2.out _ (.bool true)).1 | exact (HB2.out _ _).2
        case measure => simp [intOf]; omega
      · skip
        have hst := scaled_step (1000000000 ^ i) _ _ _ c x y (x - (c + F) % 1000000000) ((c + F) / 1000000000) f hval (by rw [hF]; omega)
        have HST : Hid (val (((L.set (off + i) (x - (c + F) % 1000000000)).drop off).take (i + 1)) + f * val (b.take (i + 1)) = val ((A.drop off).take (i + 1)) + 1000000000 ^ (i + 1) * ((c + F) / 1000000000)) := by
          show val (((L.set (off + i) (x - (c + F) % 1000000000)).drop off).take (i + 1)) + f * val (b.take (i + 1)) = val ((A.drop off).take (i + 1)) + 1000000000 ^ (i + 1) * ((c + F) / 1000000000)
          rw [val_seg_set L off i _ (by omega), val_seg_succ, val_take_succ, hx, hy, Nat.pow_succ]
          exact hst
        have hfr := hR.frozen (off + i)
        have HR2 : Hid (∀ (u : Nat) (v : Int) (hv : v = (((x - (c + F) % 1000000000) : Nat) : Int)), RowT ((wr.setCell ⟨R, off + i, none⟩ (.int .u32 (X + 1000000000))).setCell ⟨R, off + i, none⟩ (.int .u32 v)) R (L.set (off + i) (x - (c + F) % 1000000000))) := fun u v hv => by
          have e : X + 1000000000 = ((x + 1000000000 : Nat) : Int) := by have := HX.out; omega
          have h := (hR.set (off + i) (x + 1000000000) (by omega)).set (off + i) (x - (c + F) % 1000000000) (by simp; omega)
          rw [List.set_set] at h
          rw [hv, e]
          exact h
        have HR1 : Hid (∀ v : Int, v = (((x - (c + F) % 1000000000) : Nat) : Int) → RowT (wr.setCell ⟨R, off + i, none⟩ (.int .u32 v)) R (L.set (off + i) (x - (c + F) % 1000000000))) := fun v hv => by
          rw [hv]
          exact hR.set (off + i) _ (by omega)
        have HB2 : Hid (∀ u v, Only R w (wr.setCell ⟨R, off + i, none⟩ u) ∧ Only R w ((wr.setCell ⟨R, off + i, none⟩ u).setCell ⟨R, off + i, none⟩ v)) := fun u v => ⟨hB.setCell _ u, (hB.setCell _ u).setCell _ v⟩
        have HOK : Hid (okL (L.set (off + i) (x - (c + F) % 1000000000))) := okL_set L hLok (off + i) _ (by omega)
        have HDR : Hid ((L.set (off + i) (x - (c + F) % 1000000000)).drop (off + (i + 1)) = A.drop (off + (i + 1)) ∧ (L.set (off + i) (x - (c + F) % 1000000000)).take off = A.take off) := ⟨drop_set_succ L A (off + i) _ hdr, take_set' L A off i _ htk⟩
        have HCF : Hid (((c + F) / 1000000000) ≤ f) := by
          show ((c + F) / 1000000000) ≤ f
          omega
        have t1 : (C + G * Y) % 1000000000 ≤ X := by have := HX.out; have := HC.out; have := HFI.out; omega
        have HHOV : Hid _ := hov
        clear hst hval hx hy hR hB hLok hdr htk hX hxb hov hC hG hY hFI hyb hF hFb hc hcf
        go_wp2
        go_roundw
        case rel =>
          refine ⟨i + 1, ((c + F) / 1000000000), L.set (off + i) (x - (c + F) % 1000000000), by omega, HCF.out, by simp [hLl], HOK.out, ?_, HDR.out.1, HDR.out.2, ?_, by go_num, HST.out, ?_⟩
          · have key : ∀ v : Int, v = (((x - (c + F) % 1000000000) : Nat) : Int) → v = (((x - (c + F) % 1000000000) : Nat) : Int) := fun _ h => h
            first
              | exact HR1.out _ (key _ (by have := HX.out; have := HC.out; have := HHOV.out; have := HFI.out; omega))
              | exact HR2.out 0 _ (key _ (by have := HX.out; have := HC.out; have := HHOV.out; have := HFI.out; omega))
          · congr 1; have := HX.out; have := HC.out; have := HHOV.out; have := HFI.out; omega
          · first | exact (HB2.out _ (.bool true)).1 | exact (HB2.out _ _).2
        case measure => simp [intOf]; omega
    · obtain rfl : i = b.length := by omega
      rw [List.take_of_length_le (Nat.le_refl b.length)] at hval
      have HE : Hid (RowT wr R L ∧ L.length = A.length ∧ okL L ∧ L.drop (off + b.length) = A.drop (off + b.length) ∧ L.take off = A.take off ∧ val ((L.drop off).take b.length) + f * val b = val ((A.drop off).take b.length) + 1000000000 ^ b.length * c ∧ Only R w wr) := ⟨hR, hLl, hLok, hdr, htk, hval, hB⟩
      clear hval hR hB hLok hdr htk
      go_wp2
      go_ret
      obtain ⟨e1, e2, e3, e4, e5, e6, e7⟩ := HE.out
      exact ⟨c, L, rfl, e1, e2, e3, e4, e5, hcf, e6, e7⟩
set_option maxRecDepth 100000 in
set_option maxHeartbeats 2000000 in
theorem addIntoAt_any (R off cap : Nat) (pb : Option Addr) (cb : Nat) (A b : List Nat) (w : World) (hR : RowT w R A) (hAok : okL A) (hn : off + b.length ≤ A.length) (hA : A.length ≤ 1000000) (hbok : okL b)
    (hcb : ∀ i, i < b.length → ∃ c off, pb = some ⟨c, off, none⟩ ∧ (c < w.heap.size ∧ c ≠ R) ∧ w.cell? ⟨c, off + i, none⟩ = some (.int .u32 (b.getD i 0 : Nat))) :
    Calls Tryd.prog 76 #[.slice (some ⟨R, off, none⟩) b.length cap, .slice pb b.length cb] w fun e w' => ∃ c L, e = .returned (.int .u32 (c : Nat)) ∧ RowT w' R L ∧ L.length = A.length ∧ okL L ∧ L.drop (off + b.length) = A.drop (off + b.length) ∧ L.take off = A.take off ∧ c ≤ 1 ∧
      val ((L.drop off).take b.length) + 1000000000 ^ b.length * c = val ((A.drop off).take b.length) + val b ∧ Only R w w' := by
  have HB : Hid (∀ i, i < b.length → ∃ c off, pb = some ⟨c, off, none⟩ ∧ (c < w.heap.size ∧ c ≠ R) ∧ w.cell? ⟨c, off + i, none⟩ = some (.int .u32 (b.getD i 0 : Nat))) := hcb
  clear hcb
  go_enter Tryd.func76, Tryd.ntmps76
  go_wp2
  go_loopw [5, 10] (fun cv iv wr => ∃ (i c : Nat) (L : List Nat), i ≤ b.length ∧ c ≤ 1 ∧ L.length = A.length ∧ okL L ∧ RowT wr R L ∧ L.drop (off + i) = A.drop (off + i) ∧ L.take off = A.take off ∧ cv = .int .u32 (c : Nat) ∧ iv = .int .i64 i ∧
      val ((L.drop off).take i) + 1000000000 ^ i * c = val ((A.drop off).take i) + val (b.take i) ∧ Only R w wr) (fun _ iv _ => b.length - (intOf iv).toNat)
  case atStart => exact ⟨0, 0, A, by omega, by omega, rfl, hAok, hR, rfl, rfl, rfl, rfl, by simp [val], Only.refl _ _⟩
  case round =>
    clear hR
    obtain ⟨i, c, L, hi, hc, hLl, hLok, hR, hdr, htk, rfl, rfl, hval, hB⟩ := hrel
    by_cases hib : i < b.length
    · have hcell := hR.cell (off + i) (by omega)
      have hx := getD_drop L A (off + i) hdr
      have hxb := okL_getD A hAok (off + i) (by omega)
      rw [hx] at hcell
      clear hx
      obtain ⟨x, hx⟩ : ∃ x, A.getD (off + i) 0 = x := ⟨_, rfl⟩
      rw [hx] at hxb hcell
      obtain ⟨bb, ob, rfl, hlb', hcb⟩ := HB.out i hib
      rw [← hB.cell (p := ⟨bb, ob + i, none⟩) hlb'.1 hlb'.2] at hcb
      have hyb := okL_getD b hbok i hib
      obtain ⟨y, hy⟩ : ∃ y, b.getD i 0 = y := ⟨_, rfl⟩
      rw [hy] at hcb hyb
      obtain ⟨X, hX⟩ : ∃ X : Int, (x : Int) = X := ⟨_, rfl⟩
      have HX : Hid ((x : Int) = X) := hX
      have x1 : 0 ≤ X := by omega
      have x2 : X < 1000000000 := by omega
      rw [hX] at hcell
      obtain ⟨C, hC⟩ : ∃ C : Int, (c : Int) = C := ⟨_, rfl⟩
      have HC : Hid ((c : Int) = C) := hC
      have c1 : 0 ≤ C := by omega
      have c2 : C ≤ 1 := by omega
      rw [hC]
      obtain ⟨Y, hY⟩ : ∃ Y : Int, (y : Int) = Y := ⟨_, rfl⟩
      have HY : Hid ((y : Int) = Y) := hY
      have y1 : 0 ≤ Y := by omega
      have y2 : Y < 1000000000 := by omega
      rw [hY] at hcb
      by_cases hov : 1000000000 ≤ x + c + y
      · skip
        have hst := into_step (1000000000 ^ i) _ _ _ c x y (x + c + y - 1000000000) 1 hval (by omega)
        have HST : Hid (val (((L.set (off + i) (x + c + y - 1000000000)).drop off).take (i + 1)) + 1000000000 ^ (i + 1) * 1 = val ((A.drop off).take (i + 1)) + val (b.take (i + 1))) := by
          show val (((L.set (off + i) (x + c + y - 1000000000)).drop off).take (i + 1)) + 1000000000 ^ (i + 1) * 1 = val ((A.drop off).take (i + 1)) + val (b.take (i + 1))
          rw [val_seg_set L off i _ (by omega), val_seg_succ, val_take_succ, hx, hy, Nat.pow_succ]
          exact hst
        have hfr := hR.frozen (off + i)
        have HR1 : Hid (∀ v : Int, v = (((x + c + y - 1000000000) : Nat) : Int) → RowT (wr.setCell ⟨R, off + i, none⟩ (.int .u32 v)) R (L.set (off + i) (x + c + y - 1000000000))) := fun v hv => by
          rw [hv]
          exact hR.set (off + i) _ (by omega)
        have HB2 : Hid (∀ u, Only R w (wr.setCell ⟨R, off + i, none⟩ u)) := fun u => hB.setCell _ u
        have HOK : Hid (okL (L.set (off + i) (x + c + y - 1000000000))) := okL_set L hLok (off + i) _ (by omega)
        have HDR : Hid ((L.set (off + i) (x + c + y - 1000000000)).drop (off + (i + 1)) = A.drop (off + (i + 1)) ∧ (L.set (off + i) (x + c + y - 1000000000)).take off = A.take off) := ⟨drop_set_succ L A (off + i) _ hdr, take_set' L A off i _ htk⟩
        have t1 : 1000000000 ≤ X + C + Y := by have := HX.out; have := HC.out; have := HY.out; omega
        have HHOV : Hid _ := hov
        clear hst hval hx hy hR hB hLok hdr htk hX hxb hov hC hY hyb
        go_wp2
        go_roundw
        case rel => exact ⟨i + 1, 1, L.set (off + i) (x + c + y - 1000000000), by omega, by omega, by simp [hLl], HOK.out, HR1.out _ (by have := HHOV.out; have := HX.out; have := HC.out; have := HY.out; omega), HDR.out.1, HDR.out.2, rfl, by go_num, HST.out, HB2.out _⟩
        case measure => simp [intOf]; omega
      · skip
        have hst := into_step (1000000000 ^ i) _ _ _ c x y (x + c + y) 0 hval (by omega)
        have HST : Hid (val (((L.set (off + i) (x + c + y)).drop off).take (i + 1)) + 1000000000 ^ (i + 1) * 0 = val ((A.drop off).take (i + 1)) + val (b.take (i + 1))) := by
          show val (((L.set (off + i) (x + c + y)).drop off).take (i + 1)) + 1000000000 ^ (i + 1) * 0 = val ((A.drop off).take (i + 1)) + val (b.take (i + 1))
          rw [val_seg_set L off i _ (by omega), val_seg_succ, val_take_succ, hx, hy, Nat.pow_succ]
          exact hst
        have hfr := hR.frozen (off + i)
        have HR1 : Hid (∀ v : Int, v = (((x + c + y) : Nat) : Int) → RowT (wr.setCell ⟨R, off + i, none⟩ (.int .u32 v)) R (L.set (off + i) (x + c + y))) := fun v hv => by
          rw [hv]
          exact hR.set (off + i) _ (by omega)
        have HB2 : Hid (∀ u, Only R w (wr.setCell ⟨R, off + i, none⟩ u)) := fun u => hB.setCell _ u
        have HOK : Hid (okL (L.set (off + i) (x + c + y))) := okL_set L hLok (off + i) _ (by omega)
        have HDR : Hid ((L.set (off + i) (x + c + y)).drop (off + (i + 1)) = A.drop (off + (i + 1)) ∧ (L.set (off + i) (x + c + y)).take off = A.take off) := ⟨drop_set_succ L A (off + i) _ hdr, take_set' L A off i _ htk⟩
        have t1 : X + C + Y < 1000000000 := by have := HX.out; have := HC.out; have := HY.out; omega
        have HHOV : Hid _ := hov
        clear hst hval hx hy hR hB hLok hdr htk hX hxb hov hC hY hyb
        go_wp2
        go_roundw
        case rel => exact ⟨i + 1, 0, L.set (off + i) (x + c + y), by omega, by omega, by simp [hLl], HOK.out, HR1.out _ (by have := HHOV.out; have := HX.out; have := HC.out; have := HY.out; omega), HDR.out.1, HDR.out.2, rfl, by go_num, HST.out, HB2.out _⟩
        case measure => simp [intOf]; omega
    · obtain rfl : i = b.length := by omega
      rw [List.take_of_length_le (Nat.le_refl b.length)] at hval
      have HE : Hid (RowT wr R L ∧ L.length = A.length ∧ okL L ∧ L.drop (off + b.length) = A.drop (off + b.length) ∧ L.take off = A.take off ∧ val ((L.drop off).take b.length) + 1000000000 ^ b.length * c = val ((A.drop off).take b.length) + val b ∧ Only R w wr) := ⟨hR, hLl, hLok, hdr, htk, hval, hB⟩
      clear hval hR hB hLok hdr htk
      go_wp2
      go_ret
      obtain ⟨e1, e2, e3, e4, e5, e6, e7⟩ := HE.out
      exact ⟨c, L, rfl, e1, e2, e3, e4, e5, hc, e6, e7⟩
end Go.Proofs.YtpjnglcojamfmaaDoor
namespace Go.Proofs.YtpjnglcojamfmaaDoor
open Go.ChangeShapes Go.WideShapes Go.ChangeAt Go.RowKit
theorem muld_step (P VL VN c m x Va d c' F : Nat) (h : VL + P * c = Va * m) (hs : VN + P * 0 = VL + P * d) (hF : x * m = F) (hd : d + 1000000000 * c' = F + c) : VN + P * 1000000000 * c' = (Va + P * x) * m := by
  have e1 : P * (d + 1000000000 * c') = P * (F + c) := by rw [hd]
  have e2 : (Va + P * x) * m = Va * m + P * (x * m) := by grind
  rw [e2, ← h, hF]
  rw [Nat.mul_add, Nat.mul_add, ← Nat.mul_assoc] at e1
  omega
set_option maxRecDepth 100000 in
set_option maxHeartbeats 2000000 in
theorem l1MulD_any (B : Nat) (va : Value) (a : List Nat) (m : Nat) (w : World) (ha : IsL B w va a) (hla : a.length ≤ 100000) (hm : m < 1000000000) :
    Calls Tryd.prog 58 #[va, .int .u64 (m : Nat)] w fun e w' => ∃ v L, e = .returned v ∧ IsL w.heap.size w' v L ∧ isTrim L ∧ val L = val a * m ∧ L.length ≤ a.length + 1 ∧ Below w.heap.size w w' := by
  obtain ⟨i0, hinf, hz0, hz1, hz2⟩ := info_parts Tryd.info_u32
  obtain ⟨pa, ca, rfl, _⟩ := id ha
  obtain ⟨_, _, _, haok, hca⟩ := ha.cells
  have HA : Hid (∀ i, i < a.length → ∃ b off, pa = some ⟨b, off, none⟩ ∧ b < w.heap.size ∧ w.cell? ⟨b, off + i, none⟩ = some (.int .u32 (a.getD i 0 : Nat))) := hca
  clear hca ha
  go_enter Tryd.func58, Tryd.ntmps58
  go_wp2_with (at_make; refine wpList_make_full _ rfl _ _ 26 rfl w.heap.size 51 i0 (.int .u32 0) 1 Tryd.underlying26 hinf hz0 hz1 .i64 .i64 _ _ (a.length + 1) rfl rfl (by first | rfl | omega) (by first | rfl | omega) (by first | omega | (rw [hz2]; omega)) (by unfold maxLen; omega) (Nat.le_refl _) ?_)
  intro w1 hown hgr
  first | rw [made_zero] at hown | rw [made_zero'] at hown
  have hR : RowT w1 w.heap.size (List.replicate (a.length + 1) 0) := (row_of_full hown).tail
  have hB1 : Below w.heap.size w w1 := (Below.refl _ _).grown hgr (Nat.le_refl _) (fun k h => by cases h)
  clear hown hgr
  go_wp2
  go_loopw [6, 16] (fun cv iv wr => ∃ (i c : Nat) (L : List Nat), i ≤ a.length ∧ c ≤ m ∧ L.length = a.length + 1 ∧ okL L ∧ RowT wr w.heap.size L ∧ (∀ j, i ≤ j → L.getD j 0 = 0) ∧ cv = .int .u64 (c : Nat) ∧ iv = .int .i64 i ∧
      val L + 1000000000 ^ i * c = val (a.take i) * m ∧ Below w.heap.size w wr) (fun _ iv _ => a.length - (intOf iv).toNat)
  case atStart => exact ⟨0, 0, _, by omega, by omega, by simp, fun x hx => by rw [List.eq_of_mem_replicate hx]; omega, hR, fun j hj => by simp [List.getD_eq_getElem?_getD, List.getElem?_replicate]; split <;> rfl, rfl, rfl, by simp [val_replicate, val], hB1⟩
  case round =>
    clear hR hB1
    obtain ⟨i, c, L, hi, hcf, hLl, hLok, hR, hzr, rfl, rfl, hval, hB⟩ := hrel
    by_cases hia : i < a.length
    · obtain ⟨ba, oa, rfl, hla', hca⟩ := HA.out i hia
      rw [← hB.cell (p := ⟨ba, oa + i, none⟩) hla'] at hca
      have hxb := okL_getD a haok i hia
      have hvt := val_take_succ a i
      obtain ⟨x, hx⟩ : ∃ x, a.getD i 0 = x := ⟨_, rfl⟩
      rw [hx] at hca hxb hvt
      obtain ⟨F, hF⟩ : ∃ F, x * m = F := ⟨_, rfl⟩
      have hFb : F ≤ 999999999 * m := by rw [← hF]; exact Nat.mul_le_mul_right m (by omega)
      have hvs := val_set L i ((F + c) % 1000000000) (by omega)
      rw [hzr i (Nat.le_refl _)] at hvs
      have HST : Hid (val (L.set i ((F + c) % 1000000000)) + 1000000000 ^ (i + 1) * ((F + c) / 1000000000) = val (a.take (i + 1)) * m) := by
        show val (L.set i ((F + c) % 1000000000)) + 1000000000 ^ (i + 1) * ((F + c) / 1000000000) = val (a.take (i + 1)) * m
        rw [hvt, Nat.pow_succ]
        exact muld_step _ _ _ c m x _ _ _ F hval hvs hF (by omega)
      have hcell := hR.cell i (by omega)
      have hfr := hR.frozen i
      have HR1 : Hid (∀ v : Int, v = (((F + c) % 1000000000 : Nat) : Int) → RowT (wr.setCell ⟨w.heap.size, i, none⟩ (.int .u32 v)) w.heap.size (L.set i ((F + c) % 1000000000))) := fun v hv => by
        rw [hv]
        exact hR.set i _ (by omega)
      have HB2 : Hid (∀ u, Below w.heap.size w (wr.setCell ⟨w.heap.size, i, none⟩ u)) := fun u => hB.setCell (Nat.le_refl _) u
      have HOK : Hid (okL (L.set i ((F + c) % 1000000000)) ∧ (L.set i ((F + c) % 1000000000)).length = a.length + 1) := ⟨okL_set L hLok i _ (Nat.mod_lt _ (by decide)), by simp [hLl]⟩
      have HZ : Hid (∀ j, i + 1 ≤ j → (L.set i ((F + c) % 1000000000)).getD j 0 = 0) := fun j hj => by
        rw [getD_set_ne _ _ _ _ (by omega)]
        exact hzr j (by omega)
      have HCF : Hid ((F + c) / 1000000000 ≤ m) := by show (F + c) / 1000000000 ≤ m; omega
      clear hval hx hR hB hLok hzr hvs hvt
      obtain ⟨X, hX⟩ : ∃ X : Int, (x : Int) = X := ⟨_, rfl⟩
      have x1 : 0 ≤ X := by omega
      have x2 : X < 1000000000 := by omega
      rw [hX] at hca
      obtain ⟨C, hC⟩ : ∃ C : Int, (c : Int) = C := ⟨_, rfl⟩
      have HC : Hid ((c : Int) = C) := hC
      have c1 : 0 ≤ C := by omega
      have c2 : C < 1000000000 := by omega
      rw [hC]
      obtain ⟨G, hG⟩ : ∃ G : Int, (m : Int) = G := ⟨_, rfl⟩
      rw [hG]
      have hFI : (F : Int) = X * G := by rw [← hF, ← hG, ← hX]; rfl
      have HFI : Hid ((F : Int) = X * G) := hFI
      have g1 : 0 ≤ X * G := by rw [← hFI]; omega
      have g2 : X * G ≤ 999999999000000000 := by rw [← hFI]; omega
      clear hX hxb hC hG hFI hF hFb hcf
      go_wp2
      go_roundw
      case rel => exact ⟨i + 1, (F + c) / 1000000000, L.set i ((F + c) % 1000000000), by omega, HCF.out, HOK.out.2, HOK.out.1, HR1.out _ (by have := HC.out; have := HFI.out; omega), HZ.out, (by congr 1; have := HC.out; have := HFI.out; omega), by go_num, HST.out, HB2.out _⟩
      case measure => simp [intOf]; omega
    · obtain rfl : i = a.length := by omega
      rw [List.take_of_length_le (Nat.le_refl _)] at hval
      have hvs := val_set L a.length c (by omega)
      rw [hzr _ (Nat.le_refl _)] at hvs
      have hcell := hR.cell a.length (by omega)
      have hfr := hR.frozen a.length
      obtain ⟨N, hN⟩ : ∃ N, L.set a.length c = N := ⟨_, rfl⟩
      have HN : Hid (val N = val a * m ∧ okL N ∧ N.length = a.length + 1) := by
        rw [← hN]
        exact ⟨by omega, okL_set L hLok _ _ (by omega), by simp [hLl]⟩
      have HR1 : Hid (RowT (wr.setCell ⟨w.heap.size, a.length, none⟩ (.int .u32 (c : Nat))) w.heap.size N) := by rw [← hN]; exact hR.set _ _ (by omega)
      have HB2 : Hid (Below w.heap.size w (wr.setCell ⟨w.heap.size, a.length, none⟩ (.int .u32 (c : Nat)))) := hB.setCell (Nat.le_refl _) _
      have hcb : c < 1000000000 := by omega
      clear hval hvs hR hB hLok hzr hN
      obtain ⟨W3, hW3⟩ : ∃ W3, wr.setCell ⟨w.heap.size, a.length, none⟩ (.int .u32 (c : Nat)) = W3 := ⟨_, rfl⟩
      have HW3 : Hid (wr.setCell ⟨w.heap.size, a.length, none⟩ (.int .u32 (c : Nat)) = W3) := hW3
      rw [hW3] at HR1 HB2
      clear hW3
      go_wp2
      rw [HW3.out]
      clear hcell hfr
      have HI : Hid (∀ k, k ≤ a.length + 1 → trimL N = N.take k → IsL w.heap.size W3 (.slice (some ⟨w.heap.size, 0, none⟩) k (a.length + 1)) (trimL N)) := fun k hk he => by
        have hl : (trimL N).length = k := by rw [he, List.length_take]; have := HN.out.2.2; omega
        refine ⟨_, a.length + 1, by rw [hl], by omega, by unfold maxLen; omega, trimL_ok N HN.out.2.1, .inr ⟨w.heap.size, 0, rfl, Nat.le_refl _, HR1.out.lt, fun i hi => ?_⟩⟩
        rw [Nat.zero_add, HR1.out.cell i (by have := HN.out.2.2; omega), getD_trimL N i hi]
      have HT : Hid (isTrim (trimL N) ∧ val (trimL N) = val a * m ∧ (trimL N).length ≤ a.length + 1) := ⟨trimL_trim _, by rw [val_trimL]; exact HN.out.1, by have := trimL_len N; have := HN.out.2.2; omega⟩
      go_loop [9] (fun n => ∃ k : Nat, k ≤ a.length + 1 ∧ n = .int .i64 k ∧ trimL (N.take k) = trimL N) (fun n => (intOf n).toNat)
      case atStart => exact ⟨a.length + 1, Nat.le_refl _, val_int (by omega), by rw [List.take_of_length_le (by have := HN.out.2.2; omega)]⟩
      case round =>
        obtain ⟨k, hk, rfl, hp⟩ := hrel
        have HP : Hid (trimL (N.take k) = trimL N) := hp
        clear hp
        cases k with
        | zero =>
          have HE : Hid (IsL w.heap.size W3 (.slice (some ⟨w.heap.size, 0, none⟩) 0 (a.length + 1)) (trimL N)) := HI.out 0 (by omega) (by rw [← HP.out]; rfl)
          go_wp2
          go_ret
          exact ⟨_, rfl, _, HE.out, HT.out.1, HT.out.2.1, HT.out.2.2, HB2.out⟩
        | succ j =>
          have hcell := HR1.out.cell j (by have := HN.out.2.2; omega)
          obtain ⟨x, hx⟩ : ∃ x, N.getD j 0 = x := ⟨_, rfl⟩
          rw [hx] at hcell
          have HX : Hid (N.getD j 0 = x) := hx
          clear hx
          by_cases h0 : x = 0
          · have hz : ((x : Int) == 0) = true := by rw [beq_iff_eq]; omega
            have HE : Hid (trimL (N.take j) = trimL N) := by rw [← trimL_take_zero N j (by have := HN.out.2.2; omega) (by rw [HX.out, h0])]; exact HP.out
            clear h0
            go_wp2
            go_round
            case rel => exact ⟨j, by omega, val_int (by omega), HE.out⟩
            case measure => simp [intOf]
          · have hz : ((x : Int) == 0) = false := by rw [beq_eq_false_iff_ne]; omega
            have HE : Hid (IsL w.heap.size W3 (.slice (some ⟨w.heap.size, 0, none⟩) (j + 1) (a.length + 1)) (trimL N)) := HI.out (j + 1) hk (HP.out.symm.trans (trimL_take_pos N j (by have := HN.out.2.2; omega) (by rw [HX.out]; exact h0)))
            clear h0
            go_wp2
            go_ret
            exact ⟨_, rfl, _, HE.out, HT.out.1, HT.out.2.1, HT.out.2.2, HB2.out⟩
end Go.Proofs.YtpjnglcojamfmaaDoor
namespace Go.Proofs.YtpjnglcojamfmaaDoor
open Go.ChangeShapes Go.WideShapes Go.ChangeAt Go.RowKit
set_option maxRecDepth 100000 in
set_option maxHeartbeats 2000000 in
theorem l1SubD_len (B : Nat) (va vb : Value) (a b : List Nat) (w : World) (ha : IsL B w va a) (hb : IsL B w vb b) (hla : a.length ≤ 1000000) (hlb : b.length ≤ a.length) (hle : val b ≤ val a) :
    Calls Tryd.prog 59 #[va, vb] w fun e w' => ∃ L, e = .returned (.slice (some ⟨w.heap.size, 0, none⟩) a.length a.length) ∧ IsL w.heap.size w' (.slice (some ⟨w.heap.size, 0, none⟩) a.length a.length) L ∧ val L + val b = val a ∧ L.length = a.length ∧ Below w.heap.size w w' := by
  obtain ⟨i0, hinf, hz0, hz1, hz2⟩ := info_parts Tryd.info_u32
  obtain ⟨pa, ca, rfl, _⟩ := id ha
  obtain ⟨pb, cb, rfl, _⟩ := id hb
  obtain ⟨_, _, _, haok, hca⟩ := ha.cells
  obtain ⟨_, _, _, hbok, hcb⟩ := hb.cells
  have HA : Hid (∀ i, i < a.length → ∃ b off, pa = some ⟨b, off, none⟩ ∧ b < w.heap.size ∧ w.cell? ⟨b, off + i, none⟩ = some (.int .u32 (a.getD i 0 : Nat))) := hca
  have HB : Hid (∀ i, i < b.length → ∃ c off, pb = some ⟨c, off, none⟩ ∧ c < w.heap.size ∧ w.cell? ⟨c, off + i, none⟩ = some (.int .u32 (b.getD i 0 : Nat))) := hcb
  have HLE : Hid (val b ≤ val a) := hle
  clear hca hcb ha hb hle
  go_enter Tryd.func59, Tryd.ntmps59
  go_wp2_with (at_make; refine wpList_make_full _ rfl _ _ 26 rfl w.heap.size 51 i0 (.int .u32 0) 1 Tryd.underlying26 hinf hz0 hz1 .i64 .i64 _ _ a.length rfl rfl ?m0 ?m1 ?m2 ?m3 ?m4 ?_)
  try (case m0 => first | rfl | omega)
  try (case m1 => first | rfl | omega)
  try (case m2 => (first | omega | (rw [hz2]; omega)))
  try (case m3 => (unfold maxLen; omega))
  try (case m4 => exact Nat.le_refl _)
  intro w1 hown hgr
  first | rw [made_zero] at hown | rw [made_zero'] at hown
  have hR : Row w1 w.heap.size (List.replicate a.length 0) := row_of_full hown
  have hB1 : Below w.heap.size w w1 := (Below.refl _ _).grown hgr (Nat.le_refl _) (fun k h => by cases h)
  clear hown hgr
  go_wp2
  go_loopw [6, 14] (fun cv iv wr => ∃ (i c : Nat) (L : List Nat), i ≤ a.length ∧ c ≤ 1 ∧ L.length = a.length ∧ okL L ∧ Row wr w.heap.size L ∧ cv = .int .i64 (c : Nat) ∧ iv = .int .i64 i ∧
      val (L.take i) + val (b.take i) = val (a.take i) + 1000000000 ^ i * c ∧ Below w.heap.size w wr) (fun _ iv _ => a.length - (intOf iv).toNat)
  case atStart => exact ⟨0, 0, _, by omega, by omega, by simp, fun x hx => by rw [List.eq_of_mem_replicate hx]; omega, hR, rfl, rfl, by simp [val], hB1⟩
  case round =>
    clear hR hB1
    obtain ⟨i, c, L, hi, hc, hLl, hLok, hR, rfl, rfl, hval, hB⟩ := hrel
    by_cases hin : i < a.length
    · obtain ⟨ba, oa, rfl, hla', hca⟩ := HA.out i hin
      rw [← hB.cell (p := ⟨ba, oa + i, none⟩) hla'] at hca
      have hxb := okL_getD a haok i hin
      obtain ⟨x, hx⟩ : ∃ x, a.getD i 0 = x := ⟨_, rfl⟩
      rw [hx] at hca hxb
      by_cases hib : i < b.length
      · obtain ⟨bb, ob, rfl, hlb', hcb⟩ := HB.out i hib
        rw [← hB.cell (p := ⟨bb, ob + i, none⟩) hlb'] at hcb
        have hyb := okL_getD b hbok i hib
        obtain ⟨y, hy⟩ : ∃ y, b.getD i 0 = y := ⟨_, rfl⟩
        rw [hy] at hcb hyb
        by_cases hbor : x < c + y
        · have hst := sub_step (1000000000 ^ i) _ _ _ c x y (x + 1000000000 - c - y) 1 hval (by omega)
          have HST : Hid (val ((L.set i (x + 1000000000 - c - y)).take (i + 1)) + val (b.take (i + 1)) = val (a.take (i + 1)) + 1000000000 ^ (i + 1) * 1) := by
            show val ((L.set i (x + 1000000000 - c - y)).take (i + 1)) + val (b.take (i + 1)) = val (a.take (i + 1)) + 1000000000 ^ (i + 1) * 1
            rw [val_take_set L i _ (by omega), val_take_succ, val_take_succ, hx, hy, Nat.pow_succ]
            exact hst
          have hcell := hR.cell i (by omega)
          have hfr := hR.frozen i
          have HR2 : Hid (Row (wr.setCell ⟨w.heap.size, i, none⟩ (.int .u32 (((x + 1000000000 - c - y) : Nat) : Int))) w.heap.size (L.set i (x + 1000000000 - c - y))) := hR.set i _
          have HB2 : Hid (∀ u, Below w.heap.size w (wr.setCell ⟨w.heap.size, i, none⟩ u)) := fun u => hB.setCell (Nat.le_refl _) u
          have HOK : Hid (okL (L.set i (x + 1000000000 - c - y))) := okL_set L hLok i _ (by omega)
          clear hst hval hx hy hR hB hLok
          go_wp2
          go_roundw
          case rel =>
            refine ⟨i + 1, 1, L.set i (x + 1000000000 - c - y), by omega, by omega, by simp [hLl], HOK.out, ?_, rfl, by go_num, HST.out, HB2.out _⟩
            have h := HR2.out
            rw [show ((((x + 1000000000 - c - y)) : Nat) : Int) = _ from ?_] at h
            · exact h
            · omega
          case measure => simp [intOf]; omega
        · have hst := sub_step (1000000000 ^ i) _ _ _ c x y (x - c - y) 0 hval (by omega)
          have HST : Hid (val ((L.set i (x - c - y)).take (i + 1)) + val (b.take (i + 1)) = val (a.take (i + 1)) + 1000000000 ^ (i + 1) * 0) := by
            show val ((L.set i (x - c - y)).take (i + 1)) + val (b.take (i + 1)) = val (a.take (i + 1)) + 1000000000 ^ (i + 1) * 0
            rw [val_take_set L i _ (by omega), val_take_succ, val_take_succ, hx, hy, Nat.pow_succ]
            exact hst
          have hcell := hR.cell i (by omega)
          have hfr := hR.frozen i
          have HR2 : Hid (Row (wr.setCell ⟨w.heap.size, i, none⟩ (.int .u32 (((x - c - y) : Nat) : Int))) w.heap.size (L.set i (x - c - y))) := hR.set i _
          have HB2 : Hid (∀ u, Below w.heap.size w (wr.setCell ⟨w.heap.size, i, none⟩ u)) := fun u => hB.setCell (Nat.le_refl _) u
          have HOK : Hid (okL (L.set i (x - c - y))) := okL_set L hLok i _ (by omega)
          clear hst hval hx hy hR hB hLok
          go_wp2
          go_roundw
          case rel =>
            refine ⟨i + 1, 0, L.set i (x - c - y), by omega, by omega, by simp [hLl], HOK.out, ?_, rfl, by go_num, HST.out, HB2.out _⟩
            have h := HR2.out
            rw [show ((((x - c - y)) : Nat) : Int) = _ from ?_] at h
            · exact h
            · omega
          case measure => simp [intOf]; omega
      · have hy0 : b.getD i 0 = 0 := by rw [List.getD_eq_getElem?_getD, List.getElem?_eq_none (by omega)]; rfl
        by_cases hbor : x < c
        · have hst := sub_step (1000000000 ^ i) _ _ _ c x 0 (x + 1000000000 - c) 1 hval (by omega)
          have HST : Hid (val ((L.set i (x + 1000000000 - c)).take (i + 1)) + val (b.take (i + 1)) = val (a.take (i + 1)) + 1000000000 ^ (i + 1) * 1) := by
            show val ((L.set i (x + 1000000000 - c)).take (i + 1)) + val (b.take (i + 1)) = val (a.take (i + 1)) + 1000000000 ^ (i + 1) * 1
            rw [val_take_set L i _ (by omega), val_take_succ, val_take_succ, hx, hy0, Nat.pow_succ]
            exact hst
          have hcell := hR.cell i (by omega)
          have hfr := hR.frozen i
          have HR2 : Hid (Row (wr.setCell ⟨w.heap.size, i, none⟩ (.int .u32 (((x + 1000000000 - c) : Nat) : Int))) w.heap.size (L.set i (x + 1000000000 - c))) := hR.set i _
          have HB2 : Hid (∀ u, Below w.heap.size w (wr.setCell ⟨w.heap.size, i, none⟩ u)) := fun u => hB.setCell (Nat.le_refl _) u
          have HOK : Hid (okL (L.set i (x + 1000000000 - c))) := okL_set L hLok i _ (by omega)
          clear hst hval hx hy0 hR hB hLok
          go_wp2
          go_roundw
          case rel =>
            refine ⟨i + 1, 1, L.set i (x + 1000000000 - c), by omega, by omega, by simp [hLl], HOK.out, ?_, rfl, by go_num, HST.out, HB2.out _⟩
            have h := HR2.out
            rw [show ((((x + 1000000000 - c)) : Nat) : Int) = _ from ?_] at h
            · exact h
            · omega
          case measure => simp [intOf]; omega
        · have hst := sub_step (1000000000 ^ i) _ _ _ c x 0 (x - c) 0 hval (by omega)
          have HST : Hid (val ((L.set i (x - c)).take (i + 1)) + val (b.take (i + 1)) = val (a.take (i + 1)) + 1000000000 ^ (i + 1) * 0) := by
            show val ((L.set i (x - c)).take (i + 1)) + val (b.take (i + 1)) = val (a.take (i + 1)) + 1000000000 ^ (i + 1) * 0
            rw [val_take_set L i _ (by omega), val_take_succ, val_take_succ, hx, hy0, Nat.pow_succ]
            exact hst
          have hcell := hR.cell i (by omega)
          have hfr := hR.frozen i
          have HR2 : Hid (Row (wr.setCell ⟨w.heap.size, i, none⟩ (.int .u32 (((x - c) : Nat) : Int))) w.heap.size (L.set i (x - c))) := hR.set i _
          have HB2 : Hid (∀ u, Below w.heap.size w (wr.setCell ⟨w.heap.size, i, none⟩ u)) := fun u => hB.setCell (Nat.le_refl _) u
          have HOK : Hid (okL (L.set i (x - c))) := okL_set L hLok i _ (by omega)
          clear hst hval hx hy0 hR hB hLok
          go_wp2
          go_roundw
          case rel =>
            refine ⟨i + 1, 0, L.set i (x - c), by omega, by omega, by simp [hLl], HOK.out, ?_, rfl, by go_num, HST.out, HB2.out _⟩
            have h := HR2.out
            rw [show ((((x - c)) : Nat) : Int) = _ from ?_] at h
            · exact h
            · omega
          case measure => simp [intOf]; omega
    · obtain rfl : i = a.length := by omega
      have hE := sub_end (1000000000 ^ a.length) c _ _ _ hval (by rw [List.take_of_length_le (by omega)]; exact val_lt_of L hLok _ (by omega)) (by rw [List.take_of_length_le (by omega), List.take_of_length_le (by omega)]; exact HLE.out)
      rw [List.take_of_length_le (by omega), List.take_of_length_le (by omega), List.take_of_length_le (by omega)] at hE
      have HE : Hid (val L + val b = val a) := hE
      have HL : Hid (IsL w.heap.size wr (.slice (some ⟨w.heap.size, 0, none⟩) a.length a.length) L) := by
        have := hR.isL (B := w.heap.size) (cap := a.length) (Nat.le_refl _) hLok (by omega) (by unfold maxLen; omega)
        rw [hLl] at this
        exact this
      have HBE : Hid (Below w.heap.size w wr) := hB
      clear hE hval hR hB hLok
      go_wp2
      go_ret
      exact ⟨L, rfl, HL.out, HE.out, hLl, HBE.out⟩
end Go.Proofs.YtpjnglcojamfmaaDoor
