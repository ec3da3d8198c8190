import Derived.Test.YtpjnglcojamfmaaDoorMulLimbs
import Derived.Test.YtpjnglcojamfmaaDoorM2
import Derived.Deep.QuietTactic
import Derived.BigQuiet
import Derived.WalkSmall
import Derived.Test.YtpjnglcojamfmaaDoorDivG
import Derived.Test.YtpjnglcojamfmaaDoorCmpSpec
namespace Go.Proofs.YtpjnglcojamfmaaDoor
open Go.ChangeShapes Go.WideShapes Go.ChangeAt Go.RowKit
theorem vfrom_set (l : List Nat) (k x : Nat) (hk : k < l.length) : vfrom (l.set k x) k = vfrom l (k + 1) * 1000000000 + x := by
  rw [vfrom_step _ _ (by simpa using hk)]
  have e1 : vfrom (l.set k x) (k + 1) = vfrom l (k + 1) := by
    unfold vfrom
    rw [List.drop_set_of_lt (by omega)]
  have e2 : (l.set k x).getD k 0 = x := by
    rw [List.getD_eq_getElem?_getD, List.getElem?_set_self (by omega)]; rfl
  rw [e1, e2]
theorem div_step (Va Vq d r x Z : Nat) (h : Va = Vq * d + r) (hZ : r * 1000000000 + x = Z) : Va * 1000000000 + x = (Vq * 1000000000 + Z / d) * d + Z % d := by
  have h1 := Nat.div_add_mod Z d
  rw [Nat.add_mul, h, Nat.add_mul, Nat.mul_right_comm, Nat.mul_comm (Z / d) d]
  omega
theorem div_lt (d r x Z : Nat) (hd : 0 < d) (hr : r < d) (hx : x < 1000000000) (hZ : r * 1000000000 + x = Z) : Z / d < 1000000000 := by
  rw [Nat.div_lt_iff_lt_mul hd]
  have : (r + 1) * 1000000000 ≤ d * 1000000000 := Nat.mul_le_mul_right _ hr
  omega
set_option maxRecDepth 100000 in
set_option maxHeartbeats 2000000 in
theorem divByLimb_any (B : Nat) (va : Value) (a : List Nat) (d : Nat) (w : World) (ha : IsL B w va a) (hla : a.length ≤ 100000) (hd : 0 < d) (hd2 : d ≤ 1000000000) :
    Calls Tryd.prog 74 #[va, .int .u32 (d : Nat)] w fun e w' => ∃ v q r, e = .returned (.tuple #[v, .int .u32 (r : Nat)]) ∧ IsL w.heap.size w' v q ∧ isTrim q ∧ q.length ≤ a.length ∧ val a = val q * d + r ∧ r < d ∧ Below w.heap.size w w' := by
  obtain ⟨i0, hinf, hz0, hz1, hz2⟩ := info_parts Tryd.info_u32
  obtain ⟨pa, ca, rfl, _⟩ := id ha
  obtain ⟨_, _, _, haok, hca⟩ := ha.cells
  have HA : Hid (∀ i, i < a.length → ∃ b off, pa = some ⟨b, off, none⟩ ∧ b < w.heap.size ∧ w.cell? ⟨b, off + i, none⟩ = some (.int .u32 (a.getD i 0 : Nat))) := hca
  clear hca ha
  go_enter Tryd.func74, Tryd.ntmps74
  go_wp2_with (at_make; refine wpList_make_full _ rfl _ _ 26 rfl w.heap.size 51 i0 (.int .u32 0) 1 Tryd.underlying26 hinf hz0 hz1 .i64 .i64 _ _ a.length rfl rfl ?m0 ?m1 ?m2 ?m3 ?m4 ?_)
  try (case m0 => first | rfl | omega)
  try (case m1 => first | rfl | omega)
  try (case m2 => (first | omega | (rw [hz2]; omega)))
  try (case m3 => (unfold maxLen; omega))
  try (case m4 => exact Nat.le_refl _)
  intro w1 hown hgr
  first | rw [made_zero] at hown | rw [made_zero'] at hown
  have hR : RowT w1 w.heap.size (List.replicate a.length 0) := (row_of_full hown).tail
  have hB1 : Below w.heap.size w w1 := (Below.refl _ _).grown hgr (Nat.le_refl _) (fun k h => by cases h)
  clear hown hgr
  go_wp2
  go_loopw [7, 8] (fun rv iv wr => ∃ (j r : Nat) (L : List Nat), j ≤ a.length ∧ r < d ∧ L.length = a.length ∧ okL L ∧ RowT wr w.heap.size L ∧ rv = .int .u64 (r : Nat) ∧ iv = .int .i64 ((j : Int) - 1) ∧
      vfrom a j = vfrom L j * d + r ∧ Below w.heap.size w wr) (fun _ iv _ => (intOf iv + 1).toNat)
  case atStart => exact ⟨a.length, 0, _, by omega, by omega, by simp, fun x hx => by rw [List.eq_of_mem_replicate hx]; omega, hR, rfl, val_int (by omega), by rw [vfrom_end]; unfold vfrom; simp [val], hB1⟩
  case round =>
    clear hR hB1
    obtain ⟨j, r, L, hj, hr, hLl, hLok, hR, rfl, rfl, hval, hB⟩ := hrel
    cases j with
    | zero =>
      unfold vfrom at hval
      rw [List.drop_zero, List.drop_zero] at hval
      have HI : Hid (IsL w.heap.size wr (.slice (some ⟨w.heap.size, 0, none⟩) a.length a.length) L) := by
        have h := hR.isL (B := w.heap.size) (cap := a.length) (Nat.le_refl _) hLok (by omega) (by unfold maxLen; omega)
        rw [hLl] at h
        exact h
      have HT : Hid (val a = val (trimL L) * d + r ∧ (trimL L).length ≤ a.length ∧ isTrim (trimL L)) := ⟨by rw [val_trimL]; exact hval, by have := trimL_len L; omega, trimL_trim _⟩
      have HBE : Hid (Below w.heap.size w wr) := hB
      clear hval hR hB hLok
      go_wp2_with fail
      refine (trimLimbs_any w.heap.size _ L _ HI.out).mono ?_
      rintro e w5 ⟨v, rfl, hcut, rfl⟩
      have HW : Hid (IsL w.heap.size w5 v (trimL L)) := hcut _ _ HI.out
      obtain ⟨pv, cv, hv, _⟩ := HW.out
      subst hv
      clear hcut
      go_wp2
      go_ret2
      exact ⟨_, _, r, rfl, HW.out, HT.out.2.2, HT.out.2.1, HT.out.1, hr, HBE.out⟩
    | succ k =>
      obtain ⟨ba, oa, rfl, hla', hca⟩ := HA.out k (by omega)
      rw [← hB.cell (p := ⟨ba, oa + k, none⟩) hla'] at hca
      have hxb := okL_getD a haok k (by omega)
      have hvs := vfrom_step a k (by omega)
      obtain ⟨x, hx⟩ : ∃ x, a.getD k 0 = x := ⟨_, rfl⟩
      rw [hx] at hca hxb hvs
      obtain ⟨Z, hZ⟩ : ∃ Z, r * 1000000000 + x = Z := ⟨_, rfl⟩
      have hlt := div_lt d r x Z hd hr hxb hZ
      have hml := Nat.mod_lt Z hd
      have HST : Hid (vfrom a k = vfrom (L.set k (Z / d)) k * d + Z % d) := by
        show vfrom a k = vfrom (L.set k (Z / d)) k * d + Z % d
        rw [hvs, vfrom_set L k _ (by omega)]
        exact div_step _ _ d r x Z hval hZ
      have hcell := hR.cell k (by omega)
      have hfr := hR.frozen k
      have HR4 : Hid (∀ v : Int, v = ((Z / d : Nat) : Int) → RowT (wr.setCell ⟨w.heap.size, k, none⟩ (.int .u32 v)) w.heap.size (L.set k (Z / d))) := fun v hv => by
        rw [hv]
        exact hR.set _ _ (by omega)
      have HB4 : Hid (∀ v, Below w.heap.size w (wr.setCell ⟨w.heap.size, k, none⟩ v)) := fun v => hB.setCell (Nat.le_refl _) _
      have HOK4 : Hid (okL (L.set k (Z / d)) ∧ (L.set k (Z / d)).length = a.length) := ⟨okL_set L hLok _ _ hlt, by simp; omega⟩
      obtain ⟨X, hX⟩ : ∃ X : Int, (x : Int) = X := ⟨_, rfl⟩
      rw [hX] at hca
      obtain ⟨G, hG⟩ : ∃ G : Int, (d : Int) = G := ⟨_, rfl⟩
      obtain ⟨Y, hY⟩ : ∃ Y : Int, (r : Int) = Y := ⟨_, rfl⟩
      have e1 : (Y * 1000000000 + X) / G = ((Z / d : Nat) : Int) := by rw [← hZ, ← hX, ← hG, ← hY]; rfl
      have e2 : (Y * 1000000000 + X) % G = ((Z % d : Nat) : Int) := by rw [← hZ, ← hX, ← hG, ← hY]; rfl
      have x1 : 0 ≤ X := by omega
      have x2 : X < 1000000000 := by omega
      have y1 : 0 ≤ Y := by omega
      have y2 : Y < 1000000000 := by omega
      have g1 : 0 < G := by omega
      have g2 : G ≤ 1000000000 := by omega
      have k1 : 0 ≤ (Y * 1000000000 + X) / G := by rw [e1]; exact Int.natCast_nonneg _
      have k2 : (Y * 1000000000 + X) / G < 1000000000 := by rw [e1]; exact Int.ofNat_lt.2 hlt
      have HE1 : Hid ((Y * 1000000000 + X) / G = ((Z / d : Nat) : Int)) := e1
      have HE2 : Hid ((Y * 1000000000 + X) % G = ((Z % d : Nat) : Int)) := e2
      have HML : Hid (Z % d < d) := hml
      rw [hG, hY]
      clear hR hLok hval hB hvs e1 e2 hx hX hG hY hZ hxb hr hlt hml
      go_wp2
      go_roundw
      case rel => exact ⟨k, Z % d, L.set k (Z / d), by omega, HML.out, HOK4.out.2, HOK4.out.1, HR4.out _ HE1.out, val_int HE2.out, by go_num, HST.out, HB4.out _⟩
      case measure => simp [intOf]
end Go.Proofs.YtpjnglcojamfmaaDoor
namespace Go.Proofs.YtpjnglcojamfmaaDoor
open Go.ChangeShapes Go.WideShapes Go.ChangeAt Go.RowKit
/-- What the guess is: the quotient of the top three limbs and the divisor's top two. -/
def GuessOf (x2 x1 x0 d1 d0 g : Nat) : Prop :=
  g * (d1 * 1000000000 + d0) ≤ (x2 * 1000000000 + x1) * 1000000000 + x0 ∧ (x2 * 1000000000 + x1) * 1000000000 + x0 < (g + 1) * (d1 * 1000000000 + d0)
/-- What holds at the loop's head. -/
def GuessAt (x2 x1 x0 d1 d0 g l : Nat) : Prop :=
  g * d1 + l = x2 * 1000000000 + x1 ∧ l ≤ 2000000001 ∧ g ≤ 1000000001 ∧ (x2 * 1000000000 + x1) * 1000000000 + x0 < (g + 1) * (d1 * 1000000000 + d0)
theorem guess_start (x2 x1 x0 d1 d0 : Nat) (h1 : 500000000 ≤ d1) (h2 : d1 < 1000000000) (hx2 : x2 ≤ d1) (hx1 : x1 < 1000000000) (hx0 : x0 < 1000000000) :
    GuessAt x2 x1 x0 d1 d0 ((x2 * 1000000000 + x1) / d1) ((x2 * 1000000000 + x1) % d1) := by
  have e := Nat.div_add_mod (x2 * 1000000000 + x1) d1
  have l := Nat.mod_lt (x2 * 1000000000 + x1) (show d1 > 0 by omega)
  have g : (x2 * 1000000000 + x1) / d1 ≤ 1000000001 := by
    apply Nat.le_of_lt_succ
    rw [Nat.div_lt_iff_lt_mul (by omega)]
    omega
  obtain ⟨q, hq⟩ : ∃ q, (x2 * 1000000000 + x1) / d1 = q := ⟨_, rfl⟩
  obtain ⟨r, hr⟩ : ∃ r, (x2 * 1000000000 + x1) % d1 = r := ⟨_, rfl⟩
  rw [hq, hr]
  rw [hq, hr] at e
  rw [hr] at l
  rw [hq] at g
  clear hq hr
  refine ⟨by rw [Nat.mul_comm]; exact e, by omega, g, ?_⟩
  rw [Nat.mul_add, ← Nat.mul_assoc, Nat.add_mul q 1 d1, Nat.one_mul, Nat.mul_comm q d1]
  have : 0 ≤ (q + 1) * d0 := Nat.zero_le _
  omega
theorem lin1 (T v l x0 u : Nat) (e : v + l = T) (hc : l * 1000000000 + x0 < u) : T * 1000000000 + x0 < v * 1000000000 + u := by
  subst e
  rw [Nat.add_mul, Nat.add_assoc]
  exact Nat.add_lt_add_left hc _
theorem guess_round {x2 x1 x0 d1 d0 g l : Nat} (h : GuessAt x2 x1 x0 d1 d0 g l) (h2 : d1 < 1000000000) (hd0 : d0 < 1000000000) (hc : l * 1000000000 + x0 < g * d0) :
    1 ≤ g ∧ GuessAt x2 x1 x0 d1 d0 (g - 1) (l + d1) := by
  obtain ⟨e, hl, hg, hb⟩ := h
  have g1 : 1 ≤ g := by
    apply Nat.pos_of_ne_zero
    rintro rfl
    rw [Nat.zero_mul] at hc
    omega
  obtain ⟨k, rfl⟩ : ∃ k, g = k + 1 := ⟨g - 1, by omega⟩
  have p : (k + 1) * d0 ≤ 1000000001 * 999999999 := Nat.mul_le_mul hg (by omega)
  rw [Nat.add_sub_cancel]
  rw [Nat.add_mul, Nat.one_mul] at e
  have hl1 : l < 1000000000 := by
    have : (1000000001 * 999999999 : Nat) = 1000000000 * 1000000000 - 1 := by decide
    omega
  refine ⟨by omega, by omega, by omega, by omega, ?_⟩
  clear hb p hl1 hl hg g1
  rw [Nat.mul_add, ← Nat.mul_assoc, Nat.add_mul k 1 d1, Nat.one_mul]
  exact lin1 _ _ l _ _ e hc
theorem guess_end {x2 x1 x0 d1 d0 g l : Nat} (h : GuessAt x2 x1 x0 d1 d0 g l) (hc : g * d0 ≤ l * 1000000000 + x0) : GuessOf x2 x1 x0 d1 d0 g := by
  obtain ⟨e, hl, hg, hb⟩ := h
  refine ⟨?_, hb⟩
  rw [Nat.mul_add, ← Nat.mul_assoc]
  omega
set_option maxRecDepth 100000 in
set_option maxHeartbeats 2000000 in
theorem guessLimb_any (R off cap D doff dcap n : Nat) (x2 x1 x0 d1 d0 : Nat) (w : World) (hR : R < w.heap.size) (hn : 2 ≤ n) (hn2 : n ≤ 200000)
    (c2 : w.cell? ⟨R, off + n, none⟩ = some (.int .u32 (x2 : Nat))) (c1 : w.cell? ⟨R, off + (n - 1), none⟩ = some (.int .u32 (x1 : Nat))) (c0 : w.cell? ⟨R, off + (n - 2), none⟩ = some (.int .u32 (x0 : Nat)))
    (e1 : w.cell? ⟨D, doff + (n - 1), none⟩ = some (.int .u32 (d1 : Nat))) (e0 : w.cell? ⟨D, doff + (n - 2), none⟩ = some (.int .u32 (d0 : Nat)))
    (h1 : 500000000 ≤ d1) (h2 : d1 < 1000000000) (h3 : d0 < 1000000000) (hx2 : x2 ≤ d1) (hx1 : x1 < 1000000000) (hx0 : x0 < 1000000000) :
    Calls Tryd.prog 99 #[.slice (some ⟨R, off, none⟩) (n + 1) cap, .slice (some ⟨D, doff, none⟩) n dcap] w fun e w' => ∃ g : Nat, e = .returned (.int .u64 (g : Nat)) ∧ GuessOf x2 x1 x0 d1 d0 g ∧ Below w.heap.size w w' := by
  have HST : Hid (GuessAt x2 x1 x0 d1 d0 ((x2 * 1000000000 + x1) / d1) ((x2 * 1000000000 + x1) % d1)) := guess_start x2 x1 x0 d1 d0 h1 h2 hx2 hx1 hx0
  obtain ⟨k, rfl⟩ : ∃ k, n = k + 2 := ⟨n - 2, by omega⟩
  rw [show k + 2 - 1 = k + 1 by omega] at c1 e1
  rw [show k + 2 - 2 = k by omega] at c0 e0
  have HC0 : Hid (∀ W, Below w.heap.size w W → W.cell? ⟨R, off + k, none⟩ = some (.int .u32 (x0 : Nat))) := fun W hW => (hW.cell (p := ⟨R, off + k, none⟩) hR).trans c0
  obtain ⟨X2, hX2⟩ : ∃ X : Int, (x2 : Int) = X := ⟨_, rfl⟩
  obtain ⟨X1, hX1⟩ : ∃ X : Int, (x1 : Int) = X := ⟨_, rfl⟩
  obtain ⟨D1, hD1⟩ : ∃ X : Int, (d1 : Int) = X := ⟨_, rfl⟩
  obtain ⟨D0, hD0⟩ : ∃ X : Int, (d0 : Int) = X := ⟨_, rfl⟩
  obtain ⟨X0, hX0⟩ : ∃ X : Int, (x0 : Int) = X := ⟨_, rfl⟩
  have q1 : (X2 * 1000000000 + X1) / D1 = (((x2 * 1000000000 + x1) / d1 : Nat) : Int) := by rw [← hX2, ← hX1, ← hD1]; rfl
  have q2 : (X2 * 1000000000 + X1) % D1 = (((x2 * 1000000000 + x1) % d1 : Nat) : Int) := by rw [← hX2, ← hX1, ← hD1]; rfl
  have HQ1 : Hid ((X2 * 1000000000 + X1) / D1 = (((x2 * 1000000000 + x1) / d1 : Nat) : Int)) := q1
  have HQ2 : Hid ((X2 * 1000000000 + X1) % D1 = (((x2 * 1000000000 + x1) % d1 : Nat) : Int)) := q2
  have HL : Hid ((d1 : Int) = D1 ∧ (d0 : Int) = D0 ∧ (x0 : Int) = X0) := ⟨hD1, hD0, hX0⟩
  have HH : Hid (d1 < 1000000000 ∧ d0 < 1000000000) := ⟨h2, h3⟩
  rw [hX2] at c2
  rw [hX1] at c1
  rw [hX0] at c0 HC0
  rw [hD1] at e1
  rw [hD0] at e0
  have b1 : 0 ≤ X2 := by omega
  have b2 : X2 < 1000000000 := by omega
  have b3 : 0 ≤ X1 := by omega
  have b4 : X1 < 1000000000 := by omega
  have b5 : 500000000 ≤ D1 := by omega
  have b6 : D1 < 1000000000 := by omega
  have b7 : 0 ≤ D0 := by omega
  have b8 : D0 < 1000000000 := by omega
  have b9 : 0 ≤ X0 := by omega
  have b10 : X0 < 1000000000 := by omega
  clear hX2 hX1 hD1 hD0 hX0 q1 q2 h1 h2 h3 hx2 hx1 hx0
  go_enter Tryd.func99, Tryd.ntmps99
  go_wp2
  go_quiet (fail)
  go_wp2
  go_quiet (fail)
  go_wp2
  go_quiet (fail)
  go_wp2
  go_loopw [9, 10] (fun gv lv wr => ∃ g l : Nat, gv = .int .u64 (g : Nat) ∧ lv = .int .u64 (l : Nat) ∧ GuessAt x2 x1 x0 d1 d0 g l ∧ Below w.heap.size w wr) (fun gv _ _ => (intOf gv).toNat)
  case atStart => exact ⟨_, _, val_int HQ1.out, val_int HQ2.out, HST.out, below_drewN (below_drewN (below_drewN (Below.refl _ _) _) _) _⟩
  case round =>
    obtain ⟨g, l, rfl, rfl, hG, hB⟩ := hrel
    have hc0 := HC0.out _ hB
    have HB : Hid (Below w.heap.size w wr) := hB
    have hg := hG.2.2.1
    have hl := hG.2.1
    have HG : Hid (GuessAt x2 x1 x0 d1 d0 g l) := hG
    have hp : g * d0 ≤ 1000000001 * 999999999 := Nat.mul_le_mul hg (by have := HH.out; omega)
    obtain ⟨P, hP⟩ : ∃ P, g * d0 = P := ⟨_, rfl⟩
    rw [hP] at hp
    obtain ⟨G, hGG⟩ : ∃ G : Int, (g : Int) = G := ⟨_, rfl⟩
    obtain ⟨L, hLL⟩ : ∃ L : Int, (l : Int) = L := ⟨_, rfl⟩
    have hPI : G * D0 = (P : Int) := by rw [← hP, ← hGG, ← HL.out.2.1]; rfl
    have m1 : 0 ≤ G * D0 := by rw [hPI]; omega
    have m2 : G * D0 ≤ 1000000001000000000 := by rw [hPI]; omega
    have m3 : 0 ≤ L := by omega
    have m4 : L ≤ 2000000001 := by omega
    have m5 : 0 ≤ G := by omega
    have m6 : G ≤ 1000000001 := by omega
    by_cases hc : l * 1000000000 + x0 < g * d0
    · have HN : Hid (1 ≤ g ∧ GuessAt x2 x1 x0 d1 d0 (g - 1) (l + d1)) := guess_round hG HH.out.1 HH.out.2 hc
      have t1 : L * 1000000000 + X0 < G * D0 := by rw [hPI]; rw [hP] at hc; have := HL.out.2.2; omega
      have m7 : 1 ≤ G := by have := HN.out.1; omega
      have HGG : Hid ((g : Int) = G ∧ (l : Int) = L) := ⟨hGG, hLL⟩
      rw [hGG, hLL]
      clear hB hG hp hP hPI hGG hLL hg hl hc
      go_wp2
      go_roundw
      case rel => exact ⟨g - 1, l + d1, val_int (by have := HGG.out; have := HN.out.1; omega), val_int (by have := HGG.out; have := HL.out.1; omega), HN.out.2, HB.out⟩
      case measure => simp [intOf]; have := HGG.out; have := HN.out.1; omega
    · have HE : Hid (GuessOf x2 x1 x0 d1 d0 g) := guess_end hG (by omega)
      have t1 : G * D0 ≤ L * 1000000000 + X0 := by rw [hPI]; rw [hP] at hc; have := HL.out.2.2; omega
      have HGG : Hid ((g : Int) = G ∧ (l : Int) = L) := ⟨hGG, hLL⟩
      rw [hGG, hLL]
      clear hB hG hp hP hPI hGG hLL hg hl hc
      go_wp2
      go_ret
      exact ⟨g, ret_int HGG.out.1.symm, HE.out, HB.out⟩
end Go.Proofs.YtpjnglcojamfmaaDoor
namespace Go.Proofs.YtpjnglcojamfmaaDoor
open Go.ChangeShapes Go.WideShapes Go.ChangeAt Go.RowKit
/-- Knuth: the guess from the top limbs is right, or one too great. -/
theorem knuth (X3 D2 K xl dl g : Nat) (hxl : xl < K) (hdl : dl < K) (h1 : g * D2 ≤ X3) (h2 : X3 < (g + 1) * D2) (hX3 : X3 < 1000000000000000000000000000) (hD2 : 500000000000000000 ≤ D2)
    (hX : X3 * K + xl < (D2 * K + dl) * 1000000000) :
    g * (D2 * K + dl) ≤ X3 * K + xl + (D2 * K + dl) ∧ X3 * K + xl < (g + 1) * (D2 * K + dl) ∧ g ≤ 1000000000 := by
  have a1 : X3 * K + xl < (g + 1) * (D2 * K + dl) := by
    have e1 : (X3 + 1) * K ≤ (g + 1) * D2 * K := Nat.mul_le_mul_right K h2
    have e2 : (g + 1) * (D2 * K + dl) = (g + 1) * D2 * K + (g + 1) * dl := by rw [Nat.mul_add, Nat.mul_assoc]
    rw [Nat.add_mul, Nat.one_mul] at e1
    omega
  have g1 : g ≤ D2 := by
    apply Nat.le_of_not_lt
    intro h
    have e1 : 500000000000000001 * 500000000000000000 ≤ g * D2 := Nat.mul_le_mul (by omega) hD2
    omega
  have a2 : g * (D2 * K + dl) ≤ X3 * K + xl + (D2 * K + dl) := by
    have e1 : g * D2 * K ≤ X3 * K := Nat.mul_le_mul_right K h1
    have e2 : g * (D2 * K + dl) = g * D2 * K + g * dl := by rw [Nat.mul_add, Nat.mul_assoc]
    have e3 : g * dl ≤ D2 * K := Nat.mul_le_mul g1 (by omega)
    omega
  refine ⟨a2, a1, ?_⟩
  apply Nat.le_of_not_lt
  intro h
  have e1 : 1000000001 * (D2 * K + dl) ≤ g * (D2 * K + dl) := Nat.mul_le_mul_right _ h
  omega
/-- No loan is left: the guess was right. -/
theorem step_right (P Wn x Dv g c W' : Nat) (h : W' + g * Dv = Wn + P * c) (hc : c ≤ x) (hX : Wn + P * x < (g + 1) * Dv) (hD : Dv ≤ P) : c = x ∧ Wn + P * x = g * Dv + W' ∧ W' < Dv := by
  rw [Nat.add_mul, Nat.one_mul] at hX
  have hcx : c = x := by
    apply Nat.le_antisymm hc
    apply Nat.le_of_not_lt
    intro hlt
    have e : P * (c + 1) ≤ P * x := Nat.mul_le_mul_left P hlt
    rw [Nat.mul_add, Nat.mul_one] at e
    omega
  subst hcx
  exact ⟨rfl, by omega, by omega⟩
/-- A loan is left: the guess was one too great. -/
theorem step_wrong (P Wn x Dv g c W' W2 c2 : Nat) (h : W' + g * Dv = Wn + P * c) (hc : x < c) (hX : g * Dv ≤ Wn + P * x + Dv) (hW : W' < P) (hD : Dv ≤ P) (h2 : W2 + P * c2 = W' + Dv) (hW2 : W2 < P) :
    1 ≤ g ∧ Wn + P * x = (g - 1) * Dv + W2 ∧ W2 < Dv := by
  obtain ⟨k, rfl⟩ : ∃ k, c = x + 1 + k := ⟨c - x - 1, by omega⟩
  have e0 : P * (x + 1 + k) = P * x + P + P * k := by rw [Nat.mul_add, Nat.mul_add, Nat.mul_one]
  rw [e0] at h
  have hg : 1 ≤ g := by
    apply Nat.pos_of_ne_zero
    rintro rfl
    rw [Nat.zero_mul] at h
    omega
  obtain ⟨q, rfl⟩ : ∃ q, g = q + 1 := ⟨g - 1, by omega⟩
  rw [Nat.add_mul, Nat.one_mul] at h hX
  rw [Nat.add_sub_cancel]
  have hk : k = 0 := by
    apply Nat.eq_zero_of_not_pos
    intro hp
    have : P * 1 ≤ P * k := Nat.mul_le_mul_left P hp
    omega
  subst hk
  rw [Nat.mul_zero] at h
  have hc2 : c2 = 1 := by
    have u : c2 < 2 := by
      apply Nat.lt_of_not_le
      intro hp
      have : P * 2 ≤ P * c2 := Nat.mul_le_mul_left P hp
      omega
    have l : c2 ≠ 0 := by
      rintro rfl
      rw [Nat.mul_zero] at h2
      omega
    omega
  subst hc2
  rw [Nat.mul_one] at h2
  exact ⟨hg, by omega, by omega⟩
theorem ar2 (V a b K : Nat) : V + K * a + K * 1000000000 * b = (b * 1000000000 + a) * K + V := by grind
theorem ar3 (V a b c K : Nat) : (b * 1000000000 + a) * K + V + K * 1000000000 * 1000000000 * c = ((c * 1000000000 + b) * 1000000000 + a) * K + V := by grind
theorem val_top2 (l : List Nat) (k : Nat) : val (l.take (k + 2)) = (l.getD (k + 1) 0 * 1000000000 + l.getD k 0) * 1000000000 ^ k + val (l.take k) := by
  rw [val_take_succ l (k + 1), val_take_succ l k, Nat.pow_succ]
  exact ar2 _ _ _ _
theorem val_top3 (l : List Nat) (k : Nat) : val (l.take (k + 3)) = ((l.getD (k + 2) 0 * 1000000000 + l.getD (k + 1) 0) * 1000000000 + l.getD k 0) * 1000000000 ^ k + val (l.take k) := by
  rw [val_take_succ l (k + 2), val_top2, Nat.pow_succ, Nat.pow_succ]
  exact ar3 _ _ _ _ _
theorem okL_take' (l : List Nat) (h : okL l) (n : Nat) : okL (l.take n) := fun x hx => h x (List.mem_of_mem_take hx)
theorem okL_drop (l : List Nat) (h : okL l) (n : Nat) : okL (l.drop n) := fun x hx => h x (List.mem_of_mem_drop hx)
theorem val_take_lt (l : List Nat) (h : okL l) (n : Nat) : val (l.take n) < 1000000000 ^ n := val_lt_of _ (okL_take' l h n) n (by rw [List.length_take]; omega)
theorem base_lt (T x N : Nat) (hT : T < N) (hx : x < 1000000000) : T * 1000000000 + x < N * 1000000000 := by
  have h : (T + 1) * 1000000000 ≤ N * 1000000000 := Nat.mul_le_mul_right _ hT
  rw [Nat.add_mul, Nat.one_mul] at h
  exact Nat.lt_of_lt_of_le (Nat.add_lt_add_left hx _) h
theorem top_le (x2 d1 W T P : Nat) (h : W + P * 1000000000 * x2 < T * 1000000000) (hT : T < P * (d1 + 1)) : x2 ≤ d1 := by
  apply Nat.le_of_not_lt
  intro hlt
  have e : P * 1000000000 * (d1 + 1) ≤ P * 1000000000 * x2 := Nat.mul_le_mul_left _ hlt
  have e2 : P * 1000000000 * (d1 + 1) = P * (d1 + 1) * 1000000000 := by grind
  omega
/-- The guess, against the whole window and the whole divisor. -/
theorem guess_whole (M Dl : List Nat) (k g : Nat) (hM : okL M) (hD : okL Dl) (hl : Dl.length = k + 2) (htop : 500000000 ≤ Dl.getD (k + 1) 0)
    (hlt : val (M.take (k + 3)) < val Dl * 1000000000) (hg : GuessOf (M.getD (k + 2) 0) (M.getD (k + 1) 0) (M.getD k 0) (Dl.getD (k + 1) 0) (Dl.getD k 0) g) (hml : k + 3 ≤ M.length) :
    g * val Dl ≤ val (M.take (k + 3)) + val Dl ∧ val (M.take (k + 3)) < (g + 1) * val Dl ∧ g ≤ 1000000000 := by
  have e1 := val_top3 M k
  have e2 := val_top2 Dl k
  rw [List.take_of_length_le (by omega)] at e2
  have hx := val_take_lt M hM k
  have hd := val_take_lt Dl hD k
  have b2 := okL_getD M hM (k + 2) (by omega)
  have b1 := okL_getD M hM (k + 1) (by omega)
  have b0 := okL_getD M hM k (by omega)
  obtain ⟨g1, g2⟩ := hg
  rw [e1, e2] at hlt ⊢
  exact knuth _ _ _ _ _ g hx hd g1 g2 (base_lt _ _ 1000000000000000000 (base_lt _ _ 1000000000 b2 b1) b0) (by omega) hlt
theorem x2_le (M Dl : List Nat) (k : Nat) (hD : okL Dl) (hl : Dl.length = k + 2) (hlt : val (M.take (k + 3)) < val Dl * 1000000000) : M.getD (k + 2) 0 ≤ Dl.getD (k + 1) 0 := by
  have e1 := val_take_succ M (k + 2)
  have e2 := val_take_succ Dl (k + 1)
  rw [List.take_of_length_le (by omega)] at e2
  have hd := val_take_lt Dl hD (k + 1)
  rw [e1, Nat.pow_succ] at hlt
  exact top_le _ _ _ _ (1000000000 ^ (k + 1)) hlt (by rw [e2, Nat.mul_add, Nat.mul_one]; omega)
end Go.Proofs.YtpjnglcojamfmaaDoor
namespace Go.Proofs.YtpjnglcojamfmaaDoor
open Go.ChangeShapes Go.WideShapes Go.ChangeAt Go.RowKit
set_option maxRecDepth 100000 in
set_option maxHeartbeats 2000000 in
theorem divStep_any (R off cap D dcap k : Nat) (A Dl : List Nat) (w : World) (hR : RowT w R A) (hAok : okL A) (hl : Dl.length = k + 2) (hn : off + (k + 3) ≤ A.length) (hA : A.length ≤ 150000) (hD : RowT w D Dl) (hDR : D ≠ R) (hDok : okL Dl)
    (htop : 500000000 ≤ Dl.getD (k + 1) 0) (hlt : val ((A.drop off).take (k + 3)) < val Dl * 1000000000) (hcap : k + 3 ≤ cap) :
    Calls Tryd.prog 88 #[.slice (some ⟨R, off, none⟩) (k + 3) cap, .slice (some ⟨D, 0, none⟩) (k + 2) dcap] w fun e w' => ∃ (q : Nat) (L : List Nat), e = .returned (.int .u32 (q : Nat)) ∧ RowT w' R L ∧ L.length = A.length ∧ okL L ∧ L.take off = A.take off ∧ q < 1000000000 ∧
      val ((A.drop off).take (k + 3)) = q * val Dl + val ((L.drop off).take (k + 2)) ∧ val ((L.drop off).take (k + 2)) < val Dl ∧ Only R w w' := by
  have HM : Hid (okL (A.drop off) ∧ k + 3 ≤ (A.drop off).length) := ⟨okL_drop A hAok off, by simp; omega⟩
  have c2 := hR.cell (off + (k + 2)) (by omega)
  have c1 := hR.cell (off + (k + 1)) (by omega)
  have c0 := hR.cell (off + k) (by omega)
  have e1 := hD.cell (k + 1) (by omega)
  have e0 := hD.cell k (by omega)
  have b1 := okL_getD A hAok (off + (k + 1)) (by omega)
  have b0 := okL_getD A hAok (off + k) (by omega)
  have d1 := okL_getD Dl hDok (k + 1) (by omega)
  have d0 := okL_getD Dl hDok k (by omega)
  have hx2 := x2_le (A.drop off) Dl k hDok hl hlt
  rw [drop_getD] at hx2
  have hRl := hR.lt
  have hDl := hD.lt
  have HG : Hid (∀ W, True → Calls Tryd.prog 99 #[.slice (some ⟨R, off, none⟩) (k + 3) cap, .slice (some ⟨D, 0, none⟩) (k + 2) dcap] w fun e w' => ∃ g : Nat, e = .returned (.int .u64 (g : Nat)) ∧ GuessOf (A.getD (off + (k + 2)) 0) (A.getD (off + (k + 1)) 0) (A.getD (off + k) 0) (Dl.getD (k + 1) 0) (Dl.getD k 0) g ∧ Below w.heap.size w w') := fun (_ : World) _ =>
    guessLimb_any R off cap D 0 dcap (k + 2) _ _ _ _ _ w hRl (by omega) (by omega) c2 (by rw [show k + 2 - 1 = k + 1 by omega]; exact c1) (by rw [show k + 2 - 2 = k by omega]; exact c0) (by rw [show 0 + (k + 2 - 1) = k + 1 by omega]; exact e1) (by rw [show 0 + (k + 2 - 2) = k by omega]; exact e0) htop d1 d0 hx2 b1 b0
  have HRD : Hid (RowT w R A ∧ RowT w D Dl) := ⟨hR, hD⟩
  have HLT : Hid (val ((A.drop off).take (k + 3)) < val Dl * 1000000000 ∧ 500000000 ≤ Dl.getD (k + 1) 0) := ⟨hlt, htop⟩
  clear c2 c1 c0 e1 e0 b1 b0 d1 d0 hx2 hR hD hlt htop
  go_enter Tryd.func88, Tryd.ntmps88
  go_wp2_with fail
  refine (HG.out w trivial).mono ?_
  rintro e w1 ⟨g, rfl, hg, hb1⟩
  have hO1 : Only R w w1 := Only.of hb1 (by omega)
  have HO1 : Hid (Only R w w1) := hO1
  have HRD1 : Hid (RowT w1 R A ∧ RowT w1 D Dl) := by
    refine ⟨?_, hO1.rowT hDR HRD.out.2⟩
    obtain ⟨t, h⟩ := HRD.out.1
    exact ⟨t, (hb1.block R hRl).trans h⟩
  have hw := guess_whole (A.drop off) Dl k g HM.out.1 hDok hl HLT.out.2 HLT.out.1 (by rw [drop_getD, drop_getD, drop_getD]; exact hg) HM.out.2
  have HW : Hid (g * val Dl ≤ val ((A.drop off).take (k + 3)) + val Dl ∧ val ((A.drop off).take (k + 3)) < (g + 1) * val Dl) := ⟨hw.1, hw.2.1⟩
  have hg9 := hw.2.2
  have HS1 : Hid (D < w1.heap.size) := Nat.lt_of_lt_of_le hDl hb1.size
  clear hg hb1 hO1 hw
  go_wp2_with fail
  have hsub := subScaledAt_any R off cap g (some ⟨D, 0, none⟩) dcap A Dl w1 HRD1.out.1 hAok (by omega) (by omega) hDok hg9 (fun i hi => ⟨D, 0, rfl, ⟨HS1.out, hDR⟩, by rw [Nat.zero_add]; exact HRD1.out.2.cell i hi⟩)
  rw [hl] at hsub
  refine hsub.mono ?_
  clear hsub
  rintro e w2 ⟨c, L, rfl, hR2, hL2, hok2, hdr, htk, hcg, hval, hO2⟩
  have HO2 : Hid (Only R w w2) := HO1.out.trans hO2
  have HRD2 : Hid (RowT w2 R L ∧ RowT w2 D Dl) := ⟨hR2, hO2.rowT hDR HRD1.out.2⟩
  have hc2 := hR2.cell (off + (k + 2)) (by omega)
  have hx := getD_drop L A (off + (k + 2)) hdr
  rw [hx] at hc2
  obtain ⟨x, hxx⟩ : ∃ x, A.getD (off + (k + 2)) 0 = x := ⟨_, rfl⟩
  rw [hxx] at hc2
  have hxb := okL_getD A hAok (off + (k + 2)) (by omega)
  rw [hxx] at hxb
  have hseg := val_seg_succ A off (k + 2)
  rw [hxx] at hseg
  have hDP : val Dl < 1000000000 ^ (k + 2) := val_lt_of Dl hDok _ (by omega)
  have HS2 : Hid (D < w2.heap.size) := Nat.lt_of_lt_of_le HS1.out hO2.below.size
  have HLL : Hid (RowT w2 R L ∧ L.length = A.length ∧ okL L ∧ L.take off = A.take off) := ⟨hR2, hL2, hok2, htk⟩
  by_cases hcx : c ≤ x
  · have hr := step_right (1000000000 ^ (k + 2)) _ x (val Dl) g c _ hval hcx (by rw [← hseg]; exact HW.out.2) (by omega)
    have HE : Hid (g < 1000000000 ∧ val ((A.drop off).take (k + 3)) = g * val Dl + val ((L.drop off).take (k + 2)) ∧ val ((L.drop off).take (k + 2)) < val Dl) := by
      have hE : val ((A.drop off).take (k + 3)) = g * val Dl + val ((L.drop off).take (k + 2)) := hseg.trans hr.2.1
      refine ⟨?_, hE, hr.2.2⟩
      apply Nat.lt_of_not_le
      intro h9
      have h8 : 1000000000 * val Dl ≤ g * val Dl := Nat.mul_le_mul_right _ h9
      have := HLT.out.1
      omega
    have t1 : (c : Int) ≤ (x : Int) := by omega
    have gb : g < 1000000000 := HE.out.1
    clear hval hseg hr hR2 hL2 hok2 hdr htk hO2 hx hDP
    go_wp2
    go_ret
    exact ⟨g, L, rfl, HLL.out.1, HLL.out.2.1, HLL.out.2.2.1, HLL.out.2.2.2, HE.out.1, HE.out.2.1, HE.out.2.2, HO2.out⟩
  · have t1 : (x : Int) < (c : Int) := by omega
    have HV : Hid (val ((L.drop off).take (k + 2)) + g * val Dl = val ((A.drop off).take (k + 2)) + 1000000000 ^ (k + 2) * c ∧ val ((A.drop off).take (k + 3)) = val ((A.drop off).take (k + 2)) + 1000000000 ^ (k + 2) * x ∧ val Dl < 1000000000 ^ (k + 2) ∧ x < c) := ⟨hval, hseg, hDP, by omega⟩
    have cb : (c : Int) ≤ 1000000000 := by omega
    clear hval hseg hR2 hL2 hok2 hdr htk hO2 hx hDP
    go_wp2_with fail
    have hadd := addIntoAt_any R off cap (some ⟨D, 0, none⟩) dcap L Dl w2 HLL.out.1 HLL.out.2.2.1 (by have := HLL.out.2.1; omega) (by have := HLL.out.2.1; omega) hDok (fun i hi => ⟨D, 0, rfl, ⟨HS2.out, hDR⟩, by rw [Nat.zero_add]; exact HRD2.out.2.cell i hi⟩)
    rw [hl] at hadd
    refine hadd.mono ?_
    clear hadd
    rintro e w3 ⟨c3, L3, rfl, hR3, hL3, hok3, hdr3, htk3, hc3, hval3, hO3⟩
    have hr := step_wrong (1000000000 ^ (k + 2)) _ x (val Dl) g c _ _ c3 HV.out.1 HV.out.2.2.2 (by rw [← HV.out.2.1]; exact HW.out.1) (val_take_lt _ (okL_drop L HLL.out.2.2.1 off) _) (by have := HV.out.2.2.1; omega) hval3 (val_take_lt _ (okL_drop L3 hok3 off) _)
    have HE : Hid (1 ≤ g ∧ g - 1 < 1000000000 ∧ val ((A.drop off).take (k + 3)) = (g - 1) * val Dl + val ((L3.drop off).take (k + 2)) ∧ val ((L3.drop off).take (k + 2)) < val Dl) := ⟨hr.1, by omega, HV.out.2.1.trans hr.2.1, hr.2.2⟩
    have HLL3 : Hid (RowT w3 R L3 ∧ L3.length = A.length ∧ okL L3 ∧ L3.take off = A.take off) := ⟨hR3, by rw [hL3]; exact HLL.out.2.1, hok3, htk3.trans HLL.out.2.2.2⟩
    have HO3 : Hid (Only R w w3) := HO2.out.trans hO3
    obtain ⟨G, hG⟩ : ∃ G : Int, (g : Int) = G := ⟨_, rfl⟩
    have g1 : 1 ≤ G := by have := HE.out.1; omega
    have g2 : G ≤ 1000000000 := by omega
    have HGG : Hid ((g : Int) = G) := hG
    rw [hG]
    clear hr hR3 hL3 hok3 hdr3 htk3 hval3 hO3 hG
    go_wp2
    go_ret
    exact ⟨g - 1, L3, ret_int (by have := HGG.out; have := HE.out.1; omega), HLL3.out.1, HLL3.out.2.1, HLL3.out.2.2.1, HLL3.out.2.2.2, HE.out.2.1, HE.out.2.2.1, HE.out.2.2.2, HO3.out⟩
end Go.Proofs.YtpjnglcojamfmaaDoor
namespace Go.Proofs.YtpjnglcojamfmaaDoor
open Go.ChangeShapes Go.WideShapes Go.ChangeAt Go.RowKit
/-- The scale brings the top limb to at least half of the base. -/
theorem scale_half (t s : Nat) (ht : 1 ≤ t) (ht2 : t < 1000000000) (h1 : s * (t + 1) ≤ 1000000000) (h2 : 1000000000 < (s + 1) * (t + 1)) : 500000000 ≤ s * t := by
  by_cases a : t = 1
  · subst a; omega
  by_cases b : s = 1
  · subst b; omega
  by_cases c : s = 0
  · subst c; omega
  obtain ⟨u, rfl⟩ : ∃ u, s = u + 2 := ⟨s - 2, by omega⟩
  obtain ⟨v, rfl⟩ : ∃ v, t = v + 2 := ⟨t - 2, by omega⟩
  have e1 : (u + 2 + 1) * (v + 2 + 1) = u * v + 3 * u + 3 * v + 9 := by grind
  have e2 : (u + 2) * (v + 2) = u * v + 2 * u + 2 * v + 4 := by grind
  rw [e1] at h2
  rw [e2]
  omega
theorem scale_fit (s t P vb : Nat) (hs : 1 ≤ s) (h1 : s * (t + 1) ≤ 1000000000) (hb : vb < P * (t + 1)) : s * vb < P * 1000000000 := by
  have e1 : s * (vb + 1) ≤ s * (P * (t + 1)) := Nat.mul_le_mul_left s hb
  have e2 : s * (P * (t + 1)) = P * (s * (t + 1)) := by grind
  have e3 : P * (s * (t + 1)) ≤ P * 1000000000 := Nat.mul_le_mul_left P h1
  rw [Nat.mul_add, Nat.mul_one] at e1
  omega
theorem scale_top (s t P vb dt W : Nat) (hb : vb = W + P * t) (hd : s * vb < P * (dt + 1)) : s * t ≤ dt := by
  apply Nat.le_of_lt_succ
  apply Nat.lt_of_not_le
  intro h
  have e1 : P * (dt + 1) ≤ P * (s * t) := Nat.mul_le_mul_left P h
  have e2 : s * (W + P * t) = s * W + P * (s * t) := by grind
  rw [hb, e2] at hd
  omega
theorem first_top (P Q V s va vb : Nat) (h : P * V ≤ s * va) (hva : va < P * Q) (hvb : Q ≤ vb) (hs : 1 ≤ s) : V < s * vb := by
  have e1 : s * (va + 1) ≤ s * (P * Q) := Nat.mul_le_mul_left s hva
  have e2 : s * (P * Q) = P * (s * Q) := by grind
  have e3 : s * Q ≤ s * vb := Nat.mul_le_mul_left s hvb
  apply Nat.lt_of_lt_of_le ?_ e3
  apply Nat.lt_of_not_le
  intro h3
  have e4 : P * (s * Q) ≤ P * V := Nat.mul_le_mul_left P h3
  rw [Nat.mul_add, Nat.mul_one] at e1
  omega
theorem window_lt (x T Dv : Nat) (hx : x < 1000000000) (hT : T < Dv) : x + 1000000000 * T < Dv * 1000000000 := by
  have : 1000000000 * (T + 1) ≤ 1000000000 * Dv := Nat.mul_le_mul_left _ hT
  omega
theorem round_eq (S Vq P Dv Lo X q W : Nat) (h : S = Vq * (P * 1000000000) * Dv + (Lo + P * X)) (hX : X = q * Dv + W) : S = (Vq * 1000000000 + q) * P * Dv + (Lo + P * W) := by
  rw [h, hX]
  grind
theorem last_eq (s va vb Q W U r : Nat) (hs : 1 ≤ s) (h : s * va = Q * (s * vb) + W) (hW : W < s * vb) (hU : W = U * s + r) (hr : r < s) : va = Q * vb + U ∧ U < vb := by
  have e1 : Q * (s * vb) = s * (Q * vb) := by grind
  rw [e1, hU] at h
  have hle : Q * vb ≤ va := by
    apply Nat.le_of_not_lt
    intro hlt
    have : s * (va + 1) ≤ s * (Q * vb) := Nat.mul_le_mul_left s hlt
    rw [Nat.mul_add, Nat.mul_one] at this
    omega
  obtain ⟨y, rfl⟩ : ∃ y, va = Q * vb + y := ⟨va - Q * vb, by omega⟩
  have h' : s * y = U * s + r := by
    rw [Nat.mul_add] at h
    omega
  have hUy : U = y := by
    have e2 : y * s = U * s + r := by rw [Nat.mul_comm]; exact h'
    apply Nat.le_antisymm
    · apply Nat.le_of_not_lt
      intro hlt
      have : (y + 1) * s ≤ U * s := Nat.mul_le_mul_right s hlt
      rw [Nat.add_mul, Nat.one_mul] at this
      omega
    · apply Nat.le_of_not_lt
      intro hlt
      have : (U + 1) * s ≤ y * s := Nat.mul_le_mul_right s hlt
      rw [Nat.add_mul, Nat.one_mul] at this
      omega
  subst hUy
  refine ⟨rfl, ?_⟩
  apply Nat.lt_of_not_le
  intro hle2
  have : s * vb ≤ s * U := Nat.mul_le_mul_left s hle2
  omega
/-- A value, cut at a place. -/
theorem val_cut (L : List Nat) (i n : Nat) (h : i ≤ L.length) : val (L.take (i + n)) = val (L.take i) + 1000000000 ^ i * val ((L.drop i).take n) := by
  rw [List.take_add, val_append, List.length_take, Nat.min_eq_left h]
theorem val_cons_seg (L : List Nat) (i n : Nat) (h : i < L.length) : val ((L.drop i).take (n + 1)) = L.getD i 0 + 1000000000 * val ((L.drop (i + 1)).take n) := by
  rw [List.drop_eq_getElem_cons h, List.take_succ_cons, val, List.getD_eq_getElem?_getD, List.getElem?_eq_getElem h]; rfl
theorem RowT.other {w : World} {R : Nat} {l : List Nat} (h : RowT w R l) (p : Addr) (u : Value) (hp : p.block ≠ R) : RowT (w.setCell p u) R l := by
  obtain ⟨t, h⟩ := h
  refine ⟨t, Eq.trans ?_ h⟩
  show (w.heap.modify p.block _)[R]? = _
  rw [Array.getElem?_modify, if_neg hp]
theorem RowT.kept {w w' : World} {R : Nat} {l : List Nat} (h : RowT w R l) (hb : Below w.heap.size w w') : RowT w' R l := by
  have hlt := h.lt
  obtain ⟨t, h⟩ := h
  exact ⟨t, (hb.block R hlt).trans h⟩
theorem RowT.keptB {w w' : World} {R N : Nat} {l : List Nat} (h : RowT w R l) (hb : Below N w w') (hR : R < N) : RowT w' R l := by
  obtain ⟨t, h⟩ := h
  exact ⟨t, (hb.block R hR).trans h⟩
end Go.Proofs.YtpjnglcojamfmaaDoor
namespace Go.Proofs.YtpjnglcojamfmaaDoor
open Go.ChangeShapes Go.WideShapes Go.ChangeAt Go.RowKit
/-- What holds at the head of the loop of divideLong, j being one more than its index. -/
structure DivAt (a b : List Nat) (s k m : Nat) (Dl L Q : List Nat) (j : Nat) : Prop where
  len : L.length = k + 2 + m + 1
  ok : okL L
  qlen : Q.length = m + 1
  qok : okL Q
  le : j ≤ m + 1
  eq : s * val a = vfrom Q j * 1000000000 ^ j * val Dl + val (L.take (j + (k + 2)))
  top : val ((L.drop j).take (k + 2)) < val Dl
theorem DivAt.step {a b : List Nat} {s k m : Nat} {Dl L Q : List Nat} {i : Nat} (h : DivAt a b s k m Dl L Q (i + 1)) {q : Nat} {L' : List Nat} (hq : q < 1000000000) (hL : L'.length = L.length) (hok : okL L') (htk : L'.take i = L.take i)
    (hX : val ((L.drop i).take (k + 3)) = q * val Dl + val ((L'.drop i).take (k + 2))) (ht : val ((L'.drop i).take (k + 2)) < val Dl) : DivAt a b s k m Dl L' (Q.set i q) i := by
  have hi := h.le
  refine ⟨hL.trans h.len, hok, by simp [h.qlen], okL_set Q h.qok i q hq, by omega, ?_, ht⟩
  have e := h.eq
  rw [show i + 1 + (k + 2) = i + (k + 3) by omega, val_cut L i (k + 3) (by have := h.len; omega), Nat.pow_succ] at e
  rw [vfrom_set Q i q (by have := h.qlen; omega), val_cut L' i (k + 2) (by have := h.len; omega), htk]
  exact round_eq _ _ _ _ _ _ q _ e hX
theorem DivAt.window {a b : List Nat} {s k m : Nat} {Dl L Q : List Nat} {i : Nat} (h : DivAt a b s k m Dl L Q (i + 1)) : val ((L.drop i).take (k + 3)) < val Dl * 1000000000 := by
  have hi := h.le
  have hl := h.len
  rw [val_cons_seg L i (k + 2) (by omega)]
  exact window_lt _ _ _ (okL_getD L h.ok i (by omega)) h.top
theorem getLast_getD (b : List Nat) (k : Nat) (hl : b.length = k + 1) (ht : isTrim b) : 1 ≤ b.getD k 0 := by
  have hne : b ≠ [] := by intro h; rw [h] at hl; simp at hl
  have h := ht hne
  rw [List.getLast_eq_getElem] at h
  have e : b.getD k 0 = b[b.length - 1]'(by omega) := by
    rw [List.getD_eq_getElem?_getD, List.getElem?_eq_getElem (by omega)]
    simp [hl]
  omega
set_option maxRecDepth 100000 in
set_option maxHeartbeats 4000000 in
theorem divLong_any (B : Nat) (va vb : Value) (a b : List Nat) (k m : Nat) (w : World) (ha : IsL B w va a) (hb : IsL B w vb b) (hlb : b.length = k + 2) (hla : a.length = k + 2 + m) (hmx : k + 2 + m ≤ 100000) (htb : isTrim b) :
    Calls Tryd.prog 75 #[va, vb] w fun e w' => ∃ v u Q U, e = .returned (.tuple #[v, u]) ∧ IsL w.heap.size w' v Q ∧ IsL w.heap.size w' u U ∧ isTrim Q ∧ isTrim U ∧ Q.length ≤ m + 1 ∧ U.length ≤ k + 2 ∧ val a = val Q * val b + val U ∧ val U < val b ∧ Below w.heap.size w w' := by
  obtain ⟨i0, hinf, hz0, hz1, hz2⟩ := info_parts Tryd.info_u32
  obtain ⟨pa, ca, rfl, _⟩ := id ha
  obtain ⟨pb, cb, rfl, _⟩ := id hb
  obtain ⟨_, _, _, haok, hca⟩ := ha.cells
  obtain ⟨_, _, _, hbok, hcb⟩ := hb.cells
  have HA : Hid (∀ i, i < a.length → ∃ b off, pa = some ⟨b, off, none⟩ ∧ b < w.heap.size ∧ w.cell? ⟨b, off + i, none⟩ = some (.int .u32 (a.getD i 0 : Nat))) := hca
  have HB : Hid (∀ i, i < b.length → ∃ c off, pb = some ⟨c, off, none⟩ ∧ c < w.heap.size ∧ w.cell? ⟨c, off + i, none⟩ = some (.int .u32 (b.getD i 0 : Nat))) := hcb
  obtain ⟨bb, ob, rfl, hbb, hct⟩ := hcb (k + 1) (by omega)
  have ht1 := getLast_getD b (k + 1) hlb htb
  have ht2 := okL_getD b hbok (k + 1) (by omega)
  obtain ⟨t, ht⟩ : ∃ t, b.getD (k + 1) 0 = t := ⟨_, rfl⟩
  obtain ⟨s, hs⟩ : ∃ s, 1000000000 / (t + 1) = s := ⟨_, rfl⟩
  have hs1 : s * (t + 1) ≤ 1000000000 := by rw [← hs]; exact Nat.div_mul_le_self _ _
  have hs2 : 1000000000 < (s + 1) * (t + 1) := by
    have := Nat.lt_div_mul_add (a := 1000000000) (b := t + 1) (by omega)
    rw [hs] at this
    rw [Nat.add_mul, Nat.one_mul]
    exact this
  rw [ht] at ht1 ht2 hct
  have hs3 : 1 ≤ s := by
    apply Nat.pos_of_ne_zero
    rintro rfl
    omega
  have hs4 : s ≤ 500000000 := by
    have : s * 2 ≤ s * (t + 1) := Nat.mul_le_mul_left s (by omega)
    omega
  have HSC : Hid (1 ≤ s ∧ s * (t + 1) ≤ 1000000000 ∧ 500000000 ≤ s * t ∧ b.getD (k + 1) 0 = t ∧ s ≤ 500000000) := ⟨hs3, hs1, scale_half t s ht1 ht2 hs1 hs2, ht, hs4⟩
  rw [hlb, hla]
  obtain ⟨T, hT⟩ : ∃ T : Int, (t : Int) = T := ⟨_, rfl⟩
  have hsI : 1000000000 / (T + 1) = (s : Int) := by rw [← hs, ← hT]; rfl
  rw [hT] at hct
  have t1 : 1 ≤ T := by omega
  have t2 : T < 1000000000 := by omega
  clear hca hcb ha hb hs1 hs2 hs ht hT
  go_enter Tryd.func75, Tryd.ntmps75
  go_wp2_with (at_make; refine wpList_make_full _ rfl _ _ 26 rfl w.heap.size 51 i0 (.int .u32 0) 1 Tryd.underlying26 hinf hz0 hz1 .i64 .i64 _ _ (k + 2 + m + 1) rfl rfl (by first | rfl | omega) (by first | rfl | omega) (by first | omega | (rw [hz2]; omega)) (by unfold maxLen; omega) (Nat.le_refl _) ?_)
  intro w1 hown hgr
  first | rw [made_zero] at hown | rw [made_zero'] at hown
  have hR1 : RowT w1 w.heap.size (List.replicate (k + 2 + m + 1) 0) := (row_of_full hown).tail
  have hB1 : Below w.heap.size w w1 := (Below.refl _ _).grown hgr (Nat.le_refl _) (fun k h => by cases h)
  have HR1 : Hid (RowT w1 w.heap.size (List.replicate (k + 2 + m + 1) 0)) := hR1
  have HB1 : Hid (Below w.heap.size w w1) := hB1
  have HLT1 : Hid (w.heap.size < w1.heap.size) := hR1.lt
  clear hown hgr hR1 hB1 hct t1 t2 hsI
  go_wp2_with fail
  have hcall := addScaled_any w.heap.size 0 (k + 2 + m + 1) s _ pa ca (List.replicate (k + 2 + m + 1) 0) a w1 HR1.out (fun x hx => by rw [List.eq_of_mem_replicate hx]; omega) (by simp; omega) (by simp; omega) haok rfl (by omega) (by have := HSC.out.2.2.2.2; omega) (fun i hi => by
    obtain ⟨c, off, e, hc, hcl⟩ := HA.out i hi
    exact ⟨c, off, e, hc, by rw [HB1.out.cell (p := ⟨c, off + i, none⟩) hc]; exact hcl⟩)
  rw [hla] at hcall
  refine hcall.mono ?_
  clear hcall
  rintro e w2 ⟨c, L, rfl, hR2, hL2, hok2, hdr, hc, hv2, hb2⟩
  have hcell := hR2.cell (k + 2 + m) (by rw [hL2]; simp)
  have hfr := hR2.frozen (k + 2 + m)
  have h0 : L.getD (k + 2 + m) 0 = 0 := by
    rw [getD_of_drop L _ (0 + (k + 2 + m)) (k + 2 + m) hdr (by omega)]
    simp [List.getD_eq_getElem?_getD]
  have hvs := val_set L (k + 2 + m) c (by rw [hL2]; simp)
  rw [h0, Nat.mul_zero, Nat.add_zero] at hvs
  rw [val_replicate, Nat.zero_add, Nat.zero_add, Nat.pow_zero, Nat.one_mul] at hv2
  have HV3 : Hid (val (L.set (k + 2 + m) c) = s * val a ∧ okL (L.set (k + 2 + m) c) ∧ (L.set (k + 2 + m) c).length = k + 2 + m + 1) := ⟨hvs.trans hv2, okL_set L hok2 _ _ (by have := HSC.out.2.2.2.2; omega), by simp [hL2]⟩
  have HR3 : Hid (RowT (w2.setCell ⟨w.heap.size, k + 2 + m, none⟩ (.int .u32 (c : Nat))) w.heap.size (L.set (k + 2 + m) c)) := hR2.set _ _ (by rw [hL2]; simp)
  have HB3 : Hid (Below w.heap.size w (w2.setCell ⟨w.heap.size, k + 2 + m, none⟩ (.int .u32 (c : Nat)))) := (HB1.out.trans hb2).setCell (Nat.le_refl _) _
  have hcc : c < 1000000000 := by have := HSC.out.2.2.2.2; omega
  have HLT2 : Hid (w.heap.size < w2.heap.size) := hR2.lt
  clear hR2 hL2 hok2 hdr hc hv2 hb2 h0 hvs
  obtain ⟨W3, hW3⟩ : ∃ W3, w2.setCell ⟨w.heap.size, k + 2 + m, none⟩ (.int .u32 (c : Nat)) = W3 := ⟨_, rfl⟩
  have HW3 : Hid (w2.setCell ⟨w.heap.size, k + 2 + m, none⟩ (.int .u32 (c : Nat)) = W3) := hW3
  generalize L.set (k + 2 + m) c = N at HV3 HR3
  rw [hW3] at HR3 HB3
  clear hW3
  have hs3 : W3.heap.size = w2.heap.size := by rw [← HW3.out]; simp
  have HLT3 : Hid (w.heap.size < w2.heap.size) := HLT2.out
  go_wp2_with (at_make; refine wpList_make_full _ rfl _ _ 26 rfl w2.heap.size 51 i0 (.int .u32 0) 1 Tryd.underlying26 hinf hz0 hz1 .i64 .i64 _ _ (k + 2) rfl rfl (by first | rfl | omega) (by first | rfl | omega) (by first | omega | (rw [hz2]; omega)) (by unfold maxLen; omega) (by simp) ?_)
  intro w4 hown hgr
  rw [HW3.out] at hgr
  first | rw [made_zero] at hown | rw [made_zero'] at hown
  have hD4 : RowT w4 w2.heap.size (List.replicate (k + 2) 0) := (row_of_full hown).tail
  have hB4 : Below w2.heap.size W3 w4 := (Below.refl _ _).grown hgr (by omega) (fun k h => by cases h)
  have HD4 : Hid (RowT w4 w2.heap.size (List.replicate (k + 2) 0)) := hD4
  have HB4 : Hid (Below w2.heap.size W3 w4) := hB4
  have HB4' : Hid (Below w.heap.size w w4) := HB3.out.trans (hB4.mono (by have := HLT3.out; omega))
  have HR4 : Hid (RowT w4 w.heap.size N) := HR3.out.keptB hB4 HLT3.out
  clear hown hgr hD4 hB4 hcell hfr
  go_wp2_with fail
  have hcall := addScaled_any w2.heap.size 0 (k + 2) s _ (some ⟨bb, ob, none⟩) cb (List.replicate (k + 2) 0) b w4 HD4.out (fun x hx => by rw [List.eq_of_mem_replicate hx]; omega) (by simp; omega) (by simp; omega) hbok rfl (by omega) (by have := HSC.out.2.2.2.2; omega) (fun i hi => by
    obtain ⟨c, off, e, hc, hcl⟩ := HB.out i hi
    exact ⟨c, off, e, by have := HLT3.out; omega, by rw [HB4'.out.cell (p := ⟨c, off + i, none⟩) hc]; exact hcl⟩)
  rw [hlb] at hcall
  refine hcall.mono ?_
  clear hcall
  rintro e w5 ⟨c5, Dl, rfl, hD5, hDl5, hDok, hdr5, hc5, hv5, hb5⟩
  rw [val_replicate, Nat.zero_add, Nat.zero_add, Nat.pow_zero, Nat.one_mul] at hv5
  have hbt : val b = val (b.take (k + 1)) + 1000000000 ^ (k + 1) * t := by
    have h := val_take_succ b (k + 1)
    rw [List.take_of_length_le (by omega), HSC.out.2.2.2.1] at h
    exact h
  have hbl : val b < 1000000000 ^ (k + 1) * (t + 1) := by
    rw [hbt, Nat.mul_add, Nat.mul_one]
    have := val_take_lt b hbok (k + 1)
    omega
  have hDl6 : Dl.length = k + 2 := by rw [hDl5]; simp
  have hDv : val Dl = s * val b := by
    have h1 : s * val b < 1000000000 ^ (k + 2) := by rw [Nat.pow_succ]; exact scale_fit s t _ _ HSC.out.1 HSC.out.2.1 hbl
    rw [← hv5] at h1 ⊢
    have : c5 = 0 := by
      apply Nat.eq_zero_of_not_pos
      intro hp
      have : 1000000000 ^ (k + 2) * 1 ≤ 1000000000 ^ (k + 2) * c5 := Nat.mul_le_mul_left _ hp
      omega
    rw [this, Nat.mul_zero, Nat.add_zero]
  have HDT : Hid (500000000 ≤ Dl.getD (k + 1) 0) := by
    show 500000000 ≤ Dl.getD (k + 1) 0
    have h1 : val Dl < 1000000000 ^ (k + 1) * (Dl.getD (k + 1) 0 + 1) := by
      have h := val_take_succ Dl (k + 1)
      rw [List.take_of_length_le (by omega)] at h
      rw [h, Nat.mul_add, Nat.mul_one]
      have := val_take_lt Dl hDok (k + 1)
      omega
    rw [hDv] at h1
    have := scale_top s t _ _ _ _ hbt h1
    have := HSC.out.2.2.1
    omega
  have HDV : Hid (val Dl = s * val b ∧ okL Dl ∧ Dl.length = k + 2) := ⟨hDv, hDok, hDl6⟩
  have HR5 : Hid (RowT w5 w.heap.size N) := HR4.out.keptB hb5 HLT3.out
  have HD5 : Hid (RowT w5 w2.heap.size Dl) := hD5
  have HB5 : Hid (Below w.heap.size w w5) := HB4'.out.trans (hb5.mono (by have := HLT3.out; omega))
  have HST : Hid (DivAt a b s k m Dl N (List.replicate (m + 1) 0) (m + 1)) := by
    refine ⟨HV3.out.2.2, HV3.out.2.1, by simp, fun x hx => by rw [List.eq_of_mem_replicate hx]; omega, Nat.le_refl _, ?_, ?_⟩
    · have e1 : vfrom (List.replicate (m + 1) 0) (m + 1) = 0 := by unfold vfrom; simp [val]
      rw [e1, Nat.zero_mul, Nat.zero_mul, Nat.zero_add, List.take_of_length_le (by have := HV3.out.2.2; omega)]
      exact HV3.out.1.symm
    · rw [hDv]
      refine first_top (1000000000 ^ (m + 1)) (1000000000 ^ (k + 1)) _ s (val a) (val b) ?_ ?_ ?_ HSC.out.1
      · have h := val_cut N (m + 1) (k + 2) (by have := HV3.out.2.2; omega)
        rw [List.take_of_length_le (by have := HV3.out.2.2; omega), HV3.out.1] at h
        omega
      · have h := val_lt a haok
        rw [hla] at h
        rw [← Nat.pow_add, show m + 1 + (k + 1) = k + 2 + m by omega]
        exact h
      · have h := val_ge b htb (by intro h; rw [h] at hlb; simp at hlb)
        rw [hlb, show k + 2 - 1 = k + 1 by omega] at h
        exact h
  clear hDl5 hDok hdr5 hc5 hv5 hb5 hbt hbl hDl6 hDv hD5
  have HLT5 : Hid (w2.heap.size < w5.heap.size) := HD5.out.lt
  go_wp2_with (at_make; refine wpList_make_full _ rfl _ _ 26 rfl w5.heap.size 51 i0 (.int .u32 0) 1 Tryd.underlying26 hinf hz0 hz1 .i64 .i64 _ _ (m + 1) rfl rfl (by first | rfl | omega) (by first | rfl | omega) (by first | omega | (rw [hz2]; omega)) (by unfold maxLen; omega) (Nat.le_refl _) ?_)
  intro w6 hown hgr
  first | rw [made_zero] at hown | rw [made_zero'] at hown
  have hQ6 : RowT w6 w5.heap.size (List.replicate (m + 1) 0) := (row_of_full hown).tail
  have hB6 : Below w5.heap.size w5 w6 := (Below.refl _ _).grown hgr (Nat.le_refl _) (fun k h => by cases h)
  have HQ6 : Hid (RowT w6 w5.heap.size (List.replicate (m + 1) 0) ∧ RowT w6 w.heap.size N ∧ RowT w6 w2.heap.size Dl ∧ Below w.heap.size w w6) := ⟨hQ6, HR5.out.kept hB6, HD5.out.kept hB6, HB5.out.trans (hB6.mono (by have := HLT5.out; have := HLT3.out; omega))⟩
  have HLT6 : Hid (w5.heap.size < w6.heap.size) := hQ6.lt
  clear hown hgr hQ6 hB6
  go_wp2
  go_loopw [10] (fun iv wr => ∃ (j : Nat) (L Q : List Nat), DivAt a b s k m Dl L Q j ∧ iv = .int .i64 ((j : Int) - 1) ∧ RowT wr w.heap.size L ∧ RowT wr w2.heap.size Dl ∧ RowT wr w5.heap.size Q ∧ Below w.heap.size w wr) (fun iv _ => (intOf iv + 1).toNat)
  case atStart => exact ⟨m + 1, N, _, HST.out, val_int (by omega), HQ6.out.2.1, HQ6.out.2.2.1, HQ6.out.1, HQ6.out.2.2.2⟩
  case round =>
    obtain ⟨j, L, Q, hat, rfl, hR, hD, hQ, hB⟩ := hrel
    have HAT : Hid (DivAt a b s k m Dl L Q j) := hat
    have HROW : Hid (RowT wr w.heap.size L ∧ RowT wr w2.heap.size Dl ∧ RowT wr w5.heap.size Q ∧ Below w.heap.size w wr) := ⟨hR, hD, hQ, hB⟩
    have hjm := hat.le
    clear hR hD hQ hB hat
    cases j with
    | zero =>
      clear hjm
      have hL := HAT.out.len
      have htk : (L.take (k + 2)).length = k + 2 := by rw [List.length_take]; omega
      have HI : Hid (IsL w.heap.size wr (.slice (some ⟨w.heap.size, 0, none⟩) (k + 2) (k + 2 + m + 1)) (L.take (k + 2))) := by
        refine ⟨_, k + 2 + m + 1, by rw [htk], by omega, by unfold maxLen; omega, okL_take' L HAT.out.ok _, .inr ⟨w.heap.size, 0, rfl, Nat.le_refl _, HROW.out.1.lt, fun i hi => ?_⟩⟩
        rw [Nat.zero_add, HROW.out.1.cell i (by omega)]
        rw [List.getD_eq_getElem?_getD, List.getD_eq_getElem?_getD, List.getElem?_take_of_lt (by omega)]
      have HLN : Hid ((L.take (k + 2)).length = k + 2) := htk
      clear hL htk
      go_wp2_with fail
      refine (divByLimb_any w.heap.size _ (L.take (k + 2)) s _ HI.out (by have := HLN.out; omega) HSC.out.1 (by have := HSC.out.2.2.2.2; omega)).mono ?_
      rintro e w7 ⟨u, U, r, rfl, hU, htU, hlU, hvU, hr, hb7⟩
      have HU : Hid (IsL wr.heap.size w7 u U) := hU
      have HQ7 : Hid (IsL w.heap.size w7 (.slice (some ⟨w5.heap.size, 0, none⟩) (m + 1) (m + 1)) Q) := by
        have h := (HROW.out.2.2.1.kept hb7).isL (B := w.heap.size) (cap := m + 1) (by have := HLT5.out; have := HLT3.out; omega) HAT.out.qok (by have := HAT.out.qlen; omega) (by unfold maxLen; omega)
        rw [HAT.out.qlen] at h
        exact h
      have HE : Hid (val a = val Q * val b + val U ∧ val U < val b ∧ isTrim U ∧ U.length ≤ k + 2) := by
        have e := HAT.out.eq
        have tp := HAT.out.top
        unfold vfrom at e
        rw [List.drop_zero, Nat.pow_zero, Nat.mul_one, Nat.zero_add, HDV.out.1] at e
        rw [List.drop_zero, HDV.out.1] at tp
        have h := last_eq s (val a) (val b) (val Q) _ (val U) r HSC.out.1 e tp hvU hr
        exact ⟨h.1, h.2, htU, by have := HLN.out; omega⟩
      have HB7 : Hid (Below w.heap.size w w7) := HROW.out.2.2.2.trans (hb7.mono HROW.out.2.2.2.size)
      have HSR : Hid (w.heap.size ≤ wr.heap.size) := HROW.out.2.2.2.size
      obtain ⟨pu, cu, hu, _⟩ := hU
      subst hu
      clear htU hlU hvU hr hb7
      go_wp2_with fail
      refine (trimLimbs_any w.heap.size _ Q _ HQ7.out).mono ?_
      rintro e w8 ⟨v, rfl, hcut, rfl⟩
      have HW : Hid (IsL w.heap.size w8 v (trimL Q)) := hcut _ _ HQ7.out
      have HT : Hid (val (trimL Q) = val Q ∧ (trimL Q).length ≤ m + 1) := ⟨val_trimL Q, by have := trimL_len Q; have := HAT.out.qlen; omega⟩
      obtain ⟨pv, cv, hv, _⟩ := HW.out
      subst hv
      clear hcut
      go_wp2
      go_ret2
      exact ⟨_, _, trimL Q, U, rfl, HW.out, HU.out.mono HSR.out, trimL_trim _, HE.out.2.2.1, HT.out.2, HE.out.2.2.2, by rw [HT.out.1]; exact HE.out.1, HE.out.2.1, HB7.out⟩
    | succ i =>
      go_wp2_with fail
      rw [show i + (k + 2) + 1 - i = k + 3 by omega]
      refine (divStep_any w.heap.size i (k + 2 + m + 1 - i) w2.heap.size (k + 2) k L Dl wr HROW.out.1 HAT.out.ok HDV.out.2.2 (by have := HAT.out.len; omega) (by have := HAT.out.len; omega) HROW.out.2.1 (by have := HLT3.out; omega) HDV.out.2.1 HDT.out HAT.out.window (by omega)).mono ?_
      rintro e w7 ⟨q, L7, rfl, hR7, hL7, hok7, htk7, hq7, hX7, ht7, hO7⟩
      have HAT7 : Hid (DivAt a b s k m Dl L7 (Q.set i q) i) := HAT.out.step hq7 hL7 hok7 htk7 hX7 ht7
      have hQ7 : RowT w7 w5.heap.size Q := hO7.rowT (by have := HLT5.out; have := HLT3.out; omega) HROW.out.2.2.1
      have hcell := hQ7.cell i (by have := HAT.out.qlen; omega)
      have hfr := hQ7.frozen i
      have HROW8 : Hid (RowT (w7.setCell ⟨w5.heap.size, i, none⟩ (.int .u32 (q : Nat))) w.heap.size L7 ∧ RowT (w7.setCell ⟨w5.heap.size, i, none⟩ (.int .u32 (q : Nat))) w2.heap.size Dl ∧ RowT (w7.setCell ⟨w5.heap.size, i, none⟩ (.int .u32 (q : Nat))) w5.heap.size (Q.set i q) ∧ Below w.heap.size w (w7.setCell ⟨w5.heap.size, i, none⟩ (.int .u32 (q : Nat)))) := by
        have l5 := HLT5.out
        have l3 := HLT3.out
        refine ⟨hR7.other _ _ (by show w5.heap.size ≠ w.heap.size; omega), (hO7.rowT (by omega) HROW.out.2.1).other _ _ (by show w5.heap.size ≠ w2.heap.size; omega), hQ7.set _ _ (by have := HAT.out.qlen; omega), (HROW.out.2.2.2.trans hO7.below).setCell (by show w.heap.size ≤ w5.heap.size; omega) _⟩
      clear hR7 hL7 hok7 htk7 hX7 ht7 hO7 hQ7
      go_wp2
      go_roundw
      case rel => exact ⟨i, L7, Q.set i q, HAT7.out, by go_num, HROW8.out.1, HROW8.out.2.1, HROW8.out.2.2.1, HROW8.out.2.2.2⟩
      case measure => simp [intOf]
end Go.Proofs.YtpjnglcojamfmaaDoor
namespace Go.Proofs.YtpjnglcojamfmaaDoor
open Go.ChangeShapes Go.WideShapes Go.ChangeAt Go.RowKit
/-- Quotient and rest, as lists of limbs. -/
def DivL (B : Nat) (w : World) (v u : Value) (a b Q U : List Nat) : Prop :=
  (IsL B w v Q ∧ IsL B w u U) ∧ (isTrim Q ∧ isTrim U) ∧ (Q.length ≤ a.length ∧ U.length ≤ b.length + 3) ∧ val a = val Q * val b + val U ∧ val U < val b
theorem ord_lt' (x y : Nat) (h : ord x y < 0) : x < y := by
  unfold ord at h
  split at h
  · assumption
  · split at h <;> omega
theorem cmpL_lt_val (a b : List Nat) (ha : okL a) (hb : okL b) (ta : isTrim a) (tb : isTrim b) (hcm : cmpL a b < 0) : val a < val b := by
  rw [cmpL_ord a b ha hb ta tb] at hcm
  exact ord_lt' _ _ hcm
theorem cmpL_len (a b : List Nat) (hcm : 0 ≤ cmpL a b) : b.length ≤ a.length := by
  unfold cmpL at hcm
  by_cases h3 : a.length < b.length
  · simp [h3] at hcm <;> omega
  · omega
theorem cmpL_len_lt (a b : List Nat) (hcm : cmpL a b < 0) : a.length ≤ b.length := by
  unfold cmpL at hcm
  by_cases h3 : b.length < a.length
  · by_cases h4 : a.length < b.length
    · omega
    · simp [h3, h4] at hcm <;> omega
  · omega
set_option maxRecDepth 100000 in
set_option maxHeartbeats 2000000 in
theorem divLimbs_any (B : Nat) (va vb : Value) (a b : List Nat) (w : World) (hBw : B ≤ w.heap.size) (ha : IsL B w va a) (hb : IsL B w vb b) (hla : a.length ≤ 100000) (hta : isTrim a) (htb : isTrim b) (hne : b ≠ []) :
    Calls Tryd.prog 53 #[va, vb] w fun e w' => ∃ v u Q U, e = .returned (.tuple #[v, u]) ∧ DivL B w' v u a b Q U ∧ Below w.heap.size w w' := by
  have HA : Hid (IsL B w va a) := ha
  have HB : Hid (IsL B w vb b) := hb
  have HT : Hid (isTrim a ∧ isTrim b ∧ b ≠ [] ∧ B ≤ w.heap.size) := ⟨hta, htb, hne, hBw⟩
  obtain ⟨pa, ca, rfl, hac1, hac2, haok, _⟩ := ha
  obtain ⟨pb, cb, rfl, hbc1, hbc2, hbok, _⟩ := hb
  have HOK : Hid (okL a ∧ okL b) := ⟨haok, hbok⟩
  obtain ⟨c, hc⟩ : ∃ c, cmpL a b = c := ⟨_, rfl⟩
  have HC : Hid (cmpL a b = c) := hc
  have hcb : -1 ≤ c ∧ c ≤ 1 := by rw [← hc]; exact cmpL_bd a b
  obtain ⟨hc1, hc2⟩ := hcb
  clear hc hta htb hne hBw haok hbok hac2 hbc2
  by_cases hlt : c < 0
  · have HE : Hid (DivL B w (.slice none 0 0) (.slice pa a.length ca) a b [] a) := by
      have hv := cmpL_lt_val a b HOK.out.1 HOK.out.2 HT.out.1 HT.out.2.1 (by rw [HC.out]; exact hlt)
      have hl := cmpL_len_lt a b (by rw [HC.out]; exact hlt)
      exact ⟨⟨⟨none, 0, rfl, Nat.le_refl _, (by unfold maxLen; omega), (fun x hx => by cases hx), .inl rfl⟩, HA.out⟩, ⟨fun h => absurd rfl h, HT.out.1⟩, ⟨Nat.zero_le _, by omega⟩, by simp [val], hv⟩
    go_enter Tryd.func53, Tryd.ntmps53
    go_wp2_with fail
    refine (compareLimbs_any B _ _ a b _ HA.out HB.out).mono ?_
    rintro e w1 ⟨rfl, hb1⟩
    rw [HC.out]
    have HB1 : Hid (Below w.heap.size w w1) := hb1
    clear hb1
    go_wp2
    go_ret2
    exact ⟨_, _, [], a, rfl, ⟨⟨HE.out.1.1.below HB1.out, HE.out.1.2.below HB1.out⟩, HE.out.2⟩, HB1.out⟩
  have HLE : Hid (b.length ≤ a.length) := cmpL_len a b (by rw [HC.out]; omega)
  by_cases h1 : b.length = 1
  · obtain ⟨y, rfl⟩ : ∃ y, b = [y] := by
      match b, h1 with
      | [y], _ => exact ⟨y, rfl⟩
    have hy1 := getLast_getD [y] 0 rfl HT.out.2.1
    have hy2 := HOK.out.2 y (by simp)
    have hy3 : 0 < y := by
      simp at hy1
      omega
    obtain ⟨_, _, _, _, hcb⟩ := HB.out.cells
    obtain ⟨bb, ob, rfl, hbb, hct⟩ := hcb 0 (by simp)
    have hct' : w.cell? ⟨bb, ob + 0, none⟩ = some (.int .u32 (y : Nat)) := hct
    have HCT : Hid (∀ W, Below w.heap.size w W → W.cell? ⟨bb, ob, none⟩ = some (.int .u32 (y : Nat))) := fun W hW => (hW.cell (p := ⟨bb, ob, none⟩) hbb).trans hct'
    clear hct hct' hcb hy1
    go_enter Tryd.func53, Tryd.ntmps53
    go_wp2_with fail
    refine (compareLimbs_any B _ _ a [y] _ HA.out HB.out).mono ?_
    rintro e w1 ⟨rfl, hb1⟩
    rw [HC.out]
    have HB1 : Hid (Below w.heap.size w w1) := hb1
    have hcell := HCT.out _ hb1
    clear hb1
    go_wp2_with fail
    refine (divByLimb_any B _ a y _ (HA.out.below HB1.out) hla hy3 (by omega)).mono ?_
    rintro e w2 ⟨v, q, r, rfl, hL, htr, hlen, hval, hr, hb2⟩
    have HL : Hid (IsL B w2 v q) := hL.mono (by have := HB1.out.size; have := HT.out.2.2.2; omega)
    have HV : Hid (isTrim q ∧ q.length ≤ a.length ∧ val a = val q * y + r ∧ r < y) := ⟨htr, hlen, hval, hr⟩
    have HB2 : Hid (Below w.heap.size w w2) := HB1.out.trans (hb2.mono HB1.out.size)
    obtain ⟨pv, cv, hv, _⟩ := hL
    subst hv
    clear htr hlen hval hb2 hcell
    go_wp2_with fail
    refine (limbsOf_trim r _ (by omega)).mono ?_
    rintro e w3 ⟨u, t, rfl, hu, htu, hvu, hlu, hb3⟩
    have HE : Hid (DivL B w3 (.slice pv q.length cv) u a [y] q t) := by
      refine ⟨⟨HL.out.below hb3, hu.mono (by have := HB2.out.size; have := HT.out.2.2.2; omega)⟩, ⟨HV.out.1, htu⟩, ⟨HV.out.2.1, by omega⟩, ?_, ?_⟩
      · rw [hvu]; simp only [val]; exact HV.out.2.2.1
      · rw [hvu]; simp only [val]; exact HV.out.2.2.2
    have HB3 : Hid (Below w.heap.size w w3) := HB2.out.trans (hb3.mono HB2.out.size)
    obtain ⟨pu, cu, huu, _⟩ := hu
    subst huu
    clear htu hvu hlu hb3
    go_wp2
    go_ret2
    exact ⟨_, _, q, t, rfl, HE.out, HB3.out⟩
  · have hp : b.length ≠ 0 := fun h => HT.out.2.2.1 (List.eq_nil_of_length_eq_zero h)
    obtain ⟨k, hk⟩ : ∃ k, b.length = k + 2 := ⟨b.length - 2, by omega⟩
    obtain ⟨m, hm⟩ : ∃ m, a.length = k + 2 + m := ⟨a.length - (k + 2), by have := HLE.out; omega⟩
    have HK : Hid (b.length = k + 2 ∧ a.length = k + 2 + m ∧ k + 2 + m ≤ 100000) := ⟨hk, hm, by omega⟩
    have z1 : ((b.length : Int) == 1) = false := by rw [beq_eq_false_iff_ne]; omega
    clear hk hm
    go_enter Tryd.func53, Tryd.ntmps53
    go_wp2_with fail
    refine (compareLimbs_any B _ _ a b _ HA.out HB.out).mono ?_
    rintro e w1 ⟨rfl, hb1⟩
    rw [HC.out]
    have HB1 : Hid (Below w.heap.size w w1) := hb1
    clear hb1
    go_wp2_with fail
    refine (divLong_any B (.slice pa a.length ca) (.slice pb b.length cb) a b k m w1 (HA.out.below HB1.out) (HB.out.below HB1.out) HK.out.1 HK.out.2.1 HK.out.2.2 HT.out.2.1).mono ?_
    rintro e w2 ⟨v, u, Q, U, rfl, hv, hu, htQ, htU, hlQ, hlU, hval, hlt2, hb2⟩
    have HE : Hid (DivL B w2 v u a b Q U) := by
      have hB' : B ≤ w1.heap.size := by have := HB1.out.size; have := HT.out.2.2.2; omega
      exact ⟨⟨hv.mono hB', hu.mono hB'⟩, ⟨htQ, htU⟩, ⟨by have := HK.out; omega, by have := HK.out; omega⟩, hval, hlt2⟩
    have HB2 : Hid (Below w.heap.size w w2) := HB1.out.trans (hb2.mono HB1.out.size)
    clear hv hu htQ htU hlQ hlU hval hlt2 hb2
    go_wp2
    go_ret2
    exact ⟨_, _, Q, U, rfl, HE.out, HB2.out⟩
end Go.Proofs.YtpjnglcojamfmaaDoor
