import Derived.Test.YtpjnglcojamfmaaDoorTextBack
import Derived.Test.YtpjnglcojamfmaaDoorGcdI
import Derived.Lib.IndexLaws
import Derived.Lib.Bytealg
import Derived.Deep.DeepCutAuto
import Derived.BigQuiet
namespace Go.Proofs.YtpjnglcojamfmaaDoor
open Go.RowKit
theorem div_exact (x c q r : Int) (_hc : c ≠ 0) (h : IsDiv x c q r) (hd : c ∣ x) : x = q * c := by
  obtain ⟨h1, h2, h3⟩ := h
  obtain ⟨k, hk⟩ := hd
  have hr : r = c * (k - q) := by rw [Int.mul_sub, ← hk, h1, Int.mul_comm c q]; omega
  have hz : k - q = 0 := by
    apply Classical.byContradiction
    intro hne
    have h4 : c.natAbs ≤ r.natAbs := by rw [hr, Int.natAbs_mul]; exact Nat.le_mul_of_pos_right _ (by omega)
    omega
  rw [hr, hz, Int.mul_zero] at h1
  omega
theorem low_of_div (x y c n r d r' : Int) (hy : y ≠ 0) (hc : c = if y < 0 then -gcdI x y else gcdI x y) (h1 : IsDiv x c n r) (h2 : IsDiv y c d r') : IsLow x y n d := by
  have hg : 0 < Int.gcd x y := Int.gcd_pos_of_ne_zero_right _ hy
  have hga : c.natAbs = Int.gcd x y := by
    rw [hc]; unfold gcdI; split <;> omega
  have c0 : c ≠ 0 := by omega
  have dx : c ∣ x := by
    rw [← Int.natAbs_dvd, hga]; exact Int.gcd_dvd_left x y
  have dy : c ∣ y := by
    rw [← Int.natAbs_dvd, hga]; exact Int.gcd_dvd_right x y
  have ex := div_exact x c n r c0 h1 dx
  have ey := div_exact y c d r' c0 h2 dy
  refine ⟨c, c0, ex, ey, ?_, hga⟩
  by_cases hn : y < 0
  · have hcn : c < 0 := by rw [hc, if_pos hn]; unfold gcdI; omega
    apply Classical.byContradiction
    intro h
    have : 0 ≤ d * c := Int.mul_nonneg_of_nonpos_of_nonpos (by omega) (by omega)
    omega
  · have hcn : 0 < c := by rw [hc, if_neg hn]; unfold gcdI; omega
    apply Classical.byContradiction
    intro h
    have : d * c ≤ 0 := Int.mul_nonpos_of_nonpos_of_nonneg (by omega) (by omega)
    omega
end Go.Proofs.YtpjnglcojamfmaaDoor
namespace Go.Proofs.YtpjnglcojamfmaaDoor
open Go.ChangeShapes Go.WideShapes Go.ChangeAt Go.RowKit
theorem belowSet3 {N : Nat} {w W : World} (h : Below N w W) (g : Nat) (hg : N ≤ g) (u0 u1 u2 : Value) : Below N w (((W.setCell ⟨g, 0, none⟩ u0).setCell ⟨g, 1, none⟩ u1).setCell ⟨g, 2, none⟩ u2) :=
  ((h.setCell (p := ⟨g, 0, none⟩) hg u0).setCell (p := ⟨g, 1, none⟩) hg u1).setCell (p := ⟨g, 2, none⟩) hg u2
/-- Where the first slash stands. -/
def IsCut (s : ByteArray) (k : Option Nat) : Prop :=
  match k with
  | none => ∀ j : Nat, s.data.toList[j]? ≠ some 47
  | some i => s.data.toList[i]? = some 47 ∧ ∀ j : Nat, j < i → s.data.toList[j]? ≠ some 47
def cutI (k : Option Nat) : Int := match k with | none => -1 | some i => (i : Int)
theorem isCut_unique {s : ByteArray} {k m : Option Nat} (h : IsCut s k) (h' : IsCut s m) : k = m := by
  match k, m, h, h' with
  | none, none, _, _ => rfl
  | none, some i, h, h' => exact absurd h'.1 (h i)
  | some i, none, h, h' => exact absurd h.1 (h' i)
  | some i, some j, h, h' =>
    rcases Nat.lt_trichotomy i j with hl | hl | hl
    · exact absurd h.1 (h'.2 i hl)
    · rw [hl]
    · exact absurd h'.1 (h.2 j hl)
theorem isCut_ex (s : ByteArray) : ∃ k, IsCut s k := by
  have hge := Lib.indexByte_ge s.data.toList 47
  by_cases h : Lib.indexByte s.data.toList 47 = -1
  · exact ⟨none, fun j => Lib.indexByte_none h j⟩
  · obtain ⟨o, ho⟩ := Int.eq_ofNat_of_zero_le (show 0 ≤ Lib.indexByte s.data.toList 47 by omega)
    exact ⟨some o, Lib.indexByte_some ho⟩
theorem isCut_index {s : ByteArray} {k : Option Nat} (h : IsCut s k) : Lib.indexByte s.data.toList 47 = cutI k := by
  have hge := Lib.indexByte_ge s.data.toList 47
  by_cases h1 : Lib.indexByte s.data.toList 47 = -1
  · have : k = none := isCut_unique h (show IsCut s none from fun j => Lib.indexByte_none h1 j)
    rw [this, h1]; rfl
  · obtain ⟨o, ho⟩ := Int.eq_ofNat_of_zero_le (show 0 ≤ Lib.indexByte s.data.toList 47 by omega)
    have : k = some o := isCut_unique h (show IsCut s (some o) from Lib.indexByte_some ho)
    rw [this, ho]; rfl
theorem isCut_lt {s : ByteArray} {i : Nat} (h : IsCut s (some i)) : i < s.size := by
  have := h.1
  rw [List.getElem?_eq_some_iff] at this
  obtain ⟨hl, _⟩ := this
  simpa using hl
set_option maxRecDepth 100000 in
set_option maxHeartbeats 1000000 in
theorem indexByte_any (s : ByteArray) (c : Int) (w : World) :
    Calls Tryd.prog 89 #[.string s, .int .u8 c] w fun e w' => e = .returned (.int .i64 (Lib.indexByte s.data.toList c.toNat.toUInt8)) ∧ w' = w := by
  go_enter Tryd.func89, Tryd.ntmps89
  go_wp2
  rw [run_callFunc_extern Tryd.func100 (by kernel_rfl) (by kernel_rfl) (by kernel_rfl) (e := Extern.BytealgIndexByte.indexByte) (by kernel_rfl), Lib.run_indexByteString]
  simp only [Result.andThen]
  rw [Oper.upon_value]
  go_wp2
  go_ret
  exact ⟨rfl, rfl⟩
set_option maxRecDepth 100000 in
set_option maxHeartbeats 1000000 in
theorem index_slash (s : ByteArray) (k : Option Nat) (w : World) (h : IsCut s k) :
    Calls Tryd.prog 80 #[.string s, .string ⟨#[47]⟩] w fun e w' => e = .returned (.int .i64 (cutI k)) ∧ w' = w := by
  have hi := isCut_index h
  have HI : Hid (Lib.indexByte s.data.toList ((47 : Int).toNat.toUInt8) = cutI k) := hi
  clear hi
  cases hq : ([47] == s.toList)
  · go_enter Tryd.func80, Tryd.ntmps80
    go_wp2_with fail
    refine (indexByte_any s _ _).mono ?_
    rintro e w' ⟨rfl, hw'⟩
    subst hw'
    have e0 : Lib.indexByte s.data.toList (Int.toNat ((((⟨#[47]⟩ : ByteArray)[0]'(by decide)).toNat : Nat) : Int)).toUInt8 = cutI k := HI.out
    rw [e0]
    go_wp2
    go_ret
    exact ⟨rfl, rfl⟩
  · have hk : cutI k = 0 := by
      have h1 : s.toList = [47] := (by simpa using hq : [47] = s.toList).symm
      rw [ByteArray.toList_eq] at h1
      have : k = some 0 := isCut_unique h (show IsCut s (some 0) from ⟨by rw [h1]; rfl, fun j hj => by omega⟩)
      rw [this]; rfl
    have HK := Hid.out (p := cutI k = 0) hk
    clear hk
    have HK2 : Hid (cutI k = 0) := HK
    clear HK
    go_enter Tryd.func80, Tryd.ntmps80
    go_wp2_with fail
    go_ret
    exact ⟨by rw [HK2.out]; rfl, rfl⟩
/-- What stands ahead of the slash, and behind it. -/
def cutP (s : ByteArray) (k : Option Nat) : ByteArray := match k with | none => s | some i => s.extract 0 i
def cutQ (s : ByteArray) (k : Option Nat) : ByteArray := match k with | none => ⟨#[]⟩ | some i => s.extract (i + 1) s.size
set_option maxRecDepth 100000 in
set_option maxHeartbeats 1000000 in
theorem cutS_any (s : ByteArray) (k : Option Nat) (w : World) (hs : s.size ≤ maxLen) (h : IsCut s k) :
    Calls Tryd.prog 61 #[.string s, .string ⟨#[47]⟩] w fun e w' => e = .returned (.tuple #[.string (cutP s k), .string (cutQ s k), .bool k.isSome]) ∧ Below w.heap.size w w' := by
  have H := Hid.out (p := IsCut s k) h
  have HC : Hid (IsCut s k) := H
  clear H h
  unfold maxLen at hs
  cases k with
  | none =>
    go_enter Tryd.func61, Tryd.ntmps61
    go_wp2_with fail
    refine (index_slash s none _ HC.out).mono ?_
    rintro e w' ⟨rfl, hw'⟩
    subst hw'
    have e1 : cutI none = -1 := rfl
    rw [e1]
    go_wp2
    go_ret3
    exact ⟨rfl, Below.refl _ _⟩
  | some i =>
    have hi := isCut_lt HC.out
    go_enter Tryd.func61, Tryd.ntmps61
    go_wp2_with fail
    refine (index_slash s (some i) _ HC.out).mono ?_
    rintro e w' ⟨rfl, hw'⟩
    subst hw'
    have e1 : cutI (some i) = (i : Int) := rfl
    rw [e1]
    go_wp2
    go_region
    go_wp2
    go_ret3
    exact ⟨rfl, (Below.refl _ _).drew⟩
set_option maxRecDepth 100000 in
set_option maxHeartbeats 1000000 in
theorem cut_any (s : ByteArray) (k : Option Nat) (w : World) (hs : s.size ≤ maxLen) (h : IsCut s k) :
    Calls Tryd.prog 41 #[.string s, .string ⟨#[47]⟩] w fun e w' => e = .returned (.tuple #[.string (cutP s k), .string (cutQ s k), .bool k.isSome]) ∧ Below w.heap.size w w' := by
  have HC : Hid (IsCut s k) := h
  clear h
  go_enter Tryd.func41, Tryd.ntmps41
  go_wp2_with fail
  refine (cutS_any s k _ hs HC.out).mono ?_
  rintro e w' ⟨rfl, hb⟩
  have HB : Hid (Below w.heap.size w w') := hb
  clear hb
  go_wp2
  go_ret3
  exact ⟨rfl, HB.out⟩
set_option maxRecDepth 100000 in
set_option maxHeartbeats 1000000 in
theorem cutForm_any (s : ByteArray) (k : Option Nat) (w : World) (hs : s.size ≤ maxLen) (h : IsCut s k) :
    Calls Tryd.prog 25 #[.string s] w fun e w' => e = .returned (.agg #[.string (cutP s k), .bool k.isSome, .string (cutQ s k)]) ∧ Below w.heap.size w w' := by
  have HC : Hid (IsCut s k) := h
  obtain ⟨p, hp⟩ : ∃ p, cutP s k = p := ⟨_, rfl⟩
  obtain ⟨q, hq⟩ : ∃ q, cutQ s k = q := ⟨_, rfl⟩
  obtain ⟨b, hb⟩ : ∃ b, k.isSome = b := ⟨_, rfl⟩
  have HP : Hid (cutP s k = p ∧ cutQ s k = q ∧ k.isSome = b) := ⟨hp, hq, hb⟩
  rw [hp, hq, hb]
  clear h hp hq hb
  obtain ⟨W0, hW0⟩ : ∃ W0, w.alloc (.cells #[.string ⟨#[]⟩, .bool false, .string ⟨#[]⟩] 53) = W0 := ⟨_, rfl⟩
  have HW0 : Hid (w.alloc (.cells #[.string ⟨#[]⟩, .bool false, .string ⟨#[]⟩] 53) = W0) := hW0
  have hbx : Bx W0 w.heap.size [.string ⟨#[]⟩, .bool false, .string ⟨#[]⟩] := by rw [← hW0]; exact bx_new w _ _
  have HB0 : Hid (Below w.heap.size w W0) := by show Below w.heap.size w W0; rw [← hW0]; exact below_alloc _ _
  have HBX : Hid (∀ W, Below W0.heap.size W0 W → Bx W w.heap.size [.string ⟨#[]⟩, .bool false, .string ⟨#[]⟩]) := fun W hW => hbx.below hbx.lt hW
  clear hW0 hbx
  go_enter Tryd.func25, Tryd.ntmps25
  go_wp2_with fail
  rw [HW0.out]
  refine (cut_any s k _ hs HC.out).mono ?_
  rintro e w1 ⟨rfl, hb1⟩
  rw [HP.out.1, HP.out.2.1, HP.out.2.2]
  have HB1 : Hid (Below W0.heap.size W0 w1) := hb1
  have hb := HBX.out w1 hb1
  have k0 := hb.cell 0
  have k1 := hb.cell 1
  have k2 := hb.cell 2
  simp only [List.getElem?_cons_zero, List.getElem?_cons_succ] at k0 k1 k2
  have r0 := hb.frozen 0
  have r1 := hb.frozen 1
  have r2 := hb.frozen 2
  clear hb1 hb
  go_wp2
  have hbw := HBX.out w1 HB1.out
  have hZ : Bx (((w1.setCell ⟨w.heap.size, 0, none⟩ (.string p)).setCell ⟨w.heap.size, 1, none⟩ (.bool b)).setCell ⟨w.heap.size, 2, none⟩ (.string q)) w.heap.size [.string p, .bool b, .string q] := ((hbw.set 0 _).set 1 _).set 2 _
  have hE := belowSet3 (HB0.out.trans (HB1.out.mono HB0.out.size)) w.heap.size (Nat.le_refl _) (.string p) (.bool b) (.string q)
  generalize ((w1.setCell ⟨w.heap.size, 0, none⟩ (.string p)).setCell ⟨w.heap.size, 1, none⟩ (.bool b)).setCell ⟨w.heap.size, 2, none⟩ (.string q) = WE at *
  have m0 := hZ.cell 0
  have m1 := hZ.cell 1
  have m2 := hZ.cell 2
  simp only [List.getElem?_cons_zero, List.getElem?_cons_succ] at m0 m1 m2
  refine bodyPost_ret (v := .agg #[.string p, .bool b, .string q]) ?_ rfl ⟨rfl, hE⟩
  simp [results, Tryd.results25, go_sem, m0, m1, m2]
set_option maxRecDepth 100000 in
set_option maxHeartbeats 1000000 in
theorem l2Cut_any (s : ByteArray) (k : Option Nat) (w : World) (hs : s.size ≤ maxLen) (h : IsCut s k) :
    Calls Tryd.prog 9 #[.string s] w fun e w' => e = .returned (.int .i64 (cutI k)) ∧ w' = w := by
  have HC : Hid (IsCut s k) := h
  clear h
  unfold maxLen at hs
  go_enter Tryd.func9, Tryd.ntmps9
  go_wp2
  go_loop [3] (fun iv => ∃ i : Nat, i ≤ s.size ∧ iv = .int .i64 (i : Nat) ∧ ∀ j : Nat, j < i → s.data.toList[j]? ≠ some 47) (fun iv => s.size - (intOf iv).toNat)
  case atStart => exact ⟨0, Nat.zero_le _, rfl, fun j hj => by omega⟩
  case round =>
    obtain ⟨i, hi, rfl, hno⟩ := hrel
    have HNO : Hid (∀ j : Nat, j < i → s.data.toList[j]? ≠ some 47) := hno
    clear hno
    by_cases hl : i < s.size
    · have hg : s.data.toList[i]? = some s[i] := by
        rw [List.getElem?_eq_getElem (by simpa using hl)]
        rfl
      by_cases hc : s[i] = 47
      · have HK : Hid (cutI k = (i : Int)) := by
          have : k = some i := isCut_unique HC.out (show IsCut s (some i) from ⟨by rw [hg, hc], HNO.out⟩)
          show cutI k = (i : Int)
          rw [this]; rfl
        have hz : (s[i].toNat : Int) = 47 := by rw [hc]; rfl
        have z : ((s[i].toNat : Int) == 47) = true := by rw [beq_iff_eq]; exact hz
        clear hg hc hz
        go_wp2
        go_ret
        exact ⟨ret_int HK.out.symm, rfl⟩
      · have HN2 : Hid (∀ j : Nat, j < i + 1 → s.data.toList[j]? ≠ some 47) := fun j hj => by
          by_cases hji : j = i
          · subst hji; rw [hg]; exact fun e => hc (Option.some.inj e)
          · exact HNO.out j (by omega)
        have z : ((s[i].toNat : Int) == 47) = false := by
          rw [beq_eq_false_iff_ne]
          intro e
          exact hc (UInt8.toNat_inj.1 (by have e2 : (47 : UInt8).toNat = 47 := rfl; omega))
        clear hg hc
        go_wp2
        go_round
        case rel => exact ⟨i + 1, by omega, by go_num, HN2.out⟩
        case measure => simp [intOf]; omega
    · have HK : Hid (cutI k = -1) := by
        have : k = none := isCut_unique HC.out (show IsCut s none from fun j => by
          by_cases hj : j < i
          · exact HNO.out j hj
          · rw [List.getElem?_eq_none (by simp; omega)]; simp)
        show cutI k = -1
        rw [this]; rfl
      go_wp2
      go_ret
      exact ⟨ret_int HK.out.symm, rfl⟩
end Go.Proofs.YtpjnglcojamfmaaDoor
