import Derived.Test.YtpimiboiogfhbaaGreatDoorTextBack
import Derived.Test.YtpimiboiogfhbaaGreatDoorGcdI
import Derived.Lib.IndexLaws
import Derived.Lib.Bytealg
import Derived.Deep.DeepCutAuto
import Derived.BigQuiet
import Derived.Test.YtpimiboiogfhbaaGreatDoorDivF
import Derived.Test.YtpimiboiogfhbaaGreatDoorSumT
import Derived.Laws.StructEq
import Derived.Laws.Tables
namespace Go.Proofs.YtpimiboiogfhbaaGreatDoor
open Go.RowKit
theorem div_exact (x c q r : Int) (_hc : c ≠ 0) (h : IsDiv x c q r) (hd : c ∣ x) : x = q * c := by
  obtain ⟨h1, h2, h3⟩ := h
  obtain ⟨k, hk⟩ := hd
  have hr : r = c * (k - q) := by rw [Int.mul_sub, ← hk, h1, Int.mul_comm c q]; omega
  have hz : k - q = 0 := by
    apply Classical.byContradiction
    intro hne
    have h4 : c.natAbs ≤ r.natAbs := by rw [hr, Int.natAbs_mul]; exact Nat.le_mul_of_pos_right _ (by omega)
    omega
  rw [hr, hz, Int.mul_zero] at h1
  omega
theorem low_of_div (x y c n r d r' : Int) (hy : y ≠ 0) (hc : c = if y < 0 then -gcdI x y else gcdI x y) (h1 : IsDiv x c n r) (h2 : IsDiv y c d r') : IsLow x y n d := by
  have hg : 0 < Int.gcd x y := Int.gcd_pos_of_ne_zero_right _ hy
  have hga : c.natAbs = Int.gcd x y := by
    rw [hc]; unfold gcdI; split <;> omega
  have c0 : c ≠ 0 := by omega
  have dx : c ∣ x := by
    rw [← Int.natAbs_dvd, hga]; exact Int.gcd_dvd_left x y
  have dy : c ∣ y := by
    rw [← Int.natAbs_dvd, hga]; exact Int.gcd_dvd_right x y
  have ex := div_exact x c n r c0 h1 dx
  have ey := div_exact y c d r' c0 h2 dy
  refine ⟨c, c0, ex, ey, ?_, hga⟩
  by_cases hn : y < 0
  · have hcn : c < 0 := by rw [hc, if_pos hn]; unfold gcdI; omega
    apply Classical.byContradiction
    intro h
    have : 0 ≤ d * c := Int.mul_nonneg_of_nonpos_of_nonpos (by omega) (by omega)
    omega
  · have hcn : 0 < c := by rw [hc, if_neg hn]; unfold gcdI; omega
    apply Classical.byContradiction
    intro h
    have : d * c ≤ 0 := Int.mul_nonpos_of_nonpos_of_nonneg (by omega) (by omega)
    omega
end Go.Proofs.YtpimiboiogfhbaaGreatDoor
namespace Go.Proofs.YtpimiboiogfhbaaGreatDoor
open Go.ChangeShapes Go.WideShapes Go.ChangeAt Go.RowKit
theorem belowSet3 {N : Nat} {w W : World} (h : Below N w W) (g : Nat) (hg : N ≤ g) (u0 u1 u2 : Value) : Below N w (((W.setCell ⟨g, 0, none⟩ u0).setCell ⟨g, 1, none⟩ u1).setCell ⟨g, 2, none⟩ u2) :=
  ((h.setCell (p := ⟨g, 0, none⟩) hg u0).setCell (p := ⟨g, 1, none⟩) hg u1).setCell (p := ⟨g, 2, none⟩) hg u2
/-- Where the first slash stands. -/
def IsCut (s : ByteArray) (k : Option Nat) : Prop :=
  match k with
  | none => ∀ j : Nat, s.data.toList[j]? ≠ some 47
  | some i => s.data.toList[i]? = some 47 ∧ ∀ j : Nat, j < i → s.data.toList[j]? ≠ some 47
def cutI (k : Option Nat) : Int := match k with | none => -1 | some i => (i : Int)
theorem isCut_unique {s : ByteArray} {k m : Option Nat} (h : IsCut s k) (h' : IsCut s m) : k = m := by
  match k, m, h, h' with
  | none, none, _, _ => rfl
  | none, some i, h, h' => exact absurd h'.1 (h i)
  | some i, none, h, h' => exact absurd h.1 (h' i)
  | some i, some j, h, h' =>
    rcases Nat.lt_trichotomy i j with hl | hl | hl
    · exact absurd h.1 (h'.2 i hl)
    · rw [hl]
    · exact absurd h'.1 (h.2 j hl)
theorem isCut_ex (s : ByteArray) : ∃ k, IsCut s k := by
  have hge := Lib.indexByte_ge s.data.toList 47
  by_cases h : Lib.indexByte s.data.toList 47 = -1
  · exact ⟨none, fun j => Lib.indexByte_none h j⟩
  · obtain ⟨o, ho⟩ := Int.eq_ofNat_of_zero_le (show 0 ≤ Lib.indexByte s.data.toList 47 by omega)
    exact ⟨some o, Lib.indexByte_some ho⟩
theorem isCut_index {s : ByteArray} {k : Option Nat} (h : IsCut s k) : Lib.indexByte s.data.toList 47 = cutI k := by
  have hge := Lib.indexByte_ge s.data.toList 47
  by_cases h1 : Lib.indexByte s.data.toList 47 = -1
  · have : k = none := isCut_unique h (show IsCut s none from fun j => Lib.indexByte_none h1 j)
    rw [this, h1]; rfl
  · obtain ⟨o, ho⟩ := Int.eq_ofNat_of_zero_le (show 0 ≤ Lib.indexByte s.data.toList 47 by omega)
    have : k = some o := isCut_unique h (show IsCut s (some o) from Lib.indexByte_some ho)
    rw [this, ho]; rfl
theorem isCut_lt {s : ByteArray} {i : Nat} (h : IsCut s (some i)) : i < s.size := by
  have := h.1
  rw [List.getElem?_eq_some_iff] at this
  obtain ⟨hl, _⟩ := this
  simpa using hl
set_option maxRecDepth 100000 in
set_option maxHeartbeats 1000000 in
theorem indexByte_any (s : ByteArray) (c : Int) (w : World) :
    Calls Tryz.prog 109 #[.string s, .int .u8 c] w fun e w' => e = .returned (.int .i64 (Lib.indexByte s.data.toList c.toNat.toUInt8)) ∧ w' = w := by
  go_enter Tryz.func109, Tryz.ntmps109
  go_wp2
  rw [run_callFunc_extern Tryz.func121 (by kernel_rfl) (by kernel_rfl) (by kernel_rfl) (e := Extern.BytealgIndexByte.indexByte) (by kernel_rfl), Lib.run_indexByteString]
  simp only [Result.andThen]
  rw [Oper.upon_value]
  go_wp2
  go_ret
  exact ⟨rfl, rfl⟩
set_option maxRecDepth 100000 in
set_option maxHeartbeats 1000000 in
theorem index_slash (s : ByteArray) (k : Option Nat) (w : World) (h : IsCut s k) :
    Calls Tryz.prog 98 #[.string s, .string ⟨#[47]⟩] w fun e w' => e = .returned (.int .i64 (cutI k)) ∧ w' = w := by
  have hi := isCut_index h
  have HI : Hid (Lib.indexByte s.data.toList ((47 : Int).toNat.toUInt8) = cutI k) := hi
  clear hi
  cases hq : ([47] == s.toList)
  · go_enter Tryz.func98, Tryz.ntmps98
    go_wp2_with fail
    refine (indexByte_any s _ _).mono ?_
    rintro e w' ⟨rfl, hw'⟩
    subst hw'
    have e0 : Lib.indexByte s.data.toList (Int.toNat ((((⟨#[47]⟩ : ByteArray)[0]'(by decide)).toNat : Nat) : Int)).toUInt8 = cutI k := HI.out
    rw [e0]
    go_wp2
    go_ret
    exact ⟨rfl, rfl⟩
  · have hk : cutI k = 0 := by
      have h1 : s.toList = [47] := (by simpa using hq : [47] = s.toList).symm
      rw [ByteArray.toList_eq] at h1
      have : k = some 0 := isCut_unique h (show IsCut s (some 0) from ⟨by rw [h1]; rfl, fun j hj => by omega⟩)
      rw [this]; rfl
    have HK := Hid.out (p := cutI k = 0) hk
    clear hk
    have HK2 : Hid (cutI k = 0) := HK
    clear HK
    go_enter Tryz.func98, Tryz.ntmps98
    go_wp2_with fail
    go_ret
    exact ⟨by rw [HK2.out]; rfl, rfl⟩
/-- What stands ahead of the slash, and behind it. -/
def cutP (s : ByteArray) (k : Option Nat) : ByteArray := match k with | none => s | some i => s.extract 0 i
def cutQ (s : ByteArray) (k : Option Nat) : ByteArray := match k with | none => ⟨#[]⟩ | some i => s.extract (i + 1) s.size
set_option maxRecDepth 100000 in
set_option maxHeartbeats 1000000 in
theorem cutS_any (s : ByteArray) (k : Option Nat) (w : World) (hs : s.size ≤ maxLen) (h : IsCut s k) :
    Calls Tryz.prog 94 #[.string s, .string ⟨#[47]⟩] w fun e w' => e = .returned (.tuple #[.string (cutP s k), .string (cutQ s k), .bool k.isSome]) ∧ Below w.heap.size w w' := by
  have H := Hid.out (p := IsCut s k) h
  have HC : Hid (IsCut s k) := H
  clear H h
  unfold maxLen at hs
  cases k with
  | none =>
    go_enter Tryz.func94, Tryz.ntmps94
    go_wp2_with fail
    refine (index_slash s none _ HC.out).mono ?_
    rintro e w' ⟨rfl, hw'⟩
    subst hw'
    have e1 : cutI none = -1 := rfl
    rw [e1]
    go_wp2
    go_ret3
    exact ⟨rfl, Below.refl _ _⟩
  | some i =>
    have hi := isCut_lt HC.out
    go_enter Tryz.func94, Tryz.ntmps94
    go_wp2_with fail
    refine (index_slash s (some i) _ HC.out).mono ?_
    rintro e w' ⟨rfl, hw'⟩
    subst hw'
    have e1 : cutI (some i) = (i : Int) := rfl
    rw [e1]
    go_wp2
    go_region
    go_wp2
    go_ret3
    exact ⟨rfl, (Below.refl _ _).drew⟩
set_option maxRecDepth 100000 in
set_option maxHeartbeats 1000000 in
theorem cut_any (s : ByteArray) (k : Option Nat) (w : World) (hs : s.size ≤ maxLen) (h : IsCut s k) :
    Calls Tryz.prog 80 #[.string s, .string ⟨#[47]⟩] w fun e w' => e = .returned (.tuple #[.string (cutP s k), .string (cutQ s k), .bool k.isSome]) ∧ Below w.heap.size w w' := by
  have HC : Hid (IsCut s k) := h
  clear h
  go_enter Tryz.func80, Tryz.ntmps80
  go_wp2_with fail
  refine (cutS_any s k _ hs HC.out).mono ?_
  rintro e w' ⟨rfl, hb⟩
  have HB : Hid (Below w.heap.size w w') := hb
  clear hb
  go_wp2
  go_ret3
  exact ⟨rfl, HB.out⟩
set_option maxRecDepth 100000 in
set_option maxHeartbeats 1000000 in
theorem cutForm_any (s : ByteArray) (k : Option Nat) (w : World) (hs : s.size ≤ maxLen) (h : IsCut s k) :
    Calls Tryz.prog 56 #[.string s] w fun e w' => e = .returned (.agg #[.string (cutP s k), .bool k.isSome, .string (cutQ s k)]) ∧ Below w.heap.size w w' := by
  have HC : Hid (IsCut s k) := h
  obtain ⟨p, hp⟩ : ∃ p, cutP s k = p := ⟨_, rfl⟩
  obtain ⟨q, hq⟩ : ∃ q, cutQ s k = q := ⟨_, rfl⟩
  obtain ⟨b, hb⟩ : ∃ b, k.isSome = b := ⟨_, rfl⟩
  have HP : Hid (cutP s k = p ∧ cutQ s k = q ∧ k.isSome = b) := ⟨hp, hq, hb⟩
  rw [hp, hq, hb]
  clear h hp hq hb
  obtain ⟨W0, hW0⟩ : ∃ W0, w.alloc (.cells #[.string ⟨#[]⟩, .bool false, .string ⟨#[]⟩] 91) = W0 := ⟨_, rfl⟩
  have HW0 : Hid (w.alloc (.cells #[.string ⟨#[]⟩, .bool false, .string ⟨#[]⟩] 91) = W0) := hW0
  have hbx : Bx W0 w.heap.size [.string ⟨#[]⟩, .bool false, .string ⟨#[]⟩] := by rw [← hW0]; exact bx_new w _ _
  have HB0 : Hid (Below w.heap.size w W0) := by show Below w.heap.size w W0; rw [← hW0]; exact below_alloc _ _
  have HBX : Hid (∀ W, Below W0.heap.size W0 W → Bx W w.heap.size [.string ⟨#[]⟩, .bool false, .string ⟨#[]⟩]) := fun W hW => hbx.below hbx.lt hW
  clear hW0 hbx
  go_enter Tryz.func56, Tryz.ntmps56
  go_wp2_with fail
  rw [HW0.out]
  refine (cut_any s k _ hs HC.out).mono ?_
  rintro e w1 ⟨rfl, hb1⟩
  rw [HP.out.1, HP.out.2.1, HP.out.2.2]
  have HB1 : Hid (Below W0.heap.size W0 w1) := hb1
  have hb := HBX.out w1 hb1
  have k0 := hb.cell 0
  have k1 := hb.cell 1
  have k2 := hb.cell 2
  simp only [List.getElem?_cons_zero, List.getElem?_cons_succ] at k0 k1 k2
  have r0 := hb.frozen 0
  have r1 := hb.frozen 1
  have r2 := hb.frozen 2
  clear hb1 hb
  go_wp2
  have hbw := HBX.out w1 HB1.out
  have hZ : Bx (((w1.setCell ⟨w.heap.size, 0, none⟩ (.string p)).setCell ⟨w.heap.size, 1, none⟩ (.bool b)).setCell ⟨w.heap.size, 2, none⟩ (.string q)) w.heap.size [.string p, .bool b, .string q] := ((hbw.set 0 _).set 1 _).set 2 _
  have hE := belowSet3 (HB0.out.trans (HB1.out.mono HB0.out.size)) w.heap.size (Nat.le_refl _) (.string p) (.bool b) (.string q)
  generalize ((w1.setCell ⟨w.heap.size, 0, none⟩ (.string p)).setCell ⟨w.heap.size, 1, none⟩ (.bool b)).setCell ⟨w.heap.size, 2, none⟩ (.string q) = WE at *
  have m0 := hZ.cell 0
  have m1 := hZ.cell 1
  have m2 := hZ.cell 2
  simp only [List.getElem?_cons_zero, List.getElem?_cons_succ] at m0 m1 m2
  refine bodyPost_ret (v := .agg #[.string p, .bool b, .string q]) ?_ rfl ⟨rfl, hE⟩
  simp [results, Tryz.results56, go_sem, m0, m1, m2]
set_option maxRecDepth 100000 in
set_option maxHeartbeats 1000000 in
theorem l2Cut_any (s : ByteArray) (k : Option Nat) (w : World) (hs : s.size ≤ maxLen) (h : IsCut s k) :
    Calls Tryz.prog 24 #[.string s] w fun e w' => e = .returned (.int .i64 (cutI k)) ∧ w' = w := by
  have HC : Hid (IsCut s k) := h
  clear h
  unfold maxLen at hs
  go_enter Tryz.func24, Tryz.ntmps24
  go_wp2
  go_loop [3] (fun iv => ∃ i : Nat, i ≤ s.size ∧ iv = .int .i64 (i : Nat) ∧ ∀ j : Nat, j < i → s.data.toList[j]? ≠ some 47) (fun iv => s.size - (intOf iv).toNat)
  case atStart => exact ⟨0, Nat.zero_le _, rfl, fun j hj => by omega⟩
  case round =>
    obtain ⟨i, hi, rfl, hno⟩ := hrel
    have HNO : Hid (∀ j : Nat, j < i → s.data.toList[j]? ≠ some 47) := hno
    clear hno
    by_cases hl : i < s.size
    · have hg : s.data.toList[i]? = some s[i] := by
        rw [List.getElem?_eq_getElem (by simpa using hl)]
        rfl
      by_cases hc : s[i] = 47
      · have HK : Hid (cutI k = (i : Int)) := by
          have : k = some i := isCut_unique HC.out (show IsCut s (some i) from ⟨by rw [hg, hc], HNO.out⟩)
          show cutI k = (i : Int)
          rw [this]; rfl
        have hz : (s[i].toNat : Int) = 47 := by rw [hc]; rfl
        have z : ((s[i].toNat : Int) == 47) = true := by rw [beq_iff_eq]; exact hz
        clear hg hc hz
        go_wp2
        go_ret
        exact ⟨ret_int HK.out.symm, rfl⟩
      · have HN2 : Hid (∀ j : Nat, j < i + 1 → s.data.toList[j]? ≠ some 47) := fun j hj => by
          by_cases hji : j = i
          · subst hji; rw [hg]; exact fun e => hc (Option.some.inj e)
          · exact HNO.out j (by omega)
        have z : ((s[i].toNat : Int) == 47) = false := by
          rw [beq_eq_false_iff_ne]
          intro e
          exact hc (UInt8.toNat_inj.1 (by have e2 : (47 : UInt8).toNat = 47 := rfl; omega))
        clear hg hc
        go_wp2
        go_round
        case rel => exact ⟨i + 1, by omega, by go_num, HN2.out⟩
        case measure => simp [intOf]; omega
    · have HK : Hid (cutI k = -1) := by
        have : k = none := isCut_unique HC.out (show IsCut s none from fun j => by
          by_cases hj : j < i
          · exact HNO.out j hj
          · rw [List.getElem?_eq_none (by simp; omega)]; simp)
        show cutI k = -1
        rw [this]; rfl
      go_wp2
      go_ret
      exact ⟨ret_int HK.out.symm, rfl⟩
end Go.Proofs.YtpimiboiogfhbaaGreatDoor
namespace Go.Proofs.YtpimiboiogfhbaaGreatDoor
open Go.ChangeShapes Go.WideShapes Go.ChangeAt Go.RowKit
theorem sg_zero_iff (n : Bool) (l : List Nat) (ht : isTrim l) : sg n (val l) = 0 ↔ l = [] := by
  constructor
  · intro h
    apply Classical.byContradiction
    intro hne
    have := val_pos l ht hne
    cases n <;> simp [sg] at h <;> omega
  · rintro rfl
    cases n <;> simp [sg, val]
theorem dividedBy_any (B : Nat) (za zb : Value) (x y : Int) (n m : Nat) (w : World) (hBw : B ≤ w.heap.size) (ha : IsI B w za x n) (hb : IsI B w zb y m) (hy : y ≠ 0) (hn : n ≤ 90000) (hm : m ≤ 90000) (hSP : SP w) :
    Calls Tryz.prog 83 #[za, zb] w fun e w' => ∃ z1 z2 q r, e = .returned (.tuple #[z1, z2]) ∧ IsI B w' z1 q (n + 2) ∧ IsI B w' z2 r (m + 3) ∧ IsDiv x y q r ∧ Below w.heap.size w w' := by
  obtain ⟨na, va, a, rfl, hva, ta, rfl, hla⟩ := ha
  obtain ⟨nb, vb, b, rfl, hvb, tb, rfl, hlb⟩ := hb
  have hne : b ≠ [] := fun h => hy ((sg_zero_iff nb b tb).2 h)
  rw [← sg_negOf na a, ← sg_negOf nb b]
  refine (divided_raw B _ _ va vb a b w hBw hva hvb (by omega) (by omega) ta tb hne hSP).mono ?_
  rintro e w' ⟨z1, z2, q, r, h1, h2, h3, h4, h5⟩
  exact ⟨z1, z2, q, r, h1, h2.mono (Nat.le_refl _) (by omega), h3.mono (Nat.le_refl _) (by omega), h4, h5⟩
/-- What both sides of IntDiv answer. -/
def IsResD (s t u v : ByteArray) : Prop := if isIntB s = true ∧ isIntB t = true ∧ numT t ≠ 0 then ∃ q r, IsDiv (numT s) (numT t) q r ∧ IsText q u ∧ IsText r v else u = strB [] ∧ v = strB []
theorem IsResD.eq {s t u v u' v' : ByteArray} (h : IsResD s t u v) (h' : IsResD s t u' v') : u = u' ∧ v = v' := by
  unfold IsResD at h h'
  split at h
  · rename_i hc
    rw [if_pos hc] at h'
    obtain ⟨q, r, h1, h2, h3⟩ := h
    obtain ⟨q', r', k1, k2, k3⟩ := h'
    obtain ⟨rfl, rfl⟩ := isDiv_unique h1 k1
    exact ⟨h2.eq k2, h3.eq k3⟩
  · rename_i hc
    rw [if_neg hc] at h'
    exact ⟨by rw [h.1, h'.1], by rw [h.2, h'.2]⟩
end Go.Proofs.YtpimiboiogfhbaaGreatDoor
namespace Go.Proofs.YtpimiboiogfhbaaGreatDoor
open Go.ChangeShapes Go.WideShapes Go.ChangeAt Go.RowKit
/-- A block with no limbs keeps the limbs of others where it is written. -/
theorem noInt_of {W : World} {g : Nat} {l : List Value} (h : Bx W g l) (hl : ∀ v ∈ l, ∀ x, v ≠ .int .u32 x) : NoInt W g := fun i x => by
  rw [h.cell i]
  intro e
  exact hl _ (List.mem_of_getElem? e) x rfl
theorem IsL.put2 {B : Nat} {W : World} {v : Value} {l : List Nat} (h : IsL B W v l) {g : Nat} (n : NoInt W g) (u0 u1 : Value) : IsL B ((W.setCell ⟨g, 0, none⟩ u0).setCell ⟨g, 1, none⟩ u1) v l :=
  h.keeps n n (Keeps.setCell (Keeps.setCell (Keeps.refl g g W) ⟨g, 0, none⟩ u0 (Or.inl rfl)) ⟨g, 1, none⟩ u1 (Or.inl rfl))
theorem set2 {N : Nat} {w W : World} (h : Below N w W) (g : Nat) (hg : N ≤ g) (u0 u1 : Value) : Below N w ((W.setCell ⟨g, 0, none⟩ u0).setCell ⟨g, 1, none⟩ u1) :=
  (h.setCell (p := ⟨g, 0, none⟩) hg u0).setCell (p := ⟨g, 1, none⟩) hg u1
set_option maxRecDepth 100000 in
set_option maxHeartbeats 1000000 in
theorem wholeNumber_any (n : Nat) (w : World) (hn : n < 18446744073709551616) :
    Calls Tryz.prog 35 #[.int .u64 (n : Nat)] w fun e w' => ∃ z, e = .returned z ∧ IsI w.heap.size w' z (n : Nat) 3 ∧ Below w.heap.size w w' := by
  obtain ⟨W0, hW0⟩ : ∃ W0, w.alloc (.cells #[.bool false, .slice none 0 0] 52) = W0 := ⟨_, rfl⟩
  have HW0 := hidG hW0
  have hbx : Bx W0 w.heap.size [.bool false, .slice none 0 0] := by rw [← hW0]; exact bx_new w _ _
  have HB0 : Hid (Below w.heap.size w W0) := by show Below w.heap.size w W0; rw [← hW0]; exact below_alloc _ _
  have HBX : Hid (∀ W, Below W0.heap.size W0 W → Bx W w.heap.size [.bool false, .slice none 0 0]) := fun W hW => hbx.below hbx.lt hW
  clear hW0 hbx
  go_enter Tryz.func35, Tryz.ntmps35
  go_wp2_with fail
  rw [HW0.out]
  refine (limbsOf_trim n _ hn).mono ?_
  rintro e w1 ⟨v, t, rfl, hv, ht, hvt, hlt, hb1⟩
  have HV := hidG hv
  have HB1 := hidG hb1
  have HT : Hid (isTrim t ∧ val t = n ∧ t.length ≤ 3) := ⟨ht, hvt, hlt⟩
  obtain ⟨pv, cv, hvv, _⟩ := hv
  subst hvv
  clear ht hvt hlt hb1
  go_wp2_with fail
  refine (makeInteger_any W0.heap.size false _ t _ HV.out).mono ?_
  rintro e w2 ⟨v', rfl, hcut, hb2⟩
  have HV2 : Hid (IsL W0.heap.size w2 v' t) := by
    have h := hcut _ _ (HV.out.below hb2)
    rw [trimL_of_trim t HT.out.1] at h
    exact h
  have HB2 := hidG (HB1.out.trans (hb2.mono HB1.out.size))
  have e1 : negOf false (trimL t) = false := by unfold negOf; rfl
  rw [e1]
  have hb := HBX.out w2 HB2.out
  have k0 := hb.cell 0
  have k1 := hb.cell 1
  simp only [List.getElem?_cons_zero, List.getElem?_cons_succ] at k0 k1
  have r0 := hb.frozen 0
  have r1 := hb.frozen 1
  obtain ⟨p2, c2, hv2, _⟩ := HV2.out
  subst hv2
  clear hcut hb2 hb e1
  go_wp2
  have hbw := HBX.out w2 HB2.out
  have hno := noInt_of hbw (by simp)
  have hLL := (HV2.out.mono HB0.out.size).put2 hno (.bool false) (.slice p2 t.length c2)
  have hZ : Bx ((w2.setCell ⟨w.heap.size, 0, none⟩ (.bool false)).setCell ⟨w.heap.size, 1, none⟩ (.slice p2 t.length c2)) w.heap.size [.bool false, .slice p2 t.length c2] := (hbw.set 0 _).set 1 _
  have hE := set2 (HB0.out.trans (HB2.out.mono HB0.out.size)) w.heap.size (Nat.le_refl _) (.bool false) (.slice p2 t.length c2)
  generalize (w2.setCell ⟨w.heap.size, 0, none⟩ (.bool false)).setCell ⟨w.heap.size, 1, none⟩ (.slice p2 t.length c2) = WE at *
  have m0 := hZ.cell 0
  have m1 := hZ.cell 1
  simp only [List.getElem?_cons_zero, List.getElem?_cons_succ] at m0 m1
  refine bodyPost_ret (v := .agg #[.bool false, .slice p2 t.length c2]) ?_ rfl ⟨_, rfl, ⟨false, _, t, by unfold negOf; rfl, hLL, HT.out.1, by rw [HT.out.2.1]; rfl, HT.out.2.2⟩, hE⟩
  simp [results, Tryz.results35, go_sem, m0, m1]
/-- The program's rational number, by value: x over y. -/
def IsQR (B : Nat) (w : World) (z : Value) (x y : Int) (n : Nat) : Prop := ∃ s1 v1 s2 v2, z = .agg #[.bool s1, v1, .bool s2, v2] ∧ IsI B w (.agg #[.bool s1, v1]) x n ∧ IsI B w (.agg #[.bool s2, v2]) y n
theorem IsQR.below {B : Nat} {w w' : World} {z : Value} {x y : Int} {n : Nat} (h : IsQR B w z x y n) (hb : Below w.heap.size w w') : IsQR B w' z x y n := by
  obtain ⟨s1, v1, s2, v2, e, h1, h2⟩ := h
  exact ⟨s1, v1, s2, v2, e, h1.below hb, h2.below hb⟩
theorem IsI.parts {B : Nat} {w : World} {s : Bool} {v : Value} {x : Int} {n : Nat} (h : IsI B w (.agg #[.bool s, v]) x n) : ∃ neg t, s = negOf neg t ∧ IsL B w v t ∧ isTrim t ∧ sg neg (val t) = x ∧ t.length ≤ n := by
  obtain ⟨neg, v', t, e, h1, h2, h3, h4⟩ := h
  simp only [Value.agg.injEq, Array.mk.injEq, List.cons.injEq, Value.bool.injEq, and_true] at e
  obtain ⟨rfl, rfl⟩ := e
  exact ⟨neg, t, rfl, h1, h2, h3, h4⟩
theorem ordI_zero (x y : Int) : (ordI x y == 0) = decide (x = y) := by
  unfold ordI
  split
  · rename_i h; have : x ≠ y := by omega
    simp [this]
  · split
    · rename_i h; have : x ≠ y := by omega
      simp [this]
    · rename_i h1 h2; have : x = y := by omega
      simp [this]
set_option maxRecDepth 100000 in
set_option maxHeartbeats 1000000 in
theorem isWhole_any (B : Nat) (z : Value) (x y : Int) (n : Nat) (w : World) (hBw : B ≤ w.heap.size) (h : IsQR B w z x y n) (hSP : SP w) :
    Calls Tryz.prog 84 #[z] w fun e w' => e = .returned (.bool (decide (y = 1))) ∧ Below w.heap.size w w' := by
  obtain ⟨s1, v1, s2, v2, rfl, h1, h2⟩ := h
  obtain ⟨n1, t1, rfl, hL1, _, _, _⟩ := h1.parts
  obtain ⟨n2, t2, rfl, hL2, tr2, e2, _⟩ := h2.parts
  have HL2 := hidG hL2
  have HSP := hidG hSP
  have HBW := hidG hBw
  have HT : Hid (isTrim t2 ∧ sg n2 (val t2) = y) := ⟨tr2, e2⟩
  obtain ⟨p1, c1, rfl, _, _, o1, _⟩ := hL1
  obtain ⟨p2, c2, rfl, _, _, o2, _⟩ := hL2
  have HO : Hid (okL t2) := o2
  clear hSP hBw tr2 e2 h1 h2 o1 o2
  obtain ⟨W0, hW0⟩ : ∃ W0, w.alloc (.cells #[.bool (negOf n1 t1), .slice p1 t1.length c1, .bool (negOf n2 t2), .slice p2 t2.length c2] 70) = W0 := ⟨_, rfl⟩
  have HW0 := hidG hW0
  have hbx : Bx W0 w.heap.size [.bool (negOf n1 t1), .slice p1 t1.length c1, .bool (negOf n2 t2), .slice p2 t2.length c2] := by rw [← hW0]; exact bx_new w _ _
  have HB0 : Hid (Below w.heap.size w W0) := by show Below w.heap.size w W0; rw [← hW0]; exact below_alloc _ _
  have HBX : Hid (∀ W, Below W0.heap.size W0 W → Bx W w.heap.size [.bool (negOf n1 t1), .slice p1 t1.length c1, .bool (negOf n2 t2), .slice p2 t2.length c2]) := fun W hW => hbx.below hbx.lt hW
  clear hW0 hbx
  go_enter Tryz.func84, Tryz.ntmps84
  go_upto_region 1 with fail
  rw [HW0.out]
  have hb0 := HBX.out W0 (Below.refl _ _)
  have k0 := hb0.cell 0
  have k1 := hb0.cell 1
  have k2 := hb0.cell 2
  have k3 := hb0.cell 3
  simp only [List.getElem?_cons_zero, List.getElem?_cons_succ] at k0 k1 k2 k3
  clear hb0
  go_region_with (first
    | (go_at_call 35
       refine (wholeNumber_any 1 _ (by decide)).mono ?_
       rintro e w1 ⟨z, rfl, hz, hb1⟩
       have HB1 : Hid (Below W0.heap.size W0 w1) := (Below.refl _ W0).drew.trans hb1
       obtain ⟨nz, vz, tz, rfl, hzL, hzt, hzv, _⟩ := hz
       have HZ : Hid (IsL W0.heap.size w1 vz tz ∧ isTrim tz ∧ sg nz (val tz) = 1) := ⟨hzL, hzt, hzv⟩
       obtain ⟨pz, cz, rfl, _, _, oz, _⟩ := hzL
       have HOZ : Hid (okL tz) := oz
       have hb0 := HBX.out w1 HB1.out
       have j2 := hb0.cell 2
       have j3 := hb0.cell 3
       simp only [List.getElem?_cons_zero, List.getElem?_cons_succ] at j2 j3
       clear hzt hzv hb1 oz hb0)
    | (go_at_call 40
       refine (compare_any B _ _ _ _ t2 tz _ (HL2.out.below (HB0.out.trans (HB1.out.mono HB0.out.size))) (HZ.out.1.mono (by have := HBW.out; have := HB0.out.size; omega)) (HSP.out.below (HB0.out.trans (HB1.out.mono HB0.out.size)))).mono ?_
       rintro e w2 ⟨rfl, hb2⟩
       have HB2 : Hid (Below w.heap.size w w2) := HB0.out.trans ((HB1.out.trans (hb2.mono HB1.out.size)).mono HB0.out.size)
       rw [cmpI_ord n2 nz t2 tz HO.out HOZ.out HT.out.1 HZ.out.2.1, HT.out.2, HZ.out.2.2]
       clear hb2))
  all_goals
    try simp only [List.getElem_toArray, List.getElem_cons_succ, List.getElem_cons_zero, Act.put, List.setIfInBounds_toArray, List.set_cons_succ, List.set_cons_zero]
    go_wp2
    go_ret
    exact ⟨ret_bool (ordI_zero y 1), HB2.out⟩
end Go.Proofs.YtpimiboiogfhbaaGreatDoor
namespace Go.Proofs.YtpimiboiogfhbaaGreatDoor
open Go.ChangeShapes Go.WideShapes Go.ChangeAt Go.RowKit
theorem IsI.put2 {B : Nat} {W : World} {z : Value} {x : Int} {n : Nat} (h : IsI B W z x n) {g : Nat} (no : NoInt W g) (u0 u1 : Value) : IsI B ((W.setCell ⟨g, 0, none⟩ u0).setCell ⟨g, 1, none⟩ u1) z x n := by
  obtain ⟨neg, v, t, e, h1, h2, h3, h4⟩ := h
  exact ⟨neg, v, t, e, h1.put2 no u0 u1, h2, h3, h4⟩
theorem IsL.put4 {B : Nat} {W : World} {v : Value} {l : List Nat} (h : IsL B W v l) {g : Nat} (n : NoInt W g) (u0 u1 u2 u3 : Value) : IsL B ((((W.setCell ⟨g, 0, none⟩ u0).setCell ⟨g, 1, none⟩ u1).setCell ⟨g, 2, none⟩ u2).setCell ⟨g, 3, none⟩ u3) v l :=
  h.keeps n n (Keeps.setCell (Keeps.setCell (Keeps.setCell (Keeps.setCell (Keeps.refl g g W) ⟨g, 0, none⟩ u0 (Or.inl rfl)) ⟨g, 1, none⟩ u1 (Or.inl rfl)) ⟨g, 2, none⟩ u2 (Or.inl rfl)) ⟨g, 3, none⟩ u3 (Or.inl rfl))
theorem IsI.put4 {B : Nat} {W : World} {z : Value} {x : Int} {n : Nat} (h : IsI B W z x n) {g : Nat} (no : NoInt W g) (u0 u1 u2 u3 : Value) : IsI B ((((W.setCell ⟨g, 0, none⟩ u0).setCell ⟨g, 1, none⟩ u1).setCell ⟨g, 2, none⟩ u2).setCell ⟨g, 3, none⟩ u3) z x n := by
  obtain ⟨neg, v, t, e, h1, h2, h3, h4⟩ := h
  exact ⟨neg, v, t, e, h1.put4 no u0 u1 u2 u3, h2, h3, h4⟩
theorem set4 {N : Nat} {w W : World} (h : Below N w W) (g : Nat) (hg : N ≤ g) (u0 u1 u2 u3 : Value) : Below N w ((((W.setCell ⟨g, 0, none⟩ u0).setCell ⟨g, 1, none⟩ u1).setCell ⟨g, 2, none⟩ u2).setCell ⟨g, 3, none⟩ u3) :=
  (set2 h g hg u0 u1).setCell (p := ⟨g, 2, none⟩) hg u2 |>.setCell (p := ⟨g, 3, none⟩) hg u3
theorem Bx.put2 {W : World} {g : Nat} {a b : Value} (h : Bx W g [a, b]) (u0 u1 : Value) : Bx ((W.setCell ⟨g, 0, none⟩ u0).setCell ⟨g, 1, none⟩ u1) g [u0, u1] := (h.set 0 u0).set 1 u1
theorem Bx.off2 {W : World} {g : Nat} {l : List Value} (h : Bx W g l) {k : Nat} (hk : k ≠ g) (u0 u1 : Value) : Bx ((W.setCell ⟨k, 0, none⟩ u0).setCell ⟨k, 1, none⟩ u1) g l := (h.other ⟨k, 0, none⟩ hk u0).other ⟨k, 1, none⟩ hk u1
/-- The boxes of makeRational. -/
structure BxM (h hc : Nat) (W : World) (s1 : Bool) (v1 : Value) (s2 : Bool) (v2 : Value) (s3 : Bool) (v3 : Value) : Prop where
  a : Bx W h [.bool s1, v1]
  b : Bx W (h + 1) [.bool s2, v2]
  r : Bx W (h + 1 + 1) [.bool false, .slice none 0 0, .bool false, .slice none 0 0]
  c : Bx W hc [.bool s3, v3]
theorem BxM.below {h hc N : Nat} {W W' : World} {s1 s2 s3 : Bool} {v1 v2 v3 : Value} (m : BxM h hc W s1 v1 s2 v2 s3 v3) (hN : h + 3 ≤ N) (hc' : hc < N) (hb : Below N W W') : BxM h hc W' s1 v1 s2 v2 s3 v3 :=
  ⟨m.a.below (by omega) hb, m.b.below (by omega) hb, m.r.below (by omega) hb, m.c.below hc' hb⟩
theorem BxM.cells {h hc : Nat} {W : World} {s1 s2 s3 : Bool} {v1 v2 v3 : Value} (m : BxM h hc W s1 v1 s2 v2 s3 v3) :
    (W.cell? ⟨h, 0, none⟩ = some (.bool s1) ∧ W.cell? ⟨h, 1, none⟩ = some v1 ∧ ∀ i, W.frozen? ⟨h, i, none⟩ = false) ∧ (W.cell? ⟨h + 1, 0, none⟩ = some (.bool s2) ∧ W.cell? ⟨h + 1, 1, none⟩ = some v2 ∧ ∀ i, W.frozen? ⟨h + 1, i, none⟩ = false) ∧
    (W.cell? ⟨hc, 0, none⟩ = some (.bool s3) ∧ W.cell? ⟨hc, 1, none⟩ = some v3 ∧ ∀ i, W.frozen? ⟨hc, i, none⟩ = false) :=
  ⟨⟨m.a.cell 0, m.a.cell 1, m.a.frozen⟩, ⟨m.b.cell 0, m.b.cell 1, m.b.frozen⟩, ⟨m.c.cell 0, m.c.cell 1, m.c.frozen⟩⟩
theorem noInt2 {W : World} {g : Nat} {s : Bool} {p : Option Addr} {l c : Nat} (h : Bx W g [.bool s, .slice p l c]) : NoInt W g := noInt_of h (by simp)
theorem neg_iff (neg : Bool) (t : List Nat) (y : Int) (ht : isTrim t) (h : sg neg (val t) = y) : negOf neg t = decide (y < 0) := by
  unfold negOf
  by_cases hl : t = []
  · subst hl
    have : y = 0 := by rw [← h]; cases neg <;> simp [sg, val]
    subst this
    simp
  · have h1 := val_pos t ht hl
    have h2 : 0 < t.length := List.length_pos_iff.2 hl
    cases neg
    · have : ¬ y < 0 := by rw [← h]; simp [sg]
      simp [this]
    · have : y < 0 := by rw [← h]; simp [sg]; omega
      simp [this, h2]
set_option maxRecDepth 100000 in
set_option maxHeartbeats 2000000 in
theorem makeRational_any (B : Nat) (za zb : Value) (x y : Int) (n : Nat) (w : World) (hBw : B ≤ w.heap.size) (ha : IsI B w za x n) (hb : IsI B w zb y n) (hy : y ≠ 0) (hn : n ≤ 80000) (hSP : SP w) (hNS : NS w) :
    Calls Tryz.prog 60 #[za, zb] w fun e w' => ∃ z p q, e = .returned z ∧ IsQR B w' z p q (n + 3) ∧ IsLow x y p q ∧ Below w.heap.size w w' := by
  obtain ⟨s1, p1, l1, c1, rfl⟩ := ha.shape
  obtain ⟨s2, p2, l2, c2, rfl⟩ := hb.shape
  have hs2 : s2 = decide (y < 0) := by
    obtain ⟨neg, t, e, _, ht, hv, _⟩ := hb.parts
    rw [e]; exact neg_iff neg t y ht hv
  have HS2 := hidG hs2
  clear hs2
  have HA := hidG ha
  have HB := hidG hb
  have HSP := hidG hSP
  have HNS := hidG hNS
  have HBW := hidG hBw
  have HC : Hid (∀ c, c = (if y < 0 then -gcdI x y else gcdI x y) → c ≠ 0) := fun c e => by
    have hg : 0 < Int.gcd x y := Int.gcd_pos_of_ne_zero_right _ hy
    rw [e]; unfold gcdI; split <;> omega
  have HLOW : Hid (∀ c q r d r', c = (if y < 0 then -gcdI x y else gcdI x y) → IsDiv x c q r → IsDiv y c d r' → IsLow x y q d) := fun c q r d r' e h1 h2 => low_of_div x y c q r d r' hy e h1 h2
  clear ha hb hSP hNS hBw
  obtain ⟨W0, hW0⟩ : ∃ W0, ((w.alloc (.cells #[.bool s1, .slice p1 l1 c1] 52)).alloc (.cells #[.bool s2, .slice p2 l2 c2] 52)).alloc (.cells #[.bool false, .slice none 0 0, .bool false, .slice none 0 0] 70) = W0 := ⟨_, rfl⟩
  have HW0 := hidG hW0
  have hs0 : W0.heap.size = w.heap.size + 3 := by rw [← hW0]; simp
  have HS0 := hidG hs0
  have HB0 : Hid (Below w.heap.size w W0) := by
    show Below w.heap.size w W0
    rw [← hW0]; exact below_al (below_al (below_alloc _ _) _) _
  have hx1 : Bx W0 w.heap.size [.bool s1, .slice p1 l1 c1] := by rw [← hW0]; exact ((bx_new w _ _).alloc _).alloc _
  have hx2 : Bx W0 (w.heap.size + 1) [.bool s2, .slice p2 l2 c2] := by
    rw [← hW0]
    have h := bx_new (w.alloc (.cells #[.bool s1, .slice p1 l1 c1] 52)) [.bool s2, .slice p2 l2 c2] 52
    rw [World.size_alloc] at h
    exact h.alloc _
  have hx3 : Bx W0 (w.heap.size + 1 + 1) [.bool false, .slice none 0 0, .bool false, .slice none 0 0] := by
    rw [← hW0]
    have h := bx_new ((w.alloc (.cells #[.bool s1, .slice p1 l1 c1] 52)).alloc (.cells #[.bool s2, .slice p2 l2 c2] 52)) [.bool false, .slice none 0 0, .bool false, .slice none 0 0] 70
    rw [World.size_alloc, World.size_alloc] at h
    exact h
  have HX : Hid (Bx W0 w.heap.size [.bool s1, .slice p1 l1 c1] ∧ Bx W0 (w.heap.size + 1) [.bool s2, .slice p2 l2 c2] ∧ Bx W0 (w.heap.size + 1 + 1) [.bool false, .slice none 0 0, .bool false, .slice none 0 0]) := ⟨hx1, hx2, hx3⟩
  clear hW0 hs0 hx1 hx2 hx3
  go_enter Tryz.func60, Tryz.ntmps60
  go_wp2_with fail
  rw [HW0.out]
  refine (commonDivisor_any B _ _ x y n _ (by have := HBW.out; have := HS0.out; omega) (HA.out.below HB0.out) (HB.out.below HB0.out) (by omega) (HNS.out.below HB0.out)).mono ?_
  rintro e w1 ⟨z, rfl, hz, hb1⟩
  obtain ⟨s3, p3, l3, c3, rfl⟩ := hz.shape
  obtain ⟨W1, hW1⟩ : ∃ W1, w1.alloc (.cells #[.bool s3, .slice p3 l3 c3] 52) = W1 := ⟨_, rfl⟩
  have HW1 := hidG hW1
  have hB1' : Below w1.heap.size w1 W1 := by rw [← hW1]; exact below_alloc _ _
  have hx4 : Bx W1 w1.heap.size [.bool s3, .slice p3 l3 c3] := by rw [← hW1]; exact bx_new w1 _ _
  have hB01 : Below W0.heap.size W0 W1 := hb1.trans (hB1'.mono hb1.size)
  have HM : Hid (BxM w.heap.size w1.heap.size W1 s1 (.slice p1 l1 c1) s2 (.slice p2 l2 c2) s3 (.slice p3 l3 c3)) := ⟨HX.out.1.below HX.out.1.lt hB01, HX.out.2.1.below HX.out.2.1.lt hB01, HX.out.2.2.below HX.out.2.2.lt hB01, hx4⟩
  have HZ : Hid (IsI B W1 (.agg #[.bool s3, .slice p3 l3 c3]) (gcdI x y) n) := hz.below hB1'
  have HB1 : Hid (Below w.heap.size w W1) := HB0.out.trans (hB01.mono HB0.out.size)
  have hgc : w.heap.size + 3 ≤ w1.heap.size := by have := HS0.out; have := hb1.size; omega
  have hgW : w1.heap.size < W1.heap.size := hx4.lt
  clear hz hb1 hW1 hB1' hx4 hB01
  cases s2
  · have HCC : Hid (gcdI x y = if y < 0 then -gcdI x y else gcdI x y) := by
      have h : ¬ y < 0 := by simpa using HS2.out
      show gcdI x y = if y < 0 then -gcdI x y else gcdI x y
      rw [if_neg h]
    have k0 := HM.out.b.cell 0
    simp only [List.getElem?_cons_zero] at k0
    go_upto_region 2 with fail
    rw [HW1.out]
    clear k0
    have m1 := HM.out.cells
    obtain ⟨⟨a0, a1, af⟩, ⟨b0, b1, bf⟩, ⟨q0, q1, qf⟩⟩ := m1
    go_upto_region 5 with fail
    go_wp2_with fail
    refine (dividedBy_any B _ _ x (gcdI x y) n n _ (by have := HBW.out; have := HB1.out.size; omega) (HA.out.below HB1.out) HZ.out (HC.out _ HCC.out) (by omega) (by omega) (HSP.out.below HB1.out)).mono ?_
    rintro e w5 ⟨z1, z2, qn, qr, rfl, hz1, hz2, hdv, hb5⟩
    obtain ⟨s5, p5, l5, c5, rfl⟩ := hz1.shape
    obtain ⟨s6, p6, l6, c6, rfl⟩ := hz2.shape
    have HD5 := hidG hdv
    have HM5 := hidG (HM.out.below (N := W1.heap.size) (by omega) (by omega) hb5)
    have HZ5 := hidG hz1
    have HC5 := hidG (HZ.out.below hb5)
    have HB5 := hidG (HB1.out.trans (hb5.mono HB1.out.size))
    have hg5 : w1.heap.size < w5.heap.size := HM5.out.c.lt
    clear hz1 hz2 hdv hb5 a0 a1 af b0 b1 bf q0 q1 qf
    obtain ⟨⟨a0, a1, af⟩, ⟨b0, b1, bf⟩, ⟨q0, q1, qf⟩⟩ := HM5.out.cells
    have af0 := af 0
    have af1 := af 1
    clear af bf qf
    have hnA := noInt2 HM5.out.a
    obtain ⟨W6, hW6⟩ : ∃ W6, (w5.setCell ⟨w.heap.size, 0, none⟩ (.bool s5)).setCell ⟨w.heap.size, 1, none⟩ (.slice p5 l5 c5) = W6 := ⟨_, rfl⟩
    have HW6 := hidG hW6
    have HZ6 : Hid (IsI B W6 (.agg #[.bool s5, .slice p5 l5 c5]) qn (n + 2)) := by have h := HZ5.out.put2 hnA (.bool s5) (.slice p5 l5 c5); rw [hW6] at h; exact h
    have HC6 : Hid (IsI B W6 (.agg #[.bool s3, .slice p3 l3 c3]) (gcdI x y) n) := by have h := HC5.out.put2 hnA (.bool s5) (.slice p5 l5 c5); rw [hW6] at h; exact h
    have HD6 : Hid (IsI B W6 (.agg #[.bool false, .slice p2 l2 c2]) y n) := by have h := (HB.out.below HB5.out).put2 hnA (.bool s5) (.slice p5 l5 c5); rw [hW6] at h; exact h
    have HB6 : Hid (Below w.heap.size w W6) := by have h := set2 HB5.out w.heap.size (Nat.le_refl _) (.bool s5) (.slice p5 l5 c5); rw [hW6] at h; exact h
    have HM6 : Hid (BxM w.heap.size w1.heap.size W6 s5 (.slice p5 l5 c5) false (.slice p2 l2 c2) s3 (.slice p3 l3 c3)) := by
      have h1 := HM5.out.a.put2 (.bool s5) (.slice p5 l5 c5)
      have h2 := HM5.out.b.off2 (k := w.heap.size) (by omega) (.bool s5) (.slice p5 l5 c5)
      have h3 := HM5.out.r.off2 (k := w.heap.size) (by omega) (.bool s5) (.slice p5 l5 c5)
      have h4 := HM5.out.c.off2 (k := w.heap.size) (by omega) (.bool s5) (.slice p5 l5 c5)
      rw [hW6] at h1 h2 h3 h4
      exact ⟨h1, h2, h3, h4⟩
    have hg6 : w1.heap.size < W6.heap.size := HM6.out.c.lt
    clear hW6 hnA
    go_upto_region 6 with fail
    go_wp2_with fail
    rw [HW6.out]
    refine (dividedBy_any B _ _ y (gcdI x y) n n _ (by have := HBW.out; have := HB6.out.size; omega) HD6.out HC6.out (HC.out _ HCC.out) (by omega) (by omega) (HSP.out.below HB6.out)).mono ?_
    rintro e w7 ⟨z3, z4, dn, dr, rfl, hz3, hz4, hdv, hb7⟩
    obtain ⟨s7, p7, l7, c7, rfl⟩ := hz3.shape
    obtain ⟨s8, p8, l8, c8, rfl⟩ := hz4.shape
    have HLW := hidG (HLOW.out _ _ _ _ _ HCC.out HD5.out hdv)
    have HM7 := hidG (HM6.out.below (N := W6.heap.size) (by omega) (by omega) hb7)
    have HQ7 := hidG (HZ6.out.below hb7)
    have HD7 := hidG hz3
    have HB7 := hidG (HB6.out.trans (hb7.mono HB6.out.size))
    clear hz3 hz4 hdv hb7 a0 a1 b0 b1 q0 q1 af0 af1
    have hnB := noInt2 HM7.out.b
    obtain ⟨W8, hW8⟩ : ∃ W8, (w7.setCell ⟨w.heap.size + 1, 0, none⟩ (.bool s7)).setCell ⟨w.heap.size + 1, 1, none⟩ (.slice p7 l7 c7) = W8 := ⟨_, rfl⟩
    have HW8 := hidG hW8
    have HQ8 : Hid (IsI B W8 (.agg #[.bool s5, .slice p5 l5 c5]) qn (n + 2)) := by have h := HQ7.out.put2 hnB (.bool s7) (.slice p7 l7 c7); rw [hW8] at h; exact h
    have HD8 : Hid (IsI B W8 (.agg #[.bool s7, .slice p7 l7 c7]) dn (n + 2)) := by have h := HD7.out.put2 hnB (.bool s7) (.slice p7 l7 c7); rw [hW8] at h; exact h
    have HB8 : Hid (Below w.heap.size w W8) := by have h := set2 HB7.out (w.heap.size + 1) (Nat.le_succ _) (.bool s7) (.slice p7 l7 c7); rw [hW8] at h; exact h
    have HM8 : Hid (BxM w.heap.size w1.heap.size W8 s5 (.slice p5 l5 c5) s7 (.slice p7 l7 c7) s3 (.slice p3 l3 c3)) := by
      have h1 := HM7.out.a.off2 (k := w.heap.size + 1) (by omega) (.bool s7) (.slice p7 l7 c7)
      have h2 := HM7.out.b.put2 (.bool s7) (.slice p7 l7 c7)
      have h3 := HM7.out.r.off2 (k := w.heap.size + 1) (by omega) (.bool s7) (.slice p7 l7 c7)
      have h4 := HM7.out.c.off2 (k := w.heap.size + 1) (by omega) (.bool s7) (.slice p7 l7 c7)
      rw [hW8] at h1 h2 h3 h4
      exact ⟨h1, h2, h3, h4⟩
    clear hW8 hnB
    obtain ⟨_, ⟨b0, b1, bf⟩, _⟩ := HM7.out.cells
    have bf0 := bf 0
    have bf1 := bf 1
    clear bf
    go_upto_region 6 with fail
    rw [HW8.out]
    clear b0 b1 bf0 bf1
    obtain ⟨⟨a0, a1, _⟩, ⟨b0, b1, _⟩, _⟩ := HM8.out.cells
    have r0 := HM8.out.r.cell 0
    have r1 := HM8.out.r.cell 1
    have r2 := HM8.out.r.cell 2
    have r3 := HM8.out.r.cell 3
    simp only [List.getElem?_cons_zero, List.getElem?_cons_succ] at r0 r1 r2 r3
    have f0 := HM8.out.r.frozen 0
    have f1 := HM8.out.r.frozen 1
    have f2 := HM8.out.r.frozen 2
    have f3 := HM8.out.r.frozen 3
    go_wp2

    have hnR : NoInt W8 (w.heap.size + 1 + 1) := noInt_of HM8.out.r (by simp)
    have hQ9 := HQ8.out.put4 hnR (.bool s5) (.slice p5 l5 c5) (.bool s7) (.slice p7 l7 c7)
    have hD9 := HD8.out.put4 hnR (.bool s5) (.slice p5 l5 c5) (.bool s7) (.slice p7 l7 c7)
    have hB9 := set4 HB8.out (w.heap.size + 1 + 1) (by omega) (.bool s5) (.slice p5 l5 c5) (.bool s7) (.slice p7 l7 c7)
    have hZ : Bx ((((W8.setCell ⟨w.heap.size + 1 + 1, 0, none⟩ (.bool s5)).setCell ⟨w.heap.size + 1 + 1, 1, none⟩ (.slice p5 l5 c5)).setCell ⟨w.heap.size + 1 + 1, 2, none⟩ (.bool s7)).setCell ⟨w.heap.size + 1 + 1, 3, none⟩ (.slice p7 l7 c7)) (w.heap.size + 1 + 1) [.bool s5, .slice p5 l5 c5, .bool s7, .slice p7 l7 c7] := (((HM8.out.r.set 0 _).set 1 _).set 2 _).set 3 _
    generalize (((W8.setCell ⟨w.heap.size + 1 + 1, 0, none⟩ (.bool s5)).setCell ⟨w.heap.size + 1 + 1, 1, none⟩ (.slice p5 l5 c5)).setCell ⟨w.heap.size + 1 + 1, 2, none⟩ (.bool s7)).setCell ⟨w.heap.size + 1 + 1, 3, none⟩ (.slice p7 l7 c7) = W9 at *
    have m0 := hZ.cell 0
    have m1 := hZ.cell 1
    have m2 := hZ.cell 2
    have m3 := hZ.cell 3
    simp only [List.getElem?_cons_zero, List.getElem?_cons_succ] at m0 m1 m2 m3
    refine bodyPost_ret (v := .agg #[.bool s5, .slice p5 l5 c5, .bool s7, .slice p7 l7 c7]) ?_ rfl ⟨_, qn, dn, rfl, ⟨s5, _, s7, _, rfl, hQ9.mono (Nat.le_refl _) (by omega), hD9.mono (Nat.le_refl _) (by omega)⟩, HLW.out, hB9⟩
    simp [results, Tryz.results60, go_sem, m0, m1, m2, m3]
  · have HCC : Hid (-gcdI x y = if y < 0 then -gcdI x y else gcdI x y) := by
      have h : y < 0 := by simpa using HS2.out
      show -gcdI x y = if y < 0 then -gcdI x y else gcdI x y
      rw [if_pos h]
    have k0 := HM.out.b.cell 0
    simp only [List.getElem?_cons_zero] at k0
    obtain ⟨_, _, ⟨q0, q1, _⟩⟩ := HM.out.cells
    go_upto_region 2 with fail
    rw [HW1.out]
    go_wp2_with fail
    refine (negated_any B _ _ n _ HZ.out).mono ?_
    rintro e w2 ⟨z4, rfl, hz4, hb2⟩
    obtain ⟨s4, p4, l4, c4, rfl⟩ := hz4.shape
    have hm2 := HM.out.below (N := W1.heap.size) (by omega) (by omega) hb2
    have hnC := noInt2 hm2.c
    obtain ⟨W2, hW2⟩ : ∃ W2, (w2.setCell ⟨w1.heap.size, 0, none⟩ (.bool s4)).setCell ⟨w1.heap.size, 1, none⟩ (.slice p4 l4 c4) = W2 := ⟨_, rfl⟩
    have HW2 := hidG hW2
    have HZ2 : Hid (IsI B W2 (.agg #[.bool s4, .slice p4 l4 c4]) (-gcdI x y) n) := by have h := hz4.put2 hnC (.bool s4) (.slice p4 l4 c4); rw [hW2] at h; exact h
    have HB2 : Hid (Below w.heap.size w W2) := by have h := set2 (HB1.out.trans (hb2.mono HB1.out.size)) w1.heap.size (by omega) (.bool s4) (.slice p4 l4 c4); rw [hW2] at h; exact h
    have HM2 : Hid (BxM w.heap.size w1.heap.size W2 s1 (.slice p1 l1 c1) true (.slice p2 l2 c2) s4 (.slice p4 l4 c4)) := by
      have h1 := hm2.a.off2 (k := w1.heap.size) (by omega) (.bool s4) (.slice p4 l4 c4)
      have h2 := hm2.b.off2 (k := w1.heap.size) (by omega) (.bool s4) (.slice p4 l4 c4)
      have h3 := hm2.r.off2 (k := w1.heap.size) (by omega) (.bool s4) (.slice p4 l4 c4)
      have h4 := hm2.c.put2 (.bool s4) (.slice p4 l4 c4)
      rw [hW2] at h1 h2 h3 h4
      exact ⟨h1, h2, h3, h4⟩
    have hgW2 : w1.heap.size < W2.heap.size := HM2.out.c.lt
    have HCB : Hid (w2.frozen? ⟨w1.heap.size, 0, none⟩ = false ∧ w2.frozen? ⟨w1.heap.size, 1, none⟩ = false ∧ w2.cell? ⟨w1.heap.size, 0, none⟩ = some (.bool s3) ∧ w2.cell? ⟨w1.heap.size, 1, none⟩ = some (.slice p3 l3 c3)) := ⟨hm2.c.frozen 0, hm2.c.frozen 1, hm2.c.cell 0, hm2.c.cell 1⟩
    obtain ⟨g0, g1, g2, g3⟩ := HCB.out
    clear hz4 hb2 hm2 hnC hW2 k0 q0 q1 HCB
    go_upto_region 4 with fail
    rw [HW2.out]
    clear g0 g1 g2 g3
    have m1 := HM2.out.cells
    obtain ⟨⟨a0, a1, af⟩, ⟨b0, b1, bf⟩, ⟨q0, q1, qf⟩⟩ := m1
    go_upto_region 5 with fail
    go_wp2_with fail
    refine (dividedBy_any B _ _ x (-gcdI x y) n n _ (by have := HBW.out; have := HB2.out.size; omega) (HA.out.below HB2.out) HZ2.out (HC.out _ HCC.out) (by omega) (by omega) (HSP.out.below HB2.out)).mono ?_
    rintro e w5 ⟨z1, z2, qn, qr, rfl, hz1, hz2, hdv, hb5⟩
    obtain ⟨s5, p5, l5, c5, rfl⟩ := hz1.shape
    obtain ⟨s6, p6, l6, c6, rfl⟩ := hz2.shape
    have HD5 := hidG hdv
    have HM5 := hidG (HM2.out.below (N := W2.heap.size) (by omega) (by omega) hb5)
    have HZ5 := hidG hz1
    have HC5 := hidG (HZ2.out.below hb5)
    have HB5 := hidG (HB2.out.trans (hb5.mono HB2.out.size))
    have hg5 : w1.heap.size < w5.heap.size := HM5.out.c.lt
    clear hz1 hz2 hdv hb5 a0 a1 af b0 b1 bf q0 q1 qf
    obtain ⟨⟨a0, a1, af⟩, ⟨b0, b1, bf⟩, ⟨q0, q1, qf⟩⟩ := HM5.out.cells
    have af0 := af 0
    have af1 := af 1
    clear af bf qf
    have hnA := noInt2 HM5.out.a
    obtain ⟨W6, hW6⟩ : ∃ W6, (w5.setCell ⟨w.heap.size, 0, none⟩ (.bool s5)).setCell ⟨w.heap.size, 1, none⟩ (.slice p5 l5 c5) = W6 := ⟨_, rfl⟩
    have HW6 := hidG hW6
    have HZ6 : Hid (IsI B W6 (.agg #[.bool s5, .slice p5 l5 c5]) qn (n + 2)) := by have h := HZ5.out.put2 hnA (.bool s5) (.slice p5 l5 c5); rw [hW6] at h; exact h
    have HC6 : Hid (IsI B W6 (.agg #[.bool s4, .slice p4 l4 c4]) (-gcdI x y) n) := by have h := HC5.out.put2 hnA (.bool s5) (.slice p5 l5 c5); rw [hW6] at h; exact h
    have HD6 : Hid (IsI B W6 (.agg #[.bool true, .slice p2 l2 c2]) y n) := by have h := (HB.out.below HB5.out).put2 hnA (.bool s5) (.slice p5 l5 c5); rw [hW6] at h; exact h
    have HB6 : Hid (Below w.heap.size w W6) := by have h := set2 HB5.out w.heap.size (Nat.le_refl _) (.bool s5) (.slice p5 l5 c5); rw [hW6] at h; exact h
    have HM6 : Hid (BxM w.heap.size w1.heap.size W6 s5 (.slice p5 l5 c5) true (.slice p2 l2 c2) s4 (.slice p4 l4 c4)) := by
      have h1 := HM5.out.a.put2 (.bool s5) (.slice p5 l5 c5)
      have h2 := HM5.out.b.off2 (k := w.heap.size) (by omega) (.bool s5) (.slice p5 l5 c5)
      have h3 := HM5.out.r.off2 (k := w.heap.size) (by omega) (.bool s5) (.slice p5 l5 c5)
      have h4 := HM5.out.c.off2 (k := w.heap.size) (by omega) (.bool s5) (.slice p5 l5 c5)
      rw [hW6] at h1 h2 h3 h4
      exact ⟨h1, h2, h3, h4⟩
    have hg6 : w1.heap.size < W6.heap.size := HM6.out.c.lt
    clear hW6 hnA
    go_upto_region 6 with fail
    go_wp2_with fail
    rw [HW6.out]
    refine (dividedBy_any B _ _ y (-gcdI x y) n n _ (by have := HBW.out; have := HB6.out.size; omega) HD6.out HC6.out (HC.out _ HCC.out) (by omega) (by omega) (HSP.out.below HB6.out)).mono ?_
    rintro e w7 ⟨z3, z4, dn, dr, rfl, hz3, hz4, hdv, hb7⟩
    obtain ⟨s7, p7, l7, c7, rfl⟩ := hz3.shape
    obtain ⟨s8, p8, l8, c8, rfl⟩ := hz4.shape
    have HLW := hidG (HLOW.out _ _ _ _ _ HCC.out HD5.out hdv)
    have HM7 := hidG (HM6.out.below (N := W6.heap.size) (by omega) (by omega) hb7)
    have HQ7 := hidG (HZ6.out.below hb7)
    have HD7 := hidG hz3
    have HB7 := hidG (HB6.out.trans (hb7.mono HB6.out.size))
    clear hz3 hz4 hdv hb7 a0 a1 b0 b1 q0 q1 af0 af1
    have hnB := noInt2 HM7.out.b
    obtain ⟨W8, hW8⟩ : ∃ W8, (w7.setCell ⟨w.heap.size + 1, 0, none⟩ (.bool s7)).setCell ⟨w.heap.size + 1, 1, none⟩ (.slice p7 l7 c7) = W8 := ⟨_, rfl⟩
    have HW8 := hidG hW8
    have HQ8 : Hid (IsI B W8 (.agg #[.bool s5, .slice p5 l5 c5]) qn (n + 2)) := by have h := HQ7.out.put2 hnB (.bool s7) (.slice p7 l7 c7); rw [hW8] at h; exact h
    have HD8 : Hid (IsI B W8 (.agg #[.bool s7, .slice p7 l7 c7]) dn (n + 2)) := by have h := HD7.out.put2 hnB (.bool s7) (.slice p7 l7 c7); rw [hW8] at h; exact h
    have HB8 : Hid (Below w.heap.size w W8) := by have h := set2 HB7.out (w.heap.size + 1) (Nat.le_succ _) (.bool s7) (.slice p7 l7 c7); rw [hW8] at h; exact h
    have HM8 : Hid (BxM w.heap.size w1.heap.size W8 s5 (.slice p5 l5 c5) s7 (.slice p7 l7 c7) s4 (.slice p4 l4 c4)) := by
      have h1 := HM7.out.a.off2 (k := w.heap.size + 1) (by omega) (.bool s7) (.slice p7 l7 c7)
      have h2 := HM7.out.b.put2 (.bool s7) (.slice p7 l7 c7)
      have h3 := HM7.out.r.off2 (k := w.heap.size + 1) (by omega) (.bool s7) (.slice p7 l7 c7)
      have h4 := HM7.out.c.off2 (k := w.heap.size + 1) (by omega) (.bool s7) (.slice p7 l7 c7)
      rw [hW8] at h1 h2 h3 h4
      exact ⟨h1, h2, h3, h4⟩
    clear hW8 hnB
    obtain ⟨_, ⟨b0, b1, bf⟩, _⟩ := HM7.out.cells
    have bf0 := bf 0
    have bf1 := bf 1
    clear bf
    go_upto_region 6 with fail
    rw [HW8.out]
    clear b0 b1 bf0 bf1
    obtain ⟨⟨a0, a1, _⟩, ⟨b0, b1, _⟩, _⟩ := HM8.out.cells
    have r0 := HM8.out.r.cell 0
    have r1 := HM8.out.r.cell 1
    have r2 := HM8.out.r.cell 2
    have r3 := HM8.out.r.cell 3
    simp only [List.getElem?_cons_zero, List.getElem?_cons_succ] at r0 r1 r2 r3
    have f0 := HM8.out.r.frozen 0
    have f1 := HM8.out.r.frozen 1
    have f2 := HM8.out.r.frozen 2
    have f3 := HM8.out.r.frozen 3
    go_wp2

    have hnR : NoInt W8 (w.heap.size + 1 + 1) := noInt_of HM8.out.r (by simp)
    have hQ9 := HQ8.out.put4 hnR (.bool s5) (.slice p5 l5 c5) (.bool s7) (.slice p7 l7 c7)
    have hD9 := HD8.out.put4 hnR (.bool s5) (.slice p5 l5 c5) (.bool s7) (.slice p7 l7 c7)
    have hB9 := set4 HB8.out (w.heap.size + 1 + 1) (by omega) (.bool s5) (.slice p5 l5 c5) (.bool s7) (.slice p7 l7 c7)
    have hZ : Bx ((((W8.setCell ⟨w.heap.size + 1 + 1, 0, none⟩ (.bool s5)).setCell ⟨w.heap.size + 1 + 1, 1, none⟩ (.slice p5 l5 c5)).setCell ⟨w.heap.size + 1 + 1, 2, none⟩ (.bool s7)).setCell ⟨w.heap.size + 1 + 1, 3, none⟩ (.slice p7 l7 c7)) (w.heap.size + 1 + 1) [.bool s5, .slice p5 l5 c5, .bool s7, .slice p7 l7 c7] := (((HM8.out.r.set 0 _).set 1 _).set 2 _).set 3 _
    generalize (((W8.setCell ⟨w.heap.size + 1 + 1, 0, none⟩ (.bool s5)).setCell ⟨w.heap.size + 1 + 1, 1, none⟩ (.slice p5 l5 c5)).setCell ⟨w.heap.size + 1 + 1, 2, none⟩ (.bool s7)).setCell ⟨w.heap.size + 1 + 1, 3, none⟩ (.slice p7 l7 c7) = W9 at *
    have m0 := hZ.cell 0
    have m1 := hZ.cell 1
    have m2 := hZ.cell 2
    have m3 := hZ.cell 3
    simp only [List.getElem?_cons_zero, List.getElem?_cons_succ] at m0 m1 m2 m3
    refine bodyPost_ret (v := .agg #[.bool s5, .slice p5 l5 c5, .bool s7, .slice p7 l7 c7]) ?_ rfl ⟨_, qn, dn, rfl, ⟨s5, _, s7, _, rfl, hQ9.mono (Nat.le_refl _) (by omega), hD9.mono (Nat.le_refl _) (by omega)⟩, HLW.out, hB9⟩
    simp [results, Tryz.results60, go_sem, m0, m1, m2, m3]
end Go.Proofs.YtpimiboiogfhbaaGreatDoor
namespace Go.Proofs.YtpimiboiogfhbaaGreatDoor
open Go.ChangeShapes Go.WideShapes Go.ChangeAt Go.RowKit
/-- What form answers. -/
def FormOf (x y : Int) (z : Value) : Prop := ∃ u v b, z = .agg #[.string u, .bool b, .string v] ∧ IsText x u ∧ (if y = 1 then b = false ∧ v = ⟨#[]⟩ else b = true ∧ IsText y v)
theorem IsQR.shape {B : Nat} {w : World} {z : Value} {x y : Int} {n : Nat} (h : IsQR B w z x y n) : ∃ s1 p1 l1 c1 s2 p2 l2 c2, z = .agg #[.bool s1, .slice p1 l1 c1, .bool s2, .slice p2 l2 c2] ∧ IsI B w (.agg #[.bool s1, .slice p1 l1 c1]) x n ∧ IsI B w (.agg #[.bool s2, .slice p2 l2 c2]) y n := by
  obtain ⟨s1, v1, s2, v2, rfl, h1, h2⟩ := h
  obtain ⟨_, t1, _, ⟨p1, c1, rfl, _⟩, _⟩ := h1.parts
  obtain ⟨_, t2, _, ⟨p2, c2, rfl, _⟩, _⟩ := h2.parts
  exact ⟨s1, p1, _, c1, s2, p2, _, c2, rfl, h1, h2⟩
set_option maxRecDepth 100000 in
set_option maxHeartbeats 2000000 in
theorem form_any (B : Nat) (z : Value) (x y : Int) (n : Nat) (w : World) (hBw : B ≤ w.heap.size) (h : IsQR B w z x y n) (hn : n ≤ 600) (hSP : SP w) (hLT : LT w) :
    Calls Tryz.prog 61 #[z] w fun e w' => ∃ r, e = .returned r ∧ FormOf x y r ∧ Below w.heap.size w w' := by
  have HR := hidG h
  obtain ⟨s1, p1, l1, c1, s2, p2, l2, c2, rfl, h1, h2⟩ := h.shape
  have HSP := hidG hSP
  have HLT := hidG hLT
  have HBW := hidG hBw
  have H1 := hidG h1
  have H2 := hidG h2
  clear h hSP hLT hBw h1 h2
  obtain ⟨W0, hW0⟩ : ∃ W0, (w.alloc (.cells #[.bool s1, .slice p1 l1 c1, .bool s2, .slice p2 l2 c2] 70)).alloc (.cells #[.string ⟨#[]⟩, .bool false, .string ⟨#[]⟩] 91) = W0 := ⟨_, rfl⟩
  have HW0 := hidG hW0
  have HB0 : Hid (Below w.heap.size w W0) := by
    show Below w.heap.size w W0
    rw [← hW0]; exact below_al (below_alloc _ _) _
  have hx1 : Bx W0 w.heap.size [.bool s1, .slice p1 l1 c1, .bool s2, .slice p2 l2 c2] := by rw [← hW0]; exact (bx_new w _ _).alloc _
  have hx2 : Bx W0 (w.heap.size + 1) [.string ⟨#[]⟩, .bool false, .string ⟨#[]⟩] := by
    rw [← hW0]
    have h := bx_new (w.alloc (.cells #[.bool s1, .slice p1 l1 c1, .bool s2, .slice p2 l2 c2] 70)) [.string ⟨#[]⟩, .bool false, .string ⟨#[]⟩] 91
    rw [World.size_alloc] at h
    exact h
  have HX : Hid (∀ W, Below W0.heap.size W0 W → Bx W w.heap.size [.bool s1, .slice p1 l1 c1, .bool s2, .slice p2 l2 c2] ∧ Bx W (w.heap.size + 1) [.string ⟨#[]⟩, .bool false, .string ⟨#[]⟩]) := fun W hW => ⟨hx1.below hx1.lt hW, hx2.below hx2.lt hW⟩
  clear hW0
  have k0 := hx1.cell 0
  have k1 := hx1.cell 1
  have k2 := hx1.cell 2
  have k3 := hx1.cell 3
  simp only [List.getElem?_cons_zero, List.getElem?_cons_succ] at k0 k1 k2 k3
  clear hx1 hx2
  go_enter Tryz.func61, Tryz.ntmps61
  go_upto_region 1 with fail
  rw [HW0.out]
  go_wp2_with fail
  refine (isWhole_any B _ x y n _ (by have := HBW.out; have := HB0.out.size; omega) (HR.out.below HB0.out) (HSP.out.below HB0.out)).mono ?_
  rintro e w1 ⟨rfl, hb1⟩
  have HB1 := hidG hb1
  have hB1 := HB0.out.trans (hb1.mono HB0.out.size)
  have HBB := hidG hB1
  obtain ⟨hy1, hy2⟩ := HX.out w1 hb1
  clear k0 k1 k2 k3
  have k0 := hy1.cell 0
  have k1 := hy1.cell 1
  have k2 := hy1.cell 2
  have k3 := hy1.cell 3
  simp only [List.getElem?_cons_zero, List.getElem?_cons_succ] at k0 k1 k2 k3
  clear hb1 hB1 hy1 hy2
  by_cases hy : y = 1
  · have hd : decide (y = 1) = true := decide_eq_true hy
    have HY := hidG hy
    rw [hd]
    clear hd hy
    go_wp2_with fail
    refine (textI_any B _ x n _ (H1.out.below HBB.out) hn (HLT.out.below HBB.out)).mono ?_
    rintro e w2 ⟨u, rfl, hu, hb2⟩
    have HU := hidG hu
    have HB2 := hidG (HB1.out.trans (hb2.mono HB1.out.size))
    have hbw := (HX.out w2 HB2.out).2
    have r0 := hbw.cell 0
    have r1 := hbw.cell 1
    have r2 := hbw.cell 2
    simp only [List.getElem?_cons_zero, List.getElem?_cons_succ] at r0 r1 r2
    have f0 := hbw.frozen 0
    have f1 := hbw.frozen 1
    have f2 := hbw.frozen 2
    clear hu hb2 hbw
    go_wp2
    have hbw := (HX.out w2 HB2.out).2
    have hZ : Bx (((w2.setCell ⟨w.heap.size + 1, 0, none⟩ (.string u)).setCell ⟨w.heap.size + 1, 1, none⟩ (.bool false)).setCell ⟨w.heap.size + 1, 2, none⟩ (.string ⟨#[]⟩)) (w.heap.size + 1) [.string u, .bool false, .string ⟨#[]⟩] := ((hbw.set 0 _).set 1 _).set 2 _
    have hE := belowSet3 (HB0.out.trans (HB2.out.mono HB0.out.size)) (w.heap.size + 1) (Nat.le_succ _) (.string u) (.bool false) (.string ⟨#[]⟩)
    generalize ((w2.setCell ⟨w.heap.size + 1, 0, none⟩ (.string u)).setCell ⟨w.heap.size + 1, 1, none⟩ (.bool false)).setCell ⟨w.heap.size + 1, 2, none⟩ (.string ⟨#[]⟩) = WE at *
    have m0 := hZ.cell 0
    have m1 := hZ.cell 1
    have m2 := hZ.cell 2
    simp only [List.getElem?_cons_zero, List.getElem?_cons_succ] at m0 m1 m2
    refine bodyPost_ret (v := .agg #[.string u, .bool false, .string ⟨#[]⟩]) ?_ rfl ⟨_, rfl, ⟨u, _, _, rfl, HU.out, by rw [if_pos HY.out]; exact ⟨rfl, rfl⟩⟩, hE⟩
    simp [results, Tryz.results61, go_sem, m0, m1, m2]
  · have hd : decide (y = 1) = false := decide_eq_false hy
    have HY := hidG hy
    rw [hd]
    clear hd hy
    go_wp2_with fail
    go_region_with (first
      | (go_at_call_of 85 (Value.slice p1 l1 c1)
         refine (textI_any B _ x n _ (H1.out.below (HBB.out.trans ((Below.refl _ w1).drew.mono HBB.out.size))) hn (HLT.out.below (HBB.out.trans ((Below.refl _ w1).drew.mono HBB.out.size)))).mono ?_
         rintro e w2 ⟨u, rfl, hu, hb2⟩
         have HU := hidG hu
         have HB2 : Hid (Below w1.heap.size w1 w2) := (Below.refl _ w1).drew.trans hb2
         have hbx := (HX.out w2 (HB1.out.trans (HB2.out.mono HB1.out.size))).1
         have j2 := hbx.cell 2
         have j3 := hbx.cell 3
         simp only [List.getElem?_cons_zero, List.getElem?_cons_succ] at j2 j3
         clear hu hb2 hbx)
      | (go_at_call_of 85 (Value.slice p2 l2 c2)
         refine (textI_any B _ y n _ (H2.out.below (HBB.out.trans (HB2.out.mono HBB.out.size))) hn (HLT.out.below (HBB.out.trans (HB2.out.mono HBB.out.size)))).mono ?_
         rintro e w3 ⟨v, rfl, hv, hb3⟩
         have HV := hidG hv
         have HB3 : Hid (Below W0.heap.size W0 w3) := HB1.out.trans ((HB2.out.trans (hb3.mono HB2.out.size)).mono HB1.out.size)
         have hbw := (HX.out w3 HB3.out).2
         have r0 := hbw.cell 0
         have r1 := hbw.cell 1
         have r2 := hbw.cell 2
         simp only [List.getElem?_cons_zero, List.getElem?_cons_succ] at r0 r1 r2
         have f0 := hbw.frozen 0
         have f1 := hbw.frozen 1
         have f2 := hbw.frozen 2
         clear hv hb3 hbw))
    all_goals
      try simp only [List.getElem_toArray, List.getElem_cons_succ, List.getElem_cons_zero, Act.put, List.setIfInBounds_toArray, List.set_cons_succ, List.set_cons_zero]
      go_wp2
      have hbw := (HX.out w3 HB3.out).2
      have hZ : Bx (((w3.setCell ⟨w.heap.size + 1, 0, none⟩ (.string u)).setCell ⟨w.heap.size + 1, 1, none⟩ (.bool true)).setCell ⟨w.heap.size + 1, 2, none⟩ (.string v)) (w.heap.size + 1) [.string u, .bool true, .string v] := ((hbw.set 0 _).set 1 _).set 2 _
      have hE := belowSet3 (HB0.out.trans (HB3.out.mono HB0.out.size)) (w.heap.size + 1) (Nat.le_succ _) (.string u) (.bool true) (.string v)
      generalize ((w3.setCell ⟨w.heap.size + 1, 0, none⟩ (.string u)).setCell ⟨w.heap.size + 1, 1, none⟩ (.bool true)).setCell ⟨w.heap.size + 1, 2, none⟩ (.string v) = WE at *
      have m0 := hZ.cell 0
      have m1 := hZ.cell 1
      have m2 := hZ.cell 2
      simp only [List.getElem?_cons_zero, List.getElem?_cons_succ] at m0 m1 m2
      refine bodyPost_ret (v := .agg #[.string u, .bool true, .string v]) ?_ rfl ⟨_, rfl, ⟨u, _, _, rfl, HU.out, by rw [if_neg HY.out]; exact ⟨rfl, HV.out⟩⟩, hE⟩
      simp [results, Tryz.results61, go_sem, m0, m1, m2]
end Go.Proofs.YtpimiboiogfhbaaGreatDoor
namespace Go.Proofs.YtpimiboiogfhbaaGreatDoor
open Go.ChangeShapes Go.WideShapes Go.ChangeAt Go.RowKit
theorem eqForm (a c a' c' : ByteArray) (b b' : Bool) (w : World) : (Op.equalIn 10000 91 (.agg #[.string a, .bool b, .string c]) (.agg #[.string a', .bool b', .string c'])).run Tryz.prog w = .ok (a.toList == a'.toList && b == b' && c.toList == c'.toList) w := by
  have u3 := Tryz.underlying9
  have u4 := Tryz.underlying4
  have a3 := Tryz.isAgg9
  have a4 := Tryz.isAgg4
  have z3 := Tryz.sizeOf9
  have z4 := Tryz.sizeOf4
  have hS : Tryz.prog.underlying 91 = some (.struct (Tryz.prog.fieldsOf 91)) := by kernel_rfl
  rw [show (10000 : Nat) = 9999 + 1 from rfl, run_equalIn_agg w 9999 91 _ _ hS (by kernel_rfl)]
  simp only [Program.fieldsOf, Tryz.underlying91]
  go_simp
  by_cases h1 : a.toList = a'.toList <;> by_cases h2 : b = b' <;> by_cases h3 : c.toList = c'.toList <;> simp [h1, h2, h3]
theorem toList_inj {a b : ByteArray} : (a.toList == b.toList) = decide (a = b) := by
  by_cases h : a = b
  · subst h; simp
  · have : a.toList ≠ b.toList := fun e => h (by
      rw [ByteArray.toList_eq, ByteArray.toList_eq] at e
      exact ByteArray.ext (Array.toList_inj.1 e))
    simp [h, this]
/-- The number of a rat text: x over y. -/
def RatV (s : ByteArray) (k : Option Nat) (x y : Int) : Prop :=
  match k with
  | none => isIntB s = true ∧ x = numT s ∧ y = 1
  | some i => (isIntB (cutP s (some i)) = true ∧ isIntB (cutQ s (some i)) = true) ∧ (numT (cutQ s (some i)) ≠ 0 ∧ cutP s (some i) ≠ strB [48] ∧ cutQ s (some i) ≠ strB [49] ∧ isNeg (cutQ s (some i)) = false ∧ Int.gcd (numT (cutP s (some i))) (numT (cutQ s (some i))) = 1) ∧
      x = numT (cutP s (some i)) ∧ y = numT (cutQ s (some i))
/-- Whether a text is a rat text. -/
def IsRatB (s : ByteArray) (b : Bool) : Prop := ∃ k, IsCut s k ∧ (b = true ↔ ∃ x y, RatV s k x y)
theorem isRatB_unique {s : ByteArray} {b c : Bool} (h : IsRatB s b) (h' : IsRatB s c) : b = c := by
  obtain ⟨k, hk, e⟩ := h
  obtain ⟨m, hm, e'⟩ := h'
  obtain rfl := isCut_unique hk hm
  cases b <;> cases c <;> simp_all
end Go.Proofs.YtpimiboiogfhbaaGreatDoor
namespace Go.Proofs.YtpimiboiogfhbaaGreatDoor
open Go.ChangeShapes Go.WideShapes Go.ChangeAt Go.RowKit
set_option maxRecDepth 100000 in
set_option maxHeartbeats 1000000 in
theorem wholeRational_any (s1 : Bool) (p1 : Option Addr) (l1 c1 : Nat) (w : World) :
    Calls Tryz.prog 57 #[.agg #[.bool s1, .slice p1 l1 c1]] w fun e w' => ∃ s2 p2 l2 c2, e = .returned (.agg #[.bool s1, .slice p1 l1 c1, .bool s2, .slice p2 l2 c2]) ∧ IsI w.heap.size w' (.agg #[.bool s2, .slice p2 l2 c2]) 1 3 ∧ Below w.heap.size w w' := by
  obtain ⟨W0, hW0⟩ : ∃ W0, (w.alloc (.cells #[.bool s1, .slice p1 l1 c1] 52)).alloc (.cells #[.bool false, .slice none 0 0, .bool false, .slice none 0 0] 70) = W0 := ⟨_, rfl⟩
  have HW0 := hidG hW0
  have HB0 : Hid (Below w.heap.size w W0) := by
    show Below w.heap.size w W0
    rw [← hW0]; exact below_al (below_alloc _ _) _
  have hx1 : Bx W0 w.heap.size [.bool s1, .slice p1 l1 c1] := by rw [← hW0]; exact (bx_new w _ _).alloc _
  have hx2 : Bx W0 (w.heap.size + 1) [.bool false, .slice none 0 0, .bool false, .slice none 0 0] := by
    rw [← hW0]
    have h := bx_new (w.alloc (.cells #[.bool s1, .slice p1 l1 c1] 52)) [.bool false, .slice none 0 0, .bool false, .slice none 0 0] 70
    rw [World.size_alloc] at h
    exact h
  have HX : Hid (∀ W, Below W0.heap.size W0 W → Bx W w.heap.size [.bool s1, .slice p1 l1 c1] ∧ Bx W (w.heap.size + 1) [.bool false, .slice none 0 0, .bool false, .slice none 0 0]) := fun W hW => ⟨hx1.below hx1.lt hW, hx2.below hx2.lt hW⟩
  clear hW0
  have k0 := hx1.cell 0
  have k1 := hx1.cell 1
  simp only [List.getElem?_cons_zero, List.getElem?_cons_succ] at k0 k1
  clear hx1 hx2
  go_enter Tryz.func57, Tryz.ntmps57
  go_upto_region 1 with fail
  rw [HW0.out]
  go_region_with (first
    | (go_at_call 35
       refine (wholeNumber_any 1 _ (by decide)).mono ?_
       rintro e w1 ⟨z, rfl, hz, hb1⟩
       have HB1 : Hid (Below W0.heap.size W0 w1) := (Below.refl _ W0).drew.trans hb1
       obtain ⟨s2, p2, l2, c2, rfl⟩ := hz.shape
       have HZ : Hid (IsI W0.heap.size w1 (.agg #[.bool s2, .slice p2 l2 c2]) 1 3) := hz
       obtain ⟨hy1, hy2⟩ := HX.out w1 HB1.out
       have j0 := hy1.cell 0
       have j1 := hy1.cell 1
       have r0 := hy2.cell 0
       have r1 := hy2.cell 1
       have r2 := hy2.cell 2
       have r3 := hy2.cell 3
       simp only [List.getElem?_cons_zero, List.getElem?_cons_succ] at j0 j1 r0 r1 r2 r3
       have f0 := hy2.frozen 0
       have f1 := hy2.frozen 1
       have f2 := hy2.frozen 2
       have f3 := hy2.frozen 3
       clear hz hb1 hy1 hy2))
  all_goals
    try simp only [List.getElem_toArray, List.getElem_cons_succ, List.getElem_cons_zero, Act.put, List.setIfInBounds_toArray, List.set_cons_succ, List.set_cons_zero]
    go_wp2
    have hbw := (HX.out w1 HB1.out).2
    have hnR : NoInt w1 (w.heap.size + 1) := noInt_of hbw (by simp)
    have hD9 := (HZ.out.mono (B' := w.heap.size) (n' := 3) HB0.out.size (Nat.le_refl _)).put4 hnR (.bool s1) (.slice p1 l1 c1) (.bool s2) (.slice p2 l2 c2)
    have hB9 := set4 (HB0.out.trans (HB1.out.mono HB0.out.size)) (w.heap.size + 1) (Nat.le_succ _) (.bool s1) (.slice p1 l1 c1) (.bool s2) (.slice p2 l2 c2)
    have hZ : Bx ((((w1.setCell ⟨w.heap.size + 1, 0, none⟩ (.bool s1)).setCell ⟨w.heap.size + 1, 1, none⟩ (.slice p1 l1 c1)).setCell ⟨w.heap.size + 1, 2, none⟩ (.bool s2)).setCell ⟨w.heap.size + 1, 3, none⟩ (.slice p2 l2 c2)) (w.heap.size + 1) [.bool s1, .slice p1 l1 c1, .bool s2, .slice p2 l2 c2] := (((hbw.set 0 _).set 1 _).set 2 _).set 3 _
    generalize (((w1.setCell ⟨w.heap.size + 1, 0, none⟩ (.bool s1)).setCell ⟨w.heap.size + 1, 1, none⟩ (.slice p1 l1 c1)).setCell ⟨w.heap.size + 1, 2, none⟩ (.bool s2)).setCell ⟨w.heap.size + 1, 3, none⟩ (.slice p2 l2 c2) = W9 at *
    have m0 := hZ.cell 0
    have m1 := hZ.cell 1
    have m2 := hZ.cell 2
    have m3 := hZ.cell 3
    simp only [List.getElem?_cons_zero, List.getElem?_cons_succ] at m0 m1 m2 m3
    refine bodyPost_ret (v := .agg #[.bool s1, .slice p1 l1 c1, .bool s2, .slice p2 l2 c2]) ?_ rfl ⟨s2, p2, l2, c2, rfl, hD9, hB9⟩
    simp [results, Tryz.results57, go_sem, m0, m1, m2, m3]
end Go.Proofs.YtpimiboiogfhbaaGreatDoor
namespace Go.Proofs.YtpimiboiogfhbaaGreatDoor
open Go.ChangeShapes Go.WideShapes Go.ChangeAt Go.RowKit
def ShapeR (z : Value) : Prop := ∃ s1 p1 l1 c1 s2 p2 l2 c2, z = .agg #[.bool s1, .slice p1 l1 c1, .bool s2, .slice p2 l2 c2]
/-- What readRational answers. -/
def ReadR (B : Nat) (w : World) (s : ByteArray) (k : Option Nat) (z : Value) (ok : Bool) : Prop :=
  ShapeR z ∧ (ok = true ↔ ∃ x y, RatV s k x y) ∧ (ok = true → ∃ x y, RatV s k x y ∧ IsQR B w z x y 300)
theorem IsQR.mono {B B' : Nat} {w : World} {z : Value} {x y : Int} {n n' : Nat} (h : IsQR B w z x y n) (hb : B' ≤ B) (hn : n ≤ n') : IsQR B' w z x y n' := by
  obtain ⟨s1, v1, s2, v2, e, h1, h2⟩ := h
  exact ⟨s1, v1, s2, v2, e, h1.mono hb hn, h2.mono hb hn⟩
theorem IsQR.put4 {B : Nat} {W : World} {z : Value} {x y : Int} {n : Nat} (h : IsQR B W z x y n) {g : Nat} (no : NoInt W g) (u0 u1 u2 u3 : Value) : IsQR B ((((W.setCell ⟨g, 0, none⟩ u0).setCell ⟨g, 1, none⟩ u1).setCell ⟨g, 2, none⟩ u2).setCell ⟨g, 3, none⟩ u3) z x y n := by
  obtain ⟨s1, v1, s2, v2, e, h1, h2⟩ := h
  exact ⟨s1, v1, s2, v2, e, h1.put4 no u0 u1 u2 u3, h2.put4 no u0 u1 u2 u3⟩
theorem readR_of (B : Nat) (W : World) (s p q u v : ByteArray) (i : Nat) (b bb ok : Bool) (z : Value) (xn xd : Int) (hP : cutP s (some i) = p ∧ cutQ s (some i) = q ∧ (some i).isSome = b) (hI : isIntB p = true ∧ isIntB q = true) (h0 : numT q ≠ 0) (hl : IsLow (numT p) (numT q) xn xd)
    (hu : IsText xn u ∧ (if xd = 1 then bb = false ∧ v = ⟨#[]⟩ else bb = true ∧ IsText xd v)) (hok : (u.toList == p.toList && bb == b && v.toList == q.toList) = ok) (hR : IsQR B W z xn xd 283) : ReadR B W s (some i) z ok := by
  obtain ⟨rfl, rfl, hb⟩ := hP
  have hbt : b = true := hb.symm
  subst hbt
  have key : ok = true ↔ (xd ≠ 1 ∧ IsText xn (cutP s (some i)) ∧ IsText xd (cutQ s (some i))) := by
    rw [← hok, toList_inj, toList_inj]
    simp only [Bool.and_eq_true, decide_eq_true_eq, beq_iff_eq]
    constructor
    · rintro ⟨⟨rfl, rfl⟩, rfl⟩
      by_cases h1 : xd = 1
      · rw [if_pos h1] at hu; exact absurd hu.2.1 (by decide)
      · rw [if_neg h1] at hu; exact ⟨h1, hu.1, hu.2.2⟩
    · rintro ⟨h1, h2, h3⟩
      rw [if_neg h1] at hu
      exact ⟨⟨hu.1.eq h2, hu.2.1⟩, hu.2.2.eq h3⟩
  have hrf := rat_form _ _ xn xd hI.1 hI.2 h0 hl
  have hV : ok = true → RatV s (some i) (numT (cutP s (some i))) (numT (cutQ s (some i))) := fun e => by
    obtain ⟨a1, a2, a3, a4⟩ := hrf.1 (key.1 e)
    exact ⟨hI, ⟨h0, a1, a2, a3, a4⟩, rfl, rfl⟩
  have hsh : ShapeR z := by
    obtain ⟨s1, p1, l1, c1, s2, p2, l2, c2, h, _⟩ := hR.shape
    exact ⟨s1, p1, l1, c1, s2, p2, l2, c2, h⟩
  refine ⟨hsh, ⟨fun e => ⟨_, _, hV e⟩, ?_⟩, fun e => ?_⟩
  · rintro ⟨x, y, _, ⟨_, a1, a2, a3, a4⟩, _, _⟩
    exact key.2 (hrf.2 ⟨a1, a2, a3, a4⟩)
  · obtain ⟨_, t1, t2⟩ := key.1 e
    have e1 := text_inj t1 (text_back _ hI.1) (text_ne _ hI.1)
    have e2 := text_inj t2 (text_back _ hI.2) (text_ne _ hI.2)
    refine ⟨_, _, hV e, ?_⟩
    rw [← e1, ← e2]
    exact hR.mono (Nat.le_refl _) (by omega)
end Go.Proofs.YtpimiboiogfhbaaGreatDoor
namespace Go.Proofs.YtpimiboiogfhbaaGreatDoor
open Go.ChangeShapes Go.WideShapes Go.ChangeAt Go.RowKit
/-- The text of x over y. -/
def TextR (x y : Int) (u : ByteArray) : Prop :=
  if y = 1 then IsText x u else ∃ p q, IsText x p ∧ IsText y q ∧ u = if p.size = 0 ∨ q.size = 0 then ⟨#[]⟩ else p ++ ⟨#[47]⟩ ++ q
theorem text_size {x : Int} {u : ByteArray} (h : IsText x u) : u.size ≤ 2501 := by
  obtain ⟨neg, t, _, _, _, rfl⟩ := h
  unfold textT
  split
  · rw [strB_size]; decide
  · unfold textS
    split
    · rw [strB_size]; exact Nat.zero_le _
    · split
      · rw [strB_size, List.length_cons]; omega
      · rw [strB_size]; omega
theorem empty_iff (u : ByteArray) : u.toList.isEmpty = decide (u.size = 0) := by
  rw [ByteArray.toList_eq]
  have : u.data.toList.length = u.size := by simp
  cases h : u.data.toList with
  | nil => rw [h] at this; simp at this; simp [← this]
  | cons c l =>
    rw [h] at this
    have h2 : u.size ≠ 0 := by rw [← this]; simp
    simp [h2]
end Go.Proofs.YtpimiboiogfhbaaGreatDoor
namespace Go.Proofs.YtpimiboiogfhbaaGreatDoor
open Go.ChangeShapes Go.WideShapes Go.ChangeAt Go.RowKit
/-- What both sides of RatOf answer. -/
def IsResO (s t u : ByteArray) : Prop := if isIntB s = true ∧ isIntB t = true ∧ numT t ≠ 0 then ∃ p q, IsLow (numT s) (numT t) p q ∧ TextR p q u else u = ⟨#[]⟩
theorem TextR.eq {x y : Int} {u v : ByteArray} (h : TextR x y u) (h' : TextR x y v) : u = v := by
  unfold TextR at h h'
  split at h
  · rename_i hc
    rw [if_pos hc] at h'
    exact h.eq h'
  · rename_i hc
    rw [if_neg hc] at h'
    obtain ⟨p, q, h1, h2, rfl⟩ := h
    obtain ⟨p', q', h1', h2', rfl⟩ := h'
    rw [h1.eq h1', h2.eq h2']
theorem IsResO.eq {s t u v : ByteArray} (h : IsResO s t u) (h' : IsResO s t v) : u = v := by
  unfold IsResO at h h'
  split at h
  · rename_i hc
    rw [if_pos hc] at h'
    obtain ⟨p, q, h1, h2⟩ := h
    obtain ⟨p', q', h1', h2'⟩ := h'
    obtain ⟨rfl, rfl⟩ := isLow_unique h1 h1'
    exact h2.eq h2'
  · rename_i hc
    rw [if_neg hc] at h'
    rw [h, h']
end Go.Proofs.YtpimiboiogfhbaaGreatDoor
