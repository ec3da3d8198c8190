import Derived.Test.YtfhgfclfhghlcaaDoorRows
import Derived.WalkKit
import Derived.WalkSpells
import Derived.ProofKit
import Derived.OpenShut
import Derived.ShutString
import Derived.Lib.Strings
import Derived.Lib.IndexBytes
namespace Go.Proofs.YtfhgfclfhghlcaaDoor
open Go.ChangeShapes Go.WideShapes Go.ChangeAt Go.RowKit
def isNeg (s : ByteArray) : Bool := (s.extract 0 1).toList == [45]
def dgs (s : ByteArray) : ByteArray := if isNeg s then s.extract 1 s.size else s
def isDig (c : UInt8) : Bool := decide (48 ≤ c.toNat ∧ c.toNat ≤ 57)
def isIntB (s : ByteArray) : Bool :=
  decide (0 < (dgs s).size) && decide ((dgs s).size ≤ 2500) && (dgs s).data.toList.all isDig && (!decide ((dgs s).data.toList.head? = some 48) || s.toList == [48])
theorem dgs_size (s : ByteArray) : (dgs s).size ≤ s.size := by
  unfold dgs; split
  · rw [ByteArray.size_extract]; omega
  · exact Nat.le_refl _
theorem ret_bool {a b : Bool} (h : a = b) : Ending.returned (.bool a) = .returned (.bool b) := by rw [h]
theorem take_snoc (s : ByteArray) (k : Nat) (h : k < s.size) : s.data.toList.take (k + 1) = s.data.toList.take k ++ [s[k]] := by
  rw [List.take_succ_eq_append_getElem (by simpa using h)]; rfl
theorem all_snoc (s : ByteArray) (k : Nat) (h : k < s.size) (hp : (s.data.toList.take k).all isDig = true) (h1 : 48 ≤ s[k].toNat) (h2 : s[k].toNat ≤ 57) :
    (s.data.toList.take (k + 1)).all isDig = true := by
  rw [take_snoc s k h, List.all_append, hp]; simp [isDig, h1, h2]
theorem all_bad (s : ByteArray) (k : Nat) (h : k < s.size) (h1 : ¬ (48 ≤ s[k].toNat ∧ s[k].toNat ≤ 57)) : s.data.toList.all isDig = false := by
  rw [Bool.eq_false_iff]
  intro ha
  rw [List.all_eq_true] at ha
  have := ha s[k] (by show s.data[k] ∈ _; exact Array.getElem_mem_toList _)
  simp [isDig] at this
  omega
theorem isInt_empty (s d : ByteArray) (hd : dgs s = d) (h : d.size = 0) : isIntB s = false := by subst hd; simp [isIntB, h]
theorem isInt_long (s d : ByteArray) (hd : dgs s = d) (h : 2500 < d.size) : isIntB s = false := by
  subst hd
  unfold isIntB; rw [decide_eq_false (show ¬ (dgs s).size ≤ 2500 by omega)]; simp
theorem head_eq (d : ByteArray) (h : 0 < d.size) : d.data.toList.head? = some d[0] := by
  obtain ⟨⟨l⟩⟩ := d
  cases l with
  | nil => simp [ByteArray.size] at h
  | cons a l => rfl
theorem isInt_zero (s d : ByteArray) (hd : dgs s = d) (h : 0 < d.size) (h2 : d[0].toNat = 48) : isIntB s = (s.toList == [48]) := by
  subst hd
  have e : (dgs s)[0] = 48 := UInt8.toNat_inj.1 (by rw [h2]; rfl)
  cases hb : s.toList == [48] with
  | false =>
    unfold isIntB
    rw [hb, head_eq _ h, e]; simp
  | true =>
    have hl : s.toList = [48] := by simpa using hb
    rw [ByteArray.toList_eq] at hl
    have es : s = ⟨#[48]⟩ := by
      obtain ⟨⟨l⟩⟩ := s
      simp at hl; rw [hl]
    subst es
    simp [isIntB, dgs, isNeg, ByteArray.toList_eq, isDig, ByteArray.size]
theorem isInt_rest (s d : ByteArray) (hd : dgs s = d) (h : 0 < d.size) (h1 : d.size ≤ 2500) (h2 : ¬ d[0].toNat = 48) : isIntB s = d.data.toList.all isDig := by
  subst hd
  have e : ¬ (dgs s)[0] = 48 := fun e => h2 (by rw [e]; rfl)
  unfold isIntB
  rw [head_eq _ h]
  simp [h, h1, e]
set_option maxHeartbeats 400000 in
theorem trim_any (s : ByteArray) (w : World) (hs : s.size ≤ maxLen) :
    Calls Tryd.prog 73 #[.string s, .string ⟨#[45]⟩] w fun e w' => e = .returned (.string (dgs s)) ∧ w' = w := by
  unfold maxLen at hs
  have hT : ((s.extract 0 1).toList == [45]) = true → dgs s = s.extract 1 s.size := fun h => by unfold dgs isNeg; rw [if_pos h]
  have hF : ((s.extract 0 1).toList == [45]) = false → dgs s = s := fun h => by unfold dgs isNeg; rw [if_neg (by rw [h]; decide)]
  have hE : ¬ 1 ≤ (s.size : Int) → dgs s = s := fun h => hF (by
    rw [Lib.extract_toList]
    have : s.data.toList = [] := by
      have := Lib.size_eq s
      exact List.eq_nil_of_length_eq_zero (by omega)
    rw [this]; rfl)
  have HT : Hid (((s.extract 0 1).toList == [45]) = true → dgs s = s.extract 1 s.size) := hT
  have HF : Hid (((s.extract 0 1).toList == [45]) = false → dgs s = s) := hF
  have HE : Hid (¬ 1 ≤ (s.size : Int) → dgs s = s) := hE
  clear hT hF hE
  go_enter Tryd.func73, Tryd.ntmps73
  go_wp2
  all_goals go_ret
  · rw [HT.out ‹_›]; exact ⟨rfl, rfl⟩
  · rw [HF.out ‹_›]; exact ⟨rfl, rfl⟩
  · rw [HE.out (by omega)]; exact ⟨rfl, rfl⟩

theorem toList_ne (d : ByteArray) (h : 0 < d.size) : d.toList.isEmpty = false := by
  rw [ByteArray.toList_eq]
  have := Lib.size_eq d
  cases hl : d.data.toList with
  | nil => exfalso; rw [hl] at this; simp only [List.length_nil] at this; omega
  | cons _ _ => rfl
theorem toList_e (d : ByteArray) (h : d.size = 0) : d.toList.isEmpty = true := by
  rw [ByteArray.toList_eq, List.eq_nil_of_length_eq_zero (l := d.data.toList) (by rw [← Lib.size_eq]; exact h)]; rfl

set_option maxHeartbeats 400000 in
theorem isInt_impl (s : ByteArray) (w : World) (hs : s.size ≤ maxLen) :
    Calls Tryd.prog 72 #[.string s] w fun e w' => e = .returned (.bool (isIntB s)) ∧ w' = w := by
  have hdz := dgs_size s
  unfold maxLen at hs
  obtain ⟨d, hd⟩ : ∃ d, dgs s = d := ⟨_, rfl⟩
  rw [hd] at hdz
  have HD : Hid (dgs s = d) := hd
  clear hd
  by_cases c0 : d.size = 0
  · have e := toList_e d c0
    have F : Hid (isIntB s = false) := isInt_empty s d HD.out c0
    clear c0
    go_enter Tryd.func72, Tryd.ntmps72
    go_wp2_with (go_at_call 73; refine (trim_any _ _ hs).mono ?_; rintro e w' ⟨rfl, rfl⟩; rw [HD.out])
    go_ret
    exact ⟨ret_bool F.out.symm, rfl⟩
  have e := toList_ne d (by omega)
  by_cases c1 : 2500 < d.size
  · have F : Hid (isIntB s = false) := isInt_long s d HD.out c1
    clear c0
    have c2 : decide (2500 < (d.size : Int)) = true := by simp; omega
    go_enter Tryd.func72, Tryd.ntmps72
    go_wp2_with (go_at_call 73; refine (trim_any _ _ hs).mono ?_; rintro e w' ⟨rfl, rfl⟩; rw [HD.out])
    go_ret
    exact ⟨ret_bool F.out.symm, rfl⟩
  have c2 : decide (2500 < (d.size : Int)) = false := by simp; omega
  have c3 : 0 < d.size := by omega
  by_cases c4 : d[0].toNat = 48
  · have F : Hid (isIntB s = (s.toList == [48])) := isInt_zero s d HD.out c3 c4
    clear c0
    have c5 : ((d[0].toNat : Int) == 48) = true := by simp; omega
    go_enter Tryd.func72, Tryd.ntmps72
    go_wp2_with (go_at_call 73; refine (trim_any _ _ hs).mono ?_; rintro e w' ⟨rfl, rfl⟩; rw [HD.out])
    go_ret
    exact ⟨ret_bool F.out.symm, rfl⟩
  have F : Hid (isIntB s = d.data.toList.all isDig) := isInt_rest s d HD.out c3 (by omega) c4
  have c5 : ((d[0].toNat : Int) == 48) = false := by simp; omega
  clear c0 c4
  go_enter Tryd.func72, Tryd.ntmps72
  go_wp2_with (go_at_call 73; refine (trim_any _ _ hs).mono ?_; rintro e w' ⟨rfl, rfl⟩; rw [HD.out])
  go_loop [21] (fun i => ∃ k : Nat, k ≤ d.size ∧ i = .int .i64 k ∧ (d.data.toList.take k).all isDig = true) (fun i => d.size - (intOf i).toNat)
  case atStart => exact ⟨0, Nat.zero_le _, rfl, rfl⟩
  case round =>
    obtain ⟨k, hk, rfl, hp⟩ := hrel
    have HP : Hid ((d.data.toList.take k).all isDig = true) := hp
    clear hp
    by_cases hlt : k < d.size
    · go_wp2
      · go_ret
        exact ⟨ret_bool (by rw [F.out, all_bad d k hlt (by omega)]), rfl⟩
      · go_round
        case rel => exact ⟨k + 1, by omega, by go_num, all_snoc d k hlt HP.out (by omega) (by omega)⟩
        case measure => simp [intOf]; omega
      · go_ret
        exact ⟨ret_bool (by rw [F.out, all_bad d k hlt (by omega)]), rfl⟩
    · go_wp2
      go_ret
      exact ⟨ret_bool (by rw [F.out]; rw [← HP.out, List.take_of_length_le (by rw [← Lib.size_eq]; omega)]), rfl⟩

theorem isNeg_yes (s : ByteArray) (h : isNeg s = true) : ∃ h0 : 0 < s.size, s[0].toNat = 45 := by
  unfold isNeg at h
  rw [Lib.extract_toList] at h
  obtain ⟨⟨l⟩⟩ := s
  cases l with
  | nil => simp at h
  | cons a l => 
    simp at h
    refine ⟨by simp [ByteArray.size], ?_⟩
    show a.toNat = 45
    rw [h]; rfl
theorem isNeg_no (s : ByteArray) (h : isNeg s = false) (h0 : 0 < s.size) : ¬ s[0].toNat = 45 := by
  unfold isNeg at h
  rw [Lib.extract_toList] at h
  obtain ⟨⟨l⟩⟩ := s
  cases l with
  | nil => simp [ByteArray.size] at h0
  | cons a l => 
    simp at h
    intro e
    exact h (UInt8.toNat_inj.1 (by rw [show a.toNat = 45 from e]; rfl))
theorem isInt_loop (s d : ByteArray) (hd : dgs s = d) (h : 0 < d.size) (h1 : d.size ≤ 2500) (h2 : isNeg s = true → ¬ d.toList = [48]) (h3 : d.size = 1 ∨ ¬ d[0].toNat = 48) : isIntB s = d.data.toList.all isDig := by
  by_cases c : d[0].toNat = 48
  · rw [isInt_zero s d hd h c]
    have h4 : d.size = 1 := h3.resolve_right (fun x => x c)
    have e : d[0] = 48 := UInt8.toNat_inj.1 (by rw [c]; rfl)
    have e2 : d.data.toList = [48] := by
      have hh := head_eq d h
      rw [Lib.size_eq] at h4
      obtain ⟨a, ha⟩ := List.length_eq_one_iff.1 h4
      rw [ha] at hh ⊢
      simp at hh
      rw [hh, e]
    cases hn : isNeg s with
    | true => exact absurd (by rw [ByteArray.toList_eq]; exact e2) (h2 hn)
    | false =>
      have : s = d := by rw [← hd]; unfold dgs; rw [hn]; rfl
      rw [this, ByteArray.toList_eq, e2]; rfl
  · exact isInt_rest s d hd h h1 c
theorem isInt_two (s d : ByteArray) (hd : dgs s = d) (h : 1 < d.size) (c : d[0].toNat = 48) : isIntB s = false := by
  rw [isInt_zero s d hd (by omega) c, beq_eq_false_iff_ne]
  intro e
  have := dgs_size s
  have e2 : s.size = 1 := by rw [Lib.size_eq, ← ByteArray.toList_eq, e]; rfl
  rw [hd] at this
  omega
theorem isInt_neg0 (s d : ByteArray) (hd : dgs s = d) (hn : isNeg s = true) (h : (d.toList == [48]) = true) : isIntB s = false := by
  have e : d.toList = [48] := by simpa using h
  rw [ByteArray.toList_eq] at e
  have hz : d.size = 1 := by rw [Lib.size_eq, e]; rfl
  have hh := head_eq d (by omega)
  rw [e] at hh
  simp at hh
  rw [isInt_zero s d hd (by omega) (by rw [← hh]; rfl), beq_eq_false_iff_ne]
  intro e3
  obtain ⟨h0, h1⟩ := isNeg_yes s hn
  have hh2 := head_eq s h0
  rw [← ByteArray.toList_eq, e3] at hh2
  simp at hh2
  rw [← hh2] at h1
  exact absurd h1 (by decide)
theorem dgs_neg (s : ByteArray) (h : isNeg s = true) : dgs s = s.extract 1 s.size := by unfold dgs; rw [if_pos h]
theorem dgs_pos (s : ByteArray) (h : isNeg s = false) : dgs s = s := by unfold dgs; rw [h]; rfl
theorem ext_size (s : ByteArray) : (s.extract 1 s.size).size = s.size - 1 := by rw [ByteArray.size_extract]; omega
set_option maxHeartbeats 800000 in
theorem spec_pos (s : ByteArray) (w : World) (hs : s.size ≤ maxLen) (hn : isNeg s = false) :
    Calls Tryd.prog 24 #[.string s] w fun e w' => e = .returned (.bool (isIntB s)) ∧ w' = w := by
  unfold maxLen at hs
  have HD : Hid (dgs s = s) := dgs_pos s hn
  have HN : Hid (isNeg s = false) := hn
  clear hn
  by_cases c0 : s.size = 0
  · have F : Hid (isIntB s = false) := isInt_empty s _ HD.out c0
    have e0 : s = ByteArray.empty := by
      obtain ⟨⟨l⟩⟩ := s
      simp [ByteArray.size] at c0
      rw [c0]; rfl
    clear c0
    subst e0
    go_enter Tryd.func24, Tryd.ntmps24
    go_wp2
    go_ret
    exact ⟨ret_bool F.out.symm, rfl⟩
  have c2 : 0 < s.size := by omega
  have m0 : ((s[0].toNat : Int) == 45) = false := by
    have := isNeg_no s HN.out c2
    simp; omega
  have z0 : ((s.size : Int) == 0) = false := by rw [beq_eq_false_iff_ne]; omega
  by_cases c1 : 2500 < s.size
  · have F : Hid (isIntB s = false) := isInt_long s _ HD.out c1
    have z1 : decide (2500 < (s.size : Int)) = true := by simp; omega
    clear c0
    go_enter Tryd.func24, Tryd.ntmps24
    go_wp2
    all_goals
      go_ret
      exact ⟨ret_bool F.out.symm, rfl⟩
  have z1 : decide (2500 < (s.size : Int)) = false := by simp; omega
  by_cases c3 : s.size = 1 ∨ ¬ s[0].toNat = 48
  · have F : Hid (isIntB s = s.data.toList.all isDig) := isInt_loop s s HD.out c2 (by omega) (fun h => by rw [HN.out] at h; cases h) c3
    have z2 : decide (1 < (s.size : Int)) = false ∨ (decide (1 < (s.size : Int)) = true ∧ ((s[0].toNat : Int) == 48) = false) := by
      by_cases c4 : s.size = 1
      · exact .inl (by simp; omega)
      · exact .inr ⟨by simp; omega, by have := c3.resolve_left c4; simp; omega⟩
    have z3 : 1 ≤ s.size := by omega
    clear c3 c0
    rcases z2 with z2 | ⟨z2, z4⟩
    all_goals
      go_enter Tryd.func24, Tryd.ntmps24
      go_wp2
      go_loop [3] (fun i => ∃ k : Nat, k ≤ s.size ∧ i = .int .i64 k ∧ (s.data.toList.take k).all isDig = true) (fun i => s.size - (intOf i).toNat)
      case atStart => exact ⟨0, Nat.zero_le _, rfl, rfl⟩
      case round =>
        obtain ⟨k, hk, rfl, hp⟩ := hrel
        have HP : Hid ((s.data.toList.take k).all isDig = true) := hp
        clear hp
        by_cases hlt : k < s.size
        · go_wp2
          · go_ret
            exact ⟨ret_bool (by rw [F.out, all_bad s k hlt (by omega)]), rfl⟩
          · go_round
            case rel => exact ⟨k + 1, by omega, by go_num, all_snoc s k hlt HP.out (by omega) (by omega)⟩
            case measure => simp [intOf]; omega
          · go_ret
            exact ⟨ret_bool (by rw [F.out, all_bad s k hlt (by omega)]), rfl⟩
        · go_wp2
          go_ret
          exact ⟨ret_bool (by rw [F.out]; rw [← HP.out, List.take_of_length_le (by rw [← Lib.size_eq]; omega)]), rfl⟩
  · have F : Hid (isIntB s = false) := isInt_two s s HD.out (by omega) (by omega)
    have z2 : decide (1 < (s.size : Int)) = true := by simp; omega
    have z4 : ((s[0].toNat : Int) == 48) = true := by simp; omega
    clear c3
    go_enter Tryd.func24, Tryd.ntmps24
    go_wp2
    all_goals
      go_ret
      exact ⟨ret_bool F.out.symm, rfl⟩
set_option maxHeartbeats 800000 in
theorem spec_neg (s : ByteArray) (w : World) (hs : s.size ≤ maxLen) (hn : isNeg s = true) :
    Calls Tryd.prog 24 #[.string s] w fun e w' => e = .returned (.bool (isIntB s)) ∧ w' = w := by
  unfold maxLen at hs
  have HD : Hid (dgs s = s.extract 1 s.size) := dgs_neg s hn
  have HN : Hid (isNeg s = true) := hn
  have HZ : Hid ((s.extract 1 s.size).size = s.size - 1) := ext_size s
  obtain ⟨h0, h1⟩ := isNeg_yes s hn
  have m0 : ((s[0].toNat : Int) == 45) = true := by simp; omega
  clear hn h1
  by_cases c9 : ((s.extract 1 s.size).toList == [48]) = true
  · have F : Hid (isIntB s = false) := isInt_neg0 s _ HD.out HN.out c9
    go_enter Tryd.func24, Tryd.ntmps24
    go_wp2
    go_ret
    exact ⟨ret_bool F.out.symm, rfl⟩
  have n9 : ((s.extract 1 s.size).toList == [48]) = false := by simpa using c9
  have HL : Hid (¬ (s.extract 1 s.size).toList = [48]) := by
    intro e; rw [e] at c9; exact c9 rfl
  clear c9
  by_cases c0 : s.size - 1 = 0
  · have F : Hid (isIntB s = false) := isInt_empty s _ HD.out (by rw [HZ.out]; exact c0)
    have z0 : (((s.size - 1 : Nat) : Int) == 0) = true := by rw [beq_iff_eq]; omega
    go_enter Tryd.func24, Tryd.ntmps24
    go_wp2
    go_ret
    exact ⟨ret_bool F.out.symm, rfl⟩
  have c2 : 0 < s.size - 1 := by omega
  have z0 : (((s.size - 1 : Nat) : Int) == 0) = false := by rw [beq_eq_false_iff_ne]; omega
  by_cases c1 : 2500 < s.size - 1
  · have F : Hid (isIntB s = false) := isInt_long s _ HD.out (by rw [HZ.out]; exact c1)
    have z1 : decide (2500 < ((s.size - 1 : Nat) : Int)) = true := by rw [decide_eq_true_iff]; omega
    clear c0
    go_enter Tryd.func24, Tryd.ntmps24
    go_wp2
    go_ret
    exact ⟨ret_bool F.out.symm, rfl⟩
  have z1 : decide (2500 < ((s.size - 1 : Nat) : Int)) = false := by rw [decide_eq_false_iff_not]; omega
  have c5 : 0 < (s.extract 1 s.size).size := by rw [HZ.out]; exact c2
  by_cases c3 : (s.extract 1 s.size).size = 1 ∨ ¬ (s.extract 1 s.size)[0].toNat = 48
  · have F : Hid (isIntB s = (s.extract 1 s.size).data.toList.all isDig) := isInt_loop s _ HD.out c5 (by rw [HZ.out]; omega) (fun h => HL.out) c3
    have z2 : decide (1 < ((s.size - 1 : Nat) : Int)) = false ∨ (decide (1 < ((s.size - 1 : Nat) : Int)) = true ∧ (((s.extract 1 s.size)[0].toNat : Int) == 48) = false) := by
      by_cases c4 : (s.extract 1 s.size).size = 1
      · exact .inl (by rw [HZ.out] at c4; rw [decide_eq_false_iff_not]; omega)
      · exact .inr ⟨by rw [HZ.out] at c4; rw [decide_eq_true_iff]; omega, by have := c3.resolve_left c4; rw [beq_eq_false_iff_ne]; omega⟩
    clear c3 c0
    rcases z2 with z2 | ⟨z2, z4⟩
    all_goals
      go_enter Tryd.func24, Tryd.ntmps24
      go_wp2
      go_loop [3] (fun i => ∃ k : Nat, k ≤ s.size - 1 ∧ i = .int .i64 k ∧ ((s.extract 1 s.size).data.toList.take k).all isDig = true) (fun i => s.size - 1 - (intOf i).toNat)
      case atStart => exact ⟨0, Nat.zero_le _, rfl, rfl⟩
      case round =>
        obtain ⟨k, hk, rfl, hp⟩ := hrel
        have HP : Hid (((s.extract 1 s.size).data.toList.take k).all isDig = true) := hp
        clear hp
        by_cases hlt : k < s.size - 1
        · have hlt' : k < (s.extract 1 s.size).size := by rw [HZ.out]; exact hlt
          go_wp2
          · go_ret
            exact ⟨ret_bool (by rw [F.out, all_bad _ k hlt' (by omega)]), rfl⟩
          · go_round
            case rel => exact ⟨k + 1, by omega, by go_num, all_snoc _ k hlt' HP.out (by omega) (by omega)⟩
            case measure => simp [intOf]; omega
          · go_ret
            exact ⟨ret_bool (by rw [F.out, all_bad _ k hlt' (by omega)]), rfl⟩
        · go_wp2
          go_ret
          exact ⟨ret_bool (by rw [F.out]; rw [← HP.out, List.take_of_length_le (by rw [← Lib.size_eq, HZ.out]; omega)]), rfl⟩
  · have F : Hid (isIntB s = false) := isInt_two s _ HD.out (by omega) (by omega)
    have z2 : decide (1 < ((s.size - 1 : Nat) : Int)) = true := by rw [HZ.out] at c3 c5; rw [decide_eq_true_iff]; omega
    have z4 : (((s.extract 1 s.size)[0].toNat : Int) == 48) = true := by rw [beq_iff_eq]; omega
    clear c3
    go_enter Tryd.func24, Tryd.ntmps24
    go_wp2
    all_goals
      go_ret
      exact ⟨ret_bool F.out.symm, rfl⟩
theorem isInt_spec (s : ByteArray) (w : World) (hs : s.size ≤ maxLen) :
    Calls Tryd.prog 24 #[.string s] w fun e w' => e = .returned (.bool (isIntB s)) ∧ w' = w := by
  cases hn : isNeg s
  · exact spec_pos s w hs hn
  · exact spec_neg s w hs hn
end Go.Proofs.YtfhgfclfhghlcaaDoor
