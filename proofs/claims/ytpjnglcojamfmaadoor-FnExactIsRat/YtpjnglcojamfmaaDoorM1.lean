import Derived.Test.YtpjnglcojamfmaaDoorRows
import Derived.WalkKit
import Derived.WalkSpells
import Derived.ProofKit
import Derived.OpenShut
import Derived.ShutString
import Derived.Lib.Strings
import Derived.Lib.IndexBytes
namespace Go.Proofs.YtpjnglcojamfmaaDoor
open Go.ChangeShapes Go.WideShapes Go.ChangeAt Go.RowKit
def isNeg (s : ByteArray) : Bool := (s.extract 0 1).toList == [45]
def dgs (s : ByteArray) : ByteArray := if isNeg s then s.extract 1 s.size else s
def isDig (c : UInt8) : Bool := decide (48 ≤ c.toNat ∧ c.toNat ≤ 57)
def isIntB (s : ByteArray) : Bool :=
  decide (0 < (dgs s).size) && decide ((dgs s).size ≤ 2500) && (dgs s).data.toList.all isDig && (!decide ((dgs s).data.toList.head? = some 48) || s.toList == [48])
theorem dgs_size (s : ByteArray) : (dgs s).size ≤ s.size := by
  unfold dgs; split
  · rw [ByteArray.size_extract]; omega
  · exact Nat.le_refl _
theorem ret_bool {a b : Bool} (h : a = b) : Ending.returned (.bool a) = .returned (.bool b) := by rw [h]
theorem take_snoc (s : ByteArray) (k : Nat) (h : k < s.size) : s.data.toList.take (k + 1) = s.data.toList.take k ++ [s[k]] := by
  rw [List.take_succ_eq_append_getElem (by simpa using h)]; rfl
theorem all_snoc (s : ByteArray) (k : Nat) (h : k < s.size) (hp : (s.data.toList.take k).all isDig = true) (h1 : 48 ≤ s[k].toNat) (h2 : s[k].toNat ≤ 57) :
    (s.data.toList.take (k + 1)).all isDig = true := by
  rw [take_snoc s k h, List.all_append, hp]; simp [isDig, h1, h2]
theorem all_bad (s : ByteArray) (k : Nat) (h : k < s.size) (h1 : ¬ (48 ≤ s[k].toNat ∧ s[k].toNat ≤ 57)) : s.data.toList.all isDig = false := by
  rw [Bool.eq_false_iff]
  intro ha
  rw [List.all_eq_true] at ha
  have := ha s[k] (by show s.data[k] ∈ _; exact Array.getElem_mem_toList _)
  simp [isDig] at this
  omega
theorem isInt_empty (s d : ByteArray) (hd : dgs s = d) (h : d.size = 0) : isIntB s = false := by subst hd; simp [isIntB, h]
theorem isInt_long (s d : ByteArray) (hd : dgs s = d) (h : 2500 < d.size) : isIntB s = false := by
  subst hd
  unfold isIntB; rw [decide_eq_false (show ¬ (dgs s).size ≤ 2500 by omega)]; simp
theorem head_eq (d : ByteArray) (h : 0 < d.size) : d.data.toList.head? = some d[0] := by
  obtain ⟨⟨l⟩⟩ := d
  cases l with
  | nil => simp [ByteArray.size] at h
  | cons a l => rfl
theorem isInt_zero (s d : ByteArray) (hd : dgs s = d) (h : 0 < d.size) (h2 : d[0].toNat = 48) : isIntB s = (s.toList == [48]) := by
  subst hd
  have e : (dgs s)[0] = 48 := UInt8.toNat_inj.1 (by rw [h2]; rfl)
  cases hb : s.toList == [48] with
  | false =>
    unfold isIntB
    rw [hb, head_eq _ h, e]; simp
  | true =>
    have hl : s.toList = [48] := by simpa using hb
    rw [ByteArray.toList_eq] at hl
    have es : s = ⟨#[48]⟩ := by
      obtain ⟨⟨l⟩⟩ := s
      simp at hl; rw [hl]
    subst es
    simp [isIntB, dgs, isNeg, ByteArray.toList_eq, isDig, ByteArray.size]
theorem isInt_rest (s d : ByteArray) (hd : dgs s = d) (h : 0 < d.size) (h1 : d.size ≤ 2500) (h2 : ¬ d[0].toNat = 48) : isIntB s = d.data.toList.all isDig := by
  subst hd
  have e : ¬ (dgs s)[0] = 48 := fun e => h2 (by rw [e]; rfl)
  unfold isIntB
  rw [head_eq _ h]
  simp [h, h1, e]
set_option maxHeartbeats 400000 in
theorem trim_any (s : ByteArray) (w : World) (hs : s.size ≤ maxLen) :
    Calls Tryd.prog 62 #[.string s, .string ⟨#[45]⟩] w fun e w' => e = .returned (.string (dgs s)) ∧ w' = w := by
  unfold maxLen at hs
  have hT : ((s.extract 0 1).toList == [45]) = true → dgs s = s.extract 1 s.size := fun h => by unfold dgs isNeg; rw [if_pos h]
  have hF : ((s.extract 0 1).toList == [45]) = false → dgs s = s := fun h => by unfold dgs isNeg; rw [if_neg (by rw [h]; decide)]
  have hE : ¬ 1 ≤ (s.size : Int) → dgs s = s := fun h => hF (by
    rw [Lib.extract_toList]
    have : s.data.toList = [] := by
      have := Lib.size_eq s
      exact List.eq_nil_of_length_eq_zero (by omega)
    rw [this]; rfl)
  have HT : Hid (((s.extract 0 1).toList == [45]) = true → dgs s = s.extract 1 s.size) := hT
  have HF : Hid (((s.extract 0 1).toList == [45]) = false → dgs s = s) := hF
  have HE : Hid (¬ 1 ≤ (s.size : Int) → dgs s = s) := hE
  clear hT hF hE
  go_enter Tryd.func62, Tryd.ntmps62
  go_wp2
  all_goals go_ret
  · rw [HT.out ‹_›]; exact ⟨rfl, rfl⟩
  · rw [HF.out ‹_›]; exact ⟨rfl, rfl⟩
  · rw [HE.out (by omega)]; exact ⟨rfl, rfl⟩

theorem toList_ne (d : ByteArray) (h : 0 < d.size) : d.toList.isEmpty = false := by
  rw [ByteArray.toList_eq]
  have := Lib.size_eq d
  cases hl : d.data.toList with
  | nil => exfalso; rw [hl] at this; simp only [List.length_nil] at this; omega
  | cons _ _ => rfl
theorem toList_e (d : ByteArray) (h : d.size = 0) : d.toList.isEmpty = true := by
  rw [ByteArray.toList_eq, List.eq_nil_of_length_eq_zero (l := d.data.toList) (by rw [← Lib.size_eq]; exact h)]; rfl

set_option maxHeartbeats 400000 in
theorem isInt_impl (s : ByteArray) (w : World) (hs : s.size ≤ maxLen) :
    Calls Tryd.prog 42 #[.string s] w fun e w' => e = .returned (.bool (isIntB s)) ∧ w' = w := by
  have hdz := dgs_size s
  unfold maxLen at hs
  obtain ⟨d, hd⟩ : ∃ d, dgs s = d := ⟨_, rfl⟩
  rw [hd] at hdz
  have HD : Hid (dgs s = d) := hd
  clear hd
  by_cases c0 : d.size = 0
  · have e := toList_e d c0
    have F : Hid (isIntB s = false) := isInt_empty s d HD.out c0
    clear c0
    go_enter Tryd.func42, Tryd.ntmps42
    go_wp2_with (go_at_call 62; refine (trim_any _ _ hs).mono ?_; rintro e w' ⟨rfl, rfl⟩; rw [HD.out])
    go_ret
    exact ⟨ret_bool F.out.symm, rfl⟩
  have e := toList_ne d (by omega)
  by_cases c1 : 2500 < d.size
  · have F : Hid (isIntB s = false) := isInt_long s d HD.out c1
    clear c0
    have c2 : decide (2500 < (d.size : Int)) = true := by simp; omega
    go_enter Tryd.func42, Tryd.ntmps42
    go_wp2_with (go_at_call 62; refine (trim_any _ _ hs).mono ?_; rintro e w' ⟨rfl, rfl⟩; rw [HD.out])
    go_ret
    exact ⟨ret_bool F.out.symm, rfl⟩
  have c2 : decide (2500 < (d.size : Int)) = false := by simp; omega
  have c3 : 0 < d.size := by omega
  by_cases c4 : d[0].toNat = 48
  · have F : Hid (isIntB s = (s.toList == [48])) := isInt_zero s d HD.out c3 c4
    clear c0
    have c5 : ((d[0].toNat : Int) == 48) = true := by simp; omega
    go_enter Tryd.func42, Tryd.ntmps42
    go_wp2_with (go_at_call 62; refine (trim_any _ _ hs).mono ?_; rintro e w' ⟨rfl, rfl⟩; rw [HD.out])
    go_ret
    exact ⟨ret_bool F.out.symm, rfl⟩
  have F : Hid (isIntB s = d.data.toList.all isDig) := isInt_rest s d HD.out c3 (by omega) c4
  have c5 : ((d[0].toNat : Int) == 48) = false := by simp; omega
  clear c0 c4
  go_enter Tryd.func42, Tryd.ntmps42
  go_wp2_with (go_at_call 62; refine (trim_any _ _ hs).mono ?_; rintro e w' ⟨rfl, rfl⟩; rw [HD.out])
  go_loop [21] (fun i => ∃ k : Nat, k ≤ d.size ∧ i = .int .i64 k ∧ (d.data.toList.take k).all isDig = true) (fun i => d.size - (intOf i).toNat)
  case atStart => exact ⟨0, Nat.zero_le _, rfl, rfl⟩
  case round =>
    obtain ⟨k, hk, rfl, hp⟩ := hrel
    have HP : Hid ((d.data.toList.take k).all isDig = true) := hp
    clear hp
    by_cases hlt : k < d.size
    · go_wp2
      · go_ret
        exact ⟨ret_bool (by rw [F.out, all_bad d k hlt (by omega)]), rfl⟩
      · go_round
        case rel => exact ⟨k + 1, by omega, by go_num, all_snoc d k hlt HP.out (by omega) (by omega)⟩
        case measure => simp [intOf]; omega
      · go_ret
        exact ⟨ret_bool (by rw [F.out, all_bad d k hlt (by omega)]), rfl⟩
    · go_wp2
      go_ret
      exact ⟨ret_bool (by rw [F.out]; rw [← HP.out, List.take_of_length_le (by rw [← Lib.size_eq]; omega)]), rfl⟩

theorem isNeg_yes (s : ByteArray) (h : isNeg s = true) : ∃ h0 : 0 < s.size, s[0].toNat = 45 := by
  unfold isNeg at h
  rw [Lib.extract_toList] at h
  obtain ⟨⟨l⟩⟩ := s
  cases l with
  | nil => simp at h
  | cons a l => 
    simp at h
    refine ⟨by simp [ByteArray.size], ?_⟩
    show a.toNat = 45
    rw [h]; rfl
theorem isNeg_no (s : ByteArray) (h : isNeg s = false) (h0 : 0 < s.size) : ¬ s[0].toNat = 45 := by
  unfold isNeg at h
  rw [Lib.extract_toList] at h
  obtain ⟨⟨l⟩⟩ := s
  cases l with
  | nil => simp [ByteArray.size] at h0
  | cons a l => 
    simp at h
    intro e
    exact h (UInt8.toNat_inj.1 (by rw [show a.toNat = 45 from e]; rfl))
theorem isInt_loop (s d : ByteArray) (hd : dgs s = d) (h : 0 < d.size) (h1 : d.size ≤ 2500) (h2 : isNeg s = true → ¬ d.toList = [48]) (h3 : d.size = 1 ∨ ¬ d[0].toNat = 48) : isIntB s = d.data.toList.all isDig := by
  by_cases c : d[0].toNat = 48
  · rw [isInt_zero s d hd h c]
    have h4 : d.size = 1 := h3.resolve_right (fun x => x c)
    have e : d[0] = 48 := UInt8.toNat_inj.1 (by rw [c]; rfl)
    have e2 : d.data.toList = [48] := by
      have hh := head_eq d h
      rw [Lib.size_eq] at h4
      obtain ⟨a, ha⟩ := List.length_eq_one_iff.1 h4
      rw [ha] at hh ⊢
      simp at hh
      rw [hh, e]
    cases hn : isNeg s with
    | true => exact absurd (by rw [ByteArray.toList_eq]; exact e2) (h2 hn)
    | false =>
      have : s = d := by rw [← hd]; unfold dgs; rw [hn]; rfl
      rw [this, ByteArray.toList_eq, e2]; rfl
  · exact isInt_rest s d hd h h1 c
theorem isInt_two (s d : ByteArray) (hd : dgs s = d) (h : 1 < d.size) (c : d[0].toNat = 48) : isIntB s = false := by
  rw [isInt_zero s d hd (by omega) c, beq_eq_false_iff_ne]
  intro e
  have := dgs_size s
  have e2 : s.size = 1 := by rw [Lib.size_eq, ← ByteArray.toList_eq, e]; rfl
  rw [hd] at this
  omega
theorem isInt_neg0 (s d : ByteArray) (hd : dgs s = d) (hn : isNeg s = true) (h : (d.toList == [48]) = true) : isIntB s = false := by
  have e : d.toList = [48] := by simpa using h
  rw [ByteArray.toList_eq] at e
  have hz : d.size = 1 := by rw [Lib.size_eq, e]; rfl
  have hh := head_eq d (by omega)
  rw [e] at hh
  simp at hh
  rw [isInt_zero s d hd (by omega) (by rw [← hh]; rfl), beq_eq_false_iff_ne]
  intro e3
  obtain ⟨h0, h1⟩ := isNeg_yes s hn
  have hh2 := head_eq s h0
  rw [← ByteArray.toList_eq, e3] at hh2
  simp at hh2
  rw [← hh2] at h1
  exact absurd h1 (by decide)
theorem dgs_neg (s : ByteArray) (h : isNeg s = true) : dgs s = s.extract 1 s.size := by unfold dgs; rw [if_pos h]
theorem dgs_pos (s : ByteArray) (h : isNeg s = false) : dgs s = s := by unfold dgs; rw [h]; rfl
theorem ext_size (s : ByteArray) : (s.extract 1 s.size).size = s.size - 1 := by rw [ByteArray.size_extract]; omega
set_option maxHeartbeats 800000 in
theorem spec_pos (s : ByteArray) (w : World) (hs : s.size ≤ maxLen) (hn : isNeg s = false) :
    Calls Tryd.prog 10 #[.string s] w fun e w' => e = .returned (.bool (isIntB s)) ∧ w' = w := by
  unfold maxLen at hs
  have HD : Hid (dgs s = s) := dgs_pos s hn
  have HN : Hid (isNeg s = false) := hn
  clear hn
  by_cases c0 : s.size = 0
  · have F : Hid (isIntB s = false) := isInt_empty s _ HD.out c0
    have e0 : s = ByteArray.empty := by
      obtain ⟨⟨l⟩⟩ := s
      simp [ByteArray.size] at c0
      rw [c0]; rfl
    clear c0
    subst e0
    go_enter Tryd.func10, Tryd.ntmps10
    go_wp2
    go_ret
    exact ⟨ret_bool F.out.symm, rfl⟩
  have c2 : 0 < s.size := by omega
  have m0 : ((s[0].toNat : Int) == 45) = false := by
    have := isNeg_no s HN.out c2
    simp; omega
  have z0 : ((s.size : Int) == 0) = false := by rw [beq_eq_false_iff_ne]; omega
  by_cases c1 : 2500 < s.size
  · have F : Hid (isIntB s = false) := isInt_long s _ HD.out c1
    have z1 : decide (2500 < (s.size : Int)) = true := by simp; omega
    clear c0
    go_enter Tryd.func10, Tryd.ntmps10
    go_wp2
    all_goals
      go_ret
      exact ⟨ret_bool F.out.symm, rfl⟩
  have z1 : decide (2500 < (s.size : Int)) = false := by simp; omega
  by_cases c3 : s.size = 1 ∨ ¬ s[0].toNat = 48
  · have F : Hid (isIntB s = s.data.toList.all isDig) := isInt_loop s s HD.out c2 (by omega) (fun h => by rw [HN.out] at h; cases h) c3
    have z2 : decide (1 < (s.size : Int)) = false ∨ (decide (1 < (s.size : Int)) = true ∧ ((s[0].toNat : Int) == 48) = false) := by
      by_cases c4 : s.size = 1
      · exact .inl (by simp; omega)
      · exact .inr ⟨by simp; omega, by have := c3.resolve_left c4; simp; omega⟩
    have z3 : 1 ≤ s.size := by omega
    clear c3 c0
    rcases z2 with z2 | ⟨z2, z4⟩
    all_goals
      go_enter Tryd.func10, Tryd.ntmps10
      go_wp2
      go_loop [3] (fun i => ∃ k : Nat, k ≤ s.size ∧ i = .int .i64 k ∧ (s.data.toList.take k).all isDig = true) (fun i => s.size - (intOf i).toNat)
      case atStart => exact ⟨0, Nat.zero_le _, rfl, rfl⟩
      case round =>
        obtain ⟨k, hk, rfl, hp⟩ := hrel
        have HP : Hid ((s.data.toList.take k).all isDig = true) := hp
        clear hp
        by_cases hlt : k < s.size
        · go_wp2
          · go_ret
            exact ⟨ret_bool (by rw [F.out, all_bad s k hlt (by omega)]), rfl⟩
          · go_round
            case rel => exact ⟨k + 1, by omega, by go_num, all_snoc s k hlt HP.out (by omega) (by omega)⟩
            case measure => simp [intOf]; omega
          · go_ret
            exact ⟨ret_bool (by rw [F.out, all_bad s k hlt (by omega)]), rfl⟩
        · go_wp2
          go_ret
          exact ⟨ret_bool (by rw [F.out]; rw [← HP.out, List.take_of_length_le (by rw [← Lib.size_eq]; omega)]), rfl⟩
  · have F : Hid (isIntB s = false) := isInt_two s s HD.out (by omega) (by omega)
    have z2 : decide (1 < (s.size : Int)) = true := by simp; omega
    have z4 : ((s[0].toNat : Int) == 48) = true := by simp; omega
    clear c3
    go_enter Tryd.func10, Tryd.ntmps10
    go_wp2
    all_goals
      go_ret
      exact ⟨ret_bool F.out.symm, rfl⟩
set_option maxHeartbeats 800000 in
theorem spec_neg (s : ByteArray) (w : World) (hs : s.size ≤ maxLen) (hn : isNeg s = true) :
    Calls Tryd.prog 10 #[.string s] w fun e w' => e = .returned (.bool (isIntB s)) ∧ w' = w := by
  unfold maxLen at hs
  have HD : Hid (dgs s = s.extract 1 s.size) := dgs_neg s hn
  have HN : Hid (isNeg s = true) := hn
  have HZ : Hid ((s.extract 1 s.size).size = s.size - 1) := ext_size s
  obtain ⟨h0, h1⟩ := isNeg_yes s hn
  have m0 : ((s[0].toNat : Int) == 45) = true := by simp; omega
  clear hn h1
  by_cases c9 : ((s.extract 1 s.size).toList == [48]) = true
  · have F : Hid (isIntB s = false) := isInt_neg0 s _ HD.out HN.out c9
    go_enter Tryd.func10, Tryd.ntmps10
    go_wp2
    go_ret
    exact ⟨ret_bool F.out.symm, rfl⟩
  have n9 : ((s.extract 1 s.size).toList == [48]) = false := by simpa using c9
  have HL : Hid (¬ (s.extract 1 s.size).toList = [48]) := by
    intro e; rw [e] at c9; exact c9 rfl
  clear c9
  by_cases c0 : s.size - 1 = 0
  · have F : Hid (isIntB s = false) := isInt_empty s _ HD.out (by rw [HZ.out]; exact c0)
    have z0 : (((s.size - 1 : Nat) : Int) == 0) = true := by rw [beq_iff_eq]; omega
    go_enter Tryd.func10, Tryd.ntmps10
    go_wp2
    go_ret
    exact ⟨ret_bool F.out.symm, rfl⟩
  have c2 : 0 < s.size - 1 := by omega
  have z0 : (((s.size - 1 : Nat) : Int) == 0) = false := by rw [beq_eq_false_iff_ne]; omega
  by_cases c1 : 2500 < s.size - 1
  · have F : Hid (isIntB s = false) := isInt_long s _ HD.out (by rw [HZ.out]; exact c1)
    have z1 : decide (2500 < ((s.size - 1 : Nat) : Int)) = true := by rw [decide_eq_true_iff]; omega
    clear c0
    go_enter Tryd.func10, Tryd.ntmps10
    go_wp2
    go_ret
    exact ⟨ret_bool F.out.symm, rfl⟩
  have z1 : decide (2500 < ((s.size - 1 : Nat) : Int)) = false := by rw [decide_eq_false_iff_not]; omega
  have c5 : 0 < (s.extract 1 s.size).size := by rw [HZ.out]; exact c2
  by_cases c3 : (s.extract 1 s.size).size = 1 ∨ ¬ (s.extract 1 s.size)[0].toNat = 48
  · have F : Hid (isIntB s = (s.extract 1 s.size).data.toList.all isDig) := isInt_loop s _ HD.out c5 (by rw [HZ.out]; omega) (fun h => HL.out) c3
    have z2 : decide (1 < ((s.size - 1 : Nat) : Int)) = false ∨ (decide (1 < ((s.size - 1 : Nat) : Int)) = true ∧ (((s.extract 1 s.size)[0].toNat : Int) == 48) = false) := by
      by_cases c4 : (s.extract 1 s.size).size = 1
      · exact .inl (by rw [HZ.out] at c4; rw [decide_eq_false_iff_not]; omega)
      · exact .inr ⟨by rw [HZ.out] at c4; rw [decide_eq_true_iff]; omega, by have := c3.resolve_left c4; rw [beq_eq_false_iff_ne]; omega⟩
    clear c3 c0
    rcases z2 with z2 | ⟨z2, z4⟩
    all_goals
      go_enter Tryd.func10, Tryd.ntmps10
      go_wp2
      go_loop [3] (fun i => ∃ k : Nat, k ≤ s.size - 1 ∧ i = .int .i64 k ∧ ((s.extract 1 s.size).data.toList.take k).all isDig = true) (fun i => s.size - 1 - (intOf i).toNat)
      case atStart => exact ⟨0, Nat.zero_le _, rfl, rfl⟩
      case round =>
        obtain ⟨k, hk, rfl, hp⟩ := hrel
        have HP : Hid (((s.extract 1 s.size).data.toList.take k).all isDig = true) := hp
        clear hp
        by_cases hlt : k < s.size - 1
        · have hlt' : k < (s.extract 1 s.size).size := by rw [HZ.out]; exact hlt
          go_wp2
          · go_ret
            exact ⟨ret_bool (by rw [F.out, all_bad _ k hlt' (by omega)]), rfl⟩
          · go_round
            case rel => exact ⟨k + 1, by omega, by go_num, all_snoc _ k hlt' HP.out (by omega) (by omega)⟩
            case measure => simp [intOf]; omega
          · go_ret
            exact ⟨ret_bool (by rw [F.out, all_bad _ k hlt' (by omega)]), rfl⟩
        · go_wp2
          go_ret
          exact ⟨ret_bool (by rw [F.out]; rw [← HP.out, List.take_of_length_le (by rw [← Lib.size_eq, HZ.out]; omega)]), rfl⟩
  · have F : Hid (isIntB s = false) := isInt_two s _ HD.out (by omega) (by omega)
    have z2 : decide (1 < ((s.size - 1 : Nat) : Int)) = true := by rw [HZ.out] at c3 c5; rw [decide_eq_true_iff]; omega
    have z4 : (((s.extract 1 s.size)[0].toNat : Int) == 48) = true := by rw [beq_iff_eq]; omega
    clear c3
    go_enter Tryd.func10, Tryd.ntmps10
    go_wp2
    all_goals
      go_ret
      exact ⟨ret_bool F.out.symm, rfl⟩
theorem isInt_spec (s : ByteArray) (w : World) (hs : s.size ≤ maxLen) :
    Calls Tryd.prog 10 #[.string s] w fun e w' => e = .returned (.bool (isIntB s)) ∧ w' = w := by
  cases hn : isNeg s
  · exact spec_pos s w hs hn
  · exact spec_neg s w hs hn
end Go.Proofs.YtpjnglcojamfmaaDoor
namespace Go.Proofs.YtpjnglcojamfmaaDoor
/-! Plain lemmas on limbs: lists of numbers below 10^9, the lowest first. -/
def val : List Nat → Nat
  | [] => 0
  | x :: l => x + 1000000000 * val l
def okL (l : List Nat) : Prop := ∀ x ∈ l, x < 1000000000
/-- Without the zeros at the top. -/
def trimL (l : List Nat) : List Nat := l.take (l.length - (l.reverse.takeWhile (· == 0)).length)
def isTrim (l : List Nat) : Prop := ∀ h : l ≠ [], l.getLast h ≠ 0
/-- The number of a text of digits. -/
def num (d : List UInt8) : Nat := d.foldl (fun a c => a * 10 + (c.toNat - 48)) 0
/-- Limb i of a text of digits: nine digits, from the end. -/
def chunk (d : List UInt8) (i : Nat) : Nat := num ((d.take (d.length - 9 * i)).drop (d.length - 9 * i - 9))
def cnt (n : Nat) : Nat := (n + 8) / 9
def chunks (d : List UInt8) : List Nat := (List.range (cnt d.length)).map (chunk d)
def dig (c : UInt8) : Prop := 48 ≤ c.toNat ∧ c.toNat ≤ 57

theorem num_snoc (d : List UInt8) (c : UInt8) : num (d ++ [c]) = num d * 10 + (c.toNat - 48) := by simp [num]
theorem num_lt (d : List UInt8) (h : ∀ c ∈ d, dig c) : num d < 10 ^ d.length := by
  have key : ∀ (l : List UInt8) (a k : Nat), (∀ c ∈ l, dig c) → a < 10 ^ k → l.foldl (fun a c => a * 10 + (c.toNat - 48)) a < 10 ^ (k + l.length) := by
    intro l
    induction l with
    | nil => intro a k _ h; simpa using h
    | cons c l ih =>
      intro a k hd ha
      have hc := hd c (by simp)
      have := ih (a * 10 + (c.toNat - 48)) (k + 1) (fun x hx => hd x (by simp [hx])) (by unfold dig at hc; rw [Nat.pow_succ]; omega)
      simp only [List.foldl_cons, List.length_cons]
      rw [show k + (l.length + 1) = k + 1 + l.length by omega]
      exact this
  have := key d 0 0 h (by simp)
  simpa [num] using this
theorem chunk_lt (d : List UInt8) (i : Nat) (h : ∀ c ∈ d, dig c) : chunk d i < 1000000000 := by
  unfold chunk
  have h1 := num_lt ((d.take (d.length - 9 * i)).drop (d.length - 9 * i - 9)) (fun c hc => h c (List.mem_of_mem_take (List.mem_of_mem_drop hc)))
  have h2 : ((d.take (d.length - 9 * i)).drop (d.length - 9 * i - 9)).length ≤ 9 := by simp; omega
  have h3 : 10 ^ ((d.take (d.length - 9 * i)).drop (d.length - 9 * i - 9)).length ≤ 10 ^ 9 := Nat.pow_le_pow_right (by omega) h2
  have : (10 : Nat) ^ 9 = 1000000000 := by decide
  omega
theorem chunks_ok (d : List UInt8) (h : ∀ c ∈ d, dig c) : okL (chunks d) := by
  intro x hx
  simp only [chunks, List.mem_map] at hx
  obtain ⟨i, _, rfl⟩ := hx
  exact chunk_lt d i h
/-- trimL, one zero at a time. -/
theorem trimL_snoc_zero (l : List Nat) : trimL (l ++ [0]) = trimL l := by
  unfold trimL
  simp only [List.reverse_append, List.reverse_cons, List.reverse_nil, List.nil_append, List.cons_append, List.length_append, List.length_cons, List.length_nil]
  rw [List.takeWhile_cons]
  simp only [beq_self_eq_true, if_true, List.length_cons]
  rw [show l.length + (0 + 1) - ((List.takeWhile (fun x => x == 0) l.reverse).length + 1) = l.length - (List.takeWhile (fun x => x == 0) l.reverse).length by omega]
  rw [List.take_append_of_le_length (by omega)]
theorem trimL_snoc_pos (l : List Nat) (x : Nat) (h : x ≠ 0) : trimL (l ++ [x]) = l ++ [x] := by
  unfold trimL
  simp only [List.reverse_append, List.reverse_cons, List.reverse_nil, List.nil_append, List.cons_append]
  rw [List.takeWhile_cons, if_neg (by simpa using h)]
  exact List.take_of_length_le (by simp)
theorem trimL_nil : trimL [] = [] := rfl
theorem trimL_take_zero (l : List Nat) (k : Nat) (h : k < l.length) (h0 : l.getD k 0 = 0) : trimL (l.take (k + 1)) = trimL (l.take k) := by
  rw [List.take_succ_eq_append_getElem h]
  have : l[k] = 0 := by simpa [List.getD_eq_getElem?_getD, h] using h0
  rw [this, trimL_snoc_zero]
theorem trimL_take_pos (l : List Nat) (k : Nat) (h : k < l.length) (h0 : l.getD k 0 ≠ 0) : trimL (l.take (k + 1)) = l.take (k + 1) := by
  rw [List.take_succ_eq_append_getElem h]
  have : l[k] ≠ 0 := by simpa [List.getD_eq_getElem?_getD, h] using h0
  exact trimL_snoc_pos _ _ this
theorem trimL_take (l : List Nat) : trimL l = l.take (trimL l).length := by
  unfold trimL
  rw [List.length_take, List.take_eq_take_iff]
  omega
theorem trimL_len (l : List Nat) : (trimL l).length ≤ l.length := by unfold trimL; rw [List.length_take]; omega
theorem trimL_ok (l : List Nat) (h : okL l) : okL (trimL l) := fun x hx => h x (List.mem_of_mem_take hx)
theorem trimL_trim (l : List Nat) : isTrim (trimL l) := by
  induction hn : l.length generalizing l with
  | zero =>
    have : l = [] := List.eq_nil_of_length_eq_zero hn
    subst this
    intro h; exact absurd trimL_nil h
  | succ n ih =>
    have hne : l ≠ [] := by intro h; rw [h] at hn; simp at hn
    rw [← List.dropLast_concat_getLast hne]
    by_cases h0 : l.getLast hne = 0
    · rw [h0, trimL_snoc_zero]
      exact ih _ (by simp [hn])
    · rw [trimL_snoc_pos _ _ h0]
      intro h
      simpa using h0
theorem trimL_of_trim (l : List Nat) (h : isTrim l) : trimL l = l := by
  by_cases hne : l = []
  · rw [hne]; rfl
  · rw [← List.dropLast_concat_getLast hne]
    exact trimL_snoc_pos _ _ (h hne)
end Go.Proofs.YtpjnglcojamfmaaDoor
namespace Go.Proofs.YtpjnglcojamfmaaDoor
open Go.ChangeShapes Go.WideShapes Go.ChangeAt Go.RowKit
/-- A slice of limbs as it lies in memory. -/
def IsL (B : Nat) (w : World) (v : Value) (l : List Nat) : Prop :=
  ∃ a cap, v = .slice a l.length cap ∧ l.length ≤ cap ∧ cap ≤ maxLen ∧ okL l ∧
    (l = [] ∨ ∃ b off, a = some ⟨b, off, none⟩ ∧ B ≤ b ∧ b < w.heap.size ∧ ∀ i, i < l.length → w.cell? ⟨b, off + i, none⟩ = some (.int .u32 (l.getD i 0 : Nat)))
theorem ret_int {k : IntKind} {a b : Int} (h : a = b) : Ending.returned (.int k a) = .returned (.int k b) := by rw [h]
theorem val_int {k : IntKind} {a b : Int} (h : a = b) : Value.int k a = Value.int k b := by rw [h]
theorem num_take_succ (s : ByteArray) (k : Nat) (h : k < s.size) : num (s.data.toList.take (k + 1)) = num (s.data.toList.take k) * 10 + (s[k].toNat - 48) := by
  rw [take_snoc s k h, num_snoc]
theorem dig_at (s : ByteArray) (hd : ∀ c ∈ s.data.toList, dig c) (k : Nat) (h : k < s.size) : 48 ≤ s[k].toNat ∧ s[k].toNat ≤ 57 :=
  hd s[k] (by show s.data[k] ∈ _; exact Array.getElem_mem_toList _)
theorem num_take_lt (s : ByteArray) (hd : ∀ c ∈ s.data.toList, dig c) (h9 : s.size ≤ 9) (k : Nat) (hk : k < s.size) : num (s.data.toList.take k) < 100000000 := by
  have h1 := num_lt (s.data.toList.take k) (fun c hc => hd c (List.mem_of_mem_take hc))
  have h2 : (s.data.toList.take k).length ≤ 8 := by rw [List.length_take]; omega
  have h3 : 10 ^ (s.data.toList.take k).length ≤ 10 ^ 8 := Nat.pow_le_pow_right (by omega) h2
  have : (10 : Nat) ^ 8 = 100000000 := by decide
  omega
set_option maxHeartbeats 400000 in
theorem readLimb_any (s : ByteArray) (w : World) (h9 : s.size ≤ 9) (hd : ∀ c ∈ s.data.toList, dig c) :
    Calls Tryd.prog 63 #[.string s] w fun e w' => e = .returned (.int .u32 (num s.data.toList : Nat)) ∧ w' = w := by
  have HD : Hid (∀ c ∈ s.data.toList, dig c) := hd
  clear hd
  go_enter Tryd.func63, Tryd.ntmps63
  go_wp2
  go_loop [3, 7] (fun t i => ∃ k : Nat, k ≤ s.size ∧ i = .int .i64 k ∧ t = .int .u32 (num (s.data.toList.take k) : Nat)) (fun _ i => s.size - (intOf i).toNat)
  case atStart => exact ⟨0, Nat.zero_le _, rfl, rfl⟩
  case round =>
    obtain ⟨k, hk, rfl, rfl⟩ := hrel
    by_cases hlt : k < s.size
    · have hb := num_take_lt s HD.out h9 k hlt
      have hc := dig_at s HD.out k hlt
      have HS : Hid (num (s.data.toList.take (k + 1)) = num (s.data.toList.take k) * 10 + (s[k].toNat - 48)) := num_take_succ s k hlt
      go_wp2
      go_round
      case rel =>
        refine ⟨k + 1, by omega, by go_num, ?_⟩
        rw [HS.out]
        exact val_int (by omega)
      case measure => simp [intOf]; omega
    · go_wp2
      go_ret
      exact ⟨ret_int (by rw [List.take_of_length_le (by rw [← Lib.size_eq]; omega)]), rfl⟩
set_option maxHeartbeats 400000 in
theorem trimLimbs_row (b off cap : Nat) (l : List Nat) (w : World) (hl : l.length ≤ cap) (hcap : cap ≤ maxLen)
    (hc : ∀ i, i < l.length → w.cell? ⟨b, off + i, none⟩ = some (.int .u32 (l.getD i 0 : Nat))) :
    Calls Tryd.prog 67 #[.slice (some ⟨b, off, none⟩) l.length cap] w fun e w' =>
      e = .returned (.slice (some ⟨b, off, none⟩) (trimL l).length cap) ∧ w' = w := by
  unfold maxLen at hcap
  have HC : Hid (∀ i, i < l.length → w.cell? ⟨b, off + i, none⟩ = some (.int .u32 (l.getD i 0 : Nat))) := hc
  clear hc
  go_enter Tryd.func67, Tryd.ntmps67
  go_wp2
  go_loop [0] (fun s => ∃ k : Nat, k ≤ l.length ∧ s = .slice (some ⟨b, off, none⟩) k cap ∧ trimL (l.take k) = trimL l) (fun s => match s with | .slice _ k _ => k | _ => 0)
  case atStart => exact ⟨l.length, Nat.le_refl _, rfl, by rw [List.take_length]⟩
  case round =>
    obtain ⟨k, hk, rfl, hp⟩ := hrel
    have HP : Hid (trimL (l.take k) = trimL l) := hp
    clear hp
    cases k with
    | zero =>
      go_wp2
      go_ret
      have : trimL l = [] := by rw [← HP.out]; rfl
      exact ⟨by rw [this]; rfl, rfl⟩
    | succ m =>
      obtain ⟨x, hx⟩ : ∃ x, l.getD m 0 = x := ⟨_, rfl⟩
      have hcell := HC.out m (by omega)
      rw [hx] at hcell
      have HX : Hid (l.getD m 0 = x) := hx
      clear hx
      by_cases h0 : x = 0
      · have hz : ((x : Int) == 0) = true := by rw [beq_iff_eq]; omega
        have HE : Hid (trimL (l.take m) = trimL l) := by rw [← trimL_take_zero l m (by omega) (by rw [HX.out, h0])]; exact HP.out
        clear h0
        go_wp2
        go_round
        case rel => exact ⟨m, by omega, rfl, HE.out⟩
        case measure => simp
      · have hz : ((x : Int) == 0) = false := by rw [beq_eq_false_iff_ne]; omega
        have HE : Hid ((trimL l).length = m + 1) := by
          rw [← HP.out, trimL_take_pos l m (by omega) (by rw [HX.out]; exact h0), List.length_take]; exact Nat.min_eq_left (by omega)
        clear h0
        go_wp2
        go_ret
        exact ⟨by rw [HE.out]; rfl, rfl⟩
set_option maxHeartbeats 400000 in
theorem trimLimbs_none (a : Option Addr) (cap : Nat) (w : World) :
    Calls Tryd.prog 67 #[.slice a 0 cap] w fun e w' => e = .returned (.slice a 0 cap) ∧ w' = w := by
  go_enter Tryd.func67, Tryd.ntmps67
  go_wp2
  refine wp_loop_rounds 1 ?_
  rw [rounds_succ]
  go_wp2
  go_ret
  exact ⟨rfl, rfl⟩
theorem getD_trimL (l : List Nat) (i : Nat) (h : i < (trimL l).length) : (trimL l).getD i 0 = l.getD i 0 := by
  rw [trimL_take l] at h ⊢
  rw [List.length_take] at h
  simp only [List.getD_eq_getElem?_getD, List.getElem?_take]
  rw [if_pos (by omega)]
/-- v' is v, cut to the limbs without the zeros at the top. -/
def CutL (v v' : Value) (l : List Nat) : Prop := ∀ B W, IsL B W v l → IsL B W v' (trimL l)
theorem IsL.cut {b off cap : Nat} {l : List Nat} : CutL (.slice (some ⟨b, off, none⟩) l.length cap) (.slice (some ⟨b, off, none⟩) (trimL l).length cap) l := by
  rintro B W ⟨a, cap', he, hl, hcap, hok, hr⟩
  have hle := trimL_len l
  simp only [Value.slice.injEq, true_and] at he
  obtain ⟨rfl, rfl⟩ := he
  refine ⟨_, _, rfl, by omega, hcap, trimL_ok l hok, ?_⟩
  rcases hr with h | ⟨b', off', he, hB, hb, hc⟩
  · exact .inl (by rw [h]; rfl)
  · refine .inr ⟨b', off', he, hB, hb, fun i hi => ?_⟩
    rw [getD_trimL l i hi]
    exact hc i (by omega)
theorem trimLimbs_any (B : Nat) (v : Value) (l : List Nat) (w : World) (h : IsL B w v l) :
    Calls Tryd.prog 67 #[v] w fun e w' => ∃ v', e = .returned v' ∧ CutL v v' l ∧ w' = w := by
  obtain ⟨a, cap, rfl, hl, hcap, hok, hr⟩ := h
  rcases hr with rfl | ⟨b, off, rfl, _, hb, hc⟩
  · refine (trimLimbs_none a cap w).mono ?_
    rintro e w' ⟨rfl, rfl⟩
    exact ⟨_, rfl, fun B W h => h, rfl⟩
  · refine (trimLimbs_row b off cap l w hl hcap hc).mono ?_
    rintro e w' ⟨rfl, rfl⟩
    exact ⟨_, rfl, IsL.cut, rfl⟩
theorem IsL.below {B : Nat} {w w' : World} {v : Value} {l : List Nat} (h : IsL B w v l) (hb : Below w.heap.size w w') : IsL B w' v l := by
  obtain ⟨a, cap, rfl, hl, hcap, hok, hr⟩ := h
  refine ⟨a, cap, rfl, hl, hcap, hok, ?_⟩
  rcases hr with rfl | ⟨b, off, rfl, hB, hlt, hc⟩
  · exact .inl rfl
  · refine .inr ⟨b, off, rfl, hB, Nat.lt_of_lt_of_le hlt hb.size, fun i hi => ?_⟩
    rw [hb.cell (p := ⟨b, off + i, none⟩) hlt]
    exact hc i hi
theorem IsL.mono {B B' : Nat} {w : World} {v : Value} {l : List Nat} (h : IsL B w v l) (hb : B' ≤ B) : IsL B' w v l := by
  obtain ⟨a, cap, rfl, hl, hcap, hok, hr⟩ := h
  refine ⟨a, cap, rfl, hl, hcap, hok, ?_⟩
  rcases hr with rfl | ⟨b, off, rfl, hB, hlt, hc⟩
  · exact .inl rfl
  · exact .inr ⟨b, off, rfl, Nat.le_trans hb hB, hlt, hc⟩
theorem IsL.setCell {B : Nat} {w : World} {v : Value} {l : List Nat} (h : IsL B w v l) (p : Addr) (u : Value) (hp : p.block < B) : IsL B (w.setCell p u) v l := by
  obtain ⟨a, cap, rfl, hl, hcap, hok, hr⟩ := h
  refine ⟨a, cap, rfl, hl, hcap, hok, ?_⟩
  rcases hr with rfl | ⟨b, off, rfl, hB, hlt, hc⟩
  · exact .inl rfl
  · refine .inr ⟨b, off, rfl, hB, by simpa using hlt, fun i hi => ?_⟩
    rw [← hc i hi]
    exact World.cell?_of_block (Below.heap_setCell w p u b (by omega))
theorem isL_of_owns {B e : Nat} {w : World} {v : Value} {l : List Nat} (h : w.ownsRow B e 1 v l.length (l.map (fun x => Value.int .u32 (x : Nat)))) (hok : okL l) : IsL B w v l := by
  have hcs := fun g hg => h.cells (g := g) hg
  have hlt := h.lt
  obtain ⟨_, h⟩ := h
  rcases h with ⟨rfl, hn⟩ | ⟨g, cap, cur, rfl, hB, hblk, hn, hcap, _, _⟩
  · exact ⟨none, 0, by rw [hn], by omega, by unfold maxLen; omega, hok, .inl (List.eq_nil_of_length_eq_zero hn)⟩
  · refine ⟨_, cap, rfl, hn, hcap, hok, .inr ⟨g, 0, rfl, hB, (hlt g rfl).2, fun i hi => ?_⟩⟩
    have := hcs g rfl i (.int .u32 (l.getD i 0 : Nat)) (by rw [List.getElem?_map]; simp [List.getD_eq_getElem?_getD, hi])
    by_cases i0 : i = 0
    · subst i0; simpa [Addr.add] using this
    · simpa [Addr.add, i0] using this
theorem below_alloc (w : World) (o : Obj) : Below w.heap.size w (w.alloc o) := (Below.refl _ _).alloc (Nat.le_refl _) o
def negOf (neg : Bool) (l : List Nat) : Bool := neg && decide (0 < l.length)
set_option maxHeartbeats 400000 in
theorem makeInteger_any (B : Nat) (neg : Bool) (v : Value) (l : List Nat) (w : World) (h : IsL B w v l) :
    Calls Tryd.prog 51 #[.bool neg, v] w fun e w' => ∃ v', e = .returned (.agg #[.bool (negOf neg (trimL l)), v']) ∧ CutL v v' l ∧ Below w.heap.size w w' := by
  have h1 : ∀ o, IsL B (w.alloc o) v l := fun o => h.below (below_alloc w o)
  have H1 : Hid (∀ o, IsL B (w.alloc o) v l) := h1
  clear h1 h
  cases neg
  all_goals
   go_enter Tryd.func51, Tryd.ntmps51
   go_wp2_with fail
   refine (trimLimbs_any B v l _ (H1.out _)).mono ?_
   rintro e w1 ⟨v', rfl, hv', rfl⟩
   have HV : Hid (CutL v v' l) := hv'
   obtain ⟨a, cap, rfl, hl, hcap, hok, hr⟩ := hv' _ _ (H1.out (.cells #[] 0))
   clear hr hok hv'
   go_wp2
   refine bodyPost_ret (v := .agg #[.bool (negOf _ (trimL l)), .slice a (trimL l).length cap]) ?_ rfl ⟨_, rfl, fun B W hW => HV.out B W hW, below_alloc _ _⟩
   simp [results, Tryd.results51, go_sem, negOf]
end Go.Proofs.YtpjnglcojamfmaaDoor
namespace Go.Proofs.YtpjnglcojamfmaaDoor
open Go.ChangeShapes Go.WideShapes Go.ChangeAt Go.RowKit
/-- A text without the zeros ahead. -/
def dropZ (l : List UInt8) : List UInt8 := l.dropWhile (· == 48)
def dropB (s : ByteArray) : ByteArray := ⟨(dropZ s.data.toList).toArray⟩
def strLen : Value → Nat | .string s => s.size | _ => 0
theorem dropZ_zero (s : ByteArray) (h : 0 < s.size) (h0 : s[0].toNat = 48) : dropZ (s.extract 1 s.size).data.toList = dropZ s.data.toList := by
  have e : s[0] = 48 := UInt8.toNat_inj.1 (by rw [h0]; rfl)
  have hh := head_eq s h
  rw [Lib.extract_to_end]
  cases hl : s.data.toList with
  | nil => rw [hl] at hh; simp at hh
  | cons a l =>
    rw [hl] at hh
    simp at hh
    rw [e] at hh
    subst hh
    simp [dropZ]
theorem dropZ_pos (s : ByteArray) (h : 0 < s.size) (h0 : ¬ s[0].toNat = 48) : dropZ s.data.toList = s.data.toList := by
  have e : ¬ s[0] = 48 := fun e => h0 (by rw [e]; rfl)
  have hh := head_eq s h
  cases hl : s.data.toList with
  | nil => rfl
  | cons a l =>
    rw [hl] at hh
    simp at hh
    rw [← hh] at e
    simp [dropZ, e]
theorem dropZ_nil (s : ByteArray) (h : s.size = 0) : dropZ s.data.toList = s.data.toList := by
  rw [List.eq_nil_of_length_eq_zero (l := s.data.toList) (by rw [← Lib.size_eq]; exact h)]; rfl
set_option maxHeartbeats 400000 in
theorem trimLeftByte_any (s : ByteArray) (w : World) (_hs : s.size ≤ maxLen) :
    Calls Tryd.prog 95 #[.string s, .int .u8 48] w fun e w' => e = .returned (.string (dropB s)) ∧ w' = w := by
  unfold maxLen at _hs
  go_enter Tryd.func95, Tryd.ntmps95
  go_wp2
  go_loop [0] (fun v => ∃ t : ByteArray, t.size ≤ s.size ∧ v = .string t ∧ dropZ t.data.toList = dropZ s.data.toList) (fun v => strLen v)
  case atStart => exact ⟨s, Nat.le_refl _, rfl, rfl⟩
  case round =>
    obtain ⟨t, ht, rfl, hp⟩ := hrel
    have HP : Hid (dropZ t.data.toList = dropZ s.data.toList) := hp
    clear hp
    by_cases h0 : t.size = 0
    · have HE : Hid (dropB s = t) := by
        show dropB s = t
        unfold dropB; rw [← HP.out, dropZ_nil t h0]
      have z : decide ((0 : Int) < (t.size : Int)) = false := by rw [decide_eq_false_iff_not]; omega
      go_wp2
      go_ret
      exact ⟨by rw [HE.out]; rfl, rfl⟩
    · have hpos : 0 < t.size := by omega
      by_cases h1 : t[0].toNat = 48
      · have z : ((t[0].toNat : Int) == 48) = true := by rw [beq_iff_eq]; omega
        have HE : Hid (dropZ (t.extract 1 t.size).data.toList = dropZ s.data.toList) := (dropZ_zero t hpos h1).trans HP.out
        have HS : Hid ((t.extract 1 t.size).size = t.size - 1) := ext_size t
        clear h1
        go_wp2
        go_round
        case rel => exact ⟨_, by rw [HS.out]; omega, rfl, HE.out⟩
        case measure => simp only [strLen]; rw [HS.out]; omega
      · have z : ((t[0].toNat : Int) == 48) = false := by rw [beq_eq_false_iff_ne]; omega
        have HE : Hid (dropB s = t) := by
          show dropB s = t
          unfold dropB; rw [← HP.out, dropZ_pos t hpos h1]
        clear h1
        go_wp2
        go_ret
        exact ⟨by rw [HE.out]; rfl, rfl⟩
set_option maxRecDepth 100000 in
set_option maxHeartbeats 400000 in
theorem trimLeft_any (s : ByteArray) (w : World) (hs : s.size ≤ maxLen) :
    Calls Tryd.prog 84 #[.string s, .string ⟨#[48]⟩] w fun e w' => e = .returned (.string (dropB s)) ∧ w' = w := by
  have hs' := hs
  unfold maxLen at hs
  by_cases h0 : s.size = 0
  · have z := toList_e s h0
    have HE : Hid (dropB s = s) := by show dropB s = s; unfold dropB; rw [dropZ_nil s h0]
    clear h0
    go_enter Tryd.func84, Tryd.ntmps84
    go_wp2
    go_ret
    exact ⟨by rw [HE.out]; rfl, rfl⟩
  · have z := toList_ne s (by omega)
    go_enter Tryd.func84, Tryd.ntmps84
    go_wp2_with fail
    refine (trimLeftByte_any _ _ hs').mono ?_
    rintro e w' ⟨rfl, rfl⟩
    go_wp2
    go_ret
    exact ⟨rfl, rfl⟩
end Go.Proofs.YtpjnglcojamfmaaDoor
