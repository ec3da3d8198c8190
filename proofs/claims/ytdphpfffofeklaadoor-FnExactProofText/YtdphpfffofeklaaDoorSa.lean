import Derived.Test.YtdphpfffofeklaaDoorRows
import Derived.WalkKit
import Derived.WalkSpells
import Derived.ProofKit
import Derived.OpenShut
import Derived.ShutString
import Derived.Lib.Strings
import Derived.Lib.IndexBytes
import Derived.RangeFuncBox
import Derived.RangeFuncLeaves
import Derived.Shelf.Abstract
import Derived.OwnWalkIn
import Derived.TacticsInMore
import Derived.LoopNIn
import Derived.LoopIn
import Derived.Maps.AppendAt
import Derived.Laws.IdiomStrings
import Derived.RangeFuncCalls
import Derived.Deep.QuietTactic
import Derived.BigQuiet
import Derived.WalkSmall
import Derived.Deep.RegionWith
import Derived.OneCell
namespace Go.Proofs.YtdphpfffofeklaaDoor
open Go.ChangeShapes Go.WideShapes Go.ChangeAt Go.RowKit
def isNeg (s : ByteArray) : Bool := (s.extract 0 1).toList == [45]
def dgs (s : ByteArray) : ByteArray := if isNeg s then s.extract 1 s.size else s
def isDig (c : UInt8) : Bool := decide (48 ≤ c.toNat ∧ c.toNat ≤ 57)
def isIntB (s : ByteArray) : Bool :=
  decide (0 < (dgs s).size) && decide ((dgs s).size ≤ 2500) && (dgs s).data.toList.all isDig && (!decide ((dgs s).data.toList.head? = some 48) || s.toList == [48])
theorem dgs_size (s : ByteArray) : (dgs s).size ≤ s.size := by
  unfold dgs; split
  · rw [ByteArray.size_extract]; omega
  · exact Nat.le_refl _
theorem ret_bool {a b : Bool} (h : a = b) : Ending.returned (.bool a) = .returned (.bool b) := by rw [h]
theorem take_snoc (s : ByteArray) (k : Nat) (h : k < s.size) : s.data.toList.take (k + 1) = s.data.toList.take k ++ [s[k]] := by
  rw [List.take_succ_eq_append_getElem (by simpa using h)]; rfl
theorem all_snoc (s : ByteArray) (k : Nat) (h : k < s.size) (hp : (s.data.toList.take k).all isDig = true) (h1 : 48 ≤ s[k].toNat) (h2 : s[k].toNat ≤ 57) :
    (s.data.toList.take (k + 1)).all isDig = true := by
  rw [take_snoc s k h, List.all_append, hp]; simp [isDig, h1, h2]
theorem all_bad (s : ByteArray) (k : Nat) (h : k < s.size) (h1 : ¬ (48 ≤ s[k].toNat ∧ s[k].toNat ≤ 57)) : s.data.toList.all isDig = false := by
  rw [Bool.eq_false_iff]
  intro ha
  rw [List.all_eq_true] at ha
  have := ha s[k] (by show s.data[k] ∈ _; exact Array.getElem_mem_toList _)
  simp [isDig] at this
  omega
theorem isInt_empty (s d : ByteArray) (hd : dgs s = d) (h : d.size = 0) : isIntB s = false := by subst hd; simp [isIntB, h]
theorem isInt_long (s d : ByteArray) (hd : dgs s = d) (h : 2500 < d.size) : isIntB s = false := by
  subst hd
  unfold isIntB; rw [decide_eq_false (show ¬ (dgs s).size ≤ 2500 by omega)]; simp
theorem head_eq (d : ByteArray) (h : 0 < d.size) : d.data.toList.head? = some d[0] := by
  obtain ⟨⟨l⟩⟩ := d
  cases l with
  | nil => simp [ByteArray.size] at h
  | cons a l => rfl
theorem isInt_zero (s d : ByteArray) (hd : dgs s = d) (h : 0 < d.size) (h2 : d[0].toNat = 48) : isIntB s = (s.toList == [48]) := by
  subst hd
  have e : (dgs s)[0] = 48 := UInt8.toNat_inj.1 (by rw [h2]; rfl)
  cases hb : s.toList == [48] with
  | false =>
    unfold isIntB
    rw [hb, head_eq _ h, e]; simp
  | true =>
    have hl : s.toList = [48] := by simpa using hb
    rw [ByteArray.toList_eq] at hl
    have es : s = ⟨#[48]⟩ := by
      obtain ⟨⟨l⟩⟩ := s
      simp at hl; rw [hl]
    subst es
    simp [isIntB, dgs, isNeg, ByteArray.toList_eq, isDig, ByteArray.size]
theorem isInt_rest (s d : ByteArray) (hd : dgs s = d) (h : 0 < d.size) (h1 : d.size ≤ 2500) (h2 : ¬ d[0].toNat = 48) : isIntB s = d.data.toList.all isDig := by
  subst hd
  have e : ¬ (dgs s)[0] = 48 := fun e => h2 (by rw [e]; rfl)
  unfold isIntB
  rw [head_eq _ h]
  simp [h, h1, e]
set_option maxHeartbeats 400000 in
theorem trim_any (s : ByteArray) (w : World) (hs : s.size ≤ maxLen) :
    Calls Tryd.prog 62 #[.string s, .string ⟨#[45]⟩] w fun e w' => e = .returned (.string (dgs s)) ∧ w' = w := by
  unfold maxLen at hs
  have hT : ((s.extract 0 1).toList == [45]) = true → dgs s = s.extract 1 s.size := fun h => by unfold dgs isNeg; rw [if_pos h]
  have hF : ((s.extract 0 1).toList == [45]) = false → dgs s = s := fun h => by unfold dgs isNeg; rw [if_neg (by rw [h]; decide)]
  have hE : ¬ 1 ≤ (s.size : Int) → dgs s = s := fun h => hF (by
    rw [Lib.extract_toList]
    have : s.data.toList = [] := by
      have := Lib.size_eq s
      exact List.eq_nil_of_length_eq_zero (by omega)
    rw [this]; rfl)
  have HT : Hid (((s.extract 0 1).toList == [45]) = true → dgs s = s.extract 1 s.size) := hT
  have HF : Hid (((s.extract 0 1).toList == [45]) = false → dgs s = s) := hF
  have HE : Hid (¬ 1 ≤ (s.size : Int) → dgs s = s) := hE
  clear hT hF hE
  go_enter Tryd.func62, Tryd.ntmps62
  go_wp2
  all_goals go_ret
  · rw [HT.out ‹_›]; exact ⟨rfl, rfl⟩
  · rw [HF.out ‹_›]; exact ⟨rfl, rfl⟩
  · rw [HE.out (by omega)]; exact ⟨rfl, rfl⟩
theorem toList_ne (d : ByteArray) (h : 0 < d.size) : d.toList.isEmpty = false := by
  rw [ByteArray.toList_eq]
  have := Lib.size_eq d
  cases hl : d.data.toList with
  | nil => exfalso; rw [hl] at this; simp only [List.length_nil] at this; omega
  | cons _ _ => rfl
theorem toList_e (d : ByteArray) (h : d.size = 0) : d.toList.isEmpty = true := by
  rw [ByteArray.toList_eq, List.eq_nil_of_length_eq_zero (l := d.data.toList) (by rw [← Lib.size_eq]; exact h)]; rfl
set_option maxHeartbeats 400000 in
theorem isInt_impl (s : ByteArray) (w : World) (hs : s.size ≤ maxLen) :
    Calls Tryd.prog 57 #[.string s] w fun e w' => e = .returned (.bool (isIntB s)) ∧ w' = w := by
  have hdz := dgs_size s
  unfold maxLen at hs
  obtain ⟨d, hd⟩ : ∃ d, dgs s = d := ⟨_, rfl⟩
  rw [hd] at hdz
  have HD : Hid (dgs s = d) := hd
  clear hd
  by_cases c0 : d.size = 0
  · have e := toList_e d c0
    have F : Hid (isIntB s = false) := isInt_empty s d HD.out c0
    clear c0
    go_enter Tryd.func57, Tryd.ntmps57
    go_wp2_with (go_at_call 62; refine (trim_any _ _ hs).mono ?_; rintro e w' ⟨rfl, rfl⟩; rw [HD.out])
    go_ret
    exact ⟨ret_bool F.out.symm, rfl⟩
  have e := toList_ne d (by omega)
  by_cases c1 : 2500 < d.size
  · have F : Hid (isIntB s = false) := isInt_long s d HD.out c1
    clear c0
    have c2 : decide (2500 < (d.size : Int)) = true := by simp; omega
    go_enter Tryd.func57, Tryd.ntmps57
    go_wp2_with (go_at_call 62; refine (trim_any _ _ hs).mono ?_; rintro e w' ⟨rfl, rfl⟩; rw [HD.out])
    go_ret
    exact ⟨ret_bool F.out.symm, rfl⟩
  have c2 : decide (2500 < (d.size : Int)) = false := by simp; omega
  have c3 : 0 < d.size := by omega
  by_cases c4 : d[0].toNat = 48
  · have F : Hid (isIntB s = (s.toList == [48])) := isInt_zero s d HD.out c3 c4
    clear c0
    have c5 : ((d[0].toNat : Int) == 48) = true := by simp; omega
    go_enter Tryd.func57, Tryd.ntmps57
    go_wp2_with (go_at_call 62; refine (trim_any _ _ hs).mono ?_; rintro e w' ⟨rfl, rfl⟩; rw [HD.out])
    go_ret
    exact ⟨ret_bool F.out.symm, rfl⟩
  have F : Hid (isIntB s = d.data.toList.all isDig) := isInt_rest s d HD.out c3 (by omega) c4
  have c5 : ((d[0].toNat : Int) == 48) = false := by simp; omega
  clear c0 c4
  go_enter Tryd.func57, Tryd.ntmps57
  go_wp2_with (go_at_call 62; refine (trim_any _ _ hs).mono ?_; rintro e w' ⟨rfl, rfl⟩; rw [HD.out])
  go_loop [21] (fun i => ∃ k : Nat, k ≤ d.size ∧ i = .int .i64 k ∧ (d.data.toList.take k).all isDig = true) (fun i => d.size - (intOf i).toNat)
  case atStart => exact ⟨0, Nat.zero_le _, rfl, rfl⟩
  case round =>
    obtain ⟨k, hk, rfl, hp⟩ := hrel
    have HP : Hid ((d.data.toList.take k).all isDig = true) := hp
    clear hp
    by_cases hlt : k < d.size
    · go_wp2
      · go_ret
        exact ⟨ret_bool (by rw [F.out, all_bad d k hlt (by omega)]), rfl⟩
      · go_round
        case rel => exact ⟨k + 1, by omega, by go_num, all_snoc d k hlt HP.out (by omega) (by omega)⟩
        case measure => simp [intOf]; omega
      · go_ret
        exact ⟨ret_bool (by rw [F.out, all_bad d k hlt (by omega)]), rfl⟩
    · go_wp2
      go_ret
      exact ⟨ret_bool (by rw [F.out]; rw [← HP.out, List.take_of_length_le (by rw [← Lib.size_eq]; omega)]), rfl⟩
theorem isNeg_yes (s : ByteArray) (h : isNeg s = true) : ∃ h0 : 0 < s.size, s[0].toNat = 45 := by
  unfold isNeg at h
  rw [Lib.extract_toList] at h
  obtain ⟨⟨l⟩⟩ := s
  cases l with
  | nil => simp at h
  | cons a l => 
    simp at h
    refine ⟨by simp [ByteArray.size], ?_⟩
    show a.toNat = 45
    rw [h]; rfl
theorem isNeg_no (s : ByteArray) (h : isNeg s = false) (h0 : 0 < s.size) : ¬ s[0].toNat = 45 := by
  unfold isNeg at h
  rw [Lib.extract_toList] at h
  obtain ⟨⟨l⟩⟩ := s
  cases l with
  | nil => simp [ByteArray.size] at h0
  | cons a l => 
    simp at h
    intro e
    exact h (UInt8.toNat_inj.1 (by rw [show a.toNat = 45 from e]; rfl))
theorem isInt_loop (s d : ByteArray) (hd : dgs s = d) (h : 0 < d.size) (h1 : d.size ≤ 2500) (h2 : isNeg s = true → ¬ d.toList = [48]) (h3 : d.size = 1 ∨ ¬ d[0].toNat = 48) : isIntB s = d.data.toList.all isDig := by
  by_cases c : d[0].toNat = 48
  · rw [isInt_zero s d hd h c]
    have h4 : d.size = 1 := h3.resolve_right (fun x => x c)
    have e : d[0] = 48 := UInt8.toNat_inj.1 (by rw [c]; rfl)
    have e2 : d.data.toList = [48] := by
      have hh := head_eq d h
      rw [Lib.size_eq] at h4
      obtain ⟨a, ha⟩ := List.length_eq_one_iff.1 h4
      rw [ha] at hh ⊢
      simp at hh
      rw [hh, e]
    cases hn : isNeg s with
    | true => exact absurd (by rw [ByteArray.toList_eq]; exact e2) (h2 hn)
    | false =>
      have : s = d := by rw [← hd]; unfold dgs; rw [hn]; rfl
      rw [this, ByteArray.toList_eq, e2]; rfl
  · exact isInt_rest s d hd h h1 c
theorem isInt_two (s d : ByteArray) (hd : dgs s = d) (h : 1 < d.size) (c : d[0].toNat = 48) : isIntB s = false := by
  rw [isInt_zero s d hd (by omega) c, beq_eq_false_iff_ne]
  intro e
  have := dgs_size s
  have e2 : s.size = 1 := by rw [Lib.size_eq, ← ByteArray.toList_eq, e]; rfl
  rw [hd] at this
  omega
theorem isInt_neg0 (s d : ByteArray) (hd : dgs s = d) (hn : isNeg s = true) (h : (d.toList == [48]) = true) : isIntB s = false := by
  have e : d.toList = [48] := by simpa using h
  rw [ByteArray.toList_eq] at e
  have hz : d.size = 1 := by rw [Lib.size_eq, e]; rfl
  have hh := head_eq d (by omega)
  rw [e] at hh
  simp at hh
  rw [isInt_zero s d hd (by omega) (by rw [← hh]; rfl), beq_eq_false_iff_ne]
  intro e3
  obtain ⟨h0, h1⟩ := isNeg_yes s hn
  have hh2 := head_eq s h0
  rw [← ByteArray.toList_eq, e3] at hh2
  simp at hh2
  rw [← hh2] at h1
  exact absurd h1 (by decide)
theorem dgs_neg (s : ByteArray) (h : isNeg s = true) : dgs s = s.extract 1 s.size := by unfold dgs; rw [if_pos h]
theorem dgs_pos (s : ByteArray) (h : isNeg s = false) : dgs s = s := by unfold dgs; rw [h]; rfl
theorem ext_size (s : ByteArray) : (s.extract 1 s.size).size = s.size - 1 := by rw [ByteArray.size_extract]; omega
set_option maxHeartbeats 800000 in
theorem spec_pos (s : ByteArray) (w : World) (hs : s.size ≤ maxLen) (hn : isNeg s = false) :
    Calls Tryd.prog 36 #[.string s] w fun e w' => e = .returned (.bool (isIntB s)) ∧ w' = w := by
  unfold maxLen at hs
  have HD : Hid (dgs s = s) := dgs_pos s hn
  have HN : Hid (isNeg s = false) := hn
  clear hn
  by_cases c0 : s.size = 0
  · have F : Hid (isIntB s = false) := isInt_empty s _ HD.out c0
    have e0 : s = ByteArray.empty := by
      obtain ⟨⟨l⟩⟩ := s
      simp [ByteArray.size] at c0
      rw [c0]; rfl
    clear c0
    subst e0
    go_enter Tryd.func36, Tryd.ntmps36
    go_wp2
    go_ret
    exact ⟨ret_bool F.out.symm, rfl⟩
  have c2 : 0 < s.size := by omega
  have m0 : ((s[0].toNat : Int) == 45) = false := by
    have := isNeg_no s HN.out c2
    simp; omega
  have z0 : ((s.size : Int) == 0) = false := by rw [beq_eq_false_iff_ne]; omega
  by_cases c1 : 2500 < s.size
  · have F : Hid (isIntB s = false) := isInt_long s _ HD.out c1
    have z1 : decide (2500 < (s.size : Int)) = true := by simp; omega
    clear c0
    go_enter Tryd.func36, Tryd.ntmps36
    go_wp2
    all_goals
      go_ret
      exact ⟨ret_bool F.out.symm, rfl⟩
  have z1 : decide (2500 < (s.size : Int)) = false := by simp; omega
  by_cases c3 : s.size = 1 ∨ ¬ s[0].toNat = 48
  · have F : Hid (isIntB s = s.data.toList.all isDig) := isInt_loop s s HD.out c2 (by omega) (fun h => by rw [HN.out] at h; cases h) c3
    have z2 : decide (1 < (s.size : Int)) = false ∨ (decide (1 < (s.size : Int)) = true ∧ ((s[0].toNat : Int) == 48) = false) := by
      by_cases c4 : s.size = 1
      · exact .inl (by simp; omega)
      · exact .inr ⟨by simp; omega, by have := c3.resolve_left c4; simp; omega⟩
    have z3 : 1 ≤ s.size := by omega
    clear c3 c0
    rcases z2 with z2 | ⟨z2, z4⟩
    all_goals
      go_enter Tryd.func36, Tryd.ntmps36
      go_wp2
      go_loop [3] (fun i => ∃ k : Nat, k ≤ s.size ∧ i = .int .i64 k ∧ (s.data.toList.take k).all isDig = true) (fun i => s.size - (intOf i).toNat)
      case atStart => exact ⟨0, Nat.zero_le _, rfl, rfl⟩
      case round =>
        obtain ⟨k, hk, rfl, hp⟩ := hrel
        have HP : Hid ((s.data.toList.take k).all isDig = true) := hp
        clear hp
        by_cases hlt : k < s.size
        · go_wp2
          · go_ret
            exact ⟨ret_bool (by rw [F.out, all_bad s k hlt (by omega)]), rfl⟩
          · go_round
            case rel => exact ⟨k + 1, by omega, by go_num, all_snoc s k hlt HP.out (by omega) (by omega)⟩
            case measure => simp [intOf]; omega
          · go_ret
            exact ⟨ret_bool (by rw [F.out, all_bad s k hlt (by omega)]), rfl⟩
        · go_wp2
          go_ret
          exact ⟨ret_bool (by rw [F.out]; rw [← HP.out, List.take_of_length_le (by rw [← Lib.size_eq]; omega)]), rfl⟩
  · have F : Hid (isIntB s = false) := isInt_two s s HD.out (by omega) (by omega)
    have z2 : decide (1 < (s.size : Int)) = true := by simp; omega
    have z4 : ((s[0].toNat : Int) == 48) = true := by simp; omega
    clear c3
    go_enter Tryd.func36, Tryd.ntmps36
    go_wp2
    all_goals
      go_ret
      exact ⟨ret_bool F.out.symm, rfl⟩
set_option maxHeartbeats 800000 in
theorem spec_neg (s : ByteArray) (w : World) (hs : s.size ≤ maxLen) (hn : isNeg s = true) :
    Calls Tryd.prog 36 #[.string s] w fun e w' => e = .returned (.bool (isIntB s)) ∧ w' = w := by
  unfold maxLen at hs
  have HD : Hid (dgs s = s.extract 1 s.size) := dgs_neg s hn
  have HN : Hid (isNeg s = true) := hn
  have HZ : Hid ((s.extract 1 s.size).size = s.size - 1) := ext_size s
  obtain ⟨h0, h1⟩ := isNeg_yes s hn
  have m0 : ((s[0].toNat : Int) == 45) = true := by simp; omega
  clear hn h1
  by_cases c9 : ((s.extract 1 s.size).toList == [48]) = true
  · have F : Hid (isIntB s = false) := isInt_neg0 s _ HD.out HN.out c9
    go_enter Tryd.func36, Tryd.ntmps36
    go_wp2
    go_ret
    exact ⟨ret_bool F.out.symm, rfl⟩
  have n9 : ((s.extract 1 s.size).toList == [48]) = false := by simpa using c9
  have HL : Hid (¬ (s.extract 1 s.size).toList = [48]) := by
    intro e; rw [e] at c9; exact c9 rfl
  clear c9
  by_cases c0 : s.size - 1 = 0
  · have F : Hid (isIntB s = false) := isInt_empty s _ HD.out (by rw [HZ.out]; exact c0)
    have z0 : (((s.size - 1 : Nat) : Int) == 0) = true := by rw [beq_iff_eq]; omega
    go_enter Tryd.func36, Tryd.ntmps36
    go_wp2
    go_ret
    exact ⟨ret_bool F.out.symm, rfl⟩
  have c2 : 0 < s.size - 1 := by omega
  have z0 : (((s.size - 1 : Nat) : Int) == 0) = false := by rw [beq_eq_false_iff_ne]; omega
  by_cases c1 : 2500 < s.size - 1
  · have F : Hid (isIntB s = false) := isInt_long s _ HD.out (by rw [HZ.out]; exact c1)
    have z1 : decide (2500 < ((s.size - 1 : Nat) : Int)) = true := by rw [decide_eq_true_iff]; omega
    clear c0
    go_enter Tryd.func36, Tryd.ntmps36
    go_wp2
    go_ret
    exact ⟨ret_bool F.out.symm, rfl⟩
  have z1 : decide (2500 < ((s.size - 1 : Nat) : Int)) = false := by rw [decide_eq_false_iff_not]; omega
  have c5 : 0 < (s.extract 1 s.size).size := by rw [HZ.out]; exact c2
  by_cases c3 : (s.extract 1 s.size).size = 1 ∨ ¬ (s.extract 1 s.size)[0].toNat = 48
  · have F : Hid (isIntB s = (s.extract 1 s.size).data.toList.all isDig) := isInt_loop s _ HD.out c5 (by rw [HZ.out]; omega) (fun h => HL.out) c3
    have z2 : decide (1 < ((s.size - 1 : Nat) : Int)) = false ∨ (decide (1 < ((s.size - 1 : Nat) : Int)) = true ∧ (((s.extract 1 s.size)[0].toNat : Int) == 48) = false) := by
      by_cases c4 : (s.extract 1 s.size).size = 1
      · exact .inl (by rw [HZ.out] at c4; rw [decide_eq_false_iff_not]; omega)
      · exact .inr ⟨by rw [HZ.out] at c4; rw [decide_eq_true_iff]; omega, by have := c3.resolve_left c4; rw [beq_eq_false_iff_ne]; omega⟩
    clear c3 c0
    rcases z2 with z2 | ⟨z2, z4⟩
    all_goals
      go_enter Tryd.func36, Tryd.ntmps36
      go_wp2
      go_loop [3] (fun i => ∃ k : Nat, k ≤ s.size - 1 ∧ i = .int .i64 k ∧ ((s.extract 1 s.size).data.toList.take k).all isDig = true) (fun i => s.size - 1 - (intOf i).toNat)
      case atStart => exact ⟨0, Nat.zero_le _, rfl, rfl⟩
      case round =>
        obtain ⟨k, hk, rfl, hp⟩ := hrel
        have HP : Hid (((s.extract 1 s.size).data.toList.take k).all isDig = true) := hp
        clear hp
        by_cases hlt : k < s.size - 1
        · have hlt' : k < (s.extract 1 s.size).size := by rw [HZ.out]; exact hlt
          go_wp2
          · go_ret
            exact ⟨ret_bool (by rw [F.out, all_bad _ k hlt' (by omega)]), rfl⟩
          · go_round
            case rel => exact ⟨k + 1, by omega, by go_num, all_snoc _ k hlt' HP.out (by omega) (by omega)⟩
            case measure => simp [intOf]; omega
          · go_ret
            exact ⟨ret_bool (by rw [F.out, all_bad _ k hlt' (by omega)]), rfl⟩
        · go_wp2
          go_ret
          exact ⟨ret_bool (by rw [F.out]; rw [← HP.out, List.take_of_length_le (by rw [← Lib.size_eq, HZ.out]; omega)]), rfl⟩
  · have F : Hid (isIntB s = false) := isInt_two s _ HD.out (by omega) (by omega)
    have z2 : decide (1 < ((s.size - 1 : Nat) : Int)) = true := by rw [HZ.out] at c3 c5; rw [decide_eq_true_iff]; omega
    have z4 : (((s.extract 1 s.size)[0].toNat : Int) == 48) = true := by rw [beq_iff_eq]; omega
    clear c3
    go_enter Tryd.func36, Tryd.ntmps36
    go_wp2
    all_goals
      go_ret
      exact ⟨ret_bool F.out.symm, rfl⟩
theorem isInt_spec (s : ByteArray) (w : World) (hs : s.size ≤ maxLen) :
    Calls Tryd.prog 36 #[.string s] w fun e w' => e = .returned (.bool (isIntB s)) ∧ w' = w := by
  cases hn : isNeg s
  · exact spec_pos s w hs hn
  · exact spec_neg s w hs hn
end Go.Proofs.YtdphpfffofeklaaDoor
namespace Go.Proofs.YtdphpfffofeklaaDoor
/-! Plain lemmas on limbs: lists of numbers below 10^9, the lowest first. -/
def val : List Nat → Nat
  | [] => 0
  | x :: l => x + 1000000000 * val l
def okL (l : List Nat) : Prop := ∀ x ∈ l, x < 1000000000
def trimL (l : List Nat) : List Nat := l.take (l.length - (l.reverse.takeWhile (· == 0)).length)
def isTrim (l : List Nat) : Prop := ∀ h : l ≠ [], l.getLast h ≠ 0
def num (d : List UInt8) : Nat := d.foldl (fun a c => a * 10 + (c.toNat - 48)) 0
def chunk (d : List UInt8) (i : Nat) : Nat := num ((d.take (d.length - 9 * i)).drop (d.length - 9 * i - 9))
def cnt (n : Nat) : Nat := (n + 8) / 9
def chunks (d : List UInt8) : List Nat := (List.range (cnt d.length)).map (chunk d)
def dig (c : UInt8) : Prop := 48 ≤ c.toNat ∧ c.toNat ≤ 57
theorem num_snoc (d : List UInt8) (c : UInt8) : num (d ++ [c]) = num d * 10 + (c.toNat - 48) := by simp [num]
theorem num_lt (d : List UInt8) (h : ∀ c ∈ d, dig c) : num d < 10 ^ d.length := by
  have key : ∀ (l : List UInt8) (a k : Nat), (∀ c ∈ l, dig c) → a < 10 ^ k → l.foldl (fun a c => a * 10 + (c.toNat - 48)) a < 10 ^ (k + l.length) := by
    intro l
    induction l with
    | nil => intro a k _ h; simpa using h
    | cons c l ih =>
      intro a k hd ha
      have hc := hd c (by simp)
      have := ih (a * 10 + (c.toNat - 48)) (k + 1) (fun x hx => hd x (by simp [hx])) (by unfold dig at hc; rw [Nat.pow_succ]; omega)
      simp only [List.foldl_cons, List.length_cons]
      rw [show k + (l.length + 1) = k + 1 + l.length by omega]
      exact this
  have := key d 0 0 h (by simp)
  simpa [num] using this
theorem chunk_lt (d : List UInt8) (i : Nat) (h : ∀ c ∈ d, dig c) : chunk d i < 1000000000 := by
  unfold chunk
  have h1 := num_lt ((d.take (d.length - 9 * i)).drop (d.length - 9 * i - 9)) (fun c hc => h c (List.mem_of_mem_take (List.mem_of_mem_drop hc)))
  have h2 : ((d.take (d.length - 9 * i)).drop (d.length - 9 * i - 9)).length ≤ 9 := by simp; omega
  have h3 : 10 ^ ((d.take (d.length - 9 * i)).drop (d.length - 9 * i - 9)).length ≤ 10 ^ 9 := Nat.pow_le_pow_right (by omega) h2
  have : (10 : Nat) ^ 9 = 1000000000 := by decide
  omega
theorem chunks_ok (d : List UInt8) (h : ∀ c ∈ d, dig c) : okL (chunks d) := by
  intro x hx
  simp only [chunks, List.mem_map] at hx
  obtain ⟨i, _, rfl⟩ := hx
  exact chunk_lt d i h
theorem trimL_snoc_zero (l : List Nat) : trimL (l ++ [0]) = trimL l := by
  unfold trimL
  simp only [List.reverse_append, List.reverse_cons, List.reverse_nil, List.nil_append, List.cons_append, List.length_append, List.length_cons, List.length_nil]
  rw [List.takeWhile_cons]
  simp only [beq_self_eq_true, if_true, List.length_cons]
  rw [show l.length + (0 + 1) - ((List.takeWhile (fun x => x == 0) l.reverse).length + 1) = l.length - (List.takeWhile (fun x => x == 0) l.reverse).length by omega]
  rw [List.take_append_of_le_length (by omega)]
theorem trimL_snoc_pos (l : List Nat) (x : Nat) (h : x ≠ 0) : trimL (l ++ [x]) = l ++ [x] := by
  unfold trimL
  simp only [List.reverse_append, List.reverse_cons, List.reverse_nil, List.nil_append, List.cons_append]
  rw [List.takeWhile_cons, if_neg (by simpa using h)]
  exact List.take_of_length_le (by simp)
theorem trimL_nil : trimL [] = [] := rfl
theorem trimL_len (l : List Nat) : (trimL l).length ≤ l.length := by unfold trimL; rw [List.length_take]; omega
theorem trimL_ok (l : List Nat) (h : okL l) : okL (trimL l) := fun x hx => h x (List.mem_of_mem_take hx)
theorem trimL_trim (l : List Nat) : isTrim (trimL l) := by
  induction hn : l.length generalizing l with
  | zero =>
    have : l = [] := List.eq_nil_of_length_eq_zero hn
    subst this
    intro h; exact absurd trimL_nil h
  | succ n ih =>
    have hne : l ≠ [] := by intro h; rw [h] at hn; simp at hn
    rw [← List.dropLast_concat_getLast hne]
    by_cases h0 : l.getLast hne = 0
    · rw [h0, trimL_snoc_zero]
      exact ih _ (by simp [hn])
    · rw [trimL_snoc_pos _ _ h0]
      intro h
      simpa using h0
end Go.Proofs.YtdphpfffofeklaaDoor
namespace Go.Proofs.YtdphpfffofeklaaDoor
open Go.ChangeShapes Go.WideShapes Go.ChangeAt Go.RowKit
def IsL (B : Nat) (w : World) (v : Value) (l : List Nat) : Prop :=
  ∃ a cap, v = .slice a l.length cap ∧ l.length ≤ cap ∧ cap ≤ maxLen ∧ okL l ∧
    (l = [] ∨ ∃ b off, a = some ⟨b, off, none⟩ ∧ B ≤ b ∧ b < w.heap.size ∧ ∀ i, i < l.length → w.cell? ⟨b, off + i, none⟩ = some (.int .u32 (l.getD i 0 : Nat)))
theorem val_int {k : IntKind} {a b : Int} (h : a = b) : Value.int k a = Value.int k b := by rw [h]
theorem IsL.below {B : Nat} {w w' : World} {v : Value} {l : List Nat} (h : IsL B w v l) (hb : Below w.heap.size w w') : IsL B w' v l := by
  obtain ⟨a, cap, rfl, hl, hcap, hok, hr⟩ := h
  refine ⟨a, cap, rfl, hl, hcap, hok, ?_⟩
  rcases hr with rfl | ⟨b, off, rfl, hB, hlt, hc⟩
  · exact .inl rfl
  · refine .inr ⟨b, off, rfl, hB, Nat.lt_of_lt_of_le hlt hb.size, fun i hi => ?_⟩
    rw [hb.cell (p := ⟨b, off + i, none⟩) hlt]
    exact hc i hi
theorem IsL.mono {B B' : Nat} {w : World} {v : Value} {l : List Nat} (h : IsL B w v l) (hb : B' ≤ B) : IsL B' w v l := by
  obtain ⟨a, cap, rfl, hl, hcap, hok, hr⟩ := h
  refine ⟨a, cap, rfl, hl, hcap, hok, ?_⟩
  rcases hr with rfl | ⟨b, off, rfl, hB, hlt, hc⟩
  · exact .inl rfl
  · exact .inr ⟨b, off, rfl, Nat.le_trans hb hB, hlt, hc⟩
theorem below_alloc (w : World) (o : Obj) : Below w.heap.size w (w.alloc o) := (Below.refl _ _).alloc (Nat.le_refl _) o
def negOf (neg : Bool) (l : List Nat) : Bool := neg && decide (0 < l.length)
end Go.Proofs.YtdphpfffofeklaaDoor
namespace Go.Proofs.YtdphpfffofeklaaDoor
open Go.RowKit Go.Shelf
attribute [local go_sem] Oper.semAt_some
/-! slices.Backward over limbs: what it hands to yield, from the last limb to the first. -/
theorem getD_lt (l : List Nat) (h : okL l) (i : Nat) : l.getD i 0 < 1000000000 := by
  rw [List.getD_eq_getElem?_getD]
  by_cases hi : i < l.length
  · rw [List.getElem?_eq_getElem hi]; exact h _ (List.getElem_mem _)
  · rw [List.getElem?_eq_none (by omega)]; simp
end Go.Proofs.YtdphpfffofeklaaDoor
namespace Go.Proofs.YtdphpfffofeklaaDoor
open Go.ChangeShapes Go.WideShapes Go.ChangeAt Go.RowKit
def tens (j : Nat) : Nat := 10 ^ (8 - j)
def dg (x j : Nat) : Nat := 48 + x / tens j % 10
def digK (x k : Nat) : List Nat := (List.range k).map (dg x)
abbrev U8s (l : List Nat) : List Value := l.map (fun x => Value.int .u8 (x : Nat))
theorem U8s_snoc (a : List Nat) (b : Nat) : U8s (a ++ [b]) = U8s a ++ [Value.int .u8 (b : Nat)] := by simp [U8s]
theorem Tryd.info_u8 : (Tryd.prog.info? 5).map (fun i => (i.zero, i.size, i.bytes)) = some (some (.int .u8 0), 1, 1) := by kernel_rfl
end Go.Proofs.YtdphpfffofeklaaDoor
namespace Go.Proofs.YtdphpfffofeklaaDoor
open Go.ChangeShapes Go.WideShapes Go.ChangeAt Go.RowKit
def dropZ (l : List UInt8) : List UInt8 := l.dropWhile (· == 48)
end Go.Proofs.YtdphpfffofeklaaDoor
namespace Go.Proofs.YtdphpfffofeklaaDoor
open Go.RowKit Go.Shelf
attribute [local go_sem] Oper.semAt_some
def padN (l : List Nat) : List Nat := l.reverse.flatMap (fun x => digK x 9)
def bytesOf (l : List Nat) : List UInt8 := l.map UInt8.ofNat
def strB (l : List UInt8) : ByteArray := ⟨l.toArray⟩
def textD (l : List Nat) : List UInt8 := dropZ (bytesOf (padN l))
theorem padN_lt (l : List Nat) : ∀ x ∈ padN l, x < 256 := by
  intro x hx
  unfold padN at hx
  rw [List.mem_flatMap] at hx
  obtain ⟨y, _, hy⟩ := hx
  unfold digK at hy
  rw [List.mem_map] at hy
  obtain ⟨j, _, rfl⟩ := hy
  unfold dg
  omega
theorem conv_bytes (base : Nat) (W : World) (g n cap : Nat) (ns : List Nat) (h : W.ownsRow base 5 1 (.slice (some ⟨g, 0, none⟩) n cap) n (U8s ns)) (hlt : ∀ x ∈ ns, x < 256) (hn : ns.length = n) :
    (convert 45 9 (.slice (some ⟨g, 0, none⟩) n cap)).run Tryd.prog W = .ok (.string (strB (bytesOf ns))) W := by
  have hl : (bytesOf ns).length = n := by simp [bytesOf, hn]
  have := run_convert_bytes_back (P := Tryd.prog) W 45 9 5 ⟨g, 0, none⟩ cap (bytesOf ns) Tryd.underlying45 Tryd.underlying5 Tryd.underlying9 (fun j hj => by
    rw [hl] at hj
    have hj' : j < ns.length := by omega
    have := h.cells (g := g) rfl j (.int .u8 (ns[j] : Nat)) (by simp [U8s, List.getElem?_eq_getElem hj'])
    rw [this]
    have h2 := hlt ns[j] (List.getElem_mem _)
    simp only [bytesOf, List.getElem_map]
    congr 2
    rw [UInt8.toNat_ofNat_of_lt' (by simpa using h2)])
  rw [hl] at this
  exact this
end Go.Proofs.YtdphpfffofeklaaDoor
namespace Go.Proofs.YtdphpfffofeklaaDoor
open Go.ChangeShapes Go.WideShapes Go.ChangeAt Go.RowKit
theorem IsL.cells {B : Nat} {w : World} {a : Option Addr} {cap n : Nat} {l : List Nat} (h : IsL B w (.slice a n cap) l) : n = l.length ∧ l.length ≤ cap ∧ cap ≤ maxLen ∧ okL l ∧
    ∀ i, i < l.length → ∃ b off, a = some ⟨b, off, none⟩ ∧ b < w.heap.size ∧ w.cell? ⟨b, off + i, none⟩ = some (.int .u32 (l.getD i 0 : Nat)) := by
  obtain ⟨a', cap', he, hl, hcap, hok, hr⟩ := h
  simp only [Value.slice.injEq] at he
  obtain ⟨rfl, rfl, rfl⟩ := he
  refine ⟨rfl, hl, hcap, hok, fun i hi => ?_⟩
  rcases hr with rfl | ⟨b, off, rfl, _, hb, hc⟩
  · simp at hi
  · exact ⟨b, off, rfl, hb, hc i hi⟩
end Go.Proofs.YtdphpfffofeklaaDoor
namespace Go.Proofs.YtdphpfffofeklaaDoor
open Go.ChangeShapes Go.WideShapes Go.ChangeAt Go.RowKit
def sg (neg : Bool) (n : Nat) : Int := if neg then -(n : Int) else n
def IsZ (B : Nat) (w : World) (z : Value) (neg : Bool) (t : List Nat) : Prop :=
  okL t ∧ isTrim t ∧ ((2 < t.length ∧ ∃ v, z = .agg #[.int .i64 0, .bool neg, v] ∧ IsL B w v t) ∨
  (t.length ≤ 2 ∧ z = .agg #[.int .i64 (sg neg (val t)), .bool false, .slice none 0 0]))
theorem IsZ.below {B : Nat} {w w' : World} {z : Value} {neg : Bool} {t : List Nat} (h : IsZ B w z neg t) (hb : Below w.heap.size w w') : IsZ B w' z neg t := by
  obtain ⟨h1, h2, h3⟩ := h
  refine ⟨h1, h2, ?_⟩
  rcases h3 with ⟨h3, v, rfl, hv⟩ | h3
  · exact .inl ⟨h3, v, rfl, hv.below hb⟩
  · exact .inr h3
theorem short_cases (t : List Nat) (h : t.length ≤ 2) (hok : okL t) (htr : isTrim t) :
    t = [] ∨ (∃ a, t = [a] ∧ 0 < a ∧ a < 1000000000) ∨ ∃ a b, t = [a, b] ∧ a < 1000000000 ∧ 0 < b ∧ b < 1000000000 := by
  match t, h with
  | [], _ => exact .inl rfl
  | [a], _ =>
    have h1 := hok a (by simp)
    have h2 := htr (by simp)
    simp at h2
    exact .inr (.inl ⟨a, rfl, by omega, h1⟩)
  | [a, b], _ =>
    have h1 := hok a (by simp)
    have h3 := hok b (by simp)
    have h2 := htr (by simp)
    simp at h2
    exact .inr (.inr ⟨a, b, rfl, h1, by omega, h3⟩)
theorem negOf_small (neg : Bool) (t : List Nat) (h2 : t.length ≤ 2) (hok : okL t) (htr : isTrim t) : negOf neg t = decide (sg neg (val t) < 0) := by
  rcases short_cases t h2 hok htr with rfl | ⟨a, rfl, h3, h4⟩ | ⟨a, b, rfl, h3, h4, h5⟩
  · cases neg <;> simp [negOf, sg, val]
  · cases neg <;> simp [negOf, sg, val] <;> omega
  · cases neg <;> simp [negOf, sg, val] <;> omega
theorem isL_one {w : World} {x : Int} (B e a g : Nat) (ha : a < 1000000000) (hx : x = a) (hg : w.heap.size = g) (hB : B ≤ g) : IsL B (w.alloc (.cells #[.int .u32 x] e)) (.slice (some ⟨g, 0, none⟩) 1 1) [a] := by
  subst hx; subst hg
  exact ⟨_, 1, rfl, by simp, by unfold maxLen; omega, fun x hx => by simp at hx; omega, .inr ⟨w.heap.size, 0, rfl, hB, by simp, fun i hi => by
    match i, hi with
    | 0, _ => rw [World.cell?_alloc_at _ _ _ _ rfl]; rfl⟩⟩
theorem isL_two {w : World} {x y : Int} (B e a b g : Nat) (ha : a < 1000000000) (hb : b < 1000000000) (hx : x = a) (hy : y = b) (hg : w.heap.size = g) (hB : B ≤ g) : IsL B (w.alloc (.cells #[.int .u32 x, .int .u32 y] e)) (.slice (some ⟨g, 0, none⟩) 2 2) [a, b] := by
  subst hx; subst hy; subst hg
  exact ⟨_, 2, rfl, by simp, by unfold maxLen; omega, fun x hx => by simp at hx; omega, .inr ⟨w.heap.size, 0, rfl, hB, by simp, fun i hi => by
    match i, hi with
    | 0, _ => rw [World.cell?_alloc_at _ _ _ _ rfl]; rfl
    | 1, _ => rw [World.cell?_alloc_at _ _ _ _ rfl]; rfl⟩⟩
set_option maxRecDepth 100000 in
set_option maxHeartbeats 400000 in
theorem l1Limbs_any (B : Nat) (z : Value) (neg : Bool) (t : List Nat) (w : World) (h : IsZ B w z neg t) (hB : B ≤ w.heap.size) :
    Calls Tryd.prog 49 #[z] w fun e w' => ∃ v, e = .returned v ∧ IsL B w' v t ∧ Below w.heap.size w w' := by
  obtain ⟨hok, htr, h⟩ := h
  rcases h with ⟨h2, v, rfl, hv⟩ | ⟨h2, rfl⟩
  · have HV : Hid (IsL B w v t) := hv
    obtain ⟨a, cap, rfl, hl, hcap, _, _⟩ := hv
    have hp : 0 < t.length := by omega
    unfold maxLen at hcap
    go_enter Tryd.func49, Tryd.ntmps49
    go_wp2
    go_ret
    exact ⟨_, rfl, HV.out.below (below_alloc _ _), below_alloc _ _⟩
  · rcases short_cases t h2 hok htr with rfl | ⟨a, rfl, h3, h4⟩ | ⟨a, b, rfl, h3, h4, h5⟩
    · cases neg
      all_goals
        simp only [sg, val]
        go_enter Tryd.func49, Tryd.ntmps49
        go_wp2
        go_ret
        exact ⟨_, rfl, ⟨none, 0, rfl, by simp, by unfold maxLen; omega, hok, .inl rfl⟩, below_alloc _ _⟩
    · obtain ⟨x, hx⟩ : ∃ x : Int, (a : Int) = x := ⟨_, rfl⟩
      have x1 : 0 < x := by omega
      have x2 : x < 1000000000 := by omega
      have ez : (x == 0) = false := by rw [beq_eq_false_iff_ne]; omega
      have ev : (val [a] : Int) = x := by simp [val, hx]
      have HX : Hid ((a : Int) = x) := hx
      unfold sg
      rw [ev]
      clear hx ev
      cases neg
      all_goals
        simp only [if_true, if_false, Bool.false_eq_true]
        go_enter Tryd.func49, Tryd.ntmps49
        go_wp2
        go_ret
        exact ⟨_, rfl, isL_one B _ a _ h4 HX.out.symm (by simp) (by omega), (below_alloc _ _).alloc (by simp) _⟩
    · obtain ⟨x, hx⟩ : ∃ x : Int, (a : Int) + 1000000000 * b = x := ⟨_, rfl⟩
      have ev : (val [a, b] : Int) = x := by simp [val, hx]
      have x1 : 1000000000 ≤ x := by omega
      have x2 : x < 1000000000000000000 := by omega
      have HA : Hid (x % 1000000000 = a) := by show x % 1000000000 = a; omega
      have HBb : Hid (x / 1000000000 = b) := by show x / 1000000000 = b; omega
      have ez : (x == 0) = false := by rw [beq_eq_false_iff_ne]; omega
      unfold sg
      rw [ev]
      clear hx ev
      cases neg
      all_goals
        simp only [if_true, if_false, Bool.false_eq_true]
        go_enter Tryd.func49, Tryd.ntmps49
        go_wp2
        go_ret
        exact ⟨_, rfl, isL_two B _ a b _ h3 h5 HA.out HBb.out (by simp) (by omega), (below_alloc _ _).alloc (by simp) _⟩
end Go.Proofs.YtdphpfffofeklaaDoor
namespace Go.Proofs.YtdphpfffofeklaaDoor
open Go.RowKit
/-! Limbs and the numbers that they stand for. -/
theorem val_append (a b : List Nat) : val (a ++ b) = val a + 1000000000 ^ a.length * val b := by
  induction a with
  | nil => simp [val]
  | cons x a ih =>
    simp only [List.cons_append, val, ih, List.length_cons, Nat.pow_succ]
    rw [Nat.mul_add, Nat.mul_comm (1000000000 ^ a.length) 1000000000, Nat.mul_assoc]
    omega
theorem val_snoc (a : List Nat) (x : Nat) : val (a ++ [x]) = val a + 1000000000 ^ a.length * x := by rw [val_append]; simp [val]
theorem val_ge (a : List Nat) (htr : isTrim a) (hne : a ≠ []) : 1000000000 ^ (a.length - 1) ≤ val a := by
  have h := htr hne
  rw [← List.dropLast_concat_getLast hne] 
  rw [val_snoc]
  simp only [List.length_append, List.length_cons, List.length_nil, List.length_dropLast]
  have : a.length - 1 + (0 + 1) - 1 = a.length - 1 := by omega
  rw [this]
  have h2 : 1000000000 ^ (a.length - 1) * 1 ≤ 1000000000 ^ (a.length - 1) * a.getLast hne := Nat.mul_le_mul_left _ (Nat.pos_of_ne_zero h)
  omega
theorem val_pos (a : List Nat) (htr : isTrim a) (hne : a ≠ []) : 0 < val a :=
  Nat.lt_of_lt_of_le (Nat.pow_pos (by decide)) (val_ge a htr hne)
end Go.Proofs.YtdphpfffofeklaaDoor
namespace Go.Proofs.YtdphpfffofeklaaDoor
open Go.ChangeShapes Go.WideShapes Go.ChangeAt Go.RowKit
theorem val_trimL (l : List Nat) : val (trimL l) = val l := by
  induction hn : l.length generalizing l with
  | zero => rw [List.eq_nil_of_length_eq_zero hn]; rfl
  | succ n ih =>
    have hne : l ≠ [] := by intro h; rw [h] at hn; simp at hn
    rw [← List.dropLast_concat_getLast hne]
    by_cases h0 : l.getLast hne = 0
    · rw [h0, trimL_snoc_zero, val_snoc, ih _ (by simp [hn])]; omega
    · rw [trimL_snoc_pos _ _ h0]
theorem isTrim_tail (x : Nat) (l : List Nat) (h : isTrim (x :: l)) : isTrim l := by
  intro hne
  have := h (by simp)
  rwa [List.getLast_cons hne] at this
theorem val_inj (a b : List Nat) (ha : okL a) (hb : okL b) (ta : isTrim a) (tb : isTrim b) (h : val a = val b) : a = b := by
  induction a generalizing b with
  | nil =>
    by_cases hne : b = []
    · rw [hne]
    · have := val_pos b tb hne
      rw [← h] at this
      simp [val] at this
  | cons x a ih =>
    cases b with
    | nil =>
      have := val_pos (x :: a) ta (by simp)
      rw [h] at this
      simp [val] at this
    | cons y b =>
      have h1 := ha x (by simp)
      have h2 := hb y (by simp)
      simp only [val] at h
      have e1 : x = y := by omega
      have e2 : val a = val b := by omega
      rw [e1, ih b (fun z hz => ha z (by simp [hz])) (fun z hz => hb z (by simp [hz])) (isTrim_tail x a ta) (isTrim_tail y b tb) e2]
end Go.Proofs.YtdphpfffofeklaaDoor
namespace Go.Proofs.YtdphpfffofeklaaDoor
open Go.ChangeShapes Go.WideShapes Go.ChangeAt Go.RowKit
theorem IsZ.mono {B B' : Nat} {w : World} {z : Value} {neg : Bool} {t : List Nat} (h : IsZ B w z neg t) (hb : B' ≤ B) : IsZ B' w z neg t := by
  obtain ⟨h1, h2, h3⟩ := h
  refine ⟨h1, h2, ?_⟩
  rcases h3 with ⟨h3, v, rfl, hv⟩ | h3
  · exact .inl ⟨h3, v, rfl, hv.mono hb⟩
  · exact .inr h3
theorem IsZ.shape {B : Nat} {w : World} {z : Value} {neg : Bool} {t : List Nat} (h : IsZ B w z neg t) : ∃ (z0 : Int) (zn : Bool) (za : Option Addr) (zl zc : Nat), z = .agg #[.int .i64 z0, .bool zn, .slice za zl zc] := by
  obtain ⟨h1, h2, h3⟩ := h
  rcases h3 with ⟨h3, v, rfl, a, cap, rfl, _⟩ | ⟨_, rfl⟩
  · exact ⟨_, _, _, _, _, rfl⟩
  · exact ⟨_, _, _, _, _, rfl⟩
end Go.Proofs.YtdphpfffofeklaaDoor
namespace Go.Proofs.YtdphpfffofeklaaDoor
open Go.ChangeShapes Go.WideShapes Go.ChangeAt Go.RowKit
def lim (s : ByteArray) : List Nat := trimL (chunks (dgs s).data.toList)
def sgn (s : ByteArray) : Bool := negOf (isNeg s) (lim s)
def ReadI (B : Nat) (w : World) (s : ByteArray) (n : Bool) (a : Option Addr) (l c : Nat) : Prop :=
  isIntB s = true → n = sgn s ∧ IsL B w (.slice a l c) (lim s)
theorem ReadI.below {B : Nat} {w w' : World} {s : ByteArray} {n : Bool} {a : Option Addr} {l c : Nat} (h : ReadI B w s n a l c) (hb : Below w.heap.size w w') : ReadI B w' s n a l c :=
  fun hi => ⟨(h hi).1, (h hi).2.below hb⟩
theorem ReadI.mono {B B' : Nat} {w : World} {s : ByteArray} {n : Bool} {a : Option Addr} {l c : Nat} (h : ReadI B w s n a l c) (hb : B' ≤ B) : ReadI B' w s n a l c :=
  fun hi => ⟨(h hi).1, (h hi).2.mono hb⟩
end Go.Proofs.YtdphpfffofeklaaDoor
namespace Go.Proofs.YtdphpfffofeklaaDoor
open Go.ChangeShapes Go.WideShapes Go.ChangeAt Go.RowKit
def ngZ (z0 : Int) (zn : Bool) (zl : Nat) : Bool := if 0 < zl then zn else decide (z0 < 0)
set_option maxHeartbeats 400000 in
theorem l1Neg_ex (z0 : Int) (zn : Bool) (za : Option Addr) (zl zc : Nat) (w : World) :
    Calls Tryd.prog 50 #[.agg #[.int .i64 z0, .bool zn, .slice za zl zc]] w fun e w' => e = .returned (.bool (ngZ z0 zn zl)) ∧ w' = w.alloc (.cells #[.int .i64 z0, .bool zn, .slice za zl zc] 84) := by
  by_cases h : 0 < zl
  · have HR : Hid (ngZ z0 zn zl = zn) := if_pos h
    go_enter Tryd.func50, Tryd.ntmps50
    go_wp2
    go_ret
    exact ⟨by rw [HR.out]; rfl, rfl⟩
  · have HR : Hid (ngZ z0 zn zl = decide (z0 < 0)) := if_neg h
    go_enter Tryd.func50, Tryd.ntmps50
    go_wp2
    go_ret
    exact ⟨by rw [HR.out]; rfl, rfl⟩
theorem below_al {w W : World} (h : Below w.heap.size w W) (o : Obj) : Below w.heap.size w (W.alloc o) := h.alloc h.size o
end Go.Proofs.YtdphpfffofeklaaDoor
namespace Go.Proofs.YtdphpfffofeklaaDoor
open Go.ChangeShapes Go.WideShapes Go.ChangeAt Go.RowKit
def revK (x k : Nat) : List Nat := (List.range k).map (fun j => 48 + x / 10 ^ j % 10)
def revD (l : List Nat) : List Nat := l.flatMap (fun x => revK x 9)
theorem revK_succ (x k : Nat) : revK x (k + 1) = revK x k ++ [48 + x / 10 ^ k % 10] := by simp [revK, List.range_succ]
theorem revK_length (x k : Nat) : (revK x k).length = k := by simp [revK]
theorem revD_length (l : List Nat) : (revD l).length = 9 * l.length := by
  unfold revD
  rw [List.length_flatMap]
  simp only [revK_length]
  rw [List.map_const', List.sum_replicate_nat]
  omega
theorem revD_snoc (l : List Nat) (x : Nat) : revD (l ++ [x]) = revD l ++ revK x 9 := by simp [revD]
theorem revK_rev (x : Nat) : (revK x 9).reverse = digK x 9 := by
  simp [revK, digK, dg, tens, List.range_succ]
theorem revD_rev (l : List Nat) : (revD l).reverse = padN l := by
  unfold revD padN
  induction l with
  | nil => rfl
  | cons x l ih => rw [List.flatMap_cons, List.reverse_append, ih, List.reverse_cons, List.flatMap_append, revK_rev]; simp
theorem revD_lt (l : List Nat) : ∀ x ∈ revD l, x < 256 := fun x hx => padN_lt l x (by rw [← revD_rev]; simpa using hx)
def cutE (l : List Nat) : List Nat := (l.reverse.dropWhile (· == 48))
theorem cutE_zero (D : List Nat) (j : Nat) (h : j < D.length) (h0 : D.getD j 0 = 48) : cutE (D.take (j + 1)) = cutE (D.take j) := by
  unfold cutE
  rw [List.take_succ_eq_append_getElem h, List.reverse_append]
  have : D[j] = 48 := by simpa [List.getD_eq_getElem?_getD, h] using h0
  simp [this]
theorem cutE_pos (D : List Nat) (j : Nat) (h : j < D.length) (h0 : D.getD j 0 ≠ 48) : cutE (D.take (j + 1)) = (D.take (j + 1)).reverse := by
  unfold cutE
  rw [List.take_succ_eq_append_getElem h, List.reverse_append]
  have : D[j] ≠ 48 := by simpa [List.getD_eq_getElem?_getD, h] using h0
  simp [this]
theorem bytes_dropZ (l : List Nat) (h : ∀ x ∈ l, x < 256) : dropZ (bytesOf l) = bytesOf (l.dropWhile (· == 48)) := by
  induction l with
  | nil => rfl
  | cons x l ih =>
    have hx := h x (by simp)
    have e : (UInt8.ofNat x == 48) = (x == 48) := by
      rw [Bool.eq_iff_iff, beq_iff_eq, beq_iff_eq]
      constructor
      · intro e
        have := congrArg UInt8.toNat e
        rw [UInt8.toNat_ofNat_of_lt' (by simpa using hx)] at this
        exact this
      · rintro rfl; rfl
    unfold dropZ bytesOf at *
    simp only [List.map_cons, List.dropWhile_cons, e]
    split
    · exact ih (fun y hy => h y (by simp [hy]))
    · rfl
theorem textD_cut (l : List Nat) : textD l = bytesOf (cutE (revD l)) := by
  unfold textD cutE
  rw [bytes_dropZ _ (padN_lt l), revD_rev]
def fullT (ng : Bool) (t : List Nat) : ByteArray := if t.length = 0 then strB [48] else if ng then strB (45 :: textD t) else strB (textD t)
theorem ngZ_of {B : Nat} {w : World} {z0 : Int} {zn : Bool} {za : Option Addr} {zl zc : Nat} {neg : Bool} {t : List Nat} (h : IsZ B w (.agg #[.int .i64 z0, .bool zn, .slice za zl zc]) neg t) : ngZ z0 zn zl = negOf neg t := by
  obtain ⟨h1, h2, h3⟩ := h
  rcases h3 with ⟨h3, v, e, p, c, rfl, _⟩ | ⟨h3, e⟩
  · simp at e
    obtain ⟨_, rfl, _, rfl, _⟩ := e
    unfold ngZ negOf
    have : 0 < t.length := by omega
    simp [this]
  · simp at e
    obtain ⟨rfl, rfl, _, rfl, _⟩ := e
    exact (negOf_small neg t h3 h1 h2).symm
def lenAt (s M q : Nat) : Nat := s + (M - q)
theorem lenAt_self (s M : Nat) : lenAt s M M = s := by unfold lenAt; omega
theorem lenAt_step (s M q : Nat) (h : q < M) : lenAt s M (q + 1) + 1 = lenAt s M q := by unfold lenAt; omega
def tailU (D : List Nat) (M q : Nat) : List Value := U8s ((D.take M).drop q).reverse
theorem tailU_self (D : List Nat) (M : Nat) : tailU D M M = [] := by unfold tailU; rw [List.drop_eq_nil_of_le (List.length_take_le _ _)]; rfl
theorem tailU_step (D : List Nat) (M q : Nat) (h : q < M) (hl : M ≤ D.length) : tailU D M q = tailU D M (q + 1) ++ [.int .u8 (D.getD q 0 : Nat)] := by
  unfold tailU
  have hql : q < (D.take M).length := by rw [List.length_take]; omega
  rw [List.drop_eq_getElem_cons hql, List.getElem_take, List.getD_eq_getElem?_getD, List.getElem?_eq_getElem (by omega), List.reverse_cons, U8s_snoc]
  rfl
theorem cell_one_new' (w : World) (v : Value) (t : TypeId) (g : Nat) (hg : w.heap.size = g) : ∀ j u, [v][j]? = some u → (w.alloc (.cells #[v] t)).cell? ((⟨g, 0, none⟩ : Addr).add j) = some u := by
  subst hg
  exact cell_one_new _ _ _
set_option maxRecDepth 100000 in
set_option maxHeartbeats 8000000 in
theorem l1Text_any (B : Nat) (z : Value) (neg : Bool) (t : List Nat) (w : World) (hz : IsZ B w z neg t) (hBw : B ≤ w.heap.size) (hlen : t.length ≤ 600) :
    Calls Tryd.prog 37 #[z] w fun e w' => e = .returned (.string (fullT (negOf neg t) t)) ∧ Below w.heap.size w w' := by
  obtain ⟨z0, zn, za, zl, zc, hzz⟩ := hz.shape
  subst hzz
  obtain ⟨i0, hinf, hz0, hz1, hz2⟩ := info_parts Tryd.info_u8
  obtain ⟨W0, hW0⟩ : ∃ W0, w.alloc (.cells #[.int .i64 z0, .bool zn, .slice za zl zc] 84) = W0 := ⟨_, rfl⟩
  have HW0 : Hid (w.alloc (.cells #[.int .i64 z0, .bool zn, .slice za zl zc] 84) = W0) := hW0
  have hb0 : Below w.heap.size w W0 := by rw [← hW0]; exact below_alloc _ _
  have hs0 : W0.heap.size = w.heap.size + 1 := by rw [← hW0]; simp
  have HZ : Hid (IsZ B W0 (.agg #[.int .i64 z0, .bool zn, .slice za zl zc]) neg t) := hz.below hb0
  have HB0 : Hid (Below w.heap.size w W0) := hb0
  have HX : Hid (∀ W, Below W0.heap.size W0 W → W.cell? ⟨w.heap.size, 0, none⟩ = some (.int .i64 z0) ∧ W.cell? ⟨w.heap.size, 1, none⟩ = some (.bool zn) ∧ W.cell? ⟨w.heap.size, 2, none⟩ = some (.slice za zl zc)) := fun W hW => by
    refine ⟨?_, ?_, ?_⟩
    · rw [hW.cell (p := ⟨w.heap.size, 0, none⟩) (by show w.heap.size < _; omega), ← hW0, World.cell?_alloc_at _ _ _ _ rfl]; rfl
    · rw [hW.cell (p := ⟨w.heap.size, 1, none⟩) (by show w.heap.size < _; omega), ← hW0, World.cell?_alloc_at _ _ _ _ rfl]; rfl
    · rw [hW.cell (p := ⟨w.heap.size, 2, none⟩) (by show w.heap.size < _; omega), ← hW0, World.cell?_alloc_at _ _ _ _ rfl]; rfl
  have HNG : Hid (ngZ z0 zn zl = negOf neg t) := ngZ_of hz
  clear hz hb0 hW0
  go_enter Tryd.func37, Tryd.ntmps37
  go_wp2_with fail
  rw [HW0.out]
  refine (l1Limbs_any B _ neg t _ HZ.out (by omega)).mono ?_
  rintro e w1 ⟨v, rfl, hv, hb1⟩
  obtain ⟨a, cap, rfl, hl, hcap, hok, hr⟩ := hv
  have hle1 : w.heap.size + 1 ≤ w1.heap.size := by have := hb1.size; omega
  have HC : Hid (∀ i, i < t.length → ∃ b off, a = some ⟨b, off, none⟩ ∧ b < w1.heap.size ∧ w1.cell? ⟨b, off + i, none⟩ = some (.int .u32 (t.getD i 0 : Nat))) := fun i hi => by
    rcases hr with rfl | ⟨b, off, rfl, _, hb, hc⟩
    · simp at hi
    · exact ⟨b, off, rfl, hb, hc i hi⟩
  have HB1 : Hid (Below W0.heap.size W0 w1) := hb1
  have HBW : Hid (Below w.heap.size w w1) := HB0.out.trans (hb1.mono (by omega))
  clear hr hb1
  by_cases h0 : t.length = 0
  · have HT : Hid (fullT (negOf neg t) t = strB [48]) := if_pos h0
    have zz : ((t.length : Int) == 0) = true := by rw [beq_iff_eq]; omega
    go_wp2
    go_ret
    exact ⟨by rw [HT.out]; rfl, HBW.out⟩
  · have zz : ((t.length : Int) == 0) = false := by rw [beq_eq_false_iff_ne]; omega
    have HT : Hid (fullT (negOf neg t) t = if negOf neg t then strB (45 :: textD t) else strB (textD t)) := if_neg h0
    go_wp2_with (at_make; refine wpList_make_own _ rfl _ _ 45 rfl w1.heap.size 5 i0 (.int .u8 0) 1 Tryd.underlying45 hinf hz0 hz1 .i64 .i64 _ (9 * t.length + 1) rfl rfl ?m1 ?m2 ?m3 ?m4 ?_)
    case m1 => omega
    case m2 => rw [hz2]; omega
    case m3 => unfold maxLen; omega
    case m4 => exact Nat.le_refl _
    intro w2 hown2 hgr2
    have hB2 : Below w1.heap.size w1 w2 := (Below.refl _ _).grown hgr2 (Nat.le_refl _) (fun k h => by cases h)
    clear hgr2
    go_wp2
    go_loopw [4, 23] (fun v i wr => ∃ j : Nat, j ≤ t.length ∧ i = .int .i64 j ∧ v = .slice (some ⟨w1.heap.size, 0, none⟩) (9 * j) (9 * t.length + 1) ∧
        wr.ownsRow w1.heap.size 5 1 (.slice (some ⟨w1.heap.size, 0, none⟩) (9 * j) (9 * t.length + 1)) (9 * j) (U8s (revD (t.take j))) ∧ Below w1.heap.size w1 wr) (fun _ i _ => t.length - (intOf i).toNat)
    case atStart => exact ⟨0, Nat.zero_le _, rfl, rfl, hown2, hB2⟩
    case round =>
      clear hown2 hB2
      obtain ⟨j, hj, rfl, rfl, hown, hB⟩ := hrel
      by_cases hlt : j < t.length
      · obtain ⟨b, off, rfl, hb, hcell⟩ := HC.out j hlt
        have hyb := getD_lt t hok j
        rw [← hB.cell (p := ⟨b, off + j, none⟩) hb] at hcell
        have HTK : Hid (t.take (j + 1) = t.take j ++ [t.getD j 0]) := by
          show t.take (j + 1) = t.take j ++ [t.getD j 0]
          rw [List.take_succ_eq_append_getElem hlt, List.getD_eq_getElem?_getD, List.getElem?_eq_getElem hlt]; rfl
        obtain ⟨y, hy⟩ : ∃ y, t.getD j 0 = y := ⟨_, rfl⟩
        rw [hy] at hcell hyb HTK
        obtain ⟨P, hP⟩ : ∃ P, revD (t.take j) = P := ⟨_, rfl⟩
        have HP : Hid (revD (t.take j) = P) := hP
        rw [hP] at hown
        clear hy hP
        go_wp2_with fail
        go_loopw [4, 6, 7] (fun v x kk wr => ∃ k : Nat, k ≤ 9 ∧ kk = .int .i64 k ∧ x = .int .u32 (y / 10 ^ k : Nat) ∧ v = .slice (some ⟨w1.heap.size, 0, none⟩) (9 * j + k) (9 * t.length + 1) ∧
            wr.ownsRow w1.heap.size 5 1 (.slice (some ⟨w1.heap.size, 0, none⟩) (9 * j + k) (9 * t.length + 1)) (9 * j + k) (U8s (P ++ revK y k)) ∧ Below w1.heap.size w1 wr) (fun _ _ kk _ => 9 - (intOf kk).toNat)
        case atStart => exact ⟨0, Nat.zero_le _, rfl, val_int (by simp), rfl, by simpa [revK] using hown, hB⟩
        case round =>
          clear hown hB hcell
          rename_i wr0
          obtain ⟨k, hk, rfl, rfl, rfl, hown, hB⟩ := hrel
          by_cases hk9 : k < 9
          · have hq := Nat.div_le_self y (10 ^ k)
            have HSU : Hid (y / 10 ^ (k + 1) = y / 10 ^ k / 10) := by show y / 10 ^ (k + 1) = y / 10 ^ k / 10; rw [Nat.pow_succ, Nat.div_div_eq_div_mul]
            have HRK := revK_succ y k
            obtain ⟨q, hqq⟩ : ∃ q, y / 10 ^ k = q := ⟨_, rfl⟩
            rw [hqq] at hq HSU HRK ⊢
            have HRK' : Hid (revK y (k + 1) = revK y k ++ [48 + q % 10]) := HRK
            clear hqq HRK
            go_wp2_with (at_builtin; refine wpList_append_fits _ rfl _ _ 45 rfl w1.heap.size 5 i0 1 Tryd.underlying45 hinf hz1 w1.heap.size (9 * j + k) (9 * t.length + 1) _ rfl (hown.alloc _) ⟨wr.heap.size, 0, none⟩ 1 1 [_] rfl rfl (cell_one_new _ _ _) ?c1 ?c2 ?_)
            case c1 => first | rfl | (intro u hu; simp at hu; subst hu; rfl)
            case c2 => omega
            intro w3 hown3 hgr3
            have hB3 : Below w1.heap.size w1 w3 := (hB.alloc hB.size _).grown hgr3 (by have := hB.size; simp; omega) (fun k e => by cases e; exact Nat.le_refl _)
            have HO3 : Hid (w3.ownsRow w1.heap.size 5 1 (.slice (some ⟨w1.heap.size, 0, none⟩) (9 * j + (k + 1)) (9 * t.length + 1)) (9 * j + (k + 1)) (U8s (P ++ revK y (k + 1)))) := by
              show w3.ownsRow w1.heap.size 5 1 (.slice (some ⟨w1.heap.size, 0, none⟩) (9 * j + (k + 1)) (9 * t.length + 1)) (9 * j + (k + 1)) (U8s (P ++ revK y (k + 1)))
              rw [HRK'.out, ← List.append_assoc, U8s_snoc]
              simpa [← Nat.add_assoc] using hown3
            clear hown3 hgr3 hown hB
            go_wp2
            go_roundw
            case rel => exact ⟨k + 1, by omega, by go_num, by rw [HSU.out]; exact val_int (by simp), rfl, HO3.out, hB3⟩
            case measure => simp [intOf]; omega
          · obtain rfl : k = 9 := by omega
            have HO4 : Hid (wr.ownsRow w1.heap.size 5 1 (.slice (some ⟨w1.heap.size, 0, none⟩) (9 * (j + 1)) (9 * t.length + 1)) (9 * (j + 1)) (U8s (revD (t.take (j + 1))))) := by
              show wr.ownsRow w1.heap.size 5 1 (.slice (some ⟨w1.heap.size, 0, none⟩) (9 * (j + 1)) (9 * t.length + 1)) (9 * (j + 1)) (U8s (revD (t.take (j + 1))))
              rw [HTK.out, revD_snoc, HP.out]
              exact hown
            clear hown
            go_wp2
            go_roundw
            case rel => exact ⟨j + 1, by omega, by go_num, rfl, HO4.out, hB⟩
            case measure => simp [intOf]; omega
      · obtain rfl : j = t.length := by omega
        generalize hWR : wr = WR at *
        clear hWR
        rw [List.take_length] at hown
        have HDL := revD_length t
        have HTX := textD_cut t
        have HLT2 := revD_lt t
        obtain ⟨D, hD⟩ : ∃ D, revD t = D := ⟨_, rfl⟩
        rw [hD] at hown HDL HTX HLT2
        have HDL' : Hid (D.length = 9 * t.length) := HDL
        have HTX' : Hid (textD t = bytesOf (cutE D)) := HTX
        have HLT' : Hid (∀ x ∈ D, x < 256) := HLT2
        have HOW : Hid (WR.ownsRow w1.heap.size 5 1 (.slice (some ⟨w1.heap.size, 0, none⟩) (9 * t.length) (9 * t.length + 1)) (9 * t.length) (U8s D)) := hown
        have HRC : Hid (∀ W : World, W.ownsRow w1.heap.size 5 1 (.slice (some ⟨w1.heap.size, 0, none⟩) (9 * t.length) (9 * t.length + 1)) (9 * t.length) (U8s D) → ∀ i, i < 9 * t.length → W.cell? ⟨w1.heap.size, i, none⟩ = some (.int .u8 (D.getD i 0 : Nat))) := fun W hW i hi => by
          have := hW.cells (g := w1.heap.size) rfl i (.int .u8 (D.getD i 0 : Nat)) (by rw [List.getElem?_map]; simp [List.getD_eq_getElem?_getD, show i < D.length by omega])
          by_cases i0 : i = 0
          · subst i0; simpa [Addr.add] using this
          · simpa [Addr.add, i0] using this
        have HBr : Hid (Below w1.heap.size w1 WR) := hB
        clear hown HDL HTX HLT2 hD hB
        go_wp2
        go_loop [8] (fun n => ∃ m : Nat, m ≤ 9 * t.length ∧ n = .int .i64 m ∧ cutE (D.take m) = cutE D) (fun n => (intOf n).toNat)
        case atStart => exact ⟨9 * t.length, Nat.le_refl _, val_int (by omega), by rw [← HDL'.out, List.take_length]⟩
        case round =>
          obtain ⟨m, hm, rfl, hp⟩ := hrel
          have HP : Hid (cutE (D.take m) = cutE D) := hp
          clear hp
          obtain ⟨ng, hng⟩ : ∃ ng, negOf neg t = ng := ⟨_, rfl⟩
          have HNGq : Hid (negOf neg t = ng) := hng
          clear hng
          cases m with
          | zero =>
            have HM : Hid (cutE D = (D.take 0).reverse) := HP.out.symm.trans rfl
            go_wp2_with (at_make; refine wpList_make_own _ rfl _ _ 45 rfl WR.heap.size 5 i0 (.int .u8 0) 1 Tryd.underlying45 hinf hz0 hz1 .i64 .i64 _ (0 + 1) rfl rfl ?am1 ?am2 ?am3 ?am4 ?_)
            try (case am1 => (omega))
            try (case am2 => (first | omega | (rw [hz2]; omega)))
            try (case am3 => (unfold maxLen; omega))
            try (case am4 => (exact Nat.le_refl _))
            intro w4 hown4 hgr4
            have hB4 : Below WR.heap.size WR w4 := (Below.refl _ _).grown hgr4 (Nat.le_refl _) (fun k h => by cases h)
            have hwr : w1.heap.size < WR.heap.size := (HOW.out.lt _ rfl).2
            have HB04 : Hid (Below W0.heap.size W0 w4) := HB1.out.trans ((HBr.out.mono HB1.out.size).trans (hB4.mono (by have := HB1.out.size; omega)))
            obtain ⟨c0, c1, c2⟩ := HX.out w4 HB04.out
            have HO4 : Hid (w4.ownsRow WR.heap.size 5 1 (.slice (some ⟨WR.heap.size, 0, none⟩) 0 (0 + 1)) 0 []) := hown4
            have HB4 : Hid (Below WR.heap.size WR w4) := hB4
            clear hgr4 hown4 hB4
            go_wp2_with fail
            refine (l1Neg_ex _ _ _ _ _ _).mono ?_
            rintro e w' ⟨rfl, hw'⟩
            subst w'
            rw [HNG.out, HNGq.out]
            cases ng
            · have HT2 : Hid (fullT (negOf neg t) t = strB (bytesOf (D.take (0)).reverse)) := by rw [HT.out, HNGq.out, HTX'.out, HM.out]; rfl
              have hO := HO4.out.alloc (.cells #[.int .i64 z0, .bool zn, .slice za zl zc] 84)
              have hBB : Below WR.heap.size WR (w4.alloc (.cells #[.int .i64 z0, .bool zn, .slice za zl zc] 84)) := HB4.out.alloc HB4.out.size _
              obtain ⟨W5, hW5⟩ : ∃ W5, w4.alloc (.cells #[.int .i64 z0, .bool zn, .slice za zl zc] 84) = W5 := ⟨_, rfl⟩
              rw [hW5] at hO hBB ⊢
              clear hW5
              go_wp2
              go_loopw [9, 10] (fun v i wr => ∃ q : Nat, q ≤ 0 ∧ i = .int .i64 (q - 1) ∧ v = .slice (some ⟨WR.heap.size, 0, none⟩) (lenAt 0 (0) q) (0 + 1) ∧
                  wr.ownsRow WR.heap.size 5 1 (.slice (some ⟨WR.heap.size, 0, none⟩) (lenAt 0 (0) q) (0 + 1)) (lenAt 0 (0) q) (tailU D (0) q) ∧ Below WR.heap.size WR wr) (fun _ i _ => (intOf i + 1).toNat)
              case atStart =>
                refine ⟨0, Nat.le_refl _, val_int (by omega), by rw [lenAt_self], ?_, hBB⟩
                rw [lenAt_self, tailU_self]
                simpa using hO
              case round =>
                clear hO hBB
                obtain ⟨q, hq, rfl, rfl, hO, hBB⟩ := hrel
                cases q with
                | zero =>
                  have e9 : tailU D (0) 0 = U8s ((D.take (0)).reverse) := by unfold tailU; rw [List.drop_zero]
                  rw [e9] at hO
                  have hconv := conv_bytes _ _ _ _ _ _ hO (by
                    intro x hx
                    have h := hx
                    exact HLT'.out x (List.mem_of_mem_take (List.mem_reverse.1 h))) (by unfold lenAt; rw [List.length_reverse, List.length_take, HDL'.out]; omega)
                  have HEND : Hid (Below w.heap.size w wr) := HBW.out.trans ((HBr.out.mono HBW.out.size).trans (hBB.mono (by have := HBW.out.size; omega)))
                  clear hO hBB e9
                  go_wp2
                  go_ret
                  exact ⟨by rw [HT2.out]; rfl, HEND.out⟩
                | succ q => exact absurd hq (Nat.not_succ_le_zero q)
            · have HT2 : Hid (fullT (negOf neg t) t = strB (bytesOf ([45] ++ (D.take (0)).reverse))) := by rw [HT.out, HNGq.out, HTX'.out, HM.out]; rfl
              have hO5 := HO4.out.alloc (.cells #[.int .i64 z0, .bool zn, .slice za zl zc] 84)
              go_wp2_with (at_builtin; refine wpList_append_fits _ rfl _ _ 45 rfl WR.heap.size 5 i0 1 Tryd.underlying45 hinf hz1 WR.heap.size 0 (0 + 1) _ rfl (hO5.alloc _) ⟨w4.heap.size + 1, 0, none⟩ 1 1 [.int .u8 45] rfl rfl ?ad0 ?ad1 ?ad2 ?_)
              try (case ad0 => (exact cell_one_new' _ _ _ _ (by simp)))
              try (case ad1 => (first | rfl | (intro u hu; simp at hu; subst hu; rfl)))
              try (case ad2 => (omega))
              intro W5 hO hgr5
              have hBB : Below WR.heap.size WR W5 := ((HB4.out.alloc HB4.out.size _).alloc (by have := HB4.out.size; simp; omega) _).grown hgr5 (by have := HB4.out.size; simp; omega) (fun k e => by cases e; exact Nat.le_refl _)
              clear hgr5 hO5
              go_wp2
              go_loopw [9, 10] (fun v i wr => ∃ q : Nat, q ≤ 0 ∧ i = .int .i64 (q - 1) ∧ v = .slice (some ⟨WR.heap.size, 0, none⟩) (lenAt 1 (0) q) (0 + 1) ∧
                  wr.ownsRow WR.heap.size 5 1 (.slice (some ⟨WR.heap.size, 0, none⟩) (lenAt 1 (0) q) (0 + 1)) (lenAt 1 (0) q) ([.int .u8 45] ++ tailU D (0) q) ∧ Below WR.heap.size WR wr) (fun _ i _ => (intOf i + 1).toNat)
              case atStart =>
                refine ⟨0, Nat.le_refl _, val_int (by omega), by rw [lenAt_self], ?_, hBB⟩
                rw [lenAt_self, tailU_self]
                simpa using hO
              case round =>
                clear hO hBB
                obtain ⟨q, hq, rfl, rfl, hO, hBB⟩ := hrel
                cases q with
                | zero =>
                  have e9 : [.int .u8 45] ++ tailU D (0) 0 = U8s ([45] ++ (D.take (0)).reverse) := by unfold tailU; rw [List.drop_zero]; rfl
                  rw [e9] at hO
                  have hconv := conv_bytes _ _ _ _ _ _ hO (by
                    intro x hx
                    rcases List.mem_append.1 hx with h | h
                    · simp at h; omega
                    · exact HLT'.out x (List.mem_of_mem_take (List.mem_reverse.1 h))) (by unfold lenAt; rw [List.length_append, List.length_reverse, List.length_take, HDL'.out]; simp only [List.length_cons, List.length_nil]; omega)
                  have HEND : Hid (Below w.heap.size w wr) := HBW.out.trans ((HBr.out.mono HBW.out.size).trans (hBB.mono (by have := HBW.out.size; omega)))
                  clear hO hBB e9
                  go_wp2
                  go_ret
                  exact ⟨by rw [HT2.out]; rfl, HEND.out⟩
                | succ q => exact absurd hq (Nat.not_succ_le_zero q)
          | succ m =>
            have hcell := HRC.out WR HOW.out m (by omega)
            have hml : m < D.length := by rw [HDL'.out]; omega
            by_cases h48 : D.getD m 0 = 48
            · have HN : Hid (cutE (D.take m) = cutE D) := (cutE_zero D m hml h48).symm.trans HP.out
              rw [h48] at hcell
              clear h48
              go_wp2
              go_round
              case rel => exact ⟨m, by omega, val_int (by omega), HN.out⟩
              case measure => simp [intOf]
            · have HM : Hid (cutE D = (D.take (m + 1)).reverse) := HP.out.symm.trans (cutE_pos D m hml h48)
              obtain ⟨d0, hd0⟩ : ∃ d0, D.getD m 0 = d0 := ⟨_, rfl⟩
              rw [hd0] at hcell h48
              have h49 : ((d0 : Int) == 48) = false := by rw [beq_eq_false_iff_ne]; omega
              clear hd0 h48
              go_wp2_with (at_make; refine wpList_make_own _ rfl _ _ 45 rfl WR.heap.size 5 i0 (.int .u8 0) 1 Tryd.underlying45 hinf hz0 hz1 .i64 .i64 _ ((m + 1) + 1) rfl rfl ?bm1 ?bm2 ?bm3 ?bm4 ?_)
              try (case bm1 => (omega))
              try (case bm2 => (first | omega | (rw [hz2]; omega)))
              try (case bm3 => (unfold maxLen; omega))
              try (case bm4 => (exact Nat.le_refl _))
              intro w4 hown4 hgr4
              have hB4 : Below WR.heap.size WR w4 := (Below.refl _ _).grown hgr4 (Nat.le_refl _) (fun k h => by cases h)
              have hwr : w1.heap.size < WR.heap.size := (HOW.out.lt _ rfl).2
              have HB04 : Hid (Below W0.heap.size W0 w4) := HB1.out.trans ((HBr.out.mono HB1.out.size).trans (hB4.mono (by have := HB1.out.size; omega)))
              obtain ⟨c0, c1, c2⟩ := HX.out w4 HB04.out
              have HO4 : Hid (w4.ownsRow WR.heap.size 5 1 (.slice (some ⟨WR.heap.size, 0, none⟩) 0 ((m + 1) + 1)) 0 []) := hown4
              have HB4 : Hid (Below WR.heap.size WR w4) := hB4
              clear hgr4 hown4 hB4
              go_wp2_with fail
              refine (l1Neg_ex _ _ _ _ _ _).mono ?_
              rintro e w' ⟨rfl, hw'⟩
              subst w'
              rw [HNG.out, HNGq.out]
              cases ng
              · have HT2 : Hid (fullT (negOf neg t) t = strB (bytesOf (D.take ((m + 1))).reverse)) := by rw [HT.out, HNGq.out, HTX'.out, HM.out]; rfl
                have hO := HO4.out.alloc (.cells #[.int .i64 z0, .bool zn, .slice za zl zc] 84)
                have hBB : Below WR.heap.size WR (w4.alloc (.cells #[.int .i64 z0, .bool zn, .slice za zl zc] 84)) := HB4.out.alloc HB4.out.size _
                obtain ⟨W5, hW5⟩ : ∃ W5, w4.alloc (.cells #[.int .i64 z0, .bool zn, .slice za zl zc] 84) = W5 := ⟨_, rfl⟩
                rw [hW5] at hO hBB ⊢
                clear hW5
                go_wp2
                go_loopw [9, 10] (fun v i wr => ∃ q : Nat, q ≤ (m + 1) ∧ i = .int .i64 (q - 1) ∧ v = .slice (some ⟨WR.heap.size, 0, none⟩) (lenAt 0 ((m + 1)) q) ((m + 1) + 1) ∧
                    wr.ownsRow WR.heap.size 5 1 (.slice (some ⟨WR.heap.size, 0, none⟩) (lenAt 0 ((m + 1)) q) ((m + 1) + 1)) (lenAt 0 ((m + 1)) q) (tailU D ((m + 1)) q) ∧ Below WR.heap.size WR wr) (fun _ i _ => (intOf i + 1).toNat)
                case atStart =>
                  refine ⟨(m + 1), Nat.le_refl _, val_int (by omega), by rw [lenAt_self], ?_, hBB⟩
                  rw [lenAt_self, tailU_self]
                  simpa using hO
                case round =>
                  clear hO hBB
                  obtain ⟨q, hq, rfl, rfl, hO, hBB⟩ := hrel
                  cases q with
                  | zero =>
                    have e9 : tailU D ((m + 1)) 0 = U8s ((D.take ((m + 1))).reverse) := by unfold tailU; rw [List.drop_zero]
                    rw [e9] at hO
                    have hconv := conv_bytes _ _ _ _ _ _ hO (by
                      intro x hx
                      have h := hx
                      exact HLT'.out x (List.mem_of_mem_take (List.mem_reverse.1 h))) (by unfold lenAt; rw [List.length_reverse, List.length_take, HDL'.out]; omega)
                    have HEND : Hid (Below w.heap.size w wr) := HBW.out.trans ((HBr.out.mono HBW.out.size).trans (hBB.mono (by have := HBW.out.size; omega)))
                    clear hO hBB e9
                    go_wp2
                    go_ret
                    exact ⟨by rw [HT2.out]; rfl, HEND.out⟩
                  | succ q =>
                    have hcl : wr.cell? ⟨w1.heap.size, q, none⟩ = some (.int .u8 (D.getD q 0 : Nat)) := (hBB.cell (p := ⟨w1.heap.size, q, none⟩) hwr).trans (HRC.out WR HOW.out q (by omega))
                    have HTU : Hid (tailU D ((m + 1)) q = tailU D ((m + 1)) (q + 1) ++ [.int .u8 (D.getD q 0 : Nat)]) := tailU_step D ((m + 1)) q (by omega) (by rw [HDL'.out]; omega)
                    have hlt8 : D.getD q 0 < 256 := by
                      rw [List.getD_eq_getElem?_getD, List.getElem?_eq_getElem (by rw [HDL'.out]; omega)]
                      exact HLT'.out _ (List.getElem_mem _)
                    obtain ⟨d, hd⟩ : ∃ d, D.getD q 0 = d := ⟨_, rfl⟩
                    rw [hd] at hcl HTU hlt8
                    clear hd
                    have hrow9 : q < 9 * t.length := by omega
                    have HNUM : Hid (lenAt 0 ((m + 1)) (q + 1) + 1 = lenAt 0 ((m + 1)) q) := lenAt_step _ _ _ (by omega)
                    have HCAP : Hid (lenAt 0 ((m + 1)) (q + 1) + 1 ≤ (m + 1) + 1) := by show lenAt 0 ((m + 1)) (q + 1) + 1 ≤ (m + 1) + 1; unfold lenAt; omega
                    go_wp2_with (at_builtin; refine wpList_append_fits _ rfl _ _ 45 rfl WR.heap.size 5 i0 1 Tryd.underlying45 hinf hz1 WR.heap.size (lenAt 0 ((m + 1)) (q + 1)) ((m + 1) + 1) _ rfl (hO.alloc _) ⟨wr.heap.size, 0, none⟩ 1 1 [_] rfl rfl (cell_one_new _ _ _) ?bfc1 ?bfc2 ?_)
                    try (case bfc1 => (first | rfl | (intro u hu; simp at hu; subst hu; rfl)))
                    try (case bfc2 => (exact HCAP.out))
                    intro w6 hO6 hgr6
                    have hB6 : Below WR.heap.size WR w6 := (hBB.alloc hBB.size _).grown hgr6 (by have := hBB.size; simp; omega) (fun k e => by cases e; exact Nat.le_refl _)
                    have HO6 : Hid (w6.ownsRow WR.heap.size 5 1 (.slice (some ⟨WR.heap.size, 0, none⟩) (lenAt 0 ((m + 1)) q) ((m + 1) + 1)) (lenAt 0 ((m + 1)) q) (tailU D ((m + 1)) q)) := by
                      show w6.ownsRow WR.heap.size 5 1 (.slice (some ⟨WR.heap.size, 0, none⟩) (lenAt 0 ((m + 1)) q) ((m + 1) + 1)) (lenAt 0 ((m + 1)) q) (tailU D ((m + 1)) q)
                      rw [HTU.out, ← HNUM.out]
                      simpa using hO6
                    clear hO6 hgr6 hO hBB hcl
                    go_wp2
                    go_roundw
                    case rel => exact ⟨q, by omega, val_int (by omega), by rw [HNUM.out], HO6.out, hB6⟩
                    case measure => simp [intOf]
              · have HT2 : Hid (fullT (negOf neg t) t = strB (bytesOf ([45] ++ (D.take ((m + 1))).reverse))) := by rw [HT.out, HNGq.out, HTX'.out, HM.out]; rfl
                have hO5 := HO4.out.alloc (.cells #[.int .i64 z0, .bool zn, .slice za zl zc] 84)
                go_wp2_with (at_builtin; refine wpList_append_fits _ rfl _ _ 45 rfl WR.heap.size 5 i0 1 Tryd.underlying45 hinf hz1 WR.heap.size 0 ((m + 1) + 1) _ rfl (hO5.alloc _) ⟨w4.heap.size + 1, 0, none⟩ 1 1 [.int .u8 45] rfl rfl ?bd0 ?bd1 ?bd2 ?_)
                try (case bd0 => (exact cell_one_new' _ _ _ _ (by simp)))
                try (case bd1 => (first | rfl | (intro u hu; simp at hu; subst hu; rfl)))
                try (case bd2 => (omega))
                intro W5 hO hgr5
                have hBB : Below WR.heap.size WR W5 := ((HB4.out.alloc HB4.out.size _).alloc (by have := HB4.out.size; simp; omega) _).grown hgr5 (by have := HB4.out.size; simp; omega) (fun k e => by cases e; exact Nat.le_refl _)
                clear hgr5 hO5
                go_wp2
                go_loopw [9, 10] (fun v i wr => ∃ q : Nat, q ≤ (m + 1) ∧ i = .int .i64 (q - 1) ∧ v = .slice (some ⟨WR.heap.size, 0, none⟩) (lenAt 1 ((m + 1)) q) ((m + 1) + 1) ∧
                    wr.ownsRow WR.heap.size 5 1 (.slice (some ⟨WR.heap.size, 0, none⟩) (lenAt 1 ((m + 1)) q) ((m + 1) + 1)) (lenAt 1 ((m + 1)) q) ([.int .u8 45] ++ tailU D ((m + 1)) q) ∧ Below WR.heap.size WR wr) (fun _ i _ => (intOf i + 1).toNat)
                case atStart =>
                  refine ⟨(m + 1), Nat.le_refl _, val_int (by omega), by rw [lenAt_self], ?_, hBB⟩
                  rw [lenAt_self, tailU_self]
                  simpa using hO
                case round =>
                  clear hO hBB
                  obtain ⟨q, hq, rfl, rfl, hO, hBB⟩ := hrel
                  cases q with
                  | zero =>
                    have e9 : [.int .u8 45] ++ tailU D ((m + 1)) 0 = U8s ([45] ++ (D.take ((m + 1))).reverse) := by unfold tailU; rw [List.drop_zero]; rfl
                    rw [e9] at hO
                    have hconv := conv_bytes _ _ _ _ _ _ hO (by
                      intro x hx
                      rcases List.mem_append.1 hx with h | h
                      · simp at h; omega
                      · exact HLT'.out x (List.mem_of_mem_take (List.mem_reverse.1 h))) (by unfold lenAt; rw [List.length_append, List.length_reverse, List.length_take, HDL'.out]; simp only [List.length_cons, List.length_nil]; omega)
                    have HEND : Hid (Below w.heap.size w wr) := HBW.out.trans ((HBr.out.mono HBW.out.size).trans (hBB.mono (by have := HBW.out.size; omega)))
                    clear hO hBB e9
                    go_wp2
                    go_ret
                    exact ⟨by rw [HT2.out]; rfl, HEND.out⟩
                  | succ q =>
                    have hcl : wr.cell? ⟨w1.heap.size, q, none⟩ = some (.int .u8 (D.getD q 0 : Nat)) := (hBB.cell (p := ⟨w1.heap.size, q, none⟩) hwr).trans (HRC.out WR HOW.out q (by omega))
                    have HTU : Hid (tailU D ((m + 1)) q = tailU D ((m + 1)) (q + 1) ++ [.int .u8 (D.getD q 0 : Nat)]) := tailU_step D ((m + 1)) q (by omega) (by rw [HDL'.out]; omega)
                    have hlt8 : D.getD q 0 < 256 := by
                      rw [List.getD_eq_getElem?_getD, List.getElem?_eq_getElem (by rw [HDL'.out]; omega)]
                      exact HLT'.out _ (List.getElem_mem _)
                    obtain ⟨d, hd⟩ : ∃ d, D.getD q 0 = d := ⟨_, rfl⟩
                    rw [hd] at hcl HTU hlt8
                    clear hd
                    have hrow9 : q < 9 * t.length := by omega
                    have HNUM : Hid (lenAt 1 ((m + 1)) (q + 1) + 1 = lenAt 1 ((m + 1)) q) := lenAt_step _ _ _ (by omega)
                    have HCAP : Hid (lenAt 1 ((m + 1)) (q + 1) + 1 ≤ (m + 1) + 1) := by show lenAt 1 ((m + 1)) (q + 1) + 1 ≤ (m + 1) + 1; unfold lenAt; omega
                    go_wp2_with (at_builtin; refine wpList_append_fits _ rfl _ _ 45 rfl WR.heap.size 5 i0 1 Tryd.underlying45 hinf hz1 WR.heap.size (lenAt 1 ((m + 1)) (q + 1)) ((m + 1) + 1) _ rfl (hO.alloc _) ⟨wr.heap.size, 0, none⟩ 1 1 [_] rfl rfl (cell_one_new _ _ _) ?btc1 ?btc2 ?_)
                    try (case btc1 => (first | rfl | (intro u hu; simp at hu; subst hu; rfl)))
                    try (case btc2 => (exact HCAP.out))
                    intro w6 hO6 hgr6
                    have hB6 : Below WR.heap.size WR w6 := (hBB.alloc hBB.size _).grown hgr6 (by have := hBB.size; simp; omega) (fun k e => by cases e; exact Nat.le_refl _)
                    have HO6 : Hid (w6.ownsRow WR.heap.size 5 1 (.slice (some ⟨WR.heap.size, 0, none⟩) (lenAt 1 ((m + 1)) q) ((m + 1) + 1)) (lenAt 1 ((m + 1)) q) ([.int .u8 45] ++ tailU D ((m + 1)) q)) := by
                      show w6.ownsRow WR.heap.size 5 1 (.slice (some ⟨WR.heap.size, 0, none⟩) (lenAt 1 ((m + 1)) q) ((m + 1) + 1)) (lenAt 1 ((m + 1)) q) ([.int .u8 45] ++ tailU D ((m + 1)) q)
                      rw [HTU.out, ← HNUM.out]
                      simpa using hO6
                    clear hO6 hgr6 hO hBB hcl
                    go_wp2
                    go_roundw
                    case rel => exact ⟨q, by omega, val_int (by omega), by rw [HNUM.out], HO6.out, hB6⟩
                    case measure => simp [intOf]
end Go.Proofs.YtdphpfffofeklaaDoor
namespace Go.Proofs.YtdphpfffofeklaaDoor
open Go.ChangeShapes Go.WideShapes Go.ChangeAt Go.RowKit
theorem isL_three {w : World} {x y u : Int} (B e a b c g : Nat) (ha : a < 1000000000) (hb : b < 1000000000) (hcc : c < 1000000000) (hx : x = a) (hy : y = b) (hu : u = c) (hg : w.heap.size = g) (hB : B ≤ g) : IsL B (w.alloc (.cells #[.int .u32 x, .int .u32 y, .int .u32 u] e)) (.slice (some ⟨g, 0, none⟩) 3 3) [a, b, c] := by
  subst hx; subst hy; subst hu; subst hg
  exact ⟨_, 3, rfl, by simp, by unfold maxLen; omega, fun x hx => by simp at hx; omega, .inr ⟨w.heap.size, 0, rfl, hB, by simp, fun i hi => by
    match i, hi with
    | 0, _ => rw [World.cell?_alloc_at _ _ _ _ rfl]; rfl
    | 1, _ => rw [World.cell?_alloc_at _ _ _ _ rfl]; rfl
    | 2, _ => rw [World.cell?_alloc_at _ _ _ _ rfl]; rfl⟩⟩
end Go.Proofs.YtdphpfffofeklaaDoor
namespace Go.Proofs.YtdphpfffofeklaaDoor
open Go.ChangeShapes Go.WideShapes Go.ChangeAt Go.RowKit
def NumZ (B : Nat) (w : World) (z : Value) (x : Int) (n : Nat) : Prop := ∃ neg t, IsZ B w z neg t ∧ sg neg (val t) = x ∧ t.length ≤ n
theorem NumZ.below {B : Nat} {w w' : World} {z : Value} {x : Int} {n : Nat} (h : NumZ B w z x n) (hb : Below w.heap.size w w') : NumZ B w' z x n := by
  obtain ⟨neg, t, h1, h2⟩ := h
  exact ⟨neg, t, h1.below hb, h2⟩
theorem NumZ.mono {B B' : Nat} {w : World} {z : Value} {x : Int} {n : Nat} (h : NumZ B w z x n) (hb : B' ≤ B) : NumZ B' w z x n := by
  obtain ⟨neg, t, h1, h2⟩ := h
  exact ⟨neg, t, h1.mono hb, h2⟩
def two (n : Nat) : List Nat := trimL [n % 1000000000, n / 1000000000]
theorem two_ok (n : Nat) (h : n < 1000000000000000000) : okL (two n) := trimL_ok _ fun x hx => by
  simp at hx
  rcases hx with rfl | rfl <;> omega
theorem two_trim (n : Nat) : isTrim (two n) := trimL_trim _
theorem two_val (n : Nat) : val (two n) = n := by
  unfold two
  rw [val_trimL]
  simp only [val]
  omega
theorem two_len (n : Nat) : (two n).length ≤ 2 := by
  have := trimL_len [n % 1000000000, n / 1000000000]
  simpa [two] using this
set_option maxRecDepth 100000 in
set_option maxHeartbeats 1000000 in
theorem l1Small_any (x : Int) (w : World) (h1 : -9223372036854775808 ≤ x) (h2 : x ≤ 9223372036854775807) :
    Calls Tryd.prog 38 #[.int .i64 x] w fun e w' => ∃ z, e = .returned z ∧ NumZ w.heap.size w' z x 3 ∧ Below w.heap.size w w' := by
  by_cases hs : x < 1000000000000000000 ∧ -1000000000000000000 < x
  · obtain ⟨s1, s2⟩ := hs
    go_enter Tryd.func38, Tryd.ntmps38
    go_wp2
    have e0 : sg (decide (x < 0)) (val (two x.natAbs)) = x := by
      rw [two_val]
      unfold sg
      by_cases h : x < 0 <;> simp [h] <;> omega
    refine bodyPost_ret (v := .agg #[.int .i64 x, .bool false, .slice none 0 0]) ?_ rfl ⟨_, rfl, ⟨decide (x < 0), two x.natAbs, ⟨two_ok _ (by omega), two_trim _, .inr ⟨two_len _, ?_⟩⟩, e0, Nat.le_trans (two_len _) (by omega)⟩, ?_⟩
    · simp [results, Tryd.results38, go_sem]
    · rw [e0]
    · exact below_alloc _ _
  · by_cases hx : x = -9223372036854775808
    · subst hx
      have HL : Hid (∀ W : World, IsL (W.heap.size) (W.alloc (.cells #[.int .u32 854775808, .int .u32 223372036, .int .u32 9] 96)) (.slice (some ⟨W.heap.size, 0, none⟩) 3 3) [854775808, 223372036, 9]) := fun W =>
        isL_three _ _ _ _ _ _ (by omega) (by omega) (by omega) (by omega) (by omega) (by omega) rfl (Nat.le_refl _)
      go_enter Tryd.func38, Tryd.ntmps38
      go_wp2
      rw [show (IntKind.u64.wrap (wrap64 9223372036854775808)).tmod 1000000000 % 4294967296 = 854775808 by decide +kernel, show (IntKind.u64.wrap ((IntKind.u64.wrap (wrap64 9223372036854775808)).tdiv 1000000000)).tmod 1000000000 % 4294967296 = 223372036 by decide +kernel, show IntKind.u64.wrap ((IntKind.u64.wrap ((IntKind.u64.wrap (wrap64 9223372036854775808)).tdiv 1000000000)).tdiv 1000000000) % 4294967296 = 9 by decide +kernel]
      have hl := HL.out (w.alloc (.cells #[.int .i64 0, .bool true, .slice (some ⟨w.heap.size + 1, 0, none⟩) 3 3] 84))
      have hsz : (w.alloc (.cells #[.int .i64 0, .bool true, .slice (some ⟨w.heap.size + 1, 0, none⟩) 3 3] 84)).heap.size = w.heap.size + 1 := by simp
      rw [hsz] at hl
      refine bodyPost_ret (v := .agg #[.int .i64 0, .bool true, .slice (some ⟨w.heap.size + 1, 0, none⟩) 3 3]) ?_ rfl ⟨_, rfl, ⟨true, [854775808, 223372036, 9], IsZ.mono (B := w.heap.size + 1) ⟨fun y hy => by simp at hy; omega, fun _ => by simp, .inl ⟨by decide, _, rfl, hl⟩⟩ (Nat.le_succ _), by decide, by decide⟩, below_al (below_alloc _ _) _⟩
      simp [results, Tryd.results38, go_sem]
    obtain ⟨n, hn⟩ : ∃ n : Nat, x.natAbs = n := ⟨_, rfl⟩
    obtain ⟨u, hu⟩ : ∃ u : Int, (n : Int) = u := ⟨_, rfl⟩
    have HT : Hid (okL [n % 1000000000, n / 1000000000 % 1000000000, n / 1000000000 / 1000000000] ∧ isTrim [n % 1000000000, n / 1000000000 % 1000000000, n / 1000000000 / 1000000000] ∧ sg (decide (x < 0)) (val [n % 1000000000, n / 1000000000 % 1000000000, n / 1000000000 / 1000000000]) = x) := by
      refine ⟨fun y hy => by simp at hy; omega, fun _ => by simp; omega, ?_⟩
      have : val [n % 1000000000, n / 1000000000 % 1000000000, n / 1000000000 / 1000000000] = n := by simp only [val]; omega
      rw [this]
      unfold sg
      by_cases h : x < 0 <;> simp [h] <;> omega
    have HL : Hid (∀ W : World, IsL (W.heap.size) (W.alloc (.cells #[.int .u32 (u % 1000000000), .int .u32 (u / 1000000000 % 1000000000), .int .u32 (u / 1000000000 / 1000000000)] 96)) (.slice (some ⟨W.heap.size, 0, none⟩) 3 3) [n % 1000000000, n / 1000000000 % 1000000000, n / 1000000000 / 1000000000]) := fun W =>
      isL_three _ _ _ _ _ _ (by omega) (by omega) (by omega) (by omega) (by omega) (by omega) rfl (Nat.le_refl _)
    obtain ⟨L, hL⟩ : ∃ L, [n % 1000000000, n / 1000000000 % 1000000000, n / 1000000000 / 1000000000] = L := ⟨_, rfl⟩
    have hlen : L.length = 3 := by rw [← hL]; rfl
    rw [hL] at HT HL
    clear hL
    have u2 : u ≤ 9223372036854775807 := by omega
    have u1 : 1000000000000000000 ≤ u := by omega
    by_cases hneg : x < 0
    · obtain rfl : x = -u := by omega
      have hd : decide (-u < 0) = true := decide_eq_true hneg
      rw [hd] at HT
      clear hu hn hd hs
      go_enter Tryd.func38, Tryd.ntmps38
      go_wp2
      have hl := HL.out (w.alloc (.cells #[.int .i64 0, .bool true, .slice (some ⟨w.heap.size + 1, 0, none⟩) 3 3] 84))
      have hsz : (w.alloc (.cells #[.int .i64 0, .bool true, .slice (some ⟨w.heap.size + 1, 0, none⟩) 3 3] 84)).heap.size = w.heap.size + 1 := by simp
      rw [hsz] at hl
      refine bodyPost_ret (v := .agg #[.int .i64 0, .bool true, .slice (some ⟨w.heap.size + 1, 0, none⟩) 3 3]) ?_ rfl ⟨_, rfl, ⟨true, L, IsZ.mono (B := w.heap.size + 1) ⟨HT.out.1, HT.out.2.1, .inl ⟨by omega, _, rfl, hl⟩⟩ (Nat.le_succ _), HT.out.2.2, by omega⟩, below_al (below_alloc _ _) _⟩
      simp [results, Tryd.results38, go_sem]
    · obtain rfl : x = u := by omega
      have hd : decide (x < 0) = false := decide_eq_false hneg
      rw [hd] at HT
      clear hu hn hd hs
      go_enter Tryd.func38, Tryd.ntmps38
      go_wp2
      have hl := HL.out (w.alloc (.cells #[.int .i64 0, .bool false, .slice (some ⟨w.heap.size + 1, 0, none⟩) 3 3] 84))
      have hsz : (w.alloc (.cells #[.int .i64 0, .bool false, .slice (some ⟨w.heap.size + 1, 0, none⟩) 3 3] 84)).heap.size = w.heap.size + 1 := by simp
      rw [hsz] at hl
      refine bodyPost_ret (v := .agg #[.int .i64 0, .bool false, .slice (some ⟨w.heap.size + 1, 0, none⟩) 3 3]) ?_ rfl ⟨_, rfl, ⟨false, L, IsZ.mono (B := w.heap.size + 1) ⟨HT.out.1, HT.out.2.1, .inl ⟨by omega, _, rfl, hl⟩⟩ (Nat.le_succ _), HT.out.2.2, by omega⟩, below_al (below_alloc _ _) _⟩
      simp [results, Tryd.results38, go_sem]
end Go.Proofs.YtdphpfffofeklaaDoor
namespace Go.Proofs.YtdphpfffofeklaaDoor
open Go.ChangeShapes Go.WideShapes Go.ChangeAt Go.RowKit
abbrev U32s (l : List Nat) : List Value := l.map (fun x => Value.int .u32 (x : Nat))
def Row (w : World) (R : Nat) (l : List Nat) : Prop := w.heap[R]? = some (.cells (U32s l).toArray 96 (0, 0))
theorem Row.lt {w : World} {R : Nat} {l : List Nat} (h : Row w R l) : R < w.heap.size := (Array.getElem?_eq_some_iff.1 h).1
theorem Row.cell {w : World} {R : Nat} {l : List Nat} (h : Row w R l) (i : Nat) (hi : i < l.length) : w.cell? ⟨R, i, none⟩ = some (.int .u32 (l.getD i 0 : Nat)) := by
  simp [World.cell?, show w.heap[R]? = _ from h, List.getElem?_eq_getElem hi, List.getD_eq_getElem?_getD]
theorem Row.frozen {w : World} {R : Nat} {l : List Nat} (h : Row w R l) (i : Nat) : w.frozen? ⟨R, i, none⟩ = false := by
  simp [World.frozen?, show w.heap[R]? = _ from h]
end Go.Proofs.YtdphpfffofeklaaDoor
namespace Go.Proofs.YtdphpfffofeklaaDoor
open Go.ChangeShapes Go.WideShapes Go.ChangeAt Go.RowKit
def IsN (B : Nat) (w : World) (z : Value) (x : Int) : Prop := ∃ neg t, IsZ B w z neg t ∧ sg neg (val t) = x
theorem IsN.below {B : Nat} {w w' : World} {z : Value} {x : Int} (h : IsN B w z x) (hb : Below w.heap.size w w') : IsN B w' z x := by
  obtain ⟨neg, t, h1, h2⟩ := h
  exact ⟨neg, t, h1.below hb, h2⟩
theorem IsN.mono {B B' : Nat} {w : World} {z : Value} {x : Int} (h : IsN B w z x) (hb : B' ≤ B) : IsN B' w z x := by
  obtain ⟨neg, t, h1, h2⟩ := h
  exact ⟨neg, t, h1.mono hb, h2⟩
theorem IsN.shape {B : Nat} {w : World} {z : Value} {x : Int} (h : IsN B w z x) : ∃ (z0 : Int) (zn : Bool) (za : Option Addr) (zl zc : Nat), z = .agg #[.int .i64 z0, .bool zn, .slice za zl zc] := by
  obtain ⟨neg, t, h1, h2⟩ := h
  exact h1.shape
structure Boxes (g : Nat) (W : World) (x : Int) (xn : Bool) (pa : Option Addr) (la ca : Nat) (y : Int) (yn : Bool) (pb : Option Addr) (lb cb : Nat) : Prop where
  a0 : W.cell? ⟨g, 0, none⟩ = some (.int .i64 x)
  a1 : W.cell? ⟨g, 1, none⟩ = some (.bool xn)
  a2 : W.cell? ⟨g, 2, none⟩ = some (.slice pa la ca)
  b0 : W.cell? ⟨g + 1, 0, none⟩ = some (.int .i64 y)
  b1 : W.cell? ⟨g + 1, 1, none⟩ = some (.bool yn)
  b2 : W.cell? ⟨g + 1, 2, none⟩ = some (.slice pb lb cb)
  r0 : W.cell? ⟨g + 2, 0, none⟩ = some (.int .i64 0)
  r1 : W.cell? ⟨g + 2, 1, none⟩ = some (.bool false)
  r2 : W.cell? ⟨g + 2, 2, none⟩ = some (.slice none 0 0)
  f0 : W.frozen? ⟨g + 2, 0, none⟩ = false
  f1 : W.frozen? ⟨g + 2, 1, none⟩ = false
  f2 : W.frozen? ⟨g + 2, 2, none⟩ = false
theorem Boxes.below {g : Nat} {W W' : World} {x : Int} {xn : Bool} {pa : Option Addr} {la ca : Nat} {y : Int} {yn : Bool} {pb : Option Addr} {lb cb : Nat} (h : Boxes g W x xn pa la ca y yn pb lb cb) {N : Nat} (hN : g + 3 ≤ N) (hb : Below N W W') : Boxes g W' x xn pa la ca y yn pb lb cb := by
  have q : ∀ k, k < 3 → ∀ i, W'.cell? ⟨g + k, i, none⟩ = W.cell? ⟨g + k, i, none⟩ := fun k hk i => hb.cell (p := ⟨g + k, i, none⟩) (by show g + k < N; omega)
  have f : ∀ i, W'.frozen? ⟨g + 2, i, none⟩ = W.frozen? ⟨g + 2, i, none⟩ := fun i => hb.frozen (p := ⟨g + 2, i, none⟩) (by show g + 2 < N; omega)
  exact ⟨(q 0 (by omega) 0).trans h.a0, (q 0 (by omega) 1).trans h.a1, (q 0 (by omega) 2).trans h.a2, (q 1 (by omega) 0).trans h.b0, (q 1 (by omega) 1).trans h.b1, (q 1 (by omega) 2).trans h.b2, (q 2 (by omega) 0).trans h.r0, (q 2 (by omega) 1).trans h.r1, (q 2 (by omega) 2).trans h.r2, (f 0).trans h.f0, (f 1).trans h.f1, (f 2).trans h.f2⟩
end Go.Proofs.YtdphpfffofeklaaDoor
namespace Go.Proofs.YtdphpfffofeklaaDoor
open Go.RowKit
theorem num_digit (g : List UInt8) (hg : ∀ c ∈ g, dig c) (j : Nat) (hj : j < g.length) : num g / 10 ^ (g.length - 1 - j) % 10 = g[j].toNat - 48 := by
  induction hn : g.length generalizing g j with
  | zero => omega
  | succ n ih =>
    obtain ⟨f, c, rfl⟩ : ∃ f c, g = f ++ [c] := ⟨g.dropLast, g.getLast (by intro h; rw [h] at hj; simp at hj), (List.dropLast_concat_getLast _).symm⟩
    have hc : dig c := hg c (by simp)
    unfold dig at hc
    have hf : f.length = n := by simpa using hn
    rw [num_snoc]
    by_cases hjn : j < n
    · have e1 : n + 1 - 1 - j = (n - 1 - j) + 1 := by omega
      have e3 : (num f * 10 + (c.toNat - 48)) / 10 ^ (n - 1 - j + 1) = num f / 10 ^ (n - 1 - j) := by
        rw [Nat.pow_succ, Nat.mul_comm (10 ^ (n - 1 - j)) 10, ← Nat.div_div_eq_div_mul, show (num f * 10 + (c.toNat - 48)) / 10 = num f by omega]
      rw [e1, e3]
      have := ih f (fun x hx => hg x (by simp [hx])) j (by omega) hf
      rw [this]
      congr 2
      rw [List.getElem_append_left (by omega)]
    · have hjj : j = n := by simp at hj; omega
      subst hjj
      simp only [Nat.add_sub_cancel, Nat.sub_self, Nat.pow_zero, Nat.div_one]
      have e2 : (f ++ [c])[j] = c := by rw [List.getElem_append_right (by omega)]; simp [hf]
      rw [e2]
      omega
theorem digK_num (g : List UInt8) (hg : ∀ c ∈ g, dig c) (h9 : g.length = 9) : bytesOf (digK (num g) 9) = g := by
  apply List.ext_getElem
  · simp [bytesOf, digK, h9]
  · intro j h1 h2
    have hd := num_digit g hg j h2
    have hc := hg g[j] (List.getElem_mem _)
    unfold dig at hc
    simp only [bytesOf, digK, List.getElem_map, List.getElem_range]
    unfold dg tens
    rw [show 8 - j = g.length - 1 - j by omega, hd]
    apply UInt8.toNat_inj.1
    rw [UInt8.toNat_ofNat_of_lt' (by show _ < 256; omega)]
    omega
theorem num_zeros (k : Nat) (d : List UInt8) : num (List.replicate k 48 ++ d) = num d := by
  induction k with
  | zero => simp
  | succ k ih =>
    rw [List.replicate_succ, List.cons_append]
    show num (48 :: (List.replicate k 48 ++ d)) = num d
    rw [← ih]
    simp [num]
def padD (d : List UInt8) : List UInt8 := List.replicate (9 * cnt d.length - d.length) 48 ++ d
theorem padD_length (d : List UInt8) : (padD d).length = 9 * cnt d.length := by
  unfold padD cnt
  simp
  omega
theorem padD_dig (d : List UInt8) (hd : ∀ c ∈ d, dig c) : ∀ c ∈ padD d, dig c := by
  intro c hc
  unfold padD at hc
  rcases List.mem_append.1 hc with h | h
  · rw [List.eq_of_mem_replicate h]; exact ⟨by decide, by decide⟩
  · exact hd c h
theorem chunk_pad (d : List UInt8) (i : Nat) (hi : i < cnt d.length) : chunk d i = num (((padD d).take (9 * cnt d.length - 9 * i)).drop (9 * cnt d.length - 9 * i - 9)) := by
  unfold chunk padD
  have hz : 9 * cnt d.length - d.length ≤ 8 ∧ d.length ≤ 9 * cnt d.length := by unfold cnt; omega
  generalize hZ : 9 * cnt d.length - d.length = z at *
  have e1 : 9 * cnt d.length - 9 * i = z + (d.length - 9 * i) := by omega
  have e2 : (List.replicate z (48 : UInt8) ++ d).take (z + (d.length - 9 * i)) = List.replicate z 48 ++ d.take (d.length - 9 * i) := by
    rw [List.take_append, List.length_replicate, Nat.add_sub_cancel_left, List.take_of_length_le (by rw [List.length_replicate]; omega)]
  rw [e1, e2]
  by_cases h9 : 9 ≤ d.length - 9 * i
  · have e3 : (List.replicate z (48 : UInt8) ++ d.take (d.length - 9 * i)).drop (z + (d.length - 9 * i) - 9) = (d.take (d.length - 9 * i)).drop (d.length - 9 * i - 9) := by
      rw [List.drop_append, List.length_replicate, List.drop_eq_nil_of_le (by rw [List.length_replicate]; omega), List.nil_append, show z + (d.length - 9 * i) - 9 - z = d.length - 9 * i - 9 by omega]
    rw [e3]
  · rw [show z + (d.length - 9 * i) - 9 = 0 by omega, List.drop_zero, num_zeros, show d.length - 9 * i - 9 = 0 by omega, List.drop_zero]
theorem pad_chunks (d : List UInt8) (hd : ∀ c ∈ d, dig c) : bytesOf (padN (chunks d)) = padD d := by
  have key : ∀ k, k ≤ cnt d.length → bytesOf (padN ((List.range k).map (chunk d))) = (padD d).drop (9 * cnt d.length - 9 * k) := by
    intro k
    induction k with
    | zero => intro _; rw [List.drop_eq_nil_of_le (by rw [padD_length]; omega)]; rfl
    | succ k ih =>
      intro hk
      have e : bytesOf (padN ((List.range (k + 1)).map (chunk d))) = bytesOf (digK (chunk d k) 9) ++ bytesOf (padN ((List.range k).map (chunk d))) := by
        simp [padN, bytesOf, List.range_succ]
      rw [e, ih (by omega), chunk_pad d k (by omega)]
      have hl : (((padD d).take (9 * cnt d.length - 9 * k)).drop (9 * cnt d.length - 9 * k - 9)).length = 9 := by
        rw [List.length_drop, List.length_take, padD_length]; omega
      rw [digK_num _ (fun c hc => padD_dig d hd c (List.mem_of_mem_take (List.mem_of_mem_drop hc))) hl]
      rw [show 9 * cnt d.length - 9 * (k + 1) = 9 * cnt d.length - 9 * k - 9 by omega]
      generalize padD d = p
      have h9 : 9 * cnt d.length - 9 * k - 9 ≤ 9 * cnt d.length - 9 * k := by omega
      generalize 9 * cnt d.length - 9 * k - 9 = a at *
      generalize 9 * cnt d.length - 9 * k = b at *
      conv => rhs; rw [← List.take_append_drop b p]
      rw [List.drop_append]
      by_cases hb : b ≤ p.length
      · rw [List.length_take, Nat.min_eq_left hb, show a - b = 0 by omega, List.drop_zero]
      · have : (p.drop b) = [] := List.drop_eq_nil_of_le (by omega)
        rw [this]; simp
  have h := key (cnt d.length) (Nat.le_refl _)
  rw [show 9 * cnt d.length - 9 * cnt d.length = 0 by omega, List.drop_zero] at h
  exact h
theorem dropZ_zeros (k : Nat) (l : List UInt8) : dropZ (List.replicate k 48 ++ l) = dropZ l := by
  unfold dropZ
  induction k with
  | zero => simp
  | succ k ih => rw [List.replicate_succ, List.cons_append, List.dropWhile_cons]; simp [ih]
theorem textD_snoc_zero (l : List Nat) : textD (l ++ [0]) = textD l := by
  unfold textD padN bytesOf
  have e : (digK 0 9).map UInt8.ofNat = List.replicate 9 48 := by decide
  simp only [List.reverse_append, List.reverse_cons, List.reverse_nil, List.nil_append, List.cons_append, List.flatMap_cons, List.map_append, e]
  exact dropZ_zeros 9 _
theorem textD_trimL (l : List Nat) : textD (trimL l) = textD l := by
  generalize hn : l.length = n
  induction n generalizing l with
  | zero => rw [List.eq_nil_of_length_eq_zero hn]; rfl
  | succ n ih =>
    obtain ⟨f, x, rfl⟩ : ∃ f x, l = f ++ [x] := ⟨l.dropLast, l.getLast (by intro h; rw [h] at hn; simp at hn), (List.dropLast_concat_getLast _).symm⟩
    by_cases hx : x = 0
    · subst hx
      rw [trimL_snoc_zero, textD_snoc_zero]
      exact ih f (by simpa using hn)
    · rw [trimL_snoc_pos _ _ hx]
theorem textD_chunks (d : List UInt8) (hd : ∀ c ∈ d, dig c) (h0 : d.head? ≠ some 48) : textD (trimL (chunks d)) = d := by
  rw [textD_trimL]
  unfold textD
  rw [pad_chunks d hd]
  unfold padD
  rw [dropZ_zeros]
  unfold dropZ
  cases d with
  | nil => rfl
  | cons c l =>
    rw [List.dropWhile_cons]
    have : ¬ c = 48 := fun e => h0 (by rw [e]; rfl)
    simp [this]
theorem digK_succ' (x k : Nat) : digK x (k + 1) = digK x k ++ [dg x k] := by simp [digK, List.range_succ]
theorem num_digK (x m : Nat) (hx : x < 1000000000) (hm : m ≤ 9) : num (bytesOf (digK x m)) = x / 10 ^ (9 - m) := by
  induction m with
  | zero => simp [digK, bytesOf, num]; omega
  | succ m ih =>
    rw [digK_succ', bytesOf, List.map_append]
    show num (bytesOf (digK x m) ++ [UInt8.ofNat (dg x m)]) = _
    rw [num_snoc, ih (by omega)]
    have hd : dg x m < 58 := by unfold dg; omega
    rw [UInt8.toNat_ofNat_of_lt' (by show _ < 256; omega)]
    unfold dg tens
    have e : 9 - m = (8 - m) + 1 := by omega
    rw [e, Nat.pow_succ, ← Nat.div_div_eq_div_mul, show 9 - (m + 1) = 8 - m by omega]
    omega
theorem num_append (a b : List UInt8) : num (a ++ b) = num a * 10 ^ b.length + num b := by
  have key : ∀ (b : List UInt8) (k : Nat), b.foldl (fun a c => a * 10 + (c.toNat - 48)) k = k * 10 ^ b.length + num b := by
    intro b
    induction b with
    | nil => intro k; simp [num]
    | cons c b ih =>
      intro k
      have h2 : num (c :: b) = (c.toNat - 48) * 10 ^ b.length + num b := by
        unfold num
        rw [List.foldl_cons, ih]
        simp only [Nat.zero_mul, Nat.zero_add]
        rfl
      rw [List.foldl_cons, ih, h2, List.length_cons, Nat.pow_succ, Nat.add_mul, Nat.add_assoc, Nat.mul_assoc, Nat.mul_comm 10]
  unfold num
  rw [List.foldl_append, key]
  rfl
theorem num_padN (l : List Nat) (hl : okL l) : num (bytesOf (padN l)) = val l := by
  induction l with
  | nil => rfl
  | cons x l ih =>
    have e : bytesOf (padN (x :: l)) = bytesOf (padN l) ++ bytesOf (digK x 9) := by simp [padN, bytesOf]
    rw [e, num_append, ih (fun y hy => hl y (by simp [hy])), num_digK x 9 (hl x (by simp)) (Nat.le_refl _)]
    have : (bytesOf (digK x 9)).length = 9 := by simp [bytesOf, digK]
    rw [this]
    simp only [val]
    omega
theorem num_dropZ (l : List UInt8) : num (dropZ l) = num l := by
  induction l with
  | nil => rfl
  | cons c l ih =>
    unfold dropZ at *
    rw [List.dropWhile_cons]
    by_cases h : c = 48
    · subst h
      simp only [beq_self_eq_true, if_true]
      rw [ih]
      simp [num]
    · simp [h]
theorem num_textD (l : List Nat) (hl : okL l) : num (textD l) = val l := by
  unfold textD
  rw [num_dropZ, num_padN l hl]
end Go.Proofs.YtdphpfffofeklaaDoor
