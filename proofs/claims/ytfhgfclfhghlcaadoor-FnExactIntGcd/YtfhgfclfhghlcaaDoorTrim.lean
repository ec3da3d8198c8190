import Derived.Test.YtfhgfclfhghlcaaDoorIsInt
import Derived.Test.YtfhgfclfhghlcaaDoorLimbs
import Derived.WalkKit
import Derived.WalkSpells
namespace Go.Proofs.YtfhgfclfhghlcaaDoor
open Go.ChangeShapes Go.WideShapes Go.ChangeAt Go.RowKit
/-- A text without the zeros ahead. -/
def dropZ (l : List UInt8) : List UInt8 := l.dropWhile (· == 48)
def dropB (s : ByteArray) : ByteArray := ⟨(dropZ s.data.toList).toArray⟩
def strLen : Value → Nat | .string s => s.size | _ => 0
theorem dropZ_zero (s : ByteArray) (h : 0 < s.size) (h0 : s[0].toNat = 48) : dropZ (s.extract 1 s.size).data.toList = dropZ s.data.toList := by
  have e : s[0] = 48 := UInt8.toNat_inj.1 (by rw [h0]; rfl)
  have hh := head_eq s h
  rw [Lib.extract_to_end]
  cases hl : s.data.toList with
  | nil => rw [hl] at hh; simp at hh
  | cons a l =>
    rw [hl] at hh
    simp at hh
    rw [e] at hh
    subst hh
    simp [dropZ]
theorem dropZ_pos (s : ByteArray) (h : 0 < s.size) (h0 : ¬ s[0].toNat = 48) : dropZ s.data.toList = s.data.toList := by
  have e : ¬ s[0] = 48 := fun e => h0 (by rw [e]; rfl)
  have hh := head_eq s h
  cases hl : s.data.toList with
  | nil => rfl
  | cons a l =>
    rw [hl] at hh
    simp at hh
    rw [← hh] at e
    simp [dropZ, e]
theorem dropZ_nil (s : ByteArray) (h : s.size = 0) : dropZ s.data.toList = s.data.toList := by
  rw [List.eq_nil_of_length_eq_zero (l := s.data.toList) (by rw [← Lib.size_eq]; exact h)]; rfl
set_option maxHeartbeats 400000 in
theorem trimLeftByte_any (s : ByteArray) (w : World) (_hs : s.size ≤ maxLen) :
    Calls Tryd.prog 80 #[.string s, .int .u8 48] w fun e w' => e = .returned (.string (dropB s)) ∧ w' = w := by
  unfold maxLen at _hs
  go_enter Tryd.func80, Tryd.ntmps80
  go_wp2
  go_loop [0] (fun v => ∃ t : ByteArray, t.size ≤ s.size ∧ v = .string t ∧ dropZ t.data.toList = dropZ s.data.toList) (fun v => strLen v)
  case atStart => exact ⟨s, Nat.le_refl _, rfl, rfl⟩
  case round =>
    obtain ⟨t, ht, rfl, hp⟩ := hrel
    have HP : Hid (dropZ t.data.toList = dropZ s.data.toList) := hp
    clear hp
    by_cases h0 : t.size = 0
    · have HE : Hid (dropB s = t) := by
        show dropB s = t
        unfold dropB; rw [← HP.out, dropZ_nil t h0]
      have z : decide ((0 : Int) < (t.size : Int)) = false := by rw [decide_eq_false_iff_not]; omega
      go_wp2
      go_ret
      exact ⟨by rw [HE.out]; rfl, rfl⟩
    · have hpos : 0 < t.size := by omega
      by_cases h1 : t[0].toNat = 48
      · have z : ((t[0].toNat : Int) == 48) = true := by rw [beq_iff_eq]; omega
        have HE : Hid (dropZ (t.extract 1 t.size).data.toList = dropZ s.data.toList) := (dropZ_zero t hpos h1).trans HP.out
        have HS : Hid ((t.extract 1 t.size).size = t.size - 1) := ext_size t
        clear h1
        go_wp2
        go_round
        case rel => exact ⟨_, by rw [HS.out]; omega, rfl, HE.out⟩
        case measure => simp only [strLen]; rw [HS.out]; omega
      · have z : ((t[0].toNat : Int) == 48) = false := by rw [beq_eq_false_iff_ne]; omega
        have HE : Hid (dropB s = t) := by
          show dropB s = t
          unfold dropB; rw [← HP.out, dropZ_pos t hpos h1]
        clear h1
        go_wp2
        go_ret
        exact ⟨by rw [HE.out]; rfl, rfl⟩
set_option maxRecDepth 100000 in
set_option maxHeartbeats 400000 in
theorem trimLeft_any (s : ByteArray) (w : World) (hs : s.size ≤ maxLen) :
    Calls Tryd.prog 62 #[.string s, .string ⟨#[48]⟩] w fun e w' => e = .returned (.string (dropB s)) ∧ w' = w := by
  have hs' := hs
  unfold maxLen at hs
  by_cases h0 : s.size = 0
  · have z := toList_e s h0
    have HE : Hid (dropB s = s) := by show dropB s = s; unfold dropB; rw [dropZ_nil s h0]
    clear h0
    go_enter Tryd.func62, Tryd.ntmps62
    go_wp2
    go_ret
    exact ⟨by rw [HE.out]; rfl, rfl⟩
  · have z := toList_ne s (by omega)
    go_enter Tryd.func62, Tryd.ntmps62
    go_wp2_with fail
    refine (trimLeftByte_any _ _ hs').mono ?_
    rintro e w' ⟨rfl, rfl⟩
    go_wp2
    go_ret
    exact ⟨rfl, rfl⟩
end Go.Proofs.YtfhgfclfhghlcaaDoor
