import Derived.Test.YtdngpnlbhadbpaaDoorTkH
namespace Go.Proofs.YtdngpnlbhadbpaaDoor
open Go.ChangeShapes Go.WideShapes Go.ChangeAt Go.RowKit
set_option maxRecDepth 100000 in
set_option maxHeartbeats 2000000 in
theorem l3Bits_short (s : ByteArray) (i : Nat) (w : World) (hs : s.size ≤ 20000) (hi : i < s.size) (h : s.size ≤ i + 2) :
    Calls Tryd.prog 70 #[.string s, .int .i64 (i : Nat)] w fun e w' => e = resK 0 ⟨#[]⟩ 0 ∧ Below w.heap.size w w' := by
  go_enter Tryd.func70, Tryd.ntmps70
  go_wp2_with fail
  refine bodyPost_ret (v := .agg #[.int .i64 0, .string ⟨#[]⟩, .int .i64 0]) ?_ rfl ⟨rfl, below_alloc _ _⟩
  simp [results, Tryd.results70, go_sem]
set_option maxRecDepth 100000 in
set_option maxHeartbeats 2000000 in
theorem l3Bits_other (s : ByteArray) (i : Nat) (w : World) (hs : s.size ≤ 20000) (hi : i + 2 < s.size) (h1 : s[i + 1].toNat ≠ 98) (h2 : s[i + 1].toNat ≠ 120) :
    Calls Tryd.prog 70 #[.string s, .int .i64 (i : Nat)] w fun e w' => e = resK 0 ⟨#[]⟩ 0 ∧ Below w.heap.size w w' := by
  have y1 : ((s[i + 1].toNat : Int) == 98) = false := by rw [beq_eq_false_iff_ne]; omega
  have y2 : ((s[i + 1].toNat : Int) == 120) = false := by rw [beq_eq_false_iff_ne]; omega
  clear h1 h2
  go_enter Tryd.func70, Tryd.ntmps70
  go_wp2_with fail
  refine bodyPost_ret (v := .agg #[.int .i64 0, .string ⟨#[]⟩, .int .i64 0]) ?_ rfl ⟨rfl, below_alloc _ _⟩
  simp [results, Tryd.results70, go_sem]
set_option maxRecDepth 100000 in
set_option maxHeartbeats 2000000 in
theorem l3Token_none (s : ByteArray) (i : Nat) (w : World) (_hs : s.size ≤ 20000) (hi : i < s.size) (hd : s[i].toNat ≠ 34 ∧ s[i].toNat ≠ 124 ∧ s[i].toNat ≠ 58 ∧ s[i].toNat ≠ 35) (hn : nameB s[i] = false) (hg : dg s[i] = false) :
    Calls Tryd.prog 56 #[.string s, .int .i64 (i : Nat)] w fun e w' => e = resK 0 ⟨#[]⟩ 0 ∧ Below w.heap.size w w' := by
  have z1 : ((s[i].toNat : Int) == 34) = false := by rw [beq_eq_false_iff_ne]; omega
  have z2 : ((s[i].toNat : Int) == 124) = false := by rw [beq_eq_false_iff_ne]; omega
  have z3 : ((s[i].toNat : Int) == 58) = false := by rw [beq_eq_false_iff_ne]; omega
  have z4 : ((s[i].toNat : Int) == 35) = false := by rw [beq_eq_false_iff_ne]; omega
  clear hd
  go_enter Tryd.func56, Tryd.ntmps56
  go_wp2_with first
    | (go_at_call 55; refine (l3Digit_ex _ _).mono ?_; rintro e w' ⟨rfl, rfl⟩)
    | (go_at_call 54; refine (l3NameByte_ex _ _).mono ?_; rintro e w' ⟨rfl, rfl⟩)
  refine bodyPost_ret (v := .agg #[.int .i64 0, .string ⟨#[]⟩, .int .i64 0]) ?_ rfl ⟨rfl, below_alloc _ _⟩
  simp [results, Tryd.results56, go_sem]
end Go.Proofs.YtdngpnlbhadbpaaDoor
