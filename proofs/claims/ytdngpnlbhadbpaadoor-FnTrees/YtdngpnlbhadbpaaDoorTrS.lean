import Derived.Test.YtdngpnlbhadbpaaDoorTrX
namespace Go.Proofs.YtdngpnlbhadbpaaDoor
open Go.ChangeShapes Go.WideShapes Go.ChangeAt Go.RowKit
/-- What kind of token begins with a byte. -/
def tokB (c : UInt8) : Int :=
  if c.toNat = 32 ∨ c.toNat = 9 ∨ c.toNat = 10 ∨ c.toNat = 13 then 1 else if c.toNat = 59 then 2 else if c.toNat = 41 then 3 else if c.toNat = 40 then 4
  else if c.toNat = 34 then 5 else if c.toNat = 124 then 6 else if c.toNat = 58 then 7 else if c.toNat = 35 then 8 else if dg c then 9 else if nameB c then 10 else 0
set_option maxRecDepth 100000 in
set_option maxHeartbeats 2000000 in
theorem tokenBegun_any (c : UInt8) (w : World) :
    Calls Tryd.prog 20 #[.int .u8 (c.toNat : Int)] w fun e w' => e = .returned (.int .i64 (tokB c)) ∧ w' = w := by
  have F : Hid (∀ t : Int, (if (c.toNat : Int) = 32 ∨ (c.toNat : Int) = 9 ∨ (c.toNat : Int) = 10 ∨ (c.toNat : Int) = 13 then 1 else if (c.toNat : Int) = 59 then 2 else if (c.toNat : Int) = 41 then 3 else if (c.toNat : Int) = 40 then 4
      else if (c.toNat : Int) = 34 then 5 else if (c.toNat : Int) = 124 then 6 else if (c.toNat : Int) = 58 then 7 else if (c.toNat : Int) = 35 then 8 else if dg c then 9 else if nameB c then 10 else 0) = t → tokB c = t) := fun t h => by
    rw [← h]
    unfold tokB
    have e : ∀ n : Nat, ((c.toNat : Int) = (n : Int)) = (c.toNat = n) := fun n => by rw [eq_iff_iff]; omega
    simp only [← e]; rfl
  go_enter Tryd.func20, Tryd.ntmps20
  go_wp2_with (first | (go_at_call 43; refine (isDigit_ex _ _).mono ?_; rintro e w' ⟨rfl, rfl⟩) | (go_at_call 44; refine (isNameByte_ex _ _).mono ?_; rintro e w' ⟨rfl, rfl⟩))
  all_goals go_ret
  all_goals refine ⟨congrArg Ending.returned (congrArg (Value.int .i64) (F.out _ ?_).symm), rfl⟩
  all_goals simp only [beq_iff_eq, beq_eq_false_iff_ne, ne_eq] at *
  all_goals simp [*]
end Go.Proofs.YtdngpnlbhadbpaaDoor
