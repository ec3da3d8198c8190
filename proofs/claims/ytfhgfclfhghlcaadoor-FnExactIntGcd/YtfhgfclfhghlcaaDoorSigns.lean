import Derived.Test.YtfhgfclfhghlcaaDoorCmpL
import Derived.Deep.RegionWith
namespace Go.Proofs.YtfhgfclfhghlcaaDoor
open Go.ChangeShapes Go.WideShapes Go.ChangeAt Go.RowKit
/-- What the table of signs holds: for the first and the second sign: how limbs come together, the sign of a product, the order. -/
def sgSum (na nb : Bool) : Int := if na = nb then 0 else 1
def sgOrd (na nb : Bool) : Int := if na = nb then 0 else if na then -1 else 1
def SP (w : World) : Prop :=
  (w.cell? ⟨0, 0, none⟩ = some (.int .i64 0) ∧ w.cell? ⟨0, 1, none⟩ = some (.bool false) ∧ w.cell? ⟨0, 2, none⟩ = some (.int .i64 0)) ∧
  (w.cell? ⟨0, 3, none⟩ = some (.int .i64 1) ∧ w.cell? ⟨0, 4, none⟩ = some (.bool true) ∧ w.cell? ⟨0, 5, none⟩ = some (.int .i64 1)) ∧
  (w.cell? ⟨0, 6, none⟩ = some (.int .i64 1) ∧ w.cell? ⟨0, 7, none⟩ = some (.bool true) ∧ w.cell? ⟨0, 8, none⟩ = some (.int .i64 (-1))) ∧
  (w.cell? ⟨0, 9, none⟩ = some (.int .i64 0) ∧ w.cell? ⟨0, 10, none⟩ = some (.bool false) ∧ w.cell? ⟨0, 11, none⟩ = some (.int .i64 0))
theorem cell_lt {w : World} {b o : Nat} {v : Value} (h : w.cell? ⟨b, o, none⟩ = some v) : b < w.heap.size := by
  apply Classical.byContradiction
  intro hn
  have e : w.heap[b]? = none := Array.getElem?_eq_none (by omega)
  simp [World.cell?, e] at h
theorem SP.below {w w' : World} (h : SP w) (hb : Below w.heap.size w w') : SP w' := by
  have hlt := cell_lt h.1.1
  unfold SP at *
  simp only [fun o => hb.cell (p := ⟨0, o, none⟩) hlt]
  exact h
set_option maxHeartbeats 400000 in
theorem signNumber_any (n : Bool) (a : Option Addr) (l c : Nat) (w : World) :
    Calls Tryd.prog 75 #[.agg #[.bool n, .slice a l c]] w fun e w' => e = .returned (.int .i64 (if n then 1 else 0)) ∧ w' = w.alloc (.cells #[.bool n, .slice a l c] 38) := by
  cases n
  all_goals
    go_enter Tryd.func75, Tryd.ntmps75
    go_wp2
    go_ret
    exact ⟨rfl, rfl⟩
set_option maxHeartbeats 2000000 in
theorem signsOf_any (na nb : Bool) (a : Option Addr) (la ca : Nat) (b : Option Addr) (lb cb : Nat) (w : World) (h : SP w) :
    Calls Tryd.prog 56 #[.agg #[.bool na, .slice a la ca], .agg #[.bool nb, .slice b lb cb]] w fun e w' => e = .returned (.agg #[.int .i64 (sgSum na nb), .bool (na != nb), .int .i64 (sgOrd na nb)]) ∧ Below w.heap.size w w' := by
  have hlt := cell_lt h.1.1
  obtain ⟨s0, s1, s2, s3⟩ := h
  cases na <;> cases nb
  · obtain ⟨x0, x1, x2⟩ := s0
    clear s1 s2 s3
    go_enter Tryd.func56, Tryd.ntmps56
    go_wp2
    go_region_with (go_at_call 75; refine (signNumber_any _ _ _ _ _).mono ?_; rintro e w' ⟨rfl, rfl⟩)
    all_goals
      go_wp2
      refine bodyPost_ret (v := .agg #[.int .i64 (0), .bool false, .int .i64 (0)]) ?_ rfl ⟨rfl, ?_⟩
      · simp [results, Tryd.results56, go_sem]
      · exact ((((((Below.refl _ w).alloc (Nat.le_refl _) _).alloc (by simp) _).alloc (by simp; omega) _).alloc (by simp; omega) _).alloc (by simp; omega) _).drew
  · obtain ⟨x0, x1, x2⟩ := s1
    clear s0 s2 s3
    go_enter Tryd.func56, Tryd.ntmps56
    go_wp2
    go_region_with (go_at_call 75; refine (signNumber_any _ _ _ _ _).mono ?_; rintro e w' ⟨rfl, rfl⟩)
    all_goals
      go_wp2
      refine bodyPost_ret (v := .agg #[.int .i64 (1), .bool true, .int .i64 (1)]) ?_ rfl ⟨rfl, ?_⟩
      · simp [results, Tryd.results56, go_sem]
      · exact ((((((Below.refl _ w).alloc (Nat.le_refl _) _).alloc (by simp) _).alloc (by simp; omega) _).alloc (by simp; omega) _).alloc (by simp; omega) _).drew
  · obtain ⟨x0, x1, x2⟩ := s2
    clear s0 s1 s3
    go_enter Tryd.func56, Tryd.ntmps56
    go_wp2
    go_region_with (go_at_call 75; refine (signNumber_any _ _ _ _ _).mono ?_; rintro e w' ⟨rfl, rfl⟩)
    all_goals
      go_wp2
      refine bodyPost_ret (v := .agg #[.int .i64 (1), .bool true, .int .i64 (-1)]) ?_ rfl ⟨rfl, ?_⟩
      · simp [results, Tryd.results56, go_sem]
      · exact ((((((Below.refl _ w).alloc (Nat.le_refl _) _).alloc (by simp) _).alloc (by simp; omega) _).alloc (by simp; omega) _).alloc (by simp; omega) _).drew
  · obtain ⟨x0, x1, x2⟩ := s3
    clear s0 s1 s2
    go_enter Tryd.func56, Tryd.ntmps56
    go_wp2
    go_region_with (go_at_call 75; refine (signNumber_any _ _ _ _ _).mono ?_; rintro e w' ⟨rfl, rfl⟩)
    all_goals
      go_wp2
      refine bodyPost_ret (v := .agg #[.int .i64 (0), .bool false, .int .i64 (0)]) ?_ rfl ⟨rfl, ?_⟩
      · simp [results, Tryd.results56, go_sem]
      · exact ((((((Below.refl _ w).alloc (Nat.le_refl _) _).alloc (by simp) _).alloc (by simp; omega) _).alloc (by simp; omega) _).alloc (by simp; omega) _).drew
end Go.Proofs.YtfhgfclfhghlcaaDoor
