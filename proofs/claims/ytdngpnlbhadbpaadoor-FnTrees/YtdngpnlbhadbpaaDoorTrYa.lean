import Derived.Test.YtdngpnlbhadbpaaDoorTrY
namespace Go.Proofs.YtdngpnlbhadbpaaDoor
open Go.ChangeShapes Go.WideShapes Go.ChangeAt Go.RowKit
/-- A slice of nodes: none, or a row that begins its block. -/
def IsNodes (w : World) (v : Value) (ns : List (Nd × Int)) : Prop :=
  ∃ p c, v = .slice p ns.length c ∧ ns.length ≤ c ∧ c ≤ maxLen ∧ (ns = [] ∨ ∃ b, p = some ⟨b, 0, none⟩ ∧ b < w.heap.size ∧ NodesAt w b ns)
theorem fits_many {ns : List (Nd × Int)} (h : 8000 < ns.length) : fits (ns.map Prod.fst) = false := by
  unfold fits; rw [decide_eq_false (by simp; omega)]; rfl
theorem fits_few {ns : List (Nd × Int)} (h : ns.length ≤ 8000) : fits (ns.map Prod.fst) = fitF (ns.map Prod.fst) 0 [] := by
  unfold fits; rw [decide_eq_true (by simpa using h)]; rfl
set_option maxRecDepth 100000 in
set_option maxHeartbeats 4000000 in
theorem l3Form_many (p : Option Addr) (n c : Nat) (w : World) (h : 8000 < n) :
    Calls Tryd.prog 16 #[.slice p n c] w fun e w' => e = .returned (.bool false) ∧ w' = w := by
  have z : decide ((8000 : Int) < (n : Int)) = true := by rw [decide_eq_true_iff]; omega
  clear h
  go_enter Tryd.func16, Tryd.ntmps16
  go_wp2_with fail
  go_ret
  exact ⟨rfl, rfl⟩
set_option maxRecDepth 100000 in
set_option maxHeartbeats 4000000 in
theorem l3Form_none (p : Option Addr) (c : Nat) (w : World) :
    Calls Tryd.prog 16 #[.slice p 0 c] w fun e w' => e = .returned (.bool true) ∧ w' = w := by
  go_enter Tryd.func16, Tryd.ntmps16
  go_wp2_with fail
  go_loop [3, 12] (fun v i => v = .slice none 0 0 ∧ i = .int .i64 0) (fun _ _ => 0)
  case atStart => exact ⟨rfl, rfl⟩
  case round =>
    obtain ⟨rfl, rfl⟩ := hrel
    go_wp2_with fail
    go_ret
    exact ⟨rfl, rfl⟩
theorem l3Form_any (v : Value) (ns : List (Nd × Int)) (w : World) (h : IsNodes w v ns) :
    Calls Tryd.prog 16 #[v] w fun e w' => e = .returned (.bool (fits (ns.map Prod.fst))) ∧ Below w.heap.size w w' := by
  obtain ⟨p, c, rfl, hc, hm, h⟩ := h
  by_cases h8 : 8000 < ns.length
  · refine (l3Form_many p ns.length c w h8).mono ?_
    rintro e w' ⟨rfl, rfl⟩
    exact ⟨by rw [fits_many h8], Below.refl _ _⟩
  rcases h with rfl | ⟨b, rfl, hb, hN⟩
  · refine (l3Form_none p c w).mono ?_
    rintro e w' ⟨rfl, rfl⟩
    exact ⟨rfl, Below.refl _ _⟩
  · rw [fits_few (by omega)]
    exact l3Form_row b c ns w (by omega) hc hm hb hN
end Go.Proofs.YtdngpnlbhadbpaaDoor
