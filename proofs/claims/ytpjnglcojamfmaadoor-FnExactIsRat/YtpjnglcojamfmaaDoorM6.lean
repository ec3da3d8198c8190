import Derived.Test.YtpjnglcojamfmaaDoorM2
import Derived.Deep.RegionWith
import Derived.Test.YtpjnglcojamfmaaDoorRows
import Derived.ProofKit
import Derived.LaidMore
import Derived.OpenShut
import Derived.Deep.Strs
import Derived.Stop.Joined
namespace Go.Proofs.YtpjnglcojamfmaaDoor
open Go.ChangeShapes Go.WideShapes Go.ChangeAt Go.RowKit
/-- What the table of signs holds: for the first and the second sign: how limbs come together, the sign of a product, the order. -/
def sgSum (na nb : Bool) : Int := if na = nb then 0 else 1
def sgOrd (na nb : Bool) : Int := if na = nb then 0 else if na then -1 else 1
def SP (w : World) : Prop :=
  (w.cell? ⟨1, 0, none⟩ = some (.int .i64 0) ∧ w.cell? ⟨1, 1, none⟩ = some (.bool false) ∧ w.cell? ⟨1, 2, none⟩ = some (.int .i64 0)) ∧
  (w.cell? ⟨1, 3, none⟩ = some (.int .i64 1) ∧ w.cell? ⟨1, 4, none⟩ = some (.bool true) ∧ w.cell? ⟨1, 5, none⟩ = some (.int .i64 1)) ∧
  (w.cell? ⟨1, 6, none⟩ = some (.int .i64 1) ∧ w.cell? ⟨1, 7, none⟩ = some (.bool true) ∧ w.cell? ⟨1, 8, none⟩ = some (.int .i64 (-1))) ∧
  (w.cell? ⟨1, 9, none⟩ = some (.int .i64 0) ∧ w.cell? ⟨1, 10, none⟩ = some (.bool false) ∧ w.cell? ⟨1, 11, none⟩ = some (.int .i64 0))
theorem cell_lt {w : World} {b o : Nat} {v : Value} (h : w.cell? ⟨b, o, none⟩ = some v) : b < w.heap.size := by
  apply Classical.byContradiction
  intro hn
  have e : w.heap[b]? = none := Array.getElem?_eq_none (by omega)
  simp [World.cell?, e] at h
theorem SP.below {w w' : World} (h : SP w) (hb : Below w.heap.size w w') : SP w' := by
  have hlt := cell_lt h.1.1
  unfold SP at *
  simp only [fun o => hb.cell (p := ⟨1, o, none⟩) hlt]
  exact h
set_option maxHeartbeats 400000 in
theorem signNumber_any (n : Bool) (a : Option Addr) (l c : Nat) (w : World) :
    Calls Tryd.prog 79 #[.agg #[.bool n, .slice a l c]] w fun e w' => e = .returned (.int .i64 (if n then 1 else 0)) ∧ w' = w.alloc (.cells #[.bool n, .slice a l c] 33) := by
  cases n
  all_goals
    go_enter Tryd.func79, Tryd.ntmps79
    go_wp2
    go_ret
    exact ⟨rfl, rfl⟩
set_option maxHeartbeats 2000000 in
theorem signsOf_any (na nb : Bool) (a : Option Addr) (la ca : Nat) (b : Option Addr) (lb cb : Nat) (w : World) (h : SP w) :
    Calls Tryd.prog 56 #[.agg #[.bool na, .slice a la ca], .agg #[.bool nb, .slice b lb cb]] w fun e w' => e = .returned (.agg #[.int .i64 (sgSum na nb), .bool (na != nb), .int .i64 (sgOrd na nb)]) ∧ Below w.heap.size w w' := by
  have hlt := cell_lt h.1.1
  have _p0 : 0 < w.heap.size := by omega
  have _p1 : 1 - 1 < w.heap.size := by omega
  have _p2 : 1 < w.heap.size + 1 := by omega
  have _p3 : 1 < w.heap.size + 1 + 1 := by omega
  have _p4 : 1 < w.heap.size + 1 + 1 + 1 := by omega
  have _p5 : 1 < w.heap.size + 1 + 1 + 1 + 1 := by omega
  obtain ⟨s0, s1, s2, s3⟩ := h
  cases na <;> cases nb
  · obtain ⟨x0, x1, x2⟩ := s0
    clear s1 s2 s3
    go_enter Tryd.func56, Tryd.ntmps56
    go_wp2
    go_region_with (go_at_call 79; refine (signNumber_any _ _ _ _ _).mono ?_; rintro e w' ⟨rfl, rfl⟩)
    all_goals
      go_wp2
      refine bodyPost_ret (v := .agg #[.int .i64 (0), .bool false, .int .i64 (0)]) ?_ rfl ⟨rfl, ?_⟩
      · simp [results, Tryd.results56, go_sem]
      · exact ((((((Below.refl _ w).alloc (Nat.le_refl _) _).alloc (by simp) _).alloc (by simp; omega) _).alloc (by simp; omega) _).alloc (by simp; omega) _).drew
  · obtain ⟨x0, x1, x2⟩ := s1
    clear s0 s2 s3
    go_enter Tryd.func56, Tryd.ntmps56
    go_wp2
    go_region_with (go_at_call 79; refine (signNumber_any _ _ _ _ _).mono ?_; rintro e w' ⟨rfl, rfl⟩)
    all_goals
      go_wp2
      refine bodyPost_ret (v := .agg #[.int .i64 (1), .bool true, .int .i64 (1)]) ?_ rfl ⟨rfl, ?_⟩
      · simp [results, Tryd.results56, go_sem]
      · exact ((((((Below.refl _ w).alloc (Nat.le_refl _) _).alloc (by simp) _).alloc (by simp; omega) _).alloc (by simp; omega) _).alloc (by simp; omega) _).drew
  · obtain ⟨x0, x1, x2⟩ := s2
    clear s0 s1 s3
    go_enter Tryd.func56, Tryd.ntmps56
    go_wp2
    go_region_with (go_at_call 79; refine (signNumber_any _ _ _ _ _).mono ?_; rintro e w' ⟨rfl, rfl⟩)
    all_goals
      go_wp2
      refine bodyPost_ret (v := .agg #[.int .i64 (1), .bool true, .int .i64 (-1)]) ?_ rfl ⟨rfl, ?_⟩
      · simp [results, Tryd.results56, go_sem]
      · exact ((((((Below.refl _ w).alloc (Nat.le_refl _) _).alloc (by simp) _).alloc (by simp; omega) _).alloc (by simp; omega) _).alloc (by simp; omega) _).drew
  · obtain ⟨x0, x1, x2⟩ := s3
    clear s0 s1 s2
    go_enter Tryd.func56, Tryd.ntmps56
    go_wp2
    go_region_with (go_at_call 79; refine (signNumber_any _ _ _ _ _).mono ?_; rintro e w' ⟨rfl, rfl⟩)
    all_goals
      go_wp2
      refine bodyPost_ret (v := .agg #[.int .i64 (0), .bool false, .int .i64 (0)]) ?_ rfl ⟨rfl, ?_⟩
      · simp [results, Tryd.results56, go_sem]
      · exact ((((((Below.refl _ w).alloc (Nat.le_refl _) _).alloc (by simp) _).alloc (by simp; omega) _).alloc (by simp; omega) _).alloc (by simp; omega) _).drew
end Go.Proofs.YtpjnglcojamfmaaDoor
namespace Go.Proofs.YtpjnglcojamfmaaDoor
open Go.ChangeShapes Go.WideShapes Go.ChangeAt Go.RowKit Go.Deep
theorem gSigns : Tryd.prog.globalNamed "loop.example/g00007/impl.signPairs" = some 1 := by kernel_rfl
theorem tSigns : (Tryd.prog.globals[1]?).map (·.type) = some 103 := by kernel_rfl
theorem cSigns : Tryd.prog.cellsOf 103 = 12 := by kernel_rfl
theorem cSigns1 : Tryd.prog.cellsOf 102 = 6 := by kernel_rfl
theorem cSigns2 : Tryd.prog.cellsOf 80 = 3 := by kernel_rfl
theorem cInt : Tryd.prog.cellsOf 3 = 1 := by kernel_rfl
theorem cBool : Tryd.prog.cellsOf 4 = 1 := by kernel_rfl
set_option maxRecDepth 100000 in
theorem pair_of_trod {H : Type} {enc : TypeId × Value → H} {w : World} {base : Nat} {spare : Nat → Bool} {held : Bool} {fuel : Nat} {cs : List Value} {a c : Int} {b : Bool} {x : DataW H × List MemPlace}
    (h : DataW.trod enc Tryd.prog w base spare held fuel 80 cs = some x) (hx : x.1 = .agg [.lit (.int .i64 a), .lit (.bool b), .lit (.int .i64 c)]) : cs = [.int .i64 a, .bool b, .int .i64 c] := by
  obtain ⟨y0, y1, y2, n, rfl, hl, h0, h1, h2⟩ := trod_struct3 Tryd.underlying80 h
  rw [cSigns2] at hl
  obtain ⟨n0, e0, rfl, _⟩ := DataW.trod_int Tryd.underlying3 h0
  obtain ⟨n1, e1, rfl⟩ := DataW.trod_bool Tryd.underlying4 h1
  obtain ⟨n2, e2, rfl, _⟩ := DataW.trod_int Tryd.underlying3 h2
  rw [cInt] at e0 e2
  rw [cBool] at e1
  simp only [DataW.agg.injEq, List.cons.injEq, DataW.lit.injEq, Lit.int.injEq, Lit.bool.injEq, true_and, and_true] at hx
  obtain ⟨rfl, rfl, rfl⟩ := hx
  match cs, hl with
  | [c0, c1, c2], _ =>
    simp at e0 e1 e2
    rw [e0, e1, e2]
set_option maxRecDepth 100000 in
theorem sp_of_laid {W : World} {L : List (String × DataW Unit)} (h : laidMet Tryd.prog (("loop.example/g00007/impl.signPairs", Rows.laid_loop_example_g00007_impl_signPairs) :: L) W) : SP W := by
  obtain ⟨ps, ⟨g0, t0, cs0, f0, p0, q0, hg0, ht0, hv0, hd0, _, _⟩, _⟩ := h
  obtain rfl := Option.some.inj (gSigns.symm.trans hg0)
  obtain rfl := Option.some.inj (tSigns.symm.trans ht0)
  have hcell := World.var?_cell hg0 hv0
  obtain ⟨xs, m, _, hx, hl, hn, hel⟩ := DataW.trod_array Tryd.underlying103 hd0
  rw [cSigns] at hl
  obtain ⟨l⟩ := cs0
  have e0 := hel 0 (by decide)
  have e1 := hel 1 (by decide)
  rw [cSigns1] at e0 e1
  match xs, hn with
  | [x0, x1], _ =>
    simp only [Rows.laid_loop_example_g00007_impl_signPairs, List.map_cons, List.map_nil, Prod.mk.injEq, DataW.agg.injEq, List.cons.injEq, and_true] at hx
    obtain ⟨⟨hx0, hx1⟩, _⟩ := hx
    obtain ⟨ys, m0, _, hy, _, hny, hely⟩ := DataW.trod_array Tryd.underlying102 (show DataW.trod _ Tryd.prog W 0 _ false m 102 _ = some x0 from e0)
    obtain ⟨zs, m1, _, hz, _, hnz, helz⟩ := DataW.trod_array Tryd.underlying102 (show DataW.trod _ Tryd.prog W 0 _ false m 102 _ = some x1 from e1)
    have y0 := hely 0 (by decide)
    have y1 := hely 1 (by decide)
    have z0 := helz 0 (by decide)
    have z1 := helz 1 (by decide)
    rw [cSigns2] at y0 y1 z0 z1
    match ys, hny, zs, hnz with
    | [a0, a1], _, [b0, b1], _ =>
      rw [hy] at hx0
      rw [hz] at hx1
      simp only [List.map_cons, List.map_nil, DataW.agg.injEq, List.cons.injEq, and_true] at hx0 hx1
      obtain ⟨ha0, ha1⟩ := hx0
      obtain ⟨hb0, hb1⟩ := hx1
      have p0 := pair_of_trod (show DataW.trod _ Tryd.prog W 0 _ false m0 80 _ = some a0 from y0) ha0.symm
      have p1 := pair_of_trod (show DataW.trod _ Tryd.prog W 0 _ false m0 80 _ = some a1 from y1) ha1.symm
      have p2 := pair_of_trod (show DataW.trod _ Tryd.prog W 0 _ false m1 80 _ = some b0 from z0) hb0.symm
      have p3 := pair_of_trod (show DataW.trod _ Tryd.prog W 0 _ false m1 80 _ = some b1 from z1) hb1.symm
      match l, hl with
      | [c0, c1, c2, c3, c4, c5, c6, c7, c8, c9, c10, c11], _ =>
        simp at p0 p1 p2 p3
        obtain ⟨rfl, rfl, rfl⟩ := p0
        obtain ⟨rfl, rfl, rfl⟩ := p1
        obtain ⟨rfl, rfl, rfl⟩ := p2
        obtain ⟨rfl, rfl, rfl⟩ := p3
        exact ⟨⟨hcell 0, hcell 1, hcell 2⟩, ⟨hcell 3, hcell 4, hcell 5⟩, ⟨hcell 6, hcell 7, hcell 8⟩, ⟨hcell 9, hcell 10, hcell 11⟩⟩
end Go.Proofs.YtpjnglcojamfmaaDoor
