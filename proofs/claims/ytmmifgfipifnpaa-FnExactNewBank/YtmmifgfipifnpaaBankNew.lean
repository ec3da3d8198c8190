import Derived.Test.YtmmifgfipifnpaaRows
import Derived.WalkKit
import Derived.WalkSpells
import Derived.ProofKit
import Derived.OpenShut
import Derived.ChangeOld
import Derived.Below
import Derived.Handy
import Derived.Deep.QuietTactic
import Derived.BigQuiet
import Derived.Deep.RegionWith
namespace Go.Proofs.Ytmmifgfipifnpaa
open Go.ChangeShapes Go.WideShapes Go.ChangeAt Go.RowKit
theorem below_alloc (w : World) (o : Obj) : Below w.heap.size w (w.alloc o) := (Below.refl _ w).alloc (Nat.le_refl _) o
theorem below_al {w W : World} (h : Below w.heap.size w W) (o : Obj) : Below w.heap.size w (W.alloc o) := h.alloc h.size o
/-- A block that holds just these cells, and may be written. -/
def Bx (W : World) (g : Nat) (l : List Value) : Prop := ∃ ty, W.heap[g]? = some (.cells l.toArray ty (0, 0))
theorem Bx.lt {W : World} {g : Nat} {l : List Value} (h : Bx W g l) : g < W.heap.size := by
  obtain ⟨t, h⟩ := h
  exact (Array.getElem?_eq_some_iff.1 h).1
theorem Bx.cell {W : World} {g : Nat} {l : List Value} (h : Bx W g l) (i : Nat) : W.cell? ⟨g, i, none⟩ = l[i]? := by
  obtain ⟨t, h⟩ := h
  simp [World.cell?, h]
theorem Bx.frozen {W : World} {g : Nat} {l : List Value} (h : Bx W g l) (i : Nat) : W.frozen? ⟨g, i, none⟩ = false := by
  obtain ⟨t, h⟩ := h
  simp [World.frozen?, h]
theorem Bx.set {W : World} {g : Nat} {l : List Value} (h : Bx W g l) (i : Nat) (v : Value) : Bx (W.setCell ⟨g, i, none⟩ v) g (l.set i v) := by
  obtain ⟨t, h⟩ := h
  refine ⟨t, ?_⟩
  obtain ⟨hlt, hk⟩ := Array.getElem?_eq_some_iff.1 h
  show (W.heap.modify g _)[g]? = _
  rw [Array.getElem?_eq_getElem (by rw [Array.size_modify]; exact hlt), Array.getElem_modify_self, hk]
  simp
theorem Bx.other {W : World} {g : Nat} {l : List Value} (h : Bx W g l) (p : Addr) (hp : p.block ≠ g) (v : Value) : Bx (W.setCell p v) g l := by
  obtain ⟨t, h⟩ := h
  exact ⟨t, (Below.heap_setCell W p v g (fun e => hp e.symm)).trans h⟩
theorem Bx.below {W W' : World} {g N : Nat} {l : List Value} (h : Bx W g l) (hN : g < N) (hb : Below N W W') : Bx W' g l := by
  obtain ⟨t, h⟩ := h
  exact ⟨t, (hb.block g hN).trans h⟩
theorem Bx.alloc {W : World} {g : Nat} {l : List Value} (h : Bx W g l) (o : Obj) : Bx (W.alloc o) g l := h.below h.lt (below_alloc W o)
theorem Bx.drew {W : World} {g : Nat} {l : List Value} (h : Bx W g l) : Bx W.drew g l := h.below h.lt (Below.refl _ W).drew
theorem bx_new (W : World) (l : List Value) (ty : TypeId) : Bx (W.alloc (.cells l.toArray ty)) W.heap.size l := ⟨ty, Array.getElem?_push_size⟩

theorem hidG {p : Prop} (h : p) : Hid p := h
theorem ret_v {u v : Value} (h : u = v) : Ending.returned u = .returned v := by rw [h]
/-- The two terms as they lie in a block. -/
def bool4 : Value := .string ⟨#[66, 111, 111, 108]⟩
def terms2 : List Value := [.int .i64 1, bool4, .string ⟨#[]⟩, .int .i64 0, .int .i64 0, .slice none 0 0, .int .i64 2, bool4, .string ⟨#[]⟩, .int .i64 0, .int .i64 0, .slice none 0 0]
def bank2 (g : Nat) : Value := .agg #[.slice none 0 0, .slice none 0 0, .slice (some ⟨g, 0, none⟩) 2 2]
set_option maxRecDepth 100000 in
theorem newSpec_any (w : World) :
    Calls Try.prog 4 #[] w fun e w' => ∃ g, e = .returned (bank2 g) ∧ w.heap.size ≤ g ∧ Bx w' g terms2 ∧ Below w.heap.size w w' := by
  go_enter Try.func4, Try.ntmps4
  go_wp2
  have hx := bx_new (w.alloc (.cells #[.slice none 0 0, .slice none 0 0, .slice (some ⟨w.heap.size + 1, 0, none⟩) 2 2] 26)) terms2 33
  rw [World.size_alloc] at hx
  have hb := below_al (below_alloc w (.cells #[.slice none 0 0, .slice none 0 0, .slice (some ⟨w.heap.size + 1, 0, none⟩) 2 2] 26)) (.cells terms2.toArray 33)
  refine bodyPost_ret (v := bank2 (w.heap.size + 1)) ?_ rfl ⟨_, rfl, Nat.le_succ _, hx, hb⟩
  simp [results, Try.results4, go_sem, bank2]
set_option maxRecDepth 100000 in
theorem newImpl_any (w : World) :
    Calls Try.prog 5 #[] w fun e w' => ∃ g, e = .returned (bank2 g) ∧ w.heap.size ≤ g ∧ Bx w' g terms2 ∧ Below w.heap.size w w' := by
  go_enter Try.func5, Try.ntmps5
  go_wp2
  have hx := bx_new (w.alloc (.cells #[.slice none 0 0, .slice none 0 0, .slice (some ⟨w.heap.size + 1, 0, none⟩) 2 2] 26)) terms2 33
  rw [World.size_alloc] at hx
  have hb := below_al (below_alloc w (.cells #[.slice none 0 0, .slice none 0 0, .slice (some ⟨w.heap.size + 1, 0, none⟩) 2 2] 26)) (.cells terms2.toArray 33)
  refine bodyPost_ret (v := bank2 (w.heap.size + 1)) ?_ rfl ⟨_, rfl, Nat.le_succ _, hx, hb⟩
  simp [results, Try.results5, go_sem, bank2]
set_option maxRecDepth 100000 in
theorem eqStr_any (w : World) :
    Calls Try.prog 9 #[.slice none 0 0, .slice none 0 0] w fun e w' => e = .returned (.bool true) ∧ w' = w := by
  go_enter Try.func9, Try.ntmps9
  go_wp2
  go_rounds 1
  go_ret
  exact ⟨rfl, rfl⟩
set_option maxRecDepth 100000 in
theorem eqFuns_any (w : World) :
    Calls Try.prog 10 #[.slice none 0 0, .slice none 0 0] w fun e w' => e = .returned (.bool true) ∧ w' = w := by
  go_enter Try.func10, Try.ntmps10
  go_wp2
  go_rounds 1
  go_ret
  exact ⟨rfl, rfl⟩
set_option maxRecDepth 100000 in
theorem eqInts_any (w : World) :
    Calls Try.prog 23 #[.slice none 0 0, .slice none 0 0] w fun e w' => e = .returned (.bool true) ∧ w' = w := by
  go_enter Try.func23, Try.ntmps23
  go_wp2
  go_rounds 1
  go_ret
  exact ⟨rfl, rfl⟩
set_option maxRecDepth 100000 in
theorem markStr_any (w : World) (k : Int) :
    Calls Try.prog 12 #[.slice none 0 0, .int .i64 k] w fun e w' => e = .returned (.int .i64 k) ∧ w' = w := by
  go_enter Try.func12, Try.ntmps12
  go_wp2
  go_rounds 1
  go_ret
  exact ⟨rfl, rfl⟩
set_option maxRecDepth 100000 in
theorem markFuns_any (w : World) (k : Int) :
    Calls Try.prog 13 #[.slice none 0 0, .int .i64 k] w fun e w' => e = .returned (.int .i64 k) ∧ w' = w := by
  go_enter Try.func13, Try.ntmps13
  go_wp2
  go_rounds 1
  go_ret
  exact ⟨rfl, rfl⟩
set_option maxRecDepth 100000 in
theorem markInts_any (w : World) (k : Int) :
    Calls Try.prog 21 #[.slice none 0 0, .int .i64 k] w fun e w' => e = .returned (.int .i64 k) ∧ w' = w := by
  go_enter Try.func21, Try.ntmps21
  go_wp2
  go_rounds 1
  go_ret
  exact ⟨rfl, rfl⟩
set_option maxRecDepth 100000 in
theorem heldStr_any (w : World) (k : Int) :
    Calls Try.prog 15 #[.slice none 0 0, .int .i64 k] w fun e w' => e = .returned (.int .i64 k) ∧ w' = w := by
  go_enter Try.func15, Try.ntmps15
  go_wp2
  go_rounds 1
  go_ret
  exact ⟨rfl, rfl⟩
set_option maxRecDepth 100000 in
theorem heldFuns_any (w : World) (k : Int) :
    Calls Try.prog 16 #[.slice none 0 0, .int .i64 k] w fun e w' => e = .returned (.int .i64 k) ∧ w' = w := by
  go_enter Try.func16, Try.ntmps16
  go_wp2
  go_rounds 1
  go_ret
  exact ⟨rfl, rfl⟩
set_option maxRecDepth 100000 in
theorem heldInts_any (w : World) (k : Int) :
    Calls Try.prog 22 #[.slice none 0 0, .int .i64 k] w fun e w' => e = .returned (.int .i64 k) ∧ w' = w := by
  go_enter Try.func22, Try.ntmps22
  go_wp2
  go_rounds 1
  go_ret
  exact ⟨rfl, rfl⟩
set_option maxRecDepth 100000 in
theorem markText_2 (w : World) :
    Calls Try.prog 20 #[.int .i64 2] w fun e w' => e = .returned (.string ⟨#[109, 50]⟩) ∧ Below w.heap.size w w' := by
  have hconv : (convert 47 9 (.slice (some ⟨w.heap.size, 0, none⟩) 1 1)).run Try.prog (w.alloc (.cells #[.int .u8 50] 5)) = .ok (.string ⟨#[50]⟩) (w.alloc (.cells #[.int .u8 50] 5)) := by
    have hx := bx_new w [.int .u8 50] 5
    exact run_convert_bytes_back (P := Try.prog) _ 47 9 5 ⟨w.heap.size, 0, none⟩ 1 [50] Try.underlying47 Try.underlying5 Try.underlying9 (fun j hj => by
      obtain rfl : j = 0 := by simpa using hj
      exact (hx.cell 0).trans rfl)
  go_enter Try.func20, Try.ntmps20
  go_wp2
  go_rounds 2
  go_ret
  exact ⟨rfl, below_alloc _ _⟩
set_option maxRecDepth 100000 in
theorem markText_3 (w : World) :
    Calls Try.prog 20 #[.int .i64 3] w fun e w' => e = .returned (.string ⟨#[109, 51]⟩) ∧ Below w.heap.size w w' := by
  have hconv : (convert 47 9 (.slice (some ⟨w.heap.size, 0, none⟩) 1 1)).run Try.prog (w.alloc (.cells #[.int .u8 51] 5)) = .ok (.string ⟨#[51]⟩) (w.alloc (.cells #[.int .u8 51] 5)) := by
    have hx := bx_new w [.int .u8 51] 5
    exact run_convert_bytes_back (P := Try.prog) _ 47 9 5 ⟨w.heap.size, 0, none⟩ 1 [51] Try.underlying47 Try.underlying5 Try.underlying9 (fun j hj => by
      obtain rfl : j = 0 := by simpa using hj
      exact (hx.cell 0).trans rfl)
  go_enter Try.func20, Try.ntmps20
  go_wp2
  go_rounds 2
  go_ret
  exact ⟨rfl, below_alloc _ _⟩
set_option maxRecDepth 100000 in
theorem markText_7 (w : World) :
    Calls Try.prog 20 #[.int .i64 7] w fun e w' => e = .returned (.string ⟨#[109, 55]⟩) ∧ Below w.heap.size w w' := by
  have hconv : (convert 47 9 (.slice (some ⟨w.heap.size, 0, none⟩) 1 1)).run Try.prog (w.alloc (.cells #[.int .u8 55] 5)) = .ok (.string ⟨#[55]⟩) (w.alloc (.cells #[.int .u8 55] 5)) := by
    have hx := bx_new w [.int .u8 55] 5
    exact run_convert_bytes_back (P := Try.prog) _ 47 9 5 ⟨w.heap.size, 0, none⟩ 1 [55] Try.underlying47 Try.underlying5 Try.underlying9 (fun j hj => by
      obtain rfl : j = 0 := by simpa using hj
      exact (hx.cell 0).trans rfl)
  go_enter Try.func20, Try.ntmps20
  go_wp2
  go_rounds 2
  go_ret
  exact ⟨rfl, below_alloc _ _⟩
set_option maxRecDepth 100000 in
theorem markText_8 (w : World) :
    Calls Try.prog 20 #[.int .i64 8] w fun e w' => e = .returned (.string ⟨#[109, 56]⟩) ∧ Below w.heap.size w w' := by
  have hconv : (convert 47 9 (.slice (some ⟨w.heap.size, 0, none⟩) 1 1)).run Try.prog (w.alloc (.cells #[.int .u8 56] 5)) = .ok (.string ⟨#[56]⟩) (w.alloc (.cells #[.int .u8 56] 5)) := by
    have hx := bx_new w [.int .u8 56] 5
    exact run_convert_bytes_back (P := Try.prog) _ 47 9 5 ⟨w.heap.size, 0, none⟩ 1 [56] Try.underlying47 Try.underlying5 Try.underlying9 (fun j hj => by
      obtain rfl : j = 0 := by simpa using hj
      exact (hx.cell 0).trans rfl)
  go_enter Try.func20, Try.ntmps20
  go_wp2
  go_rounds 2
  go_ret
  exact ⟨rfl, below_alloc _ _⟩
set_option maxRecDepth 100000 in
theorem eqTerm_any (o : Int) (s t : ByteArray) (w : World) :
    Calls Try.prog 19 #[.agg #[.int .i64 o, .string s, .string t, .int .i64 0, .int .i64 0, .slice none 0 0], .agg #[.int .i64 o, .string s, .string t, .int .i64 0, .int .i64 0, .slice none 0 0]] w fun e w' => e = .returned (.bool true) ∧ Below w.heap.size w w' := by
  go_enter Try.func19, Try.ntmps19
  go_wp2_with (go_at_call 23; refine (eqInts_any _).mono ?_; rintro e w' ⟨rfl, rfl⟩)
  go_ret
  exact ⟨rfl, below_al (below_alloc _ _) _⟩
set_option maxRecDepth 100000 in
set_option maxHeartbeats 1000000 in
theorem eqTerms_any (g g' : Nat) (w : World) (h : Bx w g terms2) (h' : Bx w g' terms2) :
    Calls Try.prog 11 #[.slice (some ⟨g, 0, none⟩) 2 2, .slice (some ⟨g', 0, none⟩) 2 2] w fun e w' => e = .returned (.bool true) ∧ Below w.heap.size w w' := by
  have H := hidG h
  have H' := hidG h'
  have k0 := h.cell 0
  have k1 := h.cell 1
  have k2 := h.cell 2
  have k3 := h.cell 3
  have k4 := h.cell 4
  have k5 := h.cell 5
  simp only [terms2, bool4, List.getElem?_cons_zero, List.getElem?_cons_succ] at k0 k1 k2 k3 k4 k5
  have j0 := h'.cell 0
  have j1 := h'.cell 1
  have j2 := h'.cell 2
  have j3 := h'.cell 3
  have j4 := h'.cell 4
  have j5 := h'.cell 5
  simp only [terms2, bool4, List.getElem?_cons_zero, List.getElem?_cons_succ] at j0 j1 j2 j3 j4 j5
  clear h h'
  go_enter Try.func11, Try.ntmps11
  go_wp2
  refine wp_loop_rounds 3 ?_
  rw [rounds_succ]
  go_wp2_with fail
  go_region_with (go_at_call 19; refine (eqTerm_any _ _ _ _).mono ?_; rintro e w1 ⟨rfl, hb1⟩; have HB1 : Hid (Below w.heap.size w w1) := (Below.refl _ w).drew.trans hb1; clear hb1)
  all_goals
    have h1 := H.out.below H.out.lt HB1.out
    have h2 := H'.out.below H'.out.lt HB1.out
    clear k0 j0 k1 j1 k2 j2 k3 j3 k4 j4 k5 j5
    have k6 := h1.cell 6
    have k7 := h1.cell 7
    have k8 := h1.cell 8
    have k9 := h1.cell 9
    have k10 := h1.cell 10
    have k11 := h1.cell 11
    simp only [terms2, bool4, List.getElem?_cons_zero, List.getElem?_cons_succ] at k6 k7 k8 k9 k10 k11
    have j6 := h2.cell 6
    have j7 := h2.cell 7
    have j8 := h2.cell 8
    have j9 := h2.cell 9
    have j10 := h2.cell 10
    have j11 := h2.cell 11
    simp only [terms2, bool4, List.getElem?_cons_zero, List.getElem?_cons_succ] at j6 j7 j8 j9 j10 j11
    clear h1 h2
    go_wp2
    try simp only [List.getElem_toArray, List.getElem_cons_succ, List.getElem_cons_zero, Act.put, List.setIfInBounds_toArray, List.set_cons_succ, List.set_cons_zero]
    rw [rounds_succ]
    go_wp2_with fail
    go_region_with (go_at_call 19; refine (eqTerm_any _ _ _ _).mono ?_; rintro e w2 ⟨rfl, hb2⟩; have HB2 : Hid (Below w1.heap.size w1 w2) := (Below.refl _ w1).drew.trans hb2; clear hb2)
    all_goals
      have HB3 := hidG (HB1.out.trans (HB2.out.mono HB1.out.size))
      clear k6 j6 k7 j7 k8 j8 k9 j9 k10 j10 k11 j11
      go_wp2
      try simp only [List.getElem_toArray, List.getElem_cons_succ, List.getElem_cons_zero, Act.put, List.setIfInBounds_toArray, List.set_cons_succ, List.set_cons_zero]
      rw [rounds_succ]
      go_wp2
      go_ret
      exact ⟨rfl, HB3.out⟩
/-- What the marks leave. -/
def tx (k : UInt8) : Value := .string ⟨#[109, 48 + k]⟩
def marked2 : List Value := [.int .i64 1, .string ⟨#[109, 50]⟩, .string ⟨#[109, 51]⟩, .int .i64 4, .int .i64 5, .slice none 0 0, .int .i64 6, .string ⟨#[109, 55]⟩, .string ⟨#[109, 56]⟩, .int .i64 9, .int .i64 10, .slice none 0 0]
/-- Block g holds L; what else stood in w stands. -/
def St (N g : Nat) (w W : World) (L : List Value) : Prop := Bx W g L ∧ (∀ b l, b ≠ g → Bx w b l → Bx W b l) ∧ Below N w W
theorem St.set {N g : Nat} {w W : World} {L : List Value} (h : St N g w W L) (hN : N ≤ g) (i : Nat) (v : Value) : St N g w (W.setCell ⟨g, i, none⟩ v) (L.set i v) :=
  ⟨h.1.set i v, fun b l hb hl => (h.2.1 b l hb hl).other ⟨g, i, none⟩ (fun e => hb e.symm) v, h.2.2.setCell hN v⟩
theorem St.below {N g : Nat} {w W W' : World} {L : List Value} (h : St N g w W L) (hN : N ≤ g) (hb : Below W.heap.size W W') : St N g w W' L :=
  ⟨h.1.below h.1.lt hb, fun b l hn hl => (h.2.1 b l hn hl).below (h.2.1 b l hn hl).lt hb, h.2.2.trans (hb.mono (by have := h.1.lt; omega))⟩
set_option maxRecDepth 100000 in
set_option maxHeartbeats 2000000 in
theorem markTerms_any (N g : Nat) (w : World) (h : Bx w g terms2) (hN : N ≤ g) :
    Calls Try.prog 14 #[.slice (some ⟨g, 0, none⟩) 2 2, .int .i64 1] w fun e w' => e = .returned (.int .i64 11) ∧ St N g w w' marked2 := by
  have HS0 : Hid (St N g w w terms2) := ⟨h, fun _ _ _ hl => hl, Below.refl _ _⟩
  have HN := hidG hN
  have k0 := h.cell 0
  have f0 := h.frozen 0
  have k1 := h.cell 1
  have f1 := h.frozen 1
  have k2 := h.cell 2
  have f2 := h.frozen 2
  have k3 := h.cell 3
  have f3 := h.frozen 3
  have k4 := h.cell 4
  have f4 := h.frozen 4
  have k5 := h.cell 5
  have f5 := h.frozen 5
  simp only [terms2, bool4, List.getElem?_cons_zero, List.getElem?_cons_succ] at k0 k1 k2 k3 k4 k5
  clear h hN
  go_enter Try.func14, Try.ntmps14
  go_wp2
  refine wp_loop_rounds 3 ?_
  rw [rounds_succ]
  go_wp2_with fail
  refine (markText_2 _).mono ?_
  rintro e w1 ⟨rfl, hb⟩
  have HS1 : Hid (St N g w w1 [.int .i64 1, bool4, .string ⟨#[]⟩, .int .i64 0, .int .i64 0, .slice none 0 0, .int .i64 2, bool4, .string ⟨#[]⟩, .int .i64 0, .int .i64 0, .slice none 0 0]) := (HS0.out.set HN.out 0 _).below HN.out hb
  clear hb
  clear k0 f0 k1 f1 k2 f2 k3 f3 k4 f4 k5 f5
  have k0 := HS1.out.1.cell 0
  have f0 := HS1.out.1.frozen 0
  have k1 := HS1.out.1.cell 1
  have f1 := HS1.out.1.frozen 1
  have k2 := HS1.out.1.cell 2
  have f2 := HS1.out.1.frozen 2
  have k3 := HS1.out.1.cell 3
  have f3 := HS1.out.1.frozen 3
  have k4 := HS1.out.1.cell 4
  have f4 := HS1.out.1.frozen 4
  have k5 := HS1.out.1.cell 5
  have f5 := HS1.out.1.frozen 5
  simp only [bool4, List.getElem?_cons_zero, List.getElem?_cons_succ] at k0 k1 k2 k3 k4 k5
  go_wp2_with fail
  refine (markText_3 _).mono ?_
  rintro e w2 ⟨rfl, hb⟩
  have HS2 : Hid (St N g w w2 [.int .i64 1, .string ⟨#[109, 50]⟩, .string ⟨#[]⟩, .int .i64 0, .int .i64 0, .slice none 0 0, .int .i64 2, bool4, .string ⟨#[]⟩, .int .i64 0, .int .i64 0, .slice none 0 0]) := (HS1.out.set HN.out 1 _).below HN.out hb
  clear hb
  clear k0 f0 k1 f1 k2 f2 k3 f3 k4 f4 k5 f5
  have k0 := HS2.out.1.cell 0
  have f0 := HS2.out.1.frozen 0
  have k1 := HS2.out.1.cell 1
  have f1 := HS2.out.1.frozen 1
  have k2 := HS2.out.1.cell 2
  have f2 := HS2.out.1.frozen 2
  have k3 := HS2.out.1.cell 3
  have f3 := HS2.out.1.frozen 3
  have k4 := HS2.out.1.cell 4
  have f4 := HS2.out.1.frozen 4
  have k5 := HS2.out.1.cell 5
  have f5 := HS2.out.1.frozen 5
  simp only [List.getElem?_cons_zero, List.getElem?_cons_succ] at k0 k1 k2 k3 k4 k5
  go_wp2_with fail
  refine (markInts_any _ _).mono ?_
  rintro e v0 ⟨rfl, hv⟩
  have HT0 : Hid (St N g w v0 [.int .i64 1, .string ⟨#[109, 50]⟩, .string ⟨#[109, 51]⟩, .int .i64 4, .int .i64 5, .slice none 0 0, .int .i64 2, bool4, .string ⟨#[]⟩, .int .i64 0, .int .i64 0, .slice none 0 0]) := by
    show St _ _ _ _ _
    rw [hv]
    exact ((HS2.out.set HN.out 2 _).set HN.out 3 _).set HN.out 4 _
  clear hv
  clear k0 f0 k1 f1 k2 f2 k3 f3 k4 f4 k5 f5
  have k6 := HT0.out.1.cell 6
  have f6 := HT0.out.1.frozen 6
  have k7 := HT0.out.1.cell 7
  have f7 := HT0.out.1.frozen 7
  have k8 := HT0.out.1.cell 8
  have f8 := HT0.out.1.frozen 8
  have k9 := HT0.out.1.cell 9
  have f9 := HT0.out.1.frozen 9
  have k10 := HT0.out.1.cell 10
  have f10 := HT0.out.1.frozen 10
  have k11 := HT0.out.1.cell 11
  have f11 := HT0.out.1.frozen 11
  simp only [bool4, List.getElem?_cons_zero, List.getElem?_cons_succ] at k6 k7 k8 k9 k10 k11
  go_wp2
  rw [rounds_succ]
  go_wp2_with fail
  refine (markText_7 _).mono ?_
  rintro e w3 ⟨rfl, hb⟩
  have HS3 : Hid (St N g w w3 [.int .i64 1, .string ⟨#[109, 50]⟩, .string ⟨#[109, 51]⟩, .int .i64 4, .int .i64 5, .slice none 0 0, .int .i64 6, bool4, .string ⟨#[]⟩, .int .i64 0, .int .i64 0, .slice none 0 0]) := (HT0.out.set HN.out 6 _).below HN.out hb
  clear hb
  clear k6 f6 k7 f7 k8 f8 k9 f9 k10 f10 k11 f11
  have k6 := HS3.out.1.cell 6
  have f6 := HS3.out.1.frozen 6
  have k7 := HS3.out.1.cell 7
  have f7 := HS3.out.1.frozen 7
  have k8 := HS3.out.1.cell 8
  have f8 := HS3.out.1.frozen 8
  have k9 := HS3.out.1.cell 9
  have f9 := HS3.out.1.frozen 9
  have k10 := HS3.out.1.cell 10
  have f10 := HS3.out.1.frozen 10
  have k11 := HS3.out.1.cell 11
  have f11 := HS3.out.1.frozen 11
  simp only [bool4, List.getElem?_cons_zero, List.getElem?_cons_succ] at k6 k7 k8 k9 k10 k11
  go_wp2_with fail
  refine (markText_8 _).mono ?_
  rintro e w4 ⟨rfl, hb⟩
  have HS4 : Hid (St N g w w4 [.int .i64 1, .string ⟨#[109, 50]⟩, .string ⟨#[109, 51]⟩, .int .i64 4, .int .i64 5, .slice none 0 0, .int .i64 6, .string ⟨#[109, 55]⟩, .string ⟨#[]⟩, .int .i64 0, .int .i64 0, .slice none 0 0]) := (HS3.out.set HN.out 7 _).below HN.out hb
  clear hb
  clear k6 f6 k7 f7 k8 f8 k9 f9 k10 f10 k11 f11
  have k6 := HS4.out.1.cell 6
  have f6 := HS4.out.1.frozen 6
  have k7 := HS4.out.1.cell 7
  have f7 := HS4.out.1.frozen 7
  have k8 := HS4.out.1.cell 8
  have f8 := HS4.out.1.frozen 8
  have k9 := HS4.out.1.cell 9
  have f9 := HS4.out.1.frozen 9
  have k10 := HS4.out.1.cell 10
  have f10 := HS4.out.1.frozen 10
  have k11 := HS4.out.1.cell 11
  have f11 := HS4.out.1.frozen 11
  simp only [List.getElem?_cons_zero, List.getElem?_cons_succ] at k6 k7 k8 k9 k10 k11
  go_wp2_with fail
  refine (markInts_any _ _).mono ?_
  rintro e v1 ⟨rfl, hv⟩
  have HT1 : Hid (St N g w v1 [.int .i64 1, .string ⟨#[109, 50]⟩, .string ⟨#[109, 51]⟩, .int .i64 4, .int .i64 5, .slice none 0 0, .int .i64 6, .string ⟨#[109, 55]⟩, .string ⟨#[109, 56]⟩, .int .i64 9, .int .i64 10, .slice none 0 0]) := by
    show St _ _ _ _ _
    rw [hv]
    exact ((HS4.out.set HN.out 8 _).set HN.out 9 _).set HN.out 10 _
  clear hv
  clear k6 f6 k7 f7 k8 f8 k9 f9 k10 f10 k11 f11
  go_wp2
  rw [rounds_succ]
  go_wp2
  go_ret
  exact ⟨rfl, HT1.out⟩
set_option maxRecDepth 100000 in
set_option maxHeartbeats 2000000 in
theorem heldTerms_any (g : Nat) (w : World) (h : Bx w g marked2) :
    Calls Try.prog 17 #[.slice (some ⟨g, 0, none⟩) 2 2, .int .i64 1] w fun e w' => e = .returned (.int .i64 11) ∧ Below w.heap.size w w' := by
  have HS0 : Hid (Bx w g marked2 ∧ Below w.heap.size w w) := ⟨h, Below.refl _ _⟩
  have k0 := h.cell 0
  have f0 := h.frozen 0
  have k1 := h.cell 1
  have f1 := h.frozen 1
  have k2 := h.cell 2
  have f2 := h.frozen 2
  have k3 := h.cell 3
  have f3 := h.frozen 3
  have k4 := h.cell 4
  have f4 := h.frozen 4
  have k5 := h.cell 5
  have f5 := h.frozen 5
  simp only [marked2, List.getElem?_cons_zero, List.getElem?_cons_succ] at k0 k1 k2 k3 k4 k5
  clear h
  go_enter Try.func17, Try.ntmps17
  go_wp2
  refine wp_loop_rounds 3 ?_
  rw [rounds_succ]
  go_wp2_with fail
  go_region_with (go_at_call 20; refine (markText_2 _).mono ?_; rintro e w1 ⟨rfl, hb⟩; have HB1 : Hid (Below w.heap.size w w1) := (Below.refl _ w).drew.trans hb; have q0 := (HS0.out.1.below HS0.out.1.lt HB1.out).cell 1; simp only [marked2, List.getElem?_cons_zero, List.getElem?_cons_succ] at q0; clear hb)
  all_goals
    have HS1 : Hid (Bx w1 g marked2 ∧ Below w.heap.size w w1) := ⟨HS0.out.1.below HS0.out.1.lt HB1.out, HS0.out.2.trans (HB1.out.mono HS0.out.2.size)⟩
    clear k0 f0 k1 f1 k2 f2 k3 f3 k4 f4 k5 f5
    have k0 := HS1.out.1.cell 0
    have f0 := HS1.out.1.frozen 0
    have k1 := HS1.out.1.cell 1
    have f1 := HS1.out.1.frozen 1
    have k2 := HS1.out.1.cell 2
    have f2 := HS1.out.1.frozen 2
    have k3 := HS1.out.1.cell 3
    have f3 := HS1.out.1.frozen 3
    have k4 := HS1.out.1.cell 4
    have f4 := HS1.out.1.frozen 4
    have k5 := HS1.out.1.cell 5
    have f5 := HS1.out.1.frozen 5
    simp only [marked2, List.getElem?_cons_zero, List.getElem?_cons_succ] at k0 k1 k2 k3 k4 k5
    go_wp2_with fail
    try simp only [List.getElem_toArray, List.getElem_cons_succ, List.getElem_cons_zero, Act.put, List.setIfInBounds_toArray, List.set_cons_succ, List.set_cons_zero]
    go_wp2_with fail
    go_region_with (go_at_call 20; refine (markText_3 _).mono ?_; rintro e w2 ⟨rfl, hb⟩; have HB2 : Hid (Below w1.heap.size w1 w2) := (Below.refl _ w1).drew.trans hb; have q1 := (HS1.out.1.below HS1.out.1.lt HB2.out).cell 2; simp only [marked2, List.getElem?_cons_zero, List.getElem?_cons_succ] at q1; clear hb)
    all_goals
      have HS2 : Hid (Bx w2 g marked2 ∧ Below w.heap.size w w2) := ⟨HS1.out.1.below HS1.out.1.lt HB2.out, HS1.out.2.trans (HB2.out.mono HS1.out.2.size)⟩
      clear k0 f0 k1 f1 k2 f2 k3 f3 k4 f4 k5 f5
      have k0 := HS2.out.1.cell 0
      have f0 := HS2.out.1.frozen 0
      have k1 := HS2.out.1.cell 1
      have f1 := HS2.out.1.frozen 1
      have k2 := HS2.out.1.cell 2
      have f2 := HS2.out.1.frozen 2
      have k3 := HS2.out.1.cell 3
      have f3 := HS2.out.1.frozen 3
      have k4 := HS2.out.1.cell 4
      have f4 := HS2.out.1.frozen 4
      have k5 := HS2.out.1.cell 5
      have f5 := HS2.out.1.frozen 5
      simp only [marked2, List.getElem?_cons_zero, List.getElem?_cons_succ] at k0 k1 k2 k3 k4 k5
      go_wp2_with fail
      try simp only [List.getElem_toArray, List.getElem_cons_succ, List.getElem_cons_zero, Act.put, List.setIfInBounds_toArray, List.set_cons_succ, List.set_cons_zero]
      go_wp2_with fail
      refine (heldInts_any _ _).mono ?_
      rintro e v0 ⟨rfl, hv⟩
      subst v0
      clear k0 f0 k1 f1 k2 f2 k3 f3 k4 f4 k5 f5
      have k6 := HS2.out.1.cell 6
      have f6 := HS2.out.1.frozen 6
      have k7 := HS2.out.1.cell 7
      have f7 := HS2.out.1.frozen 7
      have k8 := HS2.out.1.cell 8
      have f8 := HS2.out.1.frozen 8
      have k9 := HS2.out.1.cell 9
      have f9 := HS2.out.1.frozen 9
      have k10 := HS2.out.1.cell 10
      have f10 := HS2.out.1.frozen 10
      have k11 := HS2.out.1.cell 11
      have f11 := HS2.out.1.frozen 11
      simp only [marked2, List.getElem?_cons_zero, List.getElem?_cons_succ] at k6 k7 k8 k9 k10 k11
      go_wp2
      rw [rounds_succ]
      go_wp2_with fail
      go_region_with (go_at_call 20; refine (markText_7 _).mono ?_; rintro e w3 ⟨rfl, hb⟩; have HB3 : Hid (Below w2.heap.size w2 w3) := (Below.refl _ w2).drew.trans hb; have q2 := (HS2.out.1.below HS2.out.1.lt HB3.out).cell 7; simp only [marked2, List.getElem?_cons_zero, List.getElem?_cons_succ] at q2; clear hb)
      all_goals
        have HS3 : Hid (Bx w3 g marked2 ∧ Below w.heap.size w w3) := ⟨HS2.out.1.below HS2.out.1.lt HB3.out, HS2.out.2.trans (HB3.out.mono HS2.out.2.size)⟩
        clear k6 f6 k7 f7 k8 f8 k9 f9 k10 f10 k11 f11
        have k6 := HS3.out.1.cell 6
        have f6 := HS3.out.1.frozen 6
        have k7 := HS3.out.1.cell 7
        have f7 := HS3.out.1.frozen 7
        have k8 := HS3.out.1.cell 8
        have f8 := HS3.out.1.frozen 8
        have k9 := HS3.out.1.cell 9
        have f9 := HS3.out.1.frozen 9
        have k10 := HS3.out.1.cell 10
        have f10 := HS3.out.1.frozen 10
        have k11 := HS3.out.1.cell 11
        have f11 := HS3.out.1.frozen 11
        simp only [marked2, List.getElem?_cons_zero, List.getElem?_cons_succ] at k6 k7 k8 k9 k10 k11
        go_wp2_with fail
        try simp only [List.getElem_toArray, List.getElem_cons_succ, List.getElem_cons_zero, Act.put, List.setIfInBounds_toArray, List.set_cons_succ, List.set_cons_zero]
        go_wp2_with fail
        go_region_with (go_at_call 20; refine (markText_8 _).mono ?_; rintro e w4 ⟨rfl, hb⟩; have HB4 : Hid (Below w3.heap.size w3 w4) := (Below.refl _ w3).drew.trans hb; have q3 := (HS3.out.1.below HS3.out.1.lt HB4.out).cell 8; simp only [marked2, List.getElem?_cons_zero, List.getElem?_cons_succ] at q3; clear hb)
        all_goals
          have HS4 : Hid (Bx w4 g marked2 ∧ Below w.heap.size w w4) := ⟨HS3.out.1.below HS3.out.1.lt HB4.out, HS3.out.2.trans (HB4.out.mono HS3.out.2.size)⟩
          clear k6 f6 k7 f7 k8 f8 k9 f9 k10 f10 k11 f11
          have k6 := HS4.out.1.cell 6
          have f6 := HS4.out.1.frozen 6
          have k7 := HS4.out.1.cell 7
          have f7 := HS4.out.1.frozen 7
          have k8 := HS4.out.1.cell 8
          have f8 := HS4.out.1.frozen 8
          have k9 := HS4.out.1.cell 9
          have f9 := HS4.out.1.frozen 9
          have k10 := HS4.out.1.cell 10
          have f10 := HS4.out.1.frozen 10
          have k11 := HS4.out.1.cell 11
          have f11 := HS4.out.1.frozen 11
          simp only [marked2, List.getElem?_cons_zero, List.getElem?_cons_succ] at k6 k7 k8 k9 k10 k11
          go_wp2_with fail
          try simp only [List.getElem_toArray, List.getElem_cons_succ, List.getElem_cons_zero, Act.put, List.setIfInBounds_toArray, List.set_cons_succ, List.set_cons_zero]
          go_wp2_with fail
          refine (heldInts_any _ _).mono ?_
          rintro e v1 ⟨rfl, hv⟩
          subst v1
          clear k6 f6 k7 f7 k8 f8 k9 f9 k10 f10 k11 f11
          go_wp2
          rw [rounds_succ]
          go_wp2
          go_ret
          exact ⟨rfl, HS4.out.2⟩
end Go.Proofs.Ytmmifgfipifnpaa
