import Derived.Test.YtfmpapcfhoomkaaGreatDoorReadImplp
namespace Go.Proofs.YtfmpapcfhoomkaaGreatDoor
open Go.ChangeShapes Go.WideShapes Go.ChangeAt Go.RowKit
def lim (s : ByteArray) : List Nat := trimL (chunks (dgs s).data.toList)
def sgn (s : ByteArray) : Bool := negOf (isNeg s) (lim s)
def ReadI (B : Nat) (w : World) (s : ByteArray) (n : Bool) (a : Option Addr) (l c : Nat) : Prop :=
 isIntB s = true → n = sgn s ∧ IsL B w (.slice a l c) (lim s)
theorem readInteger_any (s : ByteArray) (w : World) (hs : s.size ≤ maxLen) :
 Calls Tryz.prog 81 #[.string s] w fun e w' => ∃ n a l c, e = .returned (.tuple #[.agg #[.bool n, .slice a l c], .bool (isIntB s)]) ∧ ReadI w.heap.size w' s n a l c ∧ Up w w' := by
 cases hi : isIntB s
 ·refine (readInteger_no s w hs hi).mono ?_; rintro e w' ⟨rfl, hb⟩; exact ⟨_, _, _, _, rfl, (fun h => by rw [hi] at h; cases h), hb⟩
 refine (readInteger_yes s w hs hi).mono ?_; rintro e w' ⟨v, rfl, hv, hb⟩; obtain ⟨a, cap, rfl, _⟩ := id hv; exact ⟨_, _, _, _, rfl, fun _ => ⟨rfl, hv⟩, hb⟩
theorem ReadI.below {B : Nat} {w w' : World} {s : ByteArray} {n : Bool} {a : Option Addr} {l c : Nat} (h : ReadI B w s n a l c) (hb : Up w w') : ReadI B w' s n a l c :=
 fun hi => ⟨(h hi).1, (h hi).2.below hb⟩
theorem ReadI.mono {B B' : Nat} {w : World} {s : ByteArray} {n : Bool} {a : Option Addr} {l c : Nat} (h : ReadI B w s n a l c) (hb : B' ≤ B) : ReadI B' w s n a l c :=
 fun hi => ⟨(h hi).1, (h hi).2.mono hb⟩
theorem ReadI.setCell {B : Nat} {w : World} {s : ByteArray} {n : Bool} {a : Option Addr} {l c : Nat} (h : ReadI B w s n a l c) (p : Addr) (u : Value) (hp : p.block < B) : ReadI B (w.setCell p u) s n a l c :=
 fun hi => ⟨(h hi).1, (h hi).2.setCell p u hp⟩
set_option maxRecDepth 100000 in
set_option maxHeartbeats 2000000 in
theorem readPair_any (s t : ByteArray) (w : World) (hs : s.size ≤ maxLen) (ht : t.size ≤ maxLen) :
 Calls Tryz.prog 39 #[.string s, .string t] w fun e w' => ∃ n a l c n' a' l' c', e = .returned (.tuple #[.agg #[.bool n, .slice a l c], .agg #[.bool n', .slice a' l' c'], .bool (isIntB s && isIntB t)]) ∧
  ReadI w.heap.size w' s n a l c ∧ ReadI w.heap.size w' t n' a' l' c' ∧ Up w w' := by
 obtain ⟨W0, hW0⟩ := exW ((w.alloc (.cells #[.bool false, .slice none 0 0] 46)).alloc (.cells #[.bool false, .slice none 0 0] 46)); have HW0 := Hd hW0; have hz0 : W0.heap.size = w.heap.size + 2 := by rw [← hW0]; simp
 have HB0 : Hid (Up w W0) := by rw [← hW0]; exact ((Below.refl _ w).alloc leR _).alloc (by simp) _
 clear hW0
 go_enter Tryz.func39, Tryz.ntmps39
 go_wp2_with fail
 rw [HW0.o]; refine (readInteger_any s W0 hs).mono ?_; rintro e w1 ⟨n, a, l, c, rfl, hr1, hb1⟩; obtain ⟨W1, hW1⟩ := exW (w1.alloc (.cells #[.bool n, .slice a l c] 46)); have HW1 := Hd hW1; have hz1 : W1.heap.size = w1.heap.size + 1 := by rw [← hW1]; simp
 have hle1 : w.heap.size + 2 ≤ w1.heap.size := by have := hb1.size; omega
 have HB1 : Hid (Up W0 W1) := by rw [← hW1]; exact hb1.alloc hb1.size _
 have HR1 : Hid (ReadI W0.heap.size W1 s n a l c) := by rw [← hW1]; exact hr1.below (below_alloc _ _)
 have hx0 : W1.cell? ⟨w1.heap.size, 0, none⟩ = some (.bool n) := by rw [← hW1, World.cell?_alloc_at _ _ _ _ rfl]; rfl
 have hx1 : W1.cell? ⟨w1.heap.size, 1, none⟩ = some (.slice a l c) := by rw [← hW1, World.cell?_alloc_at _ _ _ _ rfl]; rfl
 have HX0 := Hd hx0; have HX1 := Hd hx1; clear hW1 hx0 hx1 hb1 hr1; obtain ⟨bs, hbs⟩ : ∃ x, isIntB s = x := ⟨_, rfl⟩; have HBS := Hd hbs; rw [hbs]; clear hbs
 go_wp2_with fail
 rw [HW1.o]; refine (readInteger_any t W1 ht).mono ?_; rintro e w2 ⟨n', a', l', c', rfl, hr2, hb2⟩; have hle2 : w1.heap.size + 1 ≤ w2.heap.size := by have := hb2.size; omega
 obtain ⟨W2, hW2⟩ := exW (w2.alloc (.cells #[.bool n', .slice a' l' c'] 46)); have HW2 := Hd hW2; have HB2 : Hid (Up W1 W2) := by rw [← hW2]; exact hb2.alloc hb2.size _
 have HR2 : Hid (ReadI W1.heap.size W2 t n' a' l' c') := by rw [← hW2]; exact hr2.below (below_alloc _ _)
 have y0 : W2.cell? ⟨w1.heap.size, 0, none⟩ = some (.bool n) := by rw [HB2.o.cell (p := ⟨w1.heap.size, 0, none⟩) (by show w1.heap.size < W1.heap.size; omega)]; exact HX0.o
 have y1 : W2.cell? ⟨w1.heap.size, 1, none⟩ = some (.slice a l c) := by rw [HB2.o.cell (p := ⟨w1.heap.size, 1, none⟩) (by show w1.heap.size < W1.heap.size; omega)]; exact HX1.o
 have v0 : W2.cell? ⟨w2.heap.size, 0, none⟩ = some (.bool n') := by rw [← hW2, World.cell?_alloc_at _ _ _ _ rfl]; rfl
 have v1 : W2.cell? ⟨w2.heap.size, 1, none⟩ = some (.slice a' l' c') := by rw [← hW2, World.cell?_alloc_at _ _ _ _ rfl]; rfl
 clear hr2 hb2 hW2; have p0 : W2.cell? ⟨w.heap.size, 0, none⟩ = some (.bool false) := by
  rw [HB2.o.cell (p := ⟨w.heap.size, 0, none⟩) (by show w.heap.size < W1.heap.size; omega), HB1.o.cell (p := ⟨w.heap.size, 0, none⟩) (by show w.heap.size < W0.heap.size; omega)]; rw [← HW0.o, World.cell?_alloc_past _ _ _ (by simp), World.cell?_alloc_at _ _ _ _ rfl]; rfl
 have pf0 : W2.frozen? ⟨w.heap.size, 0, none⟩ = false := by
  rw [HB2.o.frozen (p := ⟨w.heap.size, 0, none⟩) (by show w.heap.size < W1.heap.size; omega), HB1.o.frozen (p := ⟨w.heap.size, 0, none⟩) (by show w.heap.size < W0.heap.size; omega)]; rw [← HW0.o, (below_alloc (w.alloc (.cells #[.bool false, .slice none 0 0] 46)) _).frozen (p := ⟨w.heap.size, 0, none⟩) (by simp), World.frozen?_alloc_at _ _ _ _ rfl]
 have p1 : W2.cell? ⟨w.heap.size, 1, none⟩ = some (.slice none 0 0) := by
  rw [HB2.o.cell (p := ⟨w.heap.size, 1, none⟩) (by show w.heap.size < W1.heap.size; omega), HB1.o.cell (p := ⟨w.heap.size, 1, none⟩) (by show w.heap.size < W0.heap.size; omega)]; rw [← HW0.o, World.cell?_alloc_past _ _ _ (by simp), World.cell?_alloc_at _ _ _ _ rfl]; rfl
 have pf1 : W2.frozen? ⟨w.heap.size, 1, none⟩ = false := by
  rw [HB2.o.frozen (p := ⟨w.heap.size, 1, none⟩) (by show w.heap.size < W1.heap.size; omega), HB1.o.frozen (p := ⟨w.heap.size, 1, none⟩) (by show w.heap.size < W0.heap.size; omega)]; rw [← HW0.o, (below_alloc (w.alloc (.cells #[.bool false, .slice none 0 0] 46)) _).frozen (p := ⟨w.heap.size, 1, none⟩) (by simp), World.frozen?_alloc_at _ _ _ _ rfl]
 have q0 : W2.cell? ⟨w.heap.size + 1, 0, none⟩ = some (.bool false) := by
  rw [HB2.o.cell (p := ⟨w.heap.size + 1, 0, none⟩) (by show w.heap.size + 1 < W1.heap.size; omega), HB1.o.cell (p := ⟨w.heap.size + 1, 0, none⟩) (by show w.heap.size + 1 < W0.heap.size; omega)]; rw [← HW0.o, World.cell?_alloc_at _ _ _ _ (by simp)]; rfl
 have qf0 : W2.frozen? ⟨w.heap.size + 1, 0, none⟩ = false := by
  rw [HB2.o.frozen (p := ⟨w.heap.size + 1, 0, none⟩) (by show w.heap.size + 1 < W1.heap.size; omega), HB1.o.frozen (p := ⟨w.heap.size + 1, 0, none⟩) (by show w.heap.size + 1 < W0.heap.size; omega)]; rw [← HW0.o, World.frozen?_alloc_at _ _ _ _ (by simp)]
 have q1 : W2.cell? ⟨w.heap.size + 1, 1, none⟩ = some (.slice none 0 0) := by
  rw [HB2.o.cell (p := ⟨w.heap.size + 1, 1, none⟩) (by show w.heap.size + 1 < W1.heap.size; omega), HB1.o.cell (p := ⟨w.heap.size + 1, 1, none⟩) (by show w.heap.size + 1 < W0.heap.size; omega)]; rw [← HW0.o, World.cell?_alloc_at _ _ _ _ (by simp)]; rfl
 have qf1 : W2.frozen? ⟨w.heap.size + 1, 1, none⟩ = false := by
  rw [HB2.o.frozen (p := ⟨w.heap.size + 1, 1, none⟩) (by show w.heap.size + 1 < W1.heap.size; omega), HB1.o.frozen (p := ⟨w.heap.size + 1, 1, none⟩) (by show w.heap.size + 1 < W0.heap.size; omega)]; rw [← HW0.o, World.frozen?_alloc_at _ _ _ _ (by simp)]
 have HEND : Hid (Up w W2) := HB0.o.trans ((HB1.o.mono (by omega)).trans (HB2.o.mono (by omega))); have HR1' : Hid (ReadI (w.heap.size + 2) W2 s n a l c) := by
  have h0 := HR1.o.below HB2.o; rw [hz0] at h0; exact h0
 have HR2' : Hid (ReadI (w.heap.size + 2) W2 t n' a' l' c') := HR2.o.mono (by omega); obtain ⟨bt, hbt⟩ : ∃ x, isIntB t = x := ⟨_, rfl⟩; have HBT := Hd hbt; rw [hbt]; clear hbt
 cases bs
 all_goals
  go_wp2
  rw [HW2.o]
  go_region
  go_wp2
  refine bodyPost_ret (v := .tuple #[.agg #[.bool n, .slice a l c], .agg #[.bool n', .slice a' l' c'], .bool (_ && bt)]) ?_ rfl ⟨n, a, l, c, n', a', l', c', by rw [HBS.o, HBT.o], ?_, ?_, ?_⟩
  ·simp [results, Tryz.results39, go_sem, p0, p1, q0, q1]
  ·exact ((((HR1'.o.setCell _ _ (by show w.heap.size < _; omega)).setCell _ _ (by show w.heap.size < _; omega)).setCell _ _ (by show w.heap.size + 1 < _; omega)).setCell _ _ (by show w.heap.size + 1 < _; omega)).mono (by omega)
  ·exact ((((HR2'.o.setCell _ _ (by show w.heap.size < _; omega)).setCell _ _ (by show w.heap.size < _; omega)).setCell _ _ (by show w.heap.size + 1 < _; omega)).setCell _ _ (by show w.heap.size + 1 < _; omega)).mono (by omega)
  exact ((((HEND.o.setCell leR _).setCell leR _).setCell (Nat.le_succ _) _).setCell (Nat.le_succ _) _).drew
end Go.Proofs.YtfmpapcfhoomkaaGreatDoor
