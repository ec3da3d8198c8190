import Derived.Test.YtpjnglcojamfmaaDoorReadImpl
namespace Go.Proofs.YtpjnglcojamfmaaDoor
open Go.ChangeShapes Go.WideShapes Go.ChangeAt Go.RowKit
/-- The limbs of an int text. -/
def lim (s : ByteArray) : List Nat := trimL (chunks (dgs s).data.toList)
def sgn (s : ByteArray) : Bool := negOf (isNeg s) (lim s)
/-- What readInteger answers, in one word. -/
def ReadI (B : Nat) (w : World) (s : ByteArray) (n : Bool) (a : Option Addr) (l c : Nat) : Prop :=
  isIntB s = true → n = sgn s ∧ IsL B w (.slice a l c) (lim s)
theorem readInteger_any (s : ByteArray) (w : World) (hs : s.size ≤ maxLen) :
    Calls Tryd.prog 26 #[.string s] w fun e w' => ∃ n a l c, e = .returned (.tuple #[.agg #[.bool n, .slice a l c], .bool (isIntB s)]) ∧ ReadI w.heap.size w' s n a l c ∧ Below w.heap.size w w' := by
  cases hi : isIntB s
  · refine (readInteger_no s w hs hi).mono ?_
    rintro e w' ⟨rfl, hb⟩
    exact ⟨_, _, _, _, rfl, (fun h => by rw [hi] at h; cases h), hb⟩
  · refine (readInteger_yes s w hs hi).mono ?_
    rintro e w' ⟨v, rfl, hv, hb⟩
    obtain ⟨a, cap, rfl, _⟩ := id hv
    exact ⟨_, _, _, _, rfl, fun _ => ⟨rfl, hv⟩, hb⟩
theorem ReadI.below {B : Nat} {w w' : World} {s : ByteArray} {n : Bool} {a : Option Addr} {l c : Nat} (h : ReadI B w s n a l c) (hb : Below w.heap.size w w') : ReadI B w' s n a l c :=
  fun hi => ⟨(h hi).1, (h hi).2.below hb⟩
theorem ReadI.mono {B B' : Nat} {w : World} {s : ByteArray} {n : Bool} {a : Option Addr} {l c : Nat} (h : ReadI B w s n a l c) (hb : B' ≤ B) : ReadI B' w s n a l c :=
  fun hi => ⟨(h hi).1, (h hi).2.mono hb⟩
theorem ReadI.setCell {B : Nat} {w : World} {s : ByteArray} {n : Bool} {a : Option Addr} {l c : Nat} (h : ReadI B w s n a l c) (p : Addr) (u : Value) (hp : p.block < B) : ReadI B (w.setCell p u) s n a l c :=
  fun hi => ⟨(h hi).1, (h hi).2.setCell p u hp⟩
set_option maxRecDepth 100000 in
set_option maxHeartbeats 2000000 in
theorem readPair_any (s t : ByteArray) (w : World) (hs : s.size ≤ maxLen) (ht : t.size ≤ maxLen) :
    Calls Tryd.prog 17 #[.string s, .string t] w fun e w' => ∃ n a l c n' a' l' c', e = .returned (.tuple #[.agg #[.bool n, .slice a l c], .agg #[.bool n', .slice a' l' c'], .bool (isIntB s && isIntB t)]) ∧
      ReadI w.heap.size w' s n a l c ∧ ReadI w.heap.size w' t n' a' l' c' ∧ Below w.heap.size w w' := by
  obtain ⟨W0, hW0⟩ : ∃ W0, (w.alloc (.cells #[.bool false, .slice none 0 0] 33)).alloc (.cells #[.bool false, .slice none 0 0] 33) = W0 := ⟨_, rfl⟩
  have HW0 : Hid ((w.alloc (.cells #[.bool false, .slice none 0 0] 33)).alloc (.cells #[.bool false, .slice none 0 0] 33) = W0) := hW0
  have hz0 : W0.heap.size = w.heap.size + 2 := by rw [← hW0]; simp
  have HB0 : Hid (Below w.heap.size w W0) := by rw [← hW0]; exact ((Below.refl _ w).alloc (Nat.le_refl _) _).alloc (by simp) _
  clear hW0
  go_enter Tryd.func17, Tryd.ntmps17
  go_wp2_with fail
  rw [HW0.out]
  refine (readInteger_any s W0 hs).mono ?_
  rintro e w1 ⟨n, a, l, c, rfl, hr1, hb1⟩
  obtain ⟨W1, hW1⟩ : ∃ W1, w1.alloc (.cells #[.bool n, .slice a l c] 33) = W1 := ⟨_, rfl⟩
  have HW1 : Hid (w1.alloc (.cells #[.bool n, .slice a l c] 33) = W1) := hW1
  have hz1 : W1.heap.size = w1.heap.size + 1 := by rw [← hW1]; simp
  have hle1 : w.heap.size + 2 ≤ w1.heap.size := by have := hb1.size; omega
  have HB1 : Hid (Below W0.heap.size W0 W1) := by rw [← hW1]; exact hb1.alloc hb1.size _
  have HR1 : Hid (ReadI W0.heap.size W1 s n a l c) := by rw [← hW1]; exact hr1.below (below_alloc _ _)
  have hx0 : W1.cell? ⟨w1.heap.size, 0, none⟩ = some (.bool n) := by rw [← hW1, World.cell?_alloc_at _ _ _ _ rfl]; rfl
  have hx1 : W1.cell? ⟨w1.heap.size, 1, none⟩ = some (.slice a l c) := by rw [← hW1, World.cell?_alloc_at _ _ _ _ rfl]; rfl
  have HX0 : Hid (W1.cell? ⟨w1.heap.size, 0, none⟩ = some (.bool n)) := hx0
  have HX1 : Hid (W1.cell? ⟨w1.heap.size, 1, none⟩ = some (.slice a l c)) := hx1
  clear hW1 hx0 hx1 hb1 hr1
  obtain ⟨bs, hbs⟩ : ∃ x, isIntB s = x := ⟨_, rfl⟩
  have HBS : Hid (isIntB s = bs) := hbs
  rw [hbs]
  clear hbs
  go_wp2_with fail
  rw [HW1.out]
  refine (readInteger_any t W1 ht).mono ?_
  rintro e w2 ⟨n', a', l', c', rfl, hr2, hb2⟩
  have hle2 : w1.heap.size + 1 ≤ w2.heap.size := by have := hb2.size; omega
  obtain ⟨W2, hW2⟩ : ∃ W2, w2.alloc (.cells #[.bool n', .slice a' l' c'] 33) = W2 := ⟨_, rfl⟩
  have HW2 : Hid (w2.alloc (.cells #[.bool n', .slice a' l' c'] 33) = W2) := hW2
  have HB2 : Hid (Below W1.heap.size W1 W2) := by rw [← hW2]; exact hb2.alloc hb2.size _
  have HR2 : Hid (ReadI W1.heap.size W2 t n' a' l' c') := by rw [← hW2]; exact hr2.below (below_alloc _ _)
  have y0 : W2.cell? ⟨w1.heap.size, 0, none⟩ = some (.bool n) := by rw [HB2.out.cell (p := ⟨w1.heap.size, 0, none⟩) (by show w1.heap.size < W1.heap.size; omega)]; exact HX0.out
  have y1 : W2.cell? ⟨w1.heap.size, 1, none⟩ = some (.slice a l c) := by rw [HB2.out.cell (p := ⟨w1.heap.size, 1, none⟩) (by show w1.heap.size < W1.heap.size; omega)]; exact HX1.out
  have v0 : W2.cell? ⟨w2.heap.size, 0, none⟩ = some (.bool n') := by rw [← hW2, World.cell?_alloc_at _ _ _ _ rfl]; rfl
  have v1 : W2.cell? ⟨w2.heap.size, 1, none⟩ = some (.slice a' l' c') := by rw [← hW2, World.cell?_alloc_at _ _ _ _ rfl]; rfl
  clear hr2 hb2 hW2
  have p0 : W2.cell? ⟨w.heap.size, 0, none⟩ = some (.bool false) := by
    rw [HB2.out.cell (p := ⟨w.heap.size, 0, none⟩) (by show w.heap.size < W1.heap.size; omega), HB1.out.cell (p := ⟨w.heap.size, 0, none⟩) (by show w.heap.size < W0.heap.size; omega)]
    rw [← HW0.out, World.cell?_alloc_past _ _ _ (by simp), World.cell?_alloc_at _ _ _ _ rfl]; rfl
  have pf0 : W2.frozen? ⟨w.heap.size, 0, none⟩ = false := by
    rw [HB2.out.frozen (p := ⟨w.heap.size, 0, none⟩) (by show w.heap.size < W1.heap.size; omega), HB1.out.frozen (p := ⟨w.heap.size, 0, none⟩) (by show w.heap.size < W0.heap.size; omega)]
    rw [← HW0.out, (below_alloc (w.alloc (.cells #[.bool false, .slice none 0 0] 33)) _).frozen (p := ⟨w.heap.size, 0, none⟩) (by simp), World.frozen?_alloc_at _ _ _ _ rfl]
  have p1 : W2.cell? ⟨w.heap.size, 1, none⟩ = some (.slice none 0 0) := by
    rw [HB2.out.cell (p := ⟨w.heap.size, 1, none⟩) (by show w.heap.size < W1.heap.size; omega), HB1.out.cell (p := ⟨w.heap.size, 1, none⟩) (by show w.heap.size < W0.heap.size; omega)]
    rw [← HW0.out, World.cell?_alloc_past _ _ _ (by simp), World.cell?_alloc_at _ _ _ _ rfl]; rfl
  have pf1 : W2.frozen? ⟨w.heap.size, 1, none⟩ = false := by
    rw [HB2.out.frozen (p := ⟨w.heap.size, 1, none⟩) (by show w.heap.size < W1.heap.size; omega), HB1.out.frozen (p := ⟨w.heap.size, 1, none⟩) (by show w.heap.size < W0.heap.size; omega)]
    rw [← HW0.out, (below_alloc (w.alloc (.cells #[.bool false, .slice none 0 0] 33)) _).frozen (p := ⟨w.heap.size, 1, none⟩) (by simp), World.frozen?_alloc_at _ _ _ _ rfl]
  have q0 : W2.cell? ⟨w.heap.size + 1, 0, none⟩ = some (.bool false) := by
    rw [HB2.out.cell (p := ⟨w.heap.size + 1, 0, none⟩) (by show w.heap.size + 1 < W1.heap.size; omega), HB1.out.cell (p := ⟨w.heap.size + 1, 0, none⟩) (by show w.heap.size + 1 < W0.heap.size; omega)]
    rw [← HW0.out, World.cell?_alloc_at _ _ _ _ (by simp)]; rfl
  have qf0 : W2.frozen? ⟨w.heap.size + 1, 0, none⟩ = false := by
    rw [HB2.out.frozen (p := ⟨w.heap.size + 1, 0, none⟩) (by show w.heap.size + 1 < W1.heap.size; omega), HB1.out.frozen (p := ⟨w.heap.size + 1, 0, none⟩) (by show w.heap.size + 1 < W0.heap.size; omega)]
    rw [← HW0.out, World.frozen?_alloc_at _ _ _ _ (by simp)]
  have q1 : W2.cell? ⟨w.heap.size + 1, 1, none⟩ = some (.slice none 0 0) := by
    rw [HB2.out.cell (p := ⟨w.heap.size + 1, 1, none⟩) (by show w.heap.size + 1 < W1.heap.size; omega), HB1.out.cell (p := ⟨w.heap.size + 1, 1, none⟩) (by show w.heap.size + 1 < W0.heap.size; omega)]
    rw [← HW0.out, World.cell?_alloc_at _ _ _ _ (by simp)]; rfl
  have qf1 : W2.frozen? ⟨w.heap.size + 1, 1, none⟩ = false := by
    rw [HB2.out.frozen (p := ⟨w.heap.size + 1, 1, none⟩) (by show w.heap.size + 1 < W1.heap.size; omega), HB1.out.frozen (p := ⟨w.heap.size + 1, 1, none⟩) (by show w.heap.size + 1 < W0.heap.size; omega)]
    rw [← HW0.out, World.frozen?_alloc_at _ _ _ _ (by simp)]
  have HEND : Hid (Below w.heap.size w W2) := HB0.out.trans ((HB1.out.mono (by omega)).trans (HB2.out.mono (by omega)))
  have HR1' : Hid (ReadI (w.heap.size + 2) W2 s n a l c) := by
    have h0 := HR1.out.below HB2.out
    rw [hz0] at h0; exact h0
  have HR2' : Hid (ReadI (w.heap.size + 2) W2 t n' a' l' c') := HR2.out.mono (by omega)
  obtain ⟨bt, hbt⟩ : ∃ x, isIntB t = x := ⟨_, rfl⟩
  have HBT : Hid (isIntB t = bt) := hbt
  rw [hbt]
  clear hbt
  cases bs
  all_goals
    go_wp2
    rw [HW2.out]
    go_region
    go_wp2
    refine bodyPost_ret (v := .tuple #[.agg #[.bool n, .slice a l c], .agg #[.bool n', .slice a' l' c'], .bool (_ && bt)]) ?_ rfl ⟨n, a, l, c, n', a', l', c', by rw [HBS.out, HBT.out], ?_, ?_, ?_⟩
    · simp [results, Tryd.results17, go_sem, p0, p1, q0, q1]
    · exact ((((HR1'.out.setCell _ _ (by show w.heap.size < _; omega)).setCell _ _ (by show w.heap.size < _; omega)).setCell _ _ (by show w.heap.size + 1 < _; omega)).setCell _ _ (by show w.heap.size + 1 < _; omega)).mono (by omega)
    · exact ((((HR2'.out.setCell _ _ (by show w.heap.size < _; omega)).setCell _ _ (by show w.heap.size < _; omega)).setCell _ _ (by show w.heap.size + 1 < _; omega)).setCell _ _ (by show w.heap.size + 1 < _; omega)).mono (by omega)
    · exact ((((HEND.out.setCell (Nat.le_refl _) _).setCell (Nat.le_refl _) _).setCell (Nat.le_succ _) _).setCell (Nat.le_succ _) _).drew
end Go.Proofs.YtpjnglcojamfmaaDoor
