import Derived.Test.YtfhgfclfhghlcaaDoorSmall
import Derived.Test.YtfhgfclfhghlcaaDoorSubD
import Derived.Test.YtfhgfclfhghlcaaDoorCmpSpec
namespace Go.Proofs.YtfhgfclfhghlcaaDoor
open Go.ChangeShapes Go.WideShapes Go.ChangeAt Go.RowKit
theorem sg_negOf (n : Bool) (t : List Nat) : sg (negOf n t) (val t) = sg n (val t) := by
  cases t with
  | nil => cases n <;> simp [negOf, sg, val]
  | cons a t => simp [negOf]
theorem sg_not (n : Bool) (v : Nat) : sg (!n) v = -sg n v := by cases n <;> simp [sg]
theorem sg_add (s : Bool) (u v : Nat) : sg s (u + v) = sg s u + sg s v := by cases s <;> simp [sg] <;> omega
theorem sg_sub (s : Bool) (d u v : Nat) (h : d + v = u) : sg s d = sg s u + sg (!s) v := by cases s <;> simp [sg] <;> omega
theorem sg_lt (s : Bool) (t : List Nat) (hok : okL t) (h2 : t.length ≤ 2) : -1000000000000000000 < sg s (val t) ∧ sg s (val t) < 1000000000000000000 := by
  have h := vfrom_lt t hok 0 (by omega)
  unfold vfrom at h
  rw [List.drop_zero] at h
  cases s <;> simp [sg] <;> omega
set_option maxHeartbeats 400000 in
theorem l1Minus_any (B : Nat) (z : Value) (neg : Bool) (t : List Nat) (w : World) (h : IsZ B w z neg t) :
    Calls Tryd.prog 63 #[z] w fun e w' => ∃ z', e = .returned z' ∧ IsZ B w' z' (!neg) t ∧ Below w.heap.size w w' := by
  have HZ : Hid (IsZ B w z neg t) := h
  obtain ⟨hok, htr, h⟩ := h
  rcases h with ⟨h2, v, rfl, a, cap, rfl, hl, hcap, _, _⟩ | ⟨h2, rfl⟩
  · have hp : 0 < t.length := by omega
    unfold maxLen at hcap
    have ez : ((t.length : Int) == 0) = false := by rw [beq_eq_false_iff_ne]; omega
    go_enter Tryd.func63, Tryd.ntmps63
    go_wp2_with (go_at_call 47; refine (l1IsSmall_ex _ _ _ _ _ _).mono ?_; rintro e w' ⟨rfl, rfl⟩)
    refine bodyPost_ret (v := .agg #[.int .i64 0, .bool !neg, .slice a t.length cap]) ?_ rfl ⟨_, rfl, ⟨hok, htr, .inl ⟨h2, _, rfl, ?_⟩⟩, below_al (below_al (below_alloc _ _) _) _⟩
    · simp [results, Tryd.results63, go_sem]
    · obtain ⟨_, _, h3⟩ := HZ.out
      rcases h3 with ⟨_, v, hv, hI⟩ | ⟨h4, _⟩
      · simp at hv
        subst hv
        exact hI.below (below_al (below_al (below_alloc _ _) _) _)
      · omega
  · obtain ⟨n, hn⟩ : ∃ n, sg neg (val t) = n := ⟨_, rfl⟩
    have hb := sg_lt neg t hok h2
    have HN : Hid (sg (!neg) (val t) = -n) := by rw [← hn]; exact sg_not neg (val t)
    have HR : Hid (okL t ∧ isTrim t ∧ t.length ≤ 2) := ⟨hok, htr, h2⟩
    rw [hn] at hb ⊢
    obtain ⟨hb1, hb2⟩ := hb
    clear hn HZ
    go_enter Tryd.func63, Tryd.ntmps63
    go_wp2_with (go_at_call 47; refine (l1IsSmall_ex _ _ _ _ _ _).mono ?_; rintro e w' ⟨rfl, rfl⟩)
    refine bodyPost_ret (v := .agg #[.int .i64 (-n), .bool false, .slice none 0 0]) ?_ rfl ⟨_, rfl, ⟨HR.out.1, HR.out.2.1, .inr ⟨HR.out.2.2, by rw [HN.out]⟩⟩, below_al (below_al (below_alloc _ _) _) _⟩
    simp [results, Tryd.results63, go_sem]
/-- A whole number by its value. -/
def IsN (B : Nat) (w : World) (z : Value) (x : Int) : Prop := ∃ neg t, IsZ B w z neg t ∧ sg neg (val t) = x
theorem IsN.below {B : Nat} {w w' : World} {z : Value} {x : Int} (h : IsN B w z x) (hb : Below w.heap.size w w') : IsN B w' z x := by
  obtain ⟨neg, t, h1, h2⟩ := h
  exact ⟨neg, t, h1.below hb, h2⟩
theorem IsN.mono {B B' : Nat} {w : World} {z : Value} {x : Int} (h : IsN B w z x) (hb : B' ≤ B) : IsN B' w z x := by
  obtain ⟨neg, t, h1, h2⟩ := h
  exact ⟨neg, t, h1.mono hb, h2⟩
theorem IsN.setCell {B : Nat} {w : World} {z : Value} {x : Int} (h : IsN B w z x) (p : Addr) (u : Value) (hp : p.block < B) : IsN B (w.setCell p u) z x := by
  obtain ⟨neg, t, h1, h2⟩ := h
  exact ⟨neg, t, h1.setCell p u hp, h2⟩
theorem IsN.shape {B : Nat} {w : World} {z : Value} {x : Int} (h : IsN B w z x) : ∃ (z0 : Int) (zn : Bool) (za : Option Addr) (zl zc : Nat), z = .agg #[.int .i64 z0, .bool zn, .slice za zl zc] := by
  obtain ⟨neg, t, h1, h2⟩ := h
  exact h1.shape
/-- The three boxes of l1Add. -/
structure Boxes (g : Nat) (W : World) (x : Int) (xn : Bool) (pa : Option Addr) (la ca : Nat) (y : Int) (yn : Bool) (pb : Option Addr) (lb cb : Nat) : Prop where
  a0 : W.cell? ⟨g, 0, none⟩ = some (.int .i64 x)
  a1 : W.cell? ⟨g, 1, none⟩ = some (.bool xn)
  a2 : W.cell? ⟨g, 2, none⟩ = some (.slice pa la ca)
  b0 : W.cell? ⟨g + 1, 0, none⟩ = some (.int .i64 y)
  b1 : W.cell? ⟨g + 1, 1, none⟩ = some (.bool yn)
  b2 : W.cell? ⟨g + 1, 2, none⟩ = some (.slice pb lb cb)
  r0 : W.cell? ⟨g + 2, 0, none⟩ = some (.int .i64 0)
  r1 : W.cell? ⟨g + 2, 1, none⟩ = some (.bool false)
  r2 : W.cell? ⟨g + 2, 2, none⟩ = some (.slice none 0 0)
  f0 : W.frozen? ⟨g + 2, 0, none⟩ = false
  f1 : W.frozen? ⟨g + 2, 1, none⟩ = false
  f2 : W.frozen? ⟨g + 2, 2, none⟩ = false
theorem Boxes.below {g : Nat} {W W' : World} {x : Int} {xn : Bool} {pa : Option Addr} {la ca : Nat} {y : Int} {yn : Bool} {pb : Option Addr} {lb cb : Nat} (h : Boxes g W x xn pa la ca y yn pb lb cb) {N : Nat} (hN : g + 3 ≤ N) (hb : Below N W W') : Boxes g W' x xn pa la ca y yn pb lb cb := by
  have q : ∀ k, k < 3 → ∀ i, W'.cell? ⟨g + k, i, none⟩ = W.cell? ⟨g + k, i, none⟩ := fun k hk i => hb.cell (p := ⟨g + k, i, none⟩) (by show g + k < N; omega)
  have f : ∀ i, W'.frozen? ⟨g + 2, i, none⟩ = W.frozen? ⟨g + 2, i, none⟩ := fun i => hb.frozen (p := ⟨g + 2, i, none⟩) (by show g + 2 < N; omega)
  exact ⟨(q 0 (by omega) 0).trans h.a0, (q 0 (by omega) 1).trans h.a1, (q 0 (by omega) 2).trans h.a2, (q 1 (by omega) 0).trans h.b0, (q 1 (by omega) 1).trans h.b1, (q 1 (by omega) 2).trans h.b2, (q 2 (by omega) 0).trans h.r0, (q 2 (by omega) 1).trans h.r1, (q 2 (by omega) 2).trans h.r2, (f 0).trans h.f0, (f 1).trans h.f1, (f 2).trans h.f2⟩
theorem boxes_first (w : World) (x : Int) (xn : Bool) (pa : Option Addr) (la ca : Nat) (y : Int) (yn : Bool) (pb : Option Addr) (lb cb : Nat) (ty : TypeId) :
    Boxes w.heap.size (((w.alloc (.cells #[.int .i64 x, .bool xn, .slice pa la ca] ty)).alloc (.cells #[.int .i64 y, .bool yn, .slice pb lb cb] ty)).alloc (.cells #[.int .i64 0, .bool false, .slice none 0 0] ty)) x xn pa la ca y yn pb lb cb := by
  constructor
  · rw [World.cell?_alloc_past _ _ _ (by simp; omega), World.cell?_alloc_past _ _ _ (by simp), World.cell?_alloc_at _ _ _ _ rfl]; rfl
  · rw [World.cell?_alloc_past _ _ _ (by simp; omega), World.cell?_alloc_past _ _ _ (by simp), World.cell?_alloc_at _ _ _ _ rfl]; rfl
  · rw [World.cell?_alloc_past _ _ _ (by simp; omega), World.cell?_alloc_past _ _ _ (by simp), World.cell?_alloc_at _ _ _ _ rfl]; rfl
  · rw [World.cell?_alloc_past _ _ _ (by simp), World.cell?_alloc_at _ _ _ _ (by simp)]; rfl
  · rw [World.cell?_alloc_past _ _ _ (by simp), World.cell?_alloc_at _ _ _ _ (by simp)]; rfl
  · rw [World.cell?_alloc_past _ _ _ (by simp), World.cell?_alloc_at _ _ _ _ (by simp)]; rfl
  · rw [World.cell?_alloc_at _ _ _ _ (by simp)]; rfl
  · rw [World.cell?_alloc_at _ _ _ _ (by simp)]; rfl
  · rw [World.cell?_alloc_at _ _ _ _ (by simp)]; rfl
  · rw [World.frozen?_alloc_at _ _ _ _ (by simp)]
  · rw [World.frozen?_alloc_at _ _ _ _ (by simp)]
  · rw [World.frozen?_alloc_at _ _ _ _ (by simp)]
set_option maxRecDepth 100000 in
set_option maxHeartbeats 1000000 in
theorem l1Add_small (x y : Int) (w : World) (hx1 : -1000000000000000000 < x) (hx2 : x < 1000000000000000000) (hy1 : -1000000000000000000 < y) (hy2 : y < 1000000000000000000) :
    Calls Tryd.prog 26 #[.agg #[.int .i64 x, .bool false, .slice none 0 0], .agg #[.int .i64 y, .bool false, .slice none 0 0]] w fun e w' => ∃ z, e = .returned z ∧ IsN w.heap.size w' z (x + y) ∧ Below w.heap.size w w' := by
  have HX := boxes_first w x false none 0 0 y false none 0 0 34
  obtain ⟨W0, hW0⟩ : ∃ W0, (((w.alloc (.cells #[.int .i64 x, .bool false, .slice none 0 0] 34)).alloc (.cells #[.int .i64 y, .bool false, .slice none 0 0] 34)).alloc (.cells #[.int .i64 0, .bool false, .slice none 0 0] 34)) = W0 := ⟨_, rfl⟩
  have HW0 : Hid ((((w.alloc (.cells #[.int .i64 x, .bool false, .slice none 0 0] 34)).alloc (.cells #[.int .i64 y, .bool false, .slice none 0 0] 34)).alloc (.cells #[.int .i64 0, .bool false, .slice none 0 0] 34)) = W0) := hW0
  have HB0 : Hid (Below w.heap.size w W0) := by rw [← hW0]; exact below_al (below_al (below_alloc _ _) _) _
  have hsz : W0.heap.size = w.heap.size + 3 := by rw [← hW0]; simp
  have hlt0 : w.heap.size < W0.heap.size := by omega
  have hlt1 : w.heap.size + 1 < W0.heap.size := by omega
  have hlt2 : w.heap.size + 2 < W0.heap.size := by omega
  rw [hW0] at HX
  have HS : Hid (W0.heap.size = w.heap.size + 3) := hsz
  have HXX := HX
  obtain ⟨a0, a1, a2, b0, b1, b2, r0, r1, r2, f0, f1, f2⟩ := HX
  have HBX : Hid (Boxes w.heap.size W0 x false none 0 0 y false none 0 0) := HXX
  clear hW0 hsz HXX
  go_enter Tryd.func26, Tryd.ntmps26
  go_wp2_with fail
  rw [HW0.out]
  refine (l1IsSmall_ex _ _ _ _ _ _).mono ?_
  rintro e w' ⟨rfl, rfl⟩
  go_wp2_with (go_at_call 47; refine (l1IsSmall_ex _ _ _ _ _ _).mono ?_; rintro e w' ⟨rfl, rfl⟩)
  refine (l1Small_any _ _ (by omega) (by omega)).mono ?_
  rintro e w1 ⟨z, rfl, ⟨neg, t, hZ, hv, _⟩, hb1⟩
  have HN : Hid (IsN (w.heap.size + 3) w1 z (x + y)) := ⟨neg, t, hZ.mono (by have := HS.out; simp; omega), hv⟩
  have hbw : Below W0.heap.size W0 w1 := (below_al (below_alloc W0 _) _).trans (hb1.mono (by simp; omega))
  have HBW : Hid (Below w.heap.size w w1) := HB0.out.trans (hbw.mono (by omega))
  clear a0 a1 a2 b0 b1 b2 r0 r1 r2 f0 f1 f2
  obtain ⟨a0, a1, a2, b0, b1, b2, r0, r1, r2, f0, f1, f2⟩ := HBX.out.below (by have := HS.out; omega) hbw
  obtain ⟨z0, zn, za, zl, zc, hzz⟩ := hZ.shape
  subst hzz
  clear hZ hv hb1 hbw hlt0 hlt1 hlt2
  go_wp2
  refine bodyPost_ret ?_ rfl ⟨_, rfl, (((HN.out.setCell _ _ (by simp)).setCell _ _ (by simp)).setCell _ _ (by simp)).mono (by omega), ((HBW.out.setCell (by simp; omega) _).setCell (by simp; omega) _).setCell (by simp; omega) _⟩
  simp [results, Tryd.results26, go_sem, r0, r1, r2]
end Go.Proofs.YtfhgfclfhghlcaaDoor
