import Derived.Test.YtfmpapcfhoomkaaGreatDoorK1p
import Derived.Test.YtfmpapcfhoomkaaGreatDoorTimesp
import Derived.Deep.RegionHeld3
import Derived.Test.YtfmpapcfhoomkaaGreatDoorRatFp
namespace Go.Proofs.YtfmpapcfhoomkaaGreatDoor
open Go.ChangeShapes Go.WideShapes Go.ChangeAt Go.RowKit
theorem compareI_any (B : Nat) (za zb : Value) (x y : Int) (n m : Nat) (w : World) (ha : IsI B w za x n) (hb : IsI B w zb y m) (h : SP w) :
 Calls Tryz.prog 42 #[za, zb] w fun e w' => e = .returned (.int .i64 (ordI x y)) ∧ Up w w' := by
 obtain ⟨na, va, a, rfl, hva, ta, rfl, _⟩ := ha; obtain ⟨nb, vb, b, rfl, hvb, tb, rfl, _⟩ := hb; have oa : okL a := by obtain ⟨_, _, _, _, _, o, _⟩ := hva; exact o
 have ob : okL b := by obtain ⟨_, _, _, _, _, o, _⟩ := hvb; exact o
 refine (compare_any B _ _ va vb a b w hva hvb h).mono ?_; rintro e w' ⟨rfl, hb⟩; exact ⟨by rw [cmpI_ord na nb a b oa ob ta tb], hb⟩
structure BxQ (h : Nat) (W : World) (s1 : Bool) (p1 : Option Addr) (l1 c1 : Nat) (s2 : Bool) (p2 : Option Addr) (l2 c2 : Nat) (s3 : Bool) (p3 : Option Addr) (l3 c3 : Nat) (s4 : Bool) (p4 : Option Addr) (l4 c4 : Nat) : Prop where
 a : Bx W h [.bool s1, .slice p1 l1 c1, .bool s2, .slice p2 l2 c2]
 b : Bx W (h + 1) [.bool s3, .slice p3 l3 c3, .bool s4, .slice p4 l4 c4]
theorem BxQ.below {h N : Nat} {W W' : World} {s1 : Bool} {p1 : Option Addr} {l1 c1 : Nat} {s2 : Bool} {p2 : Option Addr} {l2 c2 : Nat} {s3 : Bool} {p3 : Option Addr} {l3 c3 : Nat} {s4 : Bool} {p4 : Option Addr} {l4 c4 : Nat} (m : BxQ h W s1 p1 l1 c1 s2 p2 l2 c2 s3 p3 l3 c3 s4 p4 l4 c4) (hN : h + 2 ≤ N) (hb : Below N W W') : BxQ h W' s1 p1 l1 c1 s2 p2 l2 c2 s3 p3 l3 c3 s4 p4 l4 c4 :=
 ⟨m.a.below (by omega) hb, m.b.below (by omega) hb⟩
theorem BxQ.held {h : Nat} {W : World} {s1 : Bool} {p1 : Option Addr} {l1 c1 : Nat} {s2 : Bool} {p2 : Option Addr} {l2 c2 : Nat} {s3 : Bool} {p3 : Option Addr} {l3 c3 : Nat} {s4 : Bool} {p4 : Option Addr} {l4 c4 : Nat} (m : BxQ h W s1 p1 l1 c1 s2 p2 l2 c2 s3 p3 l3 c3 s4 p4 l4 c4) : W.cell? ⟨h, 0, none⟩ = some (.bool s1) ∧ W.cell? ⟨h, 1, none⟩ = some (.slice p1 l1 c1) ∧ W.cell? ⟨h, 2, none⟩ = some (.bool s2) ∧ W.cell? ⟨h, 3, none⟩ = some (.slice p2 l2 c2) ∧ W.cell? ⟨h + 1, 0, none⟩ = some (.bool s3) ∧ W.cell? ⟨h + 1, 1, none⟩ = some (.slice p3 l3 c3) ∧ W.cell? ⟨h + 1, 2, none⟩ = some (.bool s4) ∧ W.cell? ⟨h + 1, 3, none⟩ = some (.slice p4 l4 c4) :=
 ⟨m.a.cell 0, m.a.cell 1, m.a.cell 2, m.a.cell 3, m.b.cell 0, m.b.cell 1, m.b.cell 2, m.b.cell 3⟩
set_option maxRecDepth 100000 in
set_option maxHeartbeats 4000000 in
theorem compareQ_any (B : Nat) (za zb : Value) (x1 y1 x2 y2 : Int) (n : Nat) (w : World) (_hBw : B ≤ w.heap.size) (ha : IsQR B w za x1 y1 n) (hb : IsQR B w zb x2 y2 n) (hn : n ≤ 10000) (hSP : SP w) :
 Calls Tryz.prog 79 #[za, zb] w fun e w' => e = .returned (.int .i64 (ordI (x1 * y2) (x2 * y1))) ∧ Up w w' := by
 obtain ⟨s1, p1, l1, c1, s2, p2, l2, c2, rfl, h1, h2⟩ := ha.shape; obtain ⟨s3, p3, l3, c3, s4, p4, l4, c4, rfl, h3, h4⟩ := hb.shape; have H1 := Hd h1; have H2 := Hd h2; have H3 := Hd h3; have H4 := Hd h4; have HSP := Hd hSP; clear ha hb h1 h2 h3 h4 hSP; obtain ⟨W0, hW0⟩ := exW ((w.alloc (.cells #[.bool s1, .slice p1 l1 c1, .bool s2, .slice p2 l2 c2] 64)).alloc (.cells #[.bool s3, .slice p3 l3 c3, .bool s4, .slice p4 l4 c4] 64)); have HW0 := Hd hW0; have HB0 : Hid (Up w W0) := by unfold Hid; rw [← hW0]; exact below_al (below_alloc _ _) _
 have hx0 : BxQ w.heap.size W0 s1 p1 l1 c1 s2 p2 l2 c2 s3 p3 l3 c3 s4 p4 l4 c4 := by
  refine ⟨?_, ?_⟩
  ·rw [← hW0]; exact (bx_new w _ _).alloc _
  rw [← hW0]; have h := bx_new (w.alloc (.cells #[.bool s1, .slice p1 l1 c1, .bool s2, .slice p2 l2 c2] 64)) [.bool s3, .slice p3 l3 c3, .bool s4, .slice p4 l4 c4] 64; rw [World.size_alloc] at h; exact h
 have HX : Hid (∀ W, Up W0 W → BxQ w.heap.size W s1 p1 l1 c1 s2 p2 l2 c2 s3 p3 l3 c3 s4 p4 l4 c4) := fun W hW => hx0.below hx0.b.lt hW; have T1 : Hid (∀ W, Up W0 W → Calls Tryz.prog 109 #[.agg #[.bool s1, .slice p1 l1 c1], .agg #[.bool s4, .slice p4 l4 c4]] W (fun e w' => ∃ z, e = .returned z ∧ IsI 0 w' z (x1 * y2) (n + n) ∧ Up W w')) := fun W hW => by
  refine (times_any B _ _ _ _ n n W ((H1.o.below HB0.o).below hW) ((H4.o.below HB0.o).below hW) (by omega) (by omega) ((HSP.o.below HB0.o).below hW)).mono ?_; rintro e w' ⟨z, rfl, hz, hb⟩; exact ⟨z, rfl, hz.mono (Nat.zero_le _) leR, hb⟩
 have T2 : Hid (∀ W, Up W0 W → Calls Tryz.prog 109 #[.agg #[.bool s3, .slice p3 l3 c3], .agg #[.bool s2, .slice p2 l2 c2]] W (fun e w' => ∃ z, e = .returned z ∧ IsI 0 w' z (x2 * y1) (n + n) ∧ Up W w')) := fun W hW => by
  refine (times_any B _ _ _ _ n n W ((H3.o.below HB0.o).below hW) ((H2.o.below HB0.o).below hW) (by omega) (by omega) ((HSP.o.below HB0.o).below hW)).mono ?_; rintro e w' ⟨z, rfl, hz, hb⟩; exact ⟨z, rfl, hz.mono (Nat.zero_le _) leR, hb⟩
 obtain ⟨k0, k1, k2, k3⟩ := hx0.a.c4; obtain ⟨j0, j1, j2, j3⟩ := hx0.b.c4; clear hW0 hx0
 go_enter Tryz.func79, Tryz.ntmps79
 go_upto_region 1 with fail
 rw [HW0.o]
 go_wp2_with fail
 go_region_held3 (fun W => W.cell? ⟨w.heap.size, 0, none⟩ = some (.bool s1) ∧ W.cell? ⟨w.heap.size, 1, none⟩ = some (.slice p1 l1 c1) ∧ W.cell? ⟨w.heap.size, 2, none⟩ = some (.bool s2) ∧ W.cell? ⟨w.heap.size, 3, none⟩ = some (.slice p2 l2 c2) ∧ W.cell? ⟨w.heap.size + 1, 0, none⟩ = some (.bool s3) ∧ W.cell? ⟨w.heap.size + 1, 1, none⟩ = some (.slice p3 l3 c3) ∧ W.cell? ⟨w.heap.size + 1, 2, none⟩ = some (.bool s4) ∧ W.cell? ⟨w.heap.size + 1, 3, none⟩ = some (.slice p4 l4 c4)) (first
  | assumption | go_keep) (first
  | (go_at_call_of 109 (Value.slice p1 l1 c1)
     refine (T1.o _ ?_).mono ?_
     ·exact (Below.refl _ W0).drew
     rintro e wa ⟨u, rfl, hu, hba⟩; have HU := Hd hu; have HBA : Hid (Up W0 wa) := (Below.refl _ W0).drew.trans hba; have hSa := (HX.o wa HBA.o).held; clear hu hba)
  | (go_at_call_of 109 (Value.slice p3 l3 c3)
     refine (T2.o _ ?_).mono ?_
     ·exact HBA.o
     rintro e wb ⟨v, rfl, hv, hbb⟩; have HV := Hd hv; have HBB := Hd (HBA.o.trans (hbb.mono HBA.o.size)); have HU2 := Hd (HU.o.below hbb); have hSb := (HX.o wb HBB.o).held; clear hv hbb)
  | (go_at_call 42
     refine (compareI_any 0 _ _ _ _ _ _ _ HU2.o HV.o ((HSP.o.below HB0.o).below HBB.o)).mono ?_; rintro e wc ⟨rfl, hbc⟩; have hSc := (HX.o wc (HBB.o.trans (hbc.mono HBB.o.size))).held; have HBC := Hd (HB0.o.trans ((HBB.o.trans (hbc.mono HBB.o.size)).mono HB0.o.size)); clear hbc))
 all_goals
  go_wp2
  go_ret
  exact ⟨rfl, HBC.o⟩
theorem IsI.setC {B : Nat} {w : World} {z : Value} {x : Int} {n : Nat} (h : IsI B w z x n) (p : Addr) (u : Value) (hp : p.block < B) : IsI B (w.setCell p u) z x n := by
 obtain ⟨neg, v, t, e, hL, r⟩ := h; exact ⟨neg, v, t, e, hL.setCell p u hp, r⟩
theorem IsQR.setC {B : Nat} {w : World} {z : Value} {x y : Int} {n : Nat} (h : IsQR B w z x y n) (p : Addr) (u : Value) (hp : p.block < B) : IsQR B (w.setCell p u) z x y n := by
 obtain ⟨s1, v1, s2, v2, e, h1, h2⟩ := h; exact ⟨s1, v1, s2, v2, e, h1.setC p u hp, h2.setC p u hp⟩
theorem ReadR.setC {B : Nat} {w : World} {s : ByteArray} {k : Option Nat} {z : Value} {ok : Bool} (h : ReadR B w s k z ok) (p : Addr) (u : Value) (hp : p.block < B) : ReadR B (w.setCell p u) s k z ok :=
 ⟨h.1, h.2.1, fun ho => by obtain ⟨x, y, hv, hq⟩ := h.2.2 ho; exact ⟨x, y, hv, hq.setC p u hp⟩⟩
theorem ReadR.below {B : Nat} {w w' : World} {s : ByteArray} {k : Option Nat} {z : Value} {ok : Bool} (h : ReadR B w s k z ok) (hb : Up w w') : ReadR B w' s k z ok :=
 ⟨h.1, h.2.1, fun ho => by obtain ⟨x, y, hv, hq⟩ := h.2.2 ho; exact ⟨x, y, hv, hq.below hb⟩⟩
theorem ReadR.mono {B B' : Nat} {w : World} {s : ByteArray} {k : Option Nat} {z : Value} {ok : Bool} (h : ReadR B w s k z ok) (hb : B' ≤ B) : ReadR B' w s k z ok :=
 ⟨h.1, h.2.1, fun ho => by obtain ⟨x, y, hv, hq⟩ := h.2.2 ho; exact ⟨x, y, hv, hq.mono hb leR⟩⟩
theorem ReadR.drew {B : Nat} {w : World} {s : ByteArray} {k : Option Nat} {z : Value} {ok : Bool} (h : ReadR B w s k z ok) : ReadR B w.drew s k z ok := h.below (Below.refl _ w).drew
theorem ReadR.put {B : Nat} {w : World} {s : ByteArray} {k : Option Nat} {z : Value} {ok : Bool} (h : ReadR B w s k z ok) (g : Nat) (hg : g < B) (u0 u1 u2 u3 : Value) : ReadR B ((((w.setCell ⟨g, 0, none⟩ u0).setCell ⟨g, 1, none⟩ u1).setCell ⟨g, 2, none⟩ u2).setCell ⟨g, 3, none⟩ u3) s k z ok :=
 (((h.setC _ _ hg).setC _ _ hg).setC _ _ hg).setC _ _ hg
def lb (k : Nat) : Nat := 1000000000 ^ k
theorem lb_mul {a b : Nat} (k m : Nat) (ha : a < lb k) (hb : b < lb m) : a * b < lb (k + m) := by
 unfold lb at *; rw [Nat.pow_add]; exact Nat.mul_lt_mul'' ha hb
theorem lb_add {a b : Nat} (k : Nat) (ha : a < lb k) (hb : b < lb k) : a + b < lb (k + 1) := by
 unfold lb at *; rw [Nat.pow_succ]; omega
theorem lb_le {a : Nat} (k m : Nat) (h : k ≤ m) (ha : a < lb k) : a < lb m := Nat.lt_of_lt_of_le ha (Nat.pow_le_pow_right (by decide) h)
theorem lb_one (k : Nat) (h : 0 < k) : 1 < lb k := Nat.one_lt_pow (by omega) (by decide)
theorem len_lt (t : List Nat) (htr : isTrim t) (k : Nat) (h : val t < lb k) : t.length ≤ k := by
 by_cases hne : t = []
 ·rw [hne]; exact Nat.zero_le _
 have h1 := val_ge t htr hne; have h2 : t.length - 1 < k := by
  rcases Nat.lt_or_ge (t.length - 1) k with h3 | h3
  ·exact h3
  have h4 := Nat.pow_le_pow_right (n := 1000000000) (by decide) h3; unfold lb at h; omega
 omega
theorem IsI.tight {B : Nat} {w : World} {z : Value} {x : Int} {n k : Nat} (h : IsI B w z x n) (hx : x.natAbs < lb k) : IsI B w z x k := by
 obtain ⟨neg, v, t, e, hL, ht, hv, _⟩ := h; exact ⟨neg, v, t, e, hL, ht, hv, len_lt t ht k (by rw [← hv, sg_abs] at hx; exact hx)⟩
theorem IsQR.tight {B : Nat} {w : World} {z : Value} {x y : Int} {n k : Nat} (h : IsQR B w z x y n) (hx : x.natAbs < lb k) (hy : y.natAbs < lb k) : IsQR B w z x y k := by
 obtain ⟨s1, v1, s2, v2, e, h1, h2⟩ := h; exact ⟨s1, v1, s2, v2, e, h1.tight hx, h2.tight hy⟩
theorem numZ_lt {B : Nat} {w : World} {z : Value} {v : Int} {k : Nat} (h : IsN B w z v) (hv : v.natAbs < lb k) : NumZ B w z v k := by
 obtain ⟨neg, t, hz, hx⟩ := h; exact ⟨neg, t, hz, hx, len_lt t hz.2.1 k (by rw [← hx, sg_abs] at hv; exact hv)⟩
theorem numZ_le {B : Nat} {w : World} {z : Value} {v : Int} {k n : Nat} (h : NumZ B w z v k) (hn : k ≤ n) : NumZ B w z v n := by
 obtain ⟨neg, t, hz, hx, hl⟩ := h; exact ⟨neg, t, hz, hx, Nat.le_trans hl hn⟩
theorem lim_ok (s : ByteArray) (h : isIntB s = true) : okL (lim s) := by
 unfold isIntB at h; simp only [Bool.and_eq_true, Bool.or_eq_true, decide_eq_true_eq, Bool.not_eq_true', decide_eq_false_iff_not, List.all_eq_true] at h; obtain ⟨⟨⟨h1, h2⟩, h3⟩, h4⟩ := h; have hdig : ∀ c ∈ (dgs s).data.toList, dig c := fun c hc => by have := h3 c hc; unfold isDig at this; simpa [dig] using this
 exact trimL_ok _ (chunks_ok _ hdig)
theorem val_lb (t : List Nat) (ho : okL t) (k : Nat) (hk : t.length ≤ k) : val t < lb k := val_lt_of t ho k hk
theorem lim_lt (s : ByteArray) (h : isIntB s = true) : val (lim s) < lb 280 := val_lb (lim s) (lim_ok s h) 280 (lim_len' s h)
theorem numT_lt (s : ByteArray) (h : isIntB s = true) : (numT s).natAbs < lb 280 := by
 unfold numT; rw [sg_abs]; exact lim_lt s h
theorem ratV_lt {s : ByteArray} {k : Option Nat} {x y : Int} (h : RatV s k x y) : x.natAbs < lb 280 ∧ y.natAbs < lb 280 ∧ 0 < y := by
 cases k with
 | none =>
   refine ⟨by rw [h.2.1]; exact numT_lt s h.1, ?_, by rw [h.2.2]; decide⟩; rw [h.2.2]; exact lb_one 280 (by decide)
 | some i =>
   refine ⟨by rw [h.2.2.1]; exact numT_lt _ h.1.1, by rw [h.2.2.2]; exact numT_lt _ h.1.2, ?_⟩; have h1 := numT_pos _ h.2.1.2.2.2.1; have h2 := h.2.1.1; rw [h.2.2.2]; omega
theorem mul_lt {x y : Int} (hx : x.natAbs < lb 280) (hy : y.natAbs < lb 280) : (x * y).natAbs < lb 560 := by
 rw [Int.natAbs_mul]; exact lb_mul 280 280 hx hy
theorem add_lt {x y : Int} (hx : x.natAbs < lb 560) (hy : y.natAbs < lb 560) : (x + y).natAbs < lb 561 := by
 exact Nat.lt_of_le_of_lt (Int.natAbs_add_le x y) (lb_add 560 hx hy)
structure BxR (h : Nat) (W : World) (s1 : Bool) (p1 : Option Addr) (l1 c1 : Nat) (s2 : Bool) (p2 : Option Addr) (l2 c2 : Nat) (s3 : Bool) (p3 : Option Addr) (l3 c3 : Nat) (s4 : Bool) (p4 : Option Addr) (l4 c4 : Nat) : Prop where
 a : Bx W h [.bool s1, .slice p1 l1 c1, .bool s2, .slice p2 l2 c2]
 b : Bx W (h + 1) [.bool s3, .slice p3 l3 c3, .bool s4, .slice p4 l4 c4]
 r : Bx W (h + 1 + 1) [.bool false, .slice none 0 0, .bool false, .slice none 0 0]
theorem BxR.below {h N : Nat} {W W' : World} {s1 : Bool} {p1 : Option Addr} {l1 c1 : Nat} {s2 : Bool} {p2 : Option Addr} {l2 c2 : Nat} {s3 : Bool} {p3 : Option Addr} {l3 c3 : Nat} {s4 : Bool} {p4 : Option Addr} {l4 c4 : Nat} (m : BxR h W s1 p1 l1 c1 s2 p2 l2 c2 s3 p3 l3 c3 s4 p4 l4 c4) (hN : h + 3 ≤ N) (hb : Below N W W') : BxR h W' s1 p1 l1 c1 s2 p2 l2 c2 s3 p3 l3 c3 s4 p4 l4 c4 :=
 ⟨m.a.below (by omega) hb, m.b.below (by omega) hb, m.r.below (by omega) hb⟩
theorem BxR.held {h : Nat} {W : World} {s1 : Bool} {p1 : Option Addr} {l1 c1 : Nat} {s2 : Bool} {p2 : Option Addr} {l2 c2 : Nat} {s3 : Bool} {p3 : Option Addr} {l3 c3 : Nat} {s4 : Bool} {p4 : Option Addr} {l4 c4 : Nat} (m : BxR h W s1 p1 l1 c1 s2 p2 l2 c2 s3 p3 l3 c3 s4 p4 l4 c4) : W.cell? ⟨h, 0, none⟩ = some (.bool s1) ∧ W.cell? ⟨h, 1, none⟩ = some (.slice p1 l1 c1) ∧ W.cell? ⟨h, 2, none⟩ = some (.bool s2) ∧ W.cell? ⟨h, 3, none⟩ = some (.slice p2 l2 c2) ∧ W.cell? ⟨h + 1, 0, none⟩ = some (.bool s3) ∧ W.cell? ⟨h + 1, 1, none⟩ = some (.slice p3 l3 c3) ∧ W.cell? ⟨h + 1, 2, none⟩ = some (.bool s4) ∧ W.cell? ⟨h + 1, 3, none⟩ = some (.slice p4 l4 c4) :=
 ⟨m.a.cell 0, m.a.cell 1, m.a.cell 2, m.a.cell 3, m.b.cell 0, m.b.cell 1, m.b.cell 2, m.b.cell 3⟩
end Go.Proofs.YtfmpapcfhoomkaaGreatDoor
