import Derived.Test.YtebldkelihmihaaGreatDoorSubLimbs
import Derived.Test.YtebldkelihmihaaGreatDoorAddLimbs
import Derived.Test.YtebldkelihmihaaGreatDoorSpecSum
import Derived.Test.YtebldkelihmihaaGreatDoorCmpImpl
namespace Go.Proofs.YtebldkelihmihaaGreatDoor
open Go.ChangeShapes Go.WideShapes Go.ChangeAt Go.RowKit
def IsI (B : Nat) (w : World) (z : Value) (x : Int) (n : Nat) : Prop := ∃ neg v t, z = .agg #[.bool (negOf neg t), v] ∧ IsL B w v t ∧ isTrim t ∧ sg neg (val t) = x ∧ t.length ≤ n
theorem field_sum (x z : Int) (y : Bool) (w : World) : (Instr.field 144 (.agg #[.int .i64 x, .bool y, .int .i64 z]) 0).run Tryz.prog w = .ok (.int .i64 x) w := by kernel_rfl
structure BoxI (g : Nat) (W : World) (x : Bool) (pa : Option Addr) (la ca : Nat) (y : Bool) (pb : Option Addr) (lb cb : Nat) : Prop where
  a0 : W.cell? ⟨g, 0, none⟩ = some (.bool x)
  a1 : W.cell? ⟨g, 1, none⟩ = some (.slice pa la ca)
  b0 : W.cell? ⟨g + 1, 0, none⟩ = some (.bool y)
  b1 : W.cell? ⟨g + 1, 1, none⟩ = some (.slice pb lb cb)
  r0 : W.cell? ⟨g + 2, 0, none⟩ = some (.bool false)
  r1 : W.cell? ⟨g + 2, 1, none⟩ = some (.slice none 0 0)
  f : ∀ k, k < 3 → ∀ i, W.frozen? ⟨g + k, i, none⟩ = false
theorem BoxI.below {g : Nat} {W W' : World} {x : Bool} {pa : Option Addr} {la ca : Nat} {y : Bool} {pb : Option Addr} {lb cb : Nat} (h : BoxI g W x pa la ca y pb lb cb) {N : Nat} (hN : g + 3 ≤ N) (hb : Below N W W') : BoxI g W' x pa la ca y pb lb cb := by
  have q : ∀ k, k < 3 → ∀ i, W'.cell? ⟨g + k, i, none⟩ = W.cell? ⟨g + k, i, none⟩ := fun k hk i => hb.cell (p := ⟨g + k, i, none⟩) (by show g + k < N; omega)
  have f : ∀ k, k < 3 → ∀ i, W'.frozen? ⟨g + k, i, none⟩ = W.frozen? ⟨g + k, i, none⟩ := fun k hk i => hb.frozen (p := ⟨g + k, i, none⟩) (by show g + k < N; omega)
  exact ⟨(q 0 (by omega) 0).trans h.a0, (q 0 (by omega) 1).trans h.a1, (q 1 (by omega) 0).trans h.b0, (q 1 (by omega) 1).trans h.b1, (q 2 (by omega) 0).trans h.r0, (q 2 (by omega) 1).trans h.r1, fun k hk i => (f k hk i).trans (h.f k hk i)⟩
theorem boxI_first (w : World) (x : Bool) (pa : Option Addr) (la ca : Nat) (y : Bool) (pb : Option Addr) (lb cb : Nat) (ty : TypeId) :
    BoxI w.heap.size (((w.alloc (.cells #[.bool x, .slice pa la ca] ty)).alloc (.cells #[.bool y, .slice pb lb cb] ty)).alloc (.cells #[.bool false, .slice none 0 0] ty)) x pa la ca y pb lb cb := by
  refine ⟨?_, ?_, ?_, ?_, ?_, ?_, ?_⟩
  · rw [World.cell?_alloc_past _ _ _ (by simp; omega), World.cell?_alloc_past _ _ _ (by simp), World.cell?_alloc_at _ _ _ _ rfl]; rfl
  · rw [World.cell?_alloc_past _ _ _ (by simp; omega), World.cell?_alloc_past _ _ _ (by simp), World.cell?_alloc_at _ _ _ _ rfl]; rfl
  · rw [World.cell?_alloc_past _ _ _ (by simp), World.cell?_alloc_at _ _ _ _ (by simp)]; rfl
  · rw [World.cell?_alloc_past _ _ _ (by simp), World.cell?_alloc_at _ _ _ _ (by simp)]; rfl
  · rw [World.cell?_alloc_at _ _ _ _ (by simp)]; rfl
  · rw [World.cell?_alloc_at _ _ _ _ (by simp)]; rfl
  · intro k hk i
    match k, hk with
    | 0, _ => rw [World.frozen?_alloc_past _ _ _ (by simp; omega), World.frozen?_alloc_past _ _ _ (by simp), World.frozen?_alloc_at _ _ _ _ (by simp)]
    | 1, _ => rw [World.frozen?_alloc_past _ _ _ (by simp), World.frozen?_alloc_at _ _ _ _ (by simp)]
    | 2, _ => rw [World.frozen?_alloc_at _ _ _ _ (by simp)]
set_option maxRecDepth 100000 in
set_option maxHeartbeats 1000000 in
theorem plus_same (B : Nat) (s : Bool) (va vb : Value) (a b : List Nat) (w : World) (ha : IsL B w va a) (hb : IsL B w vb b) (hla : a.length ≤ 100000) (hlb : b.length ≤ 100000) (hSP : SP w) :
    Calls Tryz.prog 80 #[.agg #[.bool s, va], .agg #[.bool s, vb]] w fun e w' => ∃ z, e = .returned z ∧ IsI w.heap.size w' z (sg s (val a) + sg s (val b)) (a.length + b.length + 1) ∧ Below w.heap.size w w' := by
  obtain ⟨pa, ca, rfl, _⟩ := id ha
  obtain ⟨pb, cb, rfl, _⟩ := id hb
  have HX := boxI_first w s pa a.length ca s pb b.length cb 82
  obtain ⟨W0, hW0⟩ : ∃ W0, (((w.alloc (.cells #[.bool s, .slice pa a.length ca] 82)).alloc (.cells #[.bool s, .slice pb b.length cb] 82)).alloc (.cells #[.bool false, .slice none 0 0] 82)) = W0 := ⟨_, rfl⟩
  have HW0 := hide hW0
  have hB0 : Below w.heap.size w W0 := by rw [← hW0]; exact below_al (below_al (below_alloc _ _) _) _
  have HB0 := hide hB0
  have hsz : W0.heap.size = w.heap.size + 3 := by rw [← hW0]; simp
  rw [hW0] at HX
  have HS := hide hsz
  have HBX : Hid (∀ W, Below W0.heap.size W0 W → BoxI w.heap.size W s pa a.length ca s pb b.length cb) := fun W hW => HX.below (by omega) hW
  have HA : Hid (∀ W, Below W0.heap.size W0 W → IsL B W (.slice pa a.length ca) a) := fun W hW => (ha.below hB0).below hW
  have HB : Hid (∀ W, Below W0.heap.size W0 W → IsL B W (.slice pb b.length cb) b) := fun W hW => (hb.below hB0).below hW
  have HSP : Hid (SP W0) := hSP.below hB0
  have HLA : Hid (a.length ≤ 100000 ∧ b.length ≤ 100000) := ⟨hla, hlb⟩
  obtain ⟨a0, a1, b0, b1, r0, r1, f⟩ := HX
  clear f hW0 hsz ha hb hB0 hla hlb hSP
  have HSG : Hid (sgSum s s = 0) := by cases s <;> rfl
  have hfd := field_sum
  go_enter Tryz.func80, Tryz.ntmps80
  go_wp2_with fail
  rw [HW0.out]
  refine (signsOf_any _ _ _ _ _ _ _ _ _ HSP.out).mono ?_
  rintro e ws ⟨rfl, hbs⟩
  rw [HSG.out]
  have HBS := hide hbs
  clear a0 a1 b0 b1 r0 r1 hbs
  obtain ⟨a0, a1, b0, b1, r0, r1, f⟩ := HBX.out ws HBS.out
  have f0 := f 2 (by omega) 0
  have f1 := f 2 (by omega) 1
  clear f
  go_wp2_with fail
  go_region_with (first
    | (go_at_call 106; refine (addLimbs_any B _ _ a b _ (HA.out _ ?_) (HB.out _ ?_) HLA.out.1 HLA.out.2).mono ?_
       · exact HBS.out.drew
       · exact HBS.out.drew
       rintro e wd ⟨v, L, rfl, hL, hval, hlen, htr, hbd⟩
       have HBD : Hid (Below W0.heap.size W0 wd) := HBS.out.drew.trans (hbd.mono HBS.out.size)
       have HL : Hid (IsL (w.heap.size + 3) wd v L) := hL.mono (by have := HBS.out.size; have := HS.out; show w.heap.size + 3 ≤ ws.heap.size; omega)
       have HV : Hid (val L = val a + val b ∧ L.length ≤ a.length + b.length + 1) := ⟨hval, by omega⟩
       obtain ⟨c0, c1, d0, d1, s0, s1, g⟩ := HBX.out wd HBD.out
       have g0 := g 2 (by omega) 0
       have g1 := g 2 (by omega) 1
       obtain ⟨pv, cv, hv, _⟩ := hL
       subst hv
       clear hval hlen htr hbd g)
    | (go_at_call 79; refine (makeInteger_any _ s _ L _ HL.out).mono ?_
       rintro e we ⟨v', rfl, hcut, hbe⟩
       have HBE : Hid (Below W0.heap.size W0 we) := HBD.out.trans (hbe.mono HBD.out.size)
       have HLE : Hid (IsL (w.heap.size + 3) we v' (trimL L)) := (hcut _ _ HL.out).below hbe
       obtain ⟨c0, c1, d0, d1, s0, s1, g⟩ := HBX.out we HBE.out
       have g0 := g 2 (by omega) 0
       have g1 := g 2 (by omega) 1
       obtain ⟨pw, cw, hw, _⟩ := HLE.out
       subst hw
       clear hcut hbe g))
  all_goals
    try simp only [List.getElem_toArray, List.getElem_cons_succ, List.getElem_cons_zero, Act.put, List.setIfInBounds_toArray, List.set_cons_succ, List.set_cons_zero]
    go_wp2
    have HF : Hid (Below w.heap.size w we) := HB0.out.trans (HBE.out.mono (by have := HS.out; omega))
    refine bodyPost_ret ?_ rfl ⟨_, rfl, ⟨s, _, trimL L, rfl, ((HLE.out.setCell _ _ (by simp)).setCell _ _ (by simp)).mono (by omega), trimL_trim _, by rw [val_trimL, HV.out.1, sg_add], by have := trimL_len L; have := HV.out.2; omega⟩, (HF.out.setCell (by simp; omega) _).setCell (by simp; omega) _⟩
    simp [results, Tryz.results80, go_sem, s0, s1]
end Go.Proofs.YtebldkelihmihaaGreatDoor
