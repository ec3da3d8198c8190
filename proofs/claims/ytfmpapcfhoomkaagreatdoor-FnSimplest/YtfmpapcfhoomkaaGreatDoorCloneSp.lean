import Derived.Ground.SlgnProg
import Derived.Shelf.SlicesE.Clone
import Derived.Test.YtfmpapcfhoomkaaGreatDoorM4p
import Derived.Test.YtfmpapcfhoomkaaGreatDoorOfImplp
namespace Go.Proofs.YtfmpapcfhoomkaaGreatDoor
open Go.ChangeShapes Go.WideShapes Go.ChangeAt Go.RowKit Go.Shelf
def cloneRen : Go.Shelf.Ren := ⟨fun | 41 => 135 | n => n, fun | 22 => 44 | 23 => 107 | 4 => 4 | n => n, fun | n => n⟩
theorem cloneLays : Go.Proofs.SlLaysE0.n41 Tryz.prog cloneRen := {
 mixed := by kernel_rfl
 f41 := ⟨Tryz.f135.name, by decide, Tryz.func135.trans (congrArg some (by kernel_rfl))⟩
 t4 := Tryz.underlying4
 a4 := Tryz.isAgg4
 z4 := Tryz.sizeOf4
 v4 := Tryz.zeroValue4
 t22 := Tryz.underlying44
 a22 := Tryz.isAgg44
 z22 := Tryz.sizeOf44
 v22 := Tryz.zeroValue44 }
theorem clone_row (b off n c : Nat) (a : List Nat) (w : World) (hl : a.length = n) (hn : n ≤ 1000000) (hc : ∀ j, j < a.length → w.cell? ⟨b, off + j, none⟩ = some (.int .u32 (a.getD j 0 : Nat))) :
 Calls Tryz.prog 135 #[.slice (some ⟨b, off, none⟩) n c] w fun e w' => ∃ g cap, e = .returned (.slice (some ⟨g, 0, none⟩) n cap) ∧ n ≤ cap ∧ cap ≤ maxLen ∧ w.heap.size ≤ g ∧ RowT w' g a ∧ Up w w' := by
 obtain ⟨i0, hinf, hz0, hz1, hz2⟩ := info_parts Tryz.info_u32; refine (AnyE.slices_Clone cloneLays i0 (.int .u32 0) 1 4 hinf hz0 hz1 hz2 rfl (by omega) Tryz.sizeOf107 b off n c (U32s a) w (by simp [hl]) (by unfold maxLen; omega) (by omega) ?_ ?_).mono ?_
 ·intro j u hj; simp only [U32s, List.getElem?_map, Option.map_eq_some_iff] at hj; obtain ⟨x, hx, rfl⟩ := hj; obtain ⟨hlt, hx'⟩ := List.getElem?_eq_some_iff.1 hx; rw [hc j hlt, List.getD_eq_getElem?_getD, hx]; rfl
 ·intro v hv; simp only [U32s, List.mem_map] at hv; obtain ⟨x, _, rfl⟩ := hv; rfl
 rintro e w' ⟨v', rfl, hown, hne, hb⟩
 rcases hown.2 with ⟨e, _⟩ | ⟨g, cap, cur, e, hg, hb2, hcap, hmax, hsz, ht⟩
 ·exact absurd e hne
 refine ⟨g, cap, by rw [e], by omega, by omega, hg, ⟨cur.toList.drop n, ?_⟩, hb⟩; rw [hb2]; rw [Nat.mul_one] at ht; rw [← ht, List.take_append_drop, Array.toArray_toList]; rfl
open Go.ChangeShapes Go.WideShapes Go.ChangeAt Go.RowKit
set_option maxRecDepth 100000 in
set_option maxHeartbeats 2000000 in
theorem subLimbs_row (B ba oa ca : Nat) (vb : Value) (a b : List Nat) (w : World) (ha : IsL B w (.slice (some ⟨ba, oa, none⟩) a.length ca) a) (hb : IsL B w vb b) (hla : a.length ≤ 100000) (hlb : b.length ≤ a.length) (hle : val b ≤ val a) :
 Calls Tryz.prog 86 #[.slice (some ⟨ba, oa, none⟩) a.length ca, vb] w fun e w' => ∃ v L, e = .returned v ∧ IsL w.heap.size w' v L ∧ val L + val b = val a ∧ L.length ≤ a.length ∧ isTrim L ∧ Up w w' := by
 obtain ⟨pb, cb, rfl, _⟩ := id hb; obtain ⟨_, _, _, haok, hca⟩ := ha.cells; obtain ⟨_, _, _, hbok, hcb⟩ := hb.cells; have HA : Hid (∀ i, i < a.length → w.cell? ⟨ba, oa + i, none⟩ = some (.int .u32 (a.getD i 0 : Nat))) := fun i hi => by
  obtain ⟨b', off', e, _, hc⟩ := hca i hi; simp only [Option.some.injEq, Addr.mk.injEq, and_true] at e; obtain ⟨rfl, rfl⟩ := e; exact hc
 have HB := Hd hcb; have HLE := Hd hle; clear hca hcb ha hb hle
 go_enter Tryz.func86, Tryz.ntmps86
 go_wp2_with fail
 refine (clone_row ba oa a.length ca a _ rfl (by omega) HA.o).mono ?_; rintro e w1 ⟨g, cap, rfl, hcap, hmax, hg, hR, hb1⟩; have HR := Hd hR; have HB1 := Hd hb1; have HMX := Hd hmax; clear hR hb1 hmax
 go_wp2_with fail
 refine (subScaled_any g a.length cap 1 _ pb cb a b w1 HR.o haok leR (by omega) hlb hbok rfl hcap (by omega) ?_).mono ?_
 ·intro i hi; obtain ⟨c, off, e, hc, hcl⟩ := HB.o i hi; exact ⟨c, off, e, by omega, by rw [HB1.o.cell (p := ⟨c, off + i, none⟩) hc]; exact hcl⟩
 rintro e w3 ⟨c, L, rfl, hR3, hL3, hok3, hdr, hc, hval, hb3⟩; have HB3 : Hid (Up w w3) := HB1.o.trans (hb3.mono hg); have HI : Hid (IsL w.heap.size w3 (.slice (some ⟨g, 0, none⟩) a.length cap) L) := by
  have h := hR3.isL (B := w.heap.size) (cap := cap) hg hok3 (by omega) HMX.o; rw [hL3] at h; exact h
 have HV : Hid (val L + val b = val a ∧ L.length = a.length) := by
  refine ⟨?_, hL3⟩; rw [Nat.one_mul, List.take_of_length_le (by omega), List.take_of_length_le leR] at hval; exact sub_end (1000000000 ^ a.length) c _ _ _ hval (by rw [← hL3]; exact val_lt L hok3) HLE.o
 clear hR3 hL3 hok3 hdr hval hb3
 go_wp2_with fail
 refine (trimLimbs_any w.heap.size _ L _ HI.o).mono ?_; rintro e w5 ⟨v, rfl, hcut, rfl⟩; have HW : Hid (IsL w.heap.size w5 v (trimL L)) := hcut _ _ HI.o; have HT : Hid (val (trimL L) + val b = val a ∧ (trimL L).length ≤ a.length ∧ isTrim (trimL L)) := ⟨by rw [val_trimL]; exact HV.o.1, by have := trimL_len L; have := HV.o.2; omega, trimL_trim _⟩; obtain ⟨pv, cv, hv, _⟩ := HW.o; subst hv; clear hcut
 go_wp2
 go_ret
 exact ⟨_, _, rfl, HW.o, HT.o.1, HT.o.2.1, HT.o.2.2, HB3.o⟩
theorem subLimbs_any (B : Nat) (va vb : Value) (a b : List Nat) (w : World) (ha : IsL B w va a) (hb : IsL B w vb b) (hne : a ≠ []) (hla : a.length ≤ 100000) (hlb : b.length ≤ a.length) (hle : val b ≤ val a) :
 Calls Tryz.prog 86 #[va, vb] w fun e w' => ∃ v L, e = .returned v ∧ IsL w.heap.size w' v L ∧ val L + val b = val a ∧ L.length ≤ a.length ∧ isTrim L ∧ Up w w' := by
 obtain ⟨pa, ca, rfl, hl, hcap, hok, hr⟩ := id ha
 rcases hr with h | ⟨b', off, rfl, _⟩
 ·exact absurd h hne
 exact subLimbs_row B _ _ ca vb a b w ha hb hla hlb hle
end Go.Proofs.YtfmpapcfhoomkaaGreatDoor
