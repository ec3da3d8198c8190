import Derived.Ground.SlgnProg
import Derived.Shelf.SlicesE.Clone
import Derived.Test.YtebldkelihmihaaGreatDoorM4
namespace Go.Proofs.YtebldkelihmihaaGreatDoor
open Go.ChangeShapes Go.WideShapes Go.ChangeAt Go.RowKit Go.Shelf
def cloneRen : Go.Shelf.Ren := ⟨fun | 41 => 135 | n => n, fun | 22 => 70 | 23 => 121 | 4 => 4 | n => n, fun | n => n⟩
theorem cloneLays : Go.Proofs.SlLaysE0.n41 Tryz.prog cloneRen := {
  mixed := by kernel_rfl
  f41 := ⟨Tryz.f135.name, by decide, Tryz.func135.trans (congrArg some (by kernel_rfl))⟩
  t4 := Tryz.underlying4
  a4 := Tryz.isAgg4
  z4 := Tryz.sizeOf4
  v4 := Tryz.zeroValue4
  t22 := Tryz.underlying70
  a22 := Tryz.isAgg70
  z22 := Tryz.sizeOf70
  v22 := Tryz.zeroValue70 }
theorem clone_row (b off n c : Nat) (a : List Nat) (w : World) (hl : a.length = n) (hn : n ≤ 1000000) (hc : ∀ j, j < a.length → w.cell? ⟨b, off + j, none⟩ = some (.int .u32 (a.getD j 0 : Nat))) :
    Calls Tryz.prog 135 #[.slice (some ⟨b, off, none⟩) n c] w fun e w' => ∃ g cap, e = .returned (.slice (some ⟨g, 0, none⟩) n cap) ∧ n ≤ cap ∧ cap ≤ maxLen ∧ w.heap.size ≤ g ∧ RowT w' g a ∧ Below w.heap.size w w' := by
  obtain ⟨i0, hinf, hz0, hz1, hz2⟩ := info_parts Tryz.info_u32
  refine (AnyE.slices_Clone cloneLays i0 (.int .u32 0) 1 4 hinf hz0 hz1 hz2 rfl (by omega) Tryz.sizeOf121 b off n c (U32s a) w (by simp [hl]) (by unfold maxLen; omega) (by omega) ?_ ?_).mono ?_
  · intro j u hj
    simp only [U32s, List.getElem?_map, Option.map_eq_some_iff] at hj
    obtain ⟨x, hx, rfl⟩ := hj
    obtain ⟨hlt, hx'⟩ := List.getElem?_eq_some_iff.1 hx
    rw [hc j hlt, List.getD_eq_getElem?_getD, hx]; rfl
  · intro v hv
    simp only [U32s, List.mem_map] at hv
    obtain ⟨x, _, rfl⟩ := hv
    rfl
  · rintro e w' ⟨v', rfl, hown, hne, hb⟩
    rcases hown.2 with ⟨e, _⟩ | ⟨g, cap, cur, e, hg, hb2, hcap, hmax, hsz, ht⟩
    · exact absurd e hne
    · refine ⟨g, cap, by rw [e], by omega, by omega, hg, ⟨cur.toList.drop n, ?_⟩, hb⟩
      rw [hb2]
      rw [Nat.mul_one] at ht
      rw [← ht, List.take_append_drop, Array.toArray_toList]
      rfl
end Go.Proofs.YtebldkelihmihaaGreatDoor
