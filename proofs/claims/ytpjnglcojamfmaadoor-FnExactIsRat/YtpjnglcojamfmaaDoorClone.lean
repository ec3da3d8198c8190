import Derived.Ground.SlgnProg
import Derived.Shelf.SlicesE.Clone
import Derived.Test.YtpjnglcojamfmaaDoorM4
namespace Go.Proofs.YtpjnglcojamfmaaDoor
open Go.ChangeShapes Go.WideShapes Go.ChangeAt Go.RowKit Go.Shelf
def cloneRen : Go.Shelf.Ren := ⟨fun | 41 => 77 | n => n, fun | 22 => 26 | 23 => 51 | 4 => 4 | n => n, fun | n => n⟩
theorem cloneLays : Go.Proofs.SlLaysE0.n41 Tryd.prog cloneRen := {
  mixed := by kernel_rfl
  f41 := ⟨Tryd.f77.name, by decide, Tryd.func77.trans (congrArg some (by kernel_rfl))⟩
  t4 := Tryd.underlying4
  a4 := Tryd.isAgg4
  z4 := Tryd.sizeOf4
  v4 := Tryd.zeroValue4
  t22 := Tryd.underlying26
  a22 := Tryd.isAgg26
  z22 := Tryd.sizeOf26
  v22 := Tryd.zeroValue26 }
theorem clone_row (b off n c : Nat) (a : List Nat) (w : World) (hl : a.length = n) (hn : n ≤ 1000000) (hc : ∀ j, j < a.length → w.cell? ⟨b, off + j, none⟩ = some (.int .u32 (a.getD j 0 : Nat))) :
    Calls Tryd.prog 77 #[.slice (some ⟨b, off, none⟩) n c] w fun e w' => ∃ g cap, e = .returned (.slice (some ⟨g, 0, none⟩) n cap) ∧ n ≤ cap ∧ cap ≤ maxLen ∧ w.heap.size ≤ g ∧ RowT w' g a ∧ Below w.heap.size w w' := by
  obtain ⟨i0, hinf, hz0, hz1, hz2⟩ := info_parts Tryd.info_u32
  refine (AnyE.slices_Clone cloneLays i0 (.int .u32 0) 1 4 hinf hz0 hz1 hz2 rfl (by omega) Tryd.sizeOf51 b off n c (U32s a) w (by simp [hl]) (by unfold maxLen; omega) (by omega) ?_ ?_).mono ?_
  · intro j u hj
    simp only [U32s, List.getElem?_map, Option.map_eq_some_iff] at hj
    obtain ⟨x, hx, rfl⟩ := hj
    obtain ⟨hlt, hx'⟩ := List.getElem?_eq_some_iff.1 hx
    rw [hc j hlt, List.getD_eq_getElem?_getD, hx]; rfl
  · intro v hv
    simp only [U32s, List.mem_map] at hv
    obtain ⟨x, _, rfl⟩ := hv
    rfl
  · rintro e w' ⟨v', rfl, hown, hne, hb⟩
    rcases hown.2 with ⟨e, _⟩ | ⟨g, cap, cur, e, hg, hb2, hcap, hmax, hsz, ht⟩
    · exact absurd e hne
    · refine ⟨g, cap, by rw [e], by omega, by omega, hg, ⟨cur.toList.drop n, ?_⟩, hb⟩
      rw [hb2]
      rw [Nat.mul_one] at ht
      rw [← ht, List.take_append_drop, Array.toArray_toList]
      rfl
end Go.Proofs.YtpjnglcojamfmaaDoor
