import Derived.Test.YtpjnglcojamfmaaDoorM4
import Derived.Test.YtpjnglcojamfmaaDoorClone
import Derived.Test.YtpjnglcojamfmaaDoorOfImpl
namespace Go.Proofs.YtpjnglcojamfmaaDoor
open Go.ChangeShapes Go.WideShapes Go.ChangeAt Go.RowKit
set_option maxRecDepth 100000 in
set_option maxHeartbeats 2000000 in
theorem subLimbs_row (B ba oa ca : Nat) (vb : Value) (a b : List Nat) (w : World) (ha : IsL B w (.slice (some ⟨ba, oa, none⟩) a.length ca) a) (hb : IsL B w vb b) (hla : a.length ≤ 100000) (hlb : b.length ≤ a.length) (hle : val b ≤ val a) :
    Calls Tryd.prog 55 #[.slice (some ⟨ba, oa, none⟩) a.length ca, vb] w fun e w' => ∃ v L, e = .returned v ∧ IsL w.heap.size w' v L ∧ val L + val b = val a ∧ L.length ≤ a.length ∧ isTrim L ∧ Below w.heap.size w w' := by
  obtain ⟨pb, cb, rfl, _⟩ := id hb
  obtain ⟨_, _, _, haok, hca⟩ := ha.cells
  obtain ⟨_, _, _, hbok, hcb⟩ := hb.cells
  have HA : Hid (∀ i, i < a.length → w.cell? ⟨ba, oa + i, none⟩ = some (.int .u32 (a.getD i 0 : Nat))) := fun i hi => by
    obtain ⟨b', off', e, _, hc⟩ := hca i hi
    simp only [Option.some.injEq, Addr.mk.injEq, and_true] at e
    obtain ⟨rfl, rfl⟩ := e
    exact hc
  have HB : Hid (∀ i, i < b.length → ∃ c off, pb = some ⟨c, off, none⟩ ∧ c < w.heap.size ∧ w.cell? ⟨c, off + i, none⟩ = some (.int .u32 (b.getD i 0 : Nat))) := hcb
  have HLE : Hid (val b ≤ val a) := hle
  clear hca hcb ha hb hle
  go_enter Tryd.func55, Tryd.ntmps55
  go_wp2_with fail
  refine (clone_row ba oa a.length ca a _ rfl (by omega) HA.out).mono ?_
  rintro e w1 ⟨g, cap, rfl, hcap, hmax, hg, hR, hb1⟩
  have HR : Hid (RowT w1 g a) := hR
  have HB1 : Hid (Below w.heap.size w w1) := hb1
  have HMX : Hid (cap ≤ maxLen) := hmax
  clear hR hb1 hmax
  go_wp2_with fail
  refine (subScaled_any g a.length cap 1 _ pb cb a b w1 HR.out haok (Nat.le_refl _) (by omega) hlb hbok rfl hcap (by omega) ?_).mono ?_
  · intro i hi
    obtain ⟨c, off, e, hc, hcl⟩ := HB.out i hi
    exact ⟨c, off, e, by omega, by rw [HB1.out.cell (p := ⟨c, off + i, none⟩) hc]; exact hcl⟩
  rintro e w3 ⟨c, L, rfl, hR3, hL3, hok3, hdr, hc, hval, hb3⟩
  have HB3 : Hid (Below w.heap.size w w3) := HB1.out.trans (hb3.mono hg)
  have HI : Hid (IsL w.heap.size w3 (.slice (some ⟨g, 0, none⟩) a.length cap) L) := by
    have h := hR3.isL (B := w.heap.size) (cap := cap) hg hok3 (by omega) HMX.out
    rw [hL3] at h
    exact h
  have HV : Hid (val L + val b = val a ∧ L.length = a.length) := by
    refine ⟨?_, hL3⟩
    rw [Nat.one_mul, List.take_of_length_le (by omega), List.take_of_length_le (Nat.le_refl _)] at hval
    exact sub_end (1000000000 ^ a.length) c _ _ _ hval (by rw [← hL3]; exact val_lt L hok3) HLE.out
  clear hR3 hL3 hok3 hdr hval hb3
  go_wp2_with fail
  refine (trimLimbs_any w.heap.size _ L _ HI.out).mono ?_
  rintro e w5 ⟨v, rfl, hcut, rfl⟩
  have HW : Hid (IsL w.heap.size w5 v (trimL L)) := hcut _ _ HI.out
  have HT : Hid (val (trimL L) + val b = val a ∧ (trimL L).length ≤ a.length ∧ isTrim (trimL L)) := ⟨by rw [val_trimL]; exact HV.out.1, by have := trimL_len L; have := HV.out.2; omega, trimL_trim _⟩
  obtain ⟨pv, cv, hv, _⟩ := HW.out
  subst hv
  clear hcut
  go_wp2
  go_ret
  exact ⟨_, _, rfl, HW.out, HT.out.1, HT.out.2.1, HT.out.2.2, HB3.out⟩
theorem subLimbs_any (B : Nat) (va vb : Value) (a b : List Nat) (w : World) (ha : IsL B w va a) (hb : IsL B w vb b) (hne : a ≠ []) (hla : a.length ≤ 100000) (hlb : b.length ≤ a.length) (hle : val b ≤ val a) :
    Calls Tryd.prog 55 #[va, vb] w fun e w' => ∃ v L, e = .returned v ∧ IsL w.heap.size w' v L ∧ val L + val b = val a ∧ L.length ≤ a.length ∧ isTrim L ∧ Below w.heap.size w w' := by
  obtain ⟨pa, ca, rfl, hl, hcap, hok, hr⟩ := id ha
  rcases hr with h | ⟨b', off, rfl, _⟩
  · exact absurd h hne
  · exact subLimbs_row B _ _ ca vb a b w ha hb hla hlb hle
end Go.Proofs.YtpjnglcojamfmaaDoor
