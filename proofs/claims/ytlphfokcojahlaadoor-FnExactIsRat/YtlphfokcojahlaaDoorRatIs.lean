import Derived.Test.YtlphfokcojahlaaDoorRatS
import Derived.Test.YtlphfokcojahlaaDoorRatF
namespace Go.Proofs.YtlphfokcojahlaaDoor
open Go.ChangeShapes Go.WideShapes Go.ChangeAt Go.RowKit
set_option maxRecDepth 100000 in
set_option maxHeartbeats 1000000 in
theorem implIsRat_any (s : ByteArray) (w : World) (hs : s.size ≤ maxLen) (hSP : SP w) (hNS : NS w) (hLT : LT w) :
    Calls Tryd.prog 28 #[.string s] w fun e w' => ∃ b, e = .returned (.bool b) ∧ IsRatB s b ∧ Below w.heap.size w w' := by
  obtain ⟨k, hk⟩ := isCut_ex s
  have HK := hidG hk
  have HSP := hidG hSP
  have HNS := hidG hNS
  have HLT := hidG hLT
  clear hk hSP hNS hLT
  go_enter Tryd.func28, Tryd.ntmps28
  go_wp2_with fail
  refine (readRational_any s k _ hs HK.out HSP.out HNS.out HLT.out).mono ?_
  rintro e w1 ⟨z, ok, rfl, hR, hb1⟩
  have HB1 := hidG hb1
  have HF : Hid (IsRatB s ok) := ⟨k, HK.out, hR.2.1⟩
  obtain ⟨s1, p1, l1, c1, s2, p2, l2, c2, rfl⟩ := hR.1
  clear hR hb1
  go_wp2
  go_ret
  exact ⟨ok, rfl, HF.out, HB1.out.alloc HB1.out.size _⟩
end Go.Proofs.YtlphfokcojahlaaDoor
