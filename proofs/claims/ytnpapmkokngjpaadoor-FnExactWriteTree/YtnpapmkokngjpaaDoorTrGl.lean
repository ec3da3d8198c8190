import Derived.Test.YtnpapmkokngjpaaDoorTrZ
namespace Go.Proofs.YtnpapmkokngjpaaDoor
open Go.ChangeShapes Go.WideShapes Go.ChangeAt Go.RowKit
set_option maxRecDepth 100000 in
set_option maxHeartbeats 4000000 in
theorem goodLaw (a : Option Addr) (c : Nat) (ns : List (Nd × Int)) (mx : Int) (w : World) (h : ArgNodes w a c ns) (hmx : w.cell? ⟨0, 0, none⟩ = some (.int .i64 mx)) (hg : 0 < w.heap.size) :
    Calls Tryd.prog 5 #[.slice a ns.length c] w fun e w' => e = .returned (.bool true) ∧ Below w.heap.size w w' := by
  have HMX := hidG hmx
  have HA := hidG h
  clear hmx h
  go_enter Tryd.func5, Tryd.ntmps5
  go_wp2_with (go_at_call 12; refine (szNodeS_any a c ns _ HA.out.1 HA.out.2.1 HA.out.2.2.1 HA.out.2.2.2.1).mono ?_; rintro e w1 ⟨⟨z, rfl, hz⟩, hb1⟩; have HB1 := hidG hb1; clear hb1; rcases hz with hz | ⟨hz, hsm⟩)
  · go_ret
    exact ⟨rfl, HB1.out⟩
  · have HSM := hidG hsm
    clear hsm
    have HA := hidG (HA.out.below HB1.out)
    have HM : Hid (w1.cell? ⟨0, 0, none⟩ = some (.int .i64 mx)) := (HB1.out.cell (p := ⟨0, 0, none⟩) hg).trans HMX.out
    have hgw : 0 < w1.heap.size := Nat.lt_of_lt_of_le hg HB1.out.size
    have HB := HB1
    refine (toNodeS_any a c ns _ HA.out HSM.out).mono ?_
    rintro e W1 ⟨v1, rfl, hv, hb⟩
    have HV1 := hidG hv
    have HA := hidG (HA.out.below hb)
    have HM : Hid (W1.cell? ⟨0, 0, none⟩ = some (.int .i64 mx)) := (hb.cell (p := ⟨0, 0, none⟩) hgw).trans HM.out
    have hgw : 0 < W1.heap.size := Nat.lt_of_lt_of_le hgw hb.size
    have HB : Hid (Below w.heap.size w W1) := HB.out.trans (hb.mono HB.out.size)
    clear hv hb
    go_wp2_with fail
    refine (specGood_any v1 ns _ HV1.out).mono ?_
    rintro e W2 ⟨rfl, hb⟩
    have HA := hidG (HA.out.below hb)
    have HM : Hid (W2.cell? ⟨0, 0, none⟩ = some (.int .i64 mx)) := (hb.cell (p := ⟨0, 0, none⟩) hgw).trans HM.out
    have hgw : 0 < W2.heap.size := Nat.lt_of_lt_of_le hgw hb.size
    have HB : Hid (Below w.heap.size w W2) := HB.out.trans (hb.mono HB.out.size)
    clear hb
    go_wp2_with fail
    refine (toNodeS_any a c ns _ HA.out HSM.out).mono ?_
    rintro e W3 ⟨v3, rfl, hv, hb⟩
    have HV3 := hidG hv
    have HA := hidG (HA.out.below hb)
    have HM : Hid (W3.cell? ⟨0, 0, none⟩ = some (.int .i64 mx)) := (hb.cell (p := ⟨0, 0, none⟩) hgw).trans HM.out
    have hgw : 0 < W3.heap.size := Nat.lt_of_lt_of_le hgw hb.size
    have HB : Hid (Below w.heap.size w W3) := HB.out.trans (hb.mono HB.out.size)
    clear hv hb
    go_wp2_with fail
    refine (implGood_any v3 ns mx _ HV3.out HM.out hgw).mono ?_
    rintro e W4 ⟨rfl, hb⟩
    have HA := hidG (HA.out.below hb)
    have HM : Hid (W4.cell? ⟨0, 0, none⟩ = some (.int .i64 mx)) := (hb.cell (p := ⟨0, 0, none⟩) hgw).trans HM.out
    have hgw : 0 < W4.heap.size := Nat.lt_of_lt_of_le hgw hb.size
    have HB : Hid (Below w.heap.size w W4) := HB.out.trans (hb.mono HB.out.size)
    have HV3 := hidG (HV3.out.below hb)
    clear hb
    go_wp2_with fail
    refine (toNodeS_any a c ns _ HA.out HSM.out).mono ?_
    rintro e W5 ⟨v5, rfl, hv, hb⟩
    have HV5 := hidG hv
    have HA := hidG (HA.out.below hb)
    have HM : Hid (W5.cell? ⟨0, 0, none⟩ = some (.int .i64 mx)) := (hb.cell (p := ⟨0, 0, none⟩) hgw).trans HM.out
    have hgw : 0 < W5.heap.size := Nat.lt_of_lt_of_le hgw hb.size
    have HB : Hid (Below w.heap.size w W5) := HB.out.trans (hb.mono HB.out.size)
    have HV3 := hidG (HV3.out.below hb)
    clear hv hb
    go_wp2_with fail
    refine (eqNodeS_same v3 v5 ns _ HV3.out HV5.out).mono ?_
    rintro e W6 ⟨rfl, hb⟩
    have HA := hidG (HA.out.below hb)
    have HM : Hid (W6.cell? ⟨0, 0, none⟩ = some (.int .i64 mx)) := (hb.cell (p := ⟨0, 0, none⟩) hgw).trans HM.out
    have hgw : 0 < W6.heap.size := Nat.lt_of_lt_of_le hgw hb.size
    have HB : Hid (Below w.heap.size w W6) := HB.out.trans (hb.mono HB.out.size)
    clear hb
    go_wp2_with fail
    go_ret
    exact ⟨rfl, HB.out⟩
set_option maxRecDepth 100000 in
set_option maxHeartbeats 4000000 in
theorem writeLaw (a : Option Addr) (c : Nat) (ns : List (Nd × Int)) (mx : Int) (w : World) (h : ArgNodes w a c ns) (hmx : w.cell? ⟨0, 0, none⟩ = some (.int .i64 mx)) (hg : 0 < w.heap.size) :
    Calls Tryd.prog 4 #[.slice a ns.length c] w fun e w' => e = .returned (.bool true) ∧ Below w.heap.size w w' := by
  have HMX := hidG hmx
  have HA := hidG h
  clear hmx h
  go_enter Tryd.func4, Tryd.ntmps4
  go_wp2_with (go_at_call 12; refine (szNodeS_any a c ns _ HA.out.1 HA.out.2.1 HA.out.2.2.1 HA.out.2.2.2.1).mono ?_; rintro e w1 ⟨⟨z, rfl, hz⟩, hb1⟩; have HB1 := hidG hb1; clear hb1; rcases hz with hz | ⟨hz, hsm⟩)
  · go_ret
    exact ⟨rfl, HB1.out⟩
  · have HSM := hidG hsm
    clear hsm
    have HA := hidG (HA.out.below HB1.out)
    have HM : Hid (w1.cell? ⟨0, 0, none⟩ = some (.int .i64 mx)) := (HB1.out.cell (p := ⟨0, 0, none⟩) hg).trans HMX.out
    have hgw : 0 < w1.heap.size := Nat.lt_of_lt_of_le hg HB1.out.size
    have HB := HB1
    refine (toNodeS_any a c ns _ HA.out HSM.out).mono ?_
    rintro e W1 ⟨v1, rfl, hv, hb⟩
    have HV1 := hidG hv
    have HA := hidG (HA.out.below hb)
    have HM : Hid (W1.cell? ⟨0, 0, none⟩ = some (.int .i64 mx)) := (hb.cell (p := ⟨0, 0, none⟩) hgw).trans HM.out
    have hgw : 0 < W1.heap.size := Nat.lt_of_lt_of_le hgw hb.size
    have HB : Hid (Below w.heap.size w W1) := HB.out.trans (hb.mono HB.out.size)
    clear hv hb
    go_wp2_with fail
    refine (specWrite_any v1 ns _ HV1.out).mono ?_
    rintro e W2 ⟨rfl, hb⟩
    have HA := hidG (HA.out.below hb)
    have HM : Hid (W2.cell? ⟨0, 0, none⟩ = some (.int .i64 mx)) := (hb.cell (p := ⟨0, 0, none⟩) hgw).trans HM.out
    have hgw : 0 < W2.heap.size := Nat.lt_of_lt_of_le hgw hb.size
    have HB : Hid (Below w.heap.size w W2) := HB.out.trans (hb.mono HB.out.size)
    clear hb
    go_wp2_with fail
    refine (toNodeS_any a c ns _ HA.out HSM.out).mono ?_
    rintro e W3 ⟨v3, rfl, hv, hb⟩
    have HV3 := hidG hv
    have HA := hidG (HA.out.below hb)
    have HM : Hid (W3.cell? ⟨0, 0, none⟩ = some (.int .i64 mx)) := (hb.cell (p := ⟨0, 0, none⟩) hgw).trans HM.out
    have hgw : 0 < W3.heap.size := Nat.lt_of_lt_of_le hgw hb.size
    have HB : Hid (Below w.heap.size w W3) := HB.out.trans (hb.mono HB.out.size)
    clear hv hb
    go_wp2_with fail
    refine (implWrite_any v3 ns mx _ HV3.out HM.out hgw).mono ?_
    rintro e W4 ⟨rfl, hb⟩
    have HA := hidG (HA.out.below hb)
    have HM : Hid (W4.cell? ⟨0, 0, none⟩ = some (.int .i64 mx)) := (hb.cell (p := ⟨0, 0, none⟩) hgw).trans HM.out
    have hgw : 0 < W4.heap.size := Nat.lt_of_lt_of_le hgw hb.size
    have HB : Hid (Below w.heap.size w W4) := HB.out.trans (hb.mono HB.out.size)
    have HV3 := hidG (HV3.out.below hb)
    clear hb
    go_wp2_with fail
    refine (toNodeS_any a c ns _ HA.out HSM.out).mono ?_
    rintro e W5 ⟨v5, rfl, hv, hb⟩
    have HV5 := hidG hv
    have HA := hidG (HA.out.below hb)
    have HM : Hid (W5.cell? ⟨0, 0, none⟩ = some (.int .i64 mx)) := (hb.cell (p := ⟨0, 0, none⟩) hgw).trans HM.out
    have hgw : 0 < W5.heap.size := Nat.lt_of_lt_of_le hgw hb.size
    have HB : Hid (Below w.heap.size w W5) := HB.out.trans (hb.mono HB.out.size)
    have HV3 := hidG (HV3.out.below hb)
    clear hv hb
    go_wp2_with fail
    refine (eqNodeS_same v3 v5 ns _ HV3.out HV5.out).mono ?_
    rintro e W6 ⟨rfl, hb⟩
    have HA := hidG (HA.out.below hb)
    have HM : Hid (W6.cell? ⟨0, 0, none⟩ = some (.int .i64 mx)) := (hb.cell (p := ⟨0, 0, none⟩) hgw).trans HM.out
    have hgw : 0 < W6.heap.size := Nat.lt_of_lt_of_le hgw hb.size
    have HB : Hid (Below w.heap.size w W6) := HB.out.trans (hb.mono HB.out.size)
    clear hb
    go_wp2_with fail
    go_ret
    exact ⟨rfl, HB.out⟩
end Go.Proofs.YtnpapmkokngjpaaDoor
