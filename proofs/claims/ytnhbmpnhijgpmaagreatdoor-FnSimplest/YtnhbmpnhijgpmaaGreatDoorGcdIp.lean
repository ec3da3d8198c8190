import Derived.Test.YtnhbmpnhijgpmaaGreatDoorM1p
import Derived.Test.YtnhbmpnhijgpmaaGreatDoorM4p
import Derived.Test.YtnhbmpnhijgpmaaGreatDoorM2p
import Derived.Test.YtnhbmpnhijgpmaaGreatDoorBATp
import Derived.Test.YtnhbmpnhijgpmaaGreatDoorReadSpecp
import Derived.Deep.QuietTactic
import Derived.BigQuiet
import Derived.WalkSmall
import Derived.IntWalk
import Derived.Deep.DeepCutAuto
import Derived.Test.YtnhbmpnhijgpmaaGreatDoorM6p
import Derived.Test.YtnhbmpnhijgpmaaGreatDoorOfImplp
import Derived.Test.YtnhbmpnhijgpmaaGreatDoorMulLimbsp
import Derived.Test.YtnhbmpnhijgpmaaGreatDoorDivAp
import Derived.Deep.LoopGhost
import Derived.Laws.StructEq
import Derived.Laws.Tables
import Derived.Test.YtnhbmpnhijgpmaaGreatDoorPlusAp
import Derived.Test.YtnhbmpnhijgpmaaGreatDoorDivCp
set_option maxRecDepth 100000
set_option maxHeartbeats 4000000
namespace Go.Proofs.YtnhbmpnhijgpmaaGreatDoor
open Go.ChangeShapes Go.WideShapes Go.ChangeAt Go.RowKit
def Bx (W:World) (g:Nat) (l:List Value):Prop:=∃ ty,W.heap[g]? = some (.cells l.toArray ty (0,0))
theorem Bx.lt {W:World} {g:Nat} {l:List Value} (h:Bx W g l):g<W.heap.size:=by
 obtain ⟨t,h⟩:=h; exact (Array.getElem?_eq_some_iff.1 h).1
theorem Bx.cell {W:World} {g:Nat} {l:List Value} (h:Bx W g l) (i:Nat):W.cell? ⟨g,i,none⟩=l[i]? := by
 obtain ⟨t,h⟩:=h; simp [World.cell?,h]
theorem Bx.frozen {W:World} {g:Nat} {l:List Value} (h:Bx W g l) (i:Nat):W.frozen? ⟨g,i,none⟩=false:=by
 obtain ⟨t,h⟩:=h; simp [World.frozen?,h]
theorem Bx.set {W:World} {g:Nat} {l:List Value} (h:Bx W g l) (i:Nat) (v:Value):Bx (W.setCell ⟨g,i,none⟩ v) g (l.set i v):=by
 obtain ⟨t,h⟩:=h; refine ⟨t,?_⟩; obtain ⟨j,m⟩:=Array.getElem?_eq_some_iff.1 h
 show (W.heap.modify g _)[g]? = _
 rw [Array.getElem?_eq_getElem (by rw [Array.size_modify]; exact j),Array.getElem_modify_self,m]; simp
theorem bs4 {G:Nat} {w W:World} (h:Below G w W) (g:Nat) (k:G≤g) (v0 v1 v2 v3:Value):Below G w ((((W.setCell ⟨g,0,none⟩ v0).setCell ⟨g,1,none⟩ v1).setCell ⟨g,2,none⟩ v2).setCell ⟨g,3,none⟩ v3):=(((h.setCell (p:=⟨g,0,none⟩) k v0).setCell (p:=⟨g,1,none⟩) k v1).setCell (p:=⟨g,2,none⟩) k v2).setCell (p:=⟨g,3,none⟩) k v3
theorem bs6 {G:Nat} {w W:World} (h:Below G w W) (g:Nat) (k:G≤g) (v0 v1 v2 v3 v4 v5:Value):Below G w ((((((W.setCell ⟨g,0,none⟩ v0).setCell ⟨g,1,none⟩ v1).setCell ⟨g,2,none⟩ v2).setCell ⟨g,3,none⟩ v3).setCell ⟨g,4,none⟩ v4).setCell ⟨g,5,none⟩ v5):=(((((h.setCell (p:=⟨g,0,none⟩) k v0).setCell (p:=⟨g,1,none⟩) k v1).setCell (p:=⟨g,2,none⟩) k v2).setCell (p:=⟨g,3,none⟩) k v3).setCell (p:=⟨g,4,none⟩) k v4).setCell (p:=⟨g,5,none⟩) k v5
theorem bs8 {G:Nat} {w W:World} (h:Below G w W) (g:Nat) (k:G≤g) (v0 v1 v2 v3 v4 v5 v6 v7:Value):Below G w ((((((((W.setCell ⟨g,0,none⟩ v0).setCell ⟨g,1,none⟩ v1).setCell ⟨g,2,none⟩ v2).setCell ⟨g,3,none⟩ v3).setCell ⟨g,4,none⟩ v4).setCell ⟨g,5,none⟩ v5).setCell ⟨g,6,none⟩ v6).setCell ⟨g,7,none⟩ v7):=(((((((h.setCell (p:=⟨g,0,none⟩) k v0).setCell (p:=⟨g,1,none⟩) k v1).setCell (p:=⟨g,2,none⟩) k v2).setCell (p:=⟨g,3,none⟩) k v3).setCell (p:=⟨g,4,none⟩) k v4).setCell (p:=⟨g,5,none⟩) k v5).setCell (p:=⟨g,6,none⟩) k v6).setCell (p:=⟨g,7,none⟩) k v7
theorem Bx.k2 {W:World} {g:Nat} {v0 v1:Value} {r:List Value} (h:Bx W g (v0::v1::r)):W.cell? ⟨g,0,none⟩=some v0∧W.cell? ⟨g,1,none⟩=some v1:=⟨h.cell 0,h.cell 1⟩
theorem Bx.k3 {W:World} {g:Nat} {v0 v1 v2:Value} {r:List Value} (h:Bx W g (v0::v1::v2::r)):W.cell? ⟨g,0,none⟩=some v0∧W.cell? ⟨g,1,none⟩=some v1∧W.cell? ⟨g,2,none⟩=some v2:=⟨h.cell 0,h.cell 1,h.cell 2⟩
theorem Bx.k4 {W:World} {g:Nat} {v0 v1 v2 v3:Value} {r:List Value} (h:Bx W g (v0::v1::v2::v3::r)):W.cell? ⟨g,0,none⟩=some v0∧W.cell? ⟨g,1,none⟩=some v1∧W.cell? ⟨g,2,none⟩=some v2∧W.cell? ⟨g,3,none⟩=some v3:=⟨h.cell 0,h.cell 1,h.cell 2,h.cell 3⟩
theorem Bx.k6 {W:World} {g:Nat} {v0 v1 v2 v3 v4 v5:Value} {r:List Value} (h:Bx W g (v0::v1::v2::v3::v4::v5::r)):W.cell? ⟨g,0,none⟩=some v0∧W.cell? ⟨g,1,none⟩=some v1∧W.cell? ⟨g,2,none⟩=some v2∧W.cell? ⟨g,3,none⟩=some v3∧W.cell? ⟨g,4,none⟩=some v4∧W.cell? ⟨g,5,none⟩=some v5:=⟨h.cell 0,h.cell 1,h.cell 2,h.cell 3,h.cell 4,h.cell 5⟩
theorem Bx.k8 {W:World} {g:Nat} {v0 v1 v2 v3 v4 v5 v6 v7:Value} {r:List Value} (h:Bx W g (v0::v1::v2::v3::v4::v5::v6::v7::r)):W.cell? ⟨g,0,none⟩=some v0∧W.cell? ⟨g,1,none⟩=some v1∧W.cell? ⟨g,2,none⟩=some v2∧W.cell? ⟨g,3,none⟩=some v3∧W.cell? ⟨g,4,none⟩=some v4∧W.cell? ⟨g,5,none⟩=some v5∧W.cell? ⟨g,6,none⟩=some v6∧W.cell? ⟨g,7,none⟩=some v7:=⟨h.cell 0,h.cell 1,h.cell 2,h.cell 3,h.cell 4,h.cell 5,h.cell 6,h.cell 7⟩
theorem cc2 {W:World} {g0:Nat} {a0 a1:Value} {r0:List Value} (h0:Bx W g0 (a0::a1::r0)):W.cell? ⟨g0,0,none⟩=some a0∧W.cell? ⟨g0,1,none⟩=some a1:=⟨h0.cell 0,h0.cell 1⟩
theorem cc2_4 {W:World} {g0 g1:Nat} {a0 a1 b0 b1 b2 b3:Value} {r0 r1:List Value} (h0:Bx W g0 (a0::a1::r0)) (h1:Bx W g1 (b0::b1::b2::b3::r1)):W.cell? ⟨g0,0,none⟩=some a0∧W.cell? ⟨g0,1,none⟩=some a1∧W.cell? ⟨g1,0,none⟩=some b0∧W.cell? ⟨g1,1,none⟩=some b1∧W.cell? ⟨g1,2,none⟩=some b2∧W.cell? ⟨g1,3,none⟩=some b3:=⟨h0.cell 0,h0.cell 1,h1.cell 0,h1.cell 1,h1.cell 2,h1.cell 3⟩
theorem cc3 {W:World} {g0:Nat} {a0 a1 a2:Value} {r0:List Value} (h0:Bx W g0 (a0::a1::a2::r0)):W.cell? ⟨g0,0,none⟩=some a0∧W.cell? ⟨g0,1,none⟩=some a1∧W.cell? ⟨g0,2,none⟩=some a2:=⟨h0.cell 0,h0.cell 1,h0.cell 2⟩
theorem cc3_3 {W:World} {g0 g1:Nat} {a0 a1 a2 b0 b1 b2:Value} {r0 r1:List Value} (h0:Bx W g0 (a0::a1::a2::r0)) (h1:Bx W g1 (b0::b1::b2::r1)):W.cell? ⟨g0,0,none⟩=some a0∧W.cell? ⟨g0,1,none⟩=some a1∧W.cell? ⟨g0,2,none⟩=some a2∧W.cell? ⟨g1,0,none⟩=some b0∧W.cell? ⟨g1,1,none⟩=some b1∧W.cell? ⟨g1,2,none⟩=some b2:=⟨h0.cell 0,h0.cell 1,h0.cell 2,h1.cell 0,h1.cell 1,h1.cell 2⟩
theorem cc3_6 {W:World} {g0 g1:Nat} {a0 a1 a2 b0 b1 b2 b3 b4 b5:Value} {r0 r1:List Value} (h0:Bx W g0 (a0::a1::a2::r0)) (h1:Bx W g1 (b0::b1::b2::b3::b4::b5::r1)):W.cell? ⟨g0,0,none⟩=some a0∧W.cell? ⟨g0,1,none⟩=some a1∧W.cell? ⟨g0,2,none⟩=some a2∧W.cell? ⟨g1,0,none⟩=some b0∧W.cell? ⟨g1,1,none⟩=some b1∧W.cell? ⟨g1,2,none⟩=some b2∧W.cell? ⟨g1,3,none⟩=some b3∧W.cell? ⟨g1,4,none⟩=some b4∧W.cell? ⟨g1,5,none⟩=some b5:=⟨h0.cell 0,h0.cell 1,h0.cell 2,h1.cell 0,h1.cell 1,h1.cell 2,h1.cell 3,h1.cell 4,h1.cell 5⟩
theorem cc4 {W:World} {g0:Nat} {a0 a1 a2 a3:Value} {r0:List Value} (h0:Bx W g0 (a0::a1::a2::a3::r0)):W.cell? ⟨g0,0,none⟩=some a0∧W.cell? ⟨g0,1,none⟩=some a1∧W.cell? ⟨g0,2,none⟩=some a2∧W.cell? ⟨g0,3,none⟩=some a3:=⟨h0.cell 0,h0.cell 1,h0.cell 2,h0.cell 3⟩
theorem cc6 {W:World} {g0:Nat} {a0 a1 a2 a3 a4 a5:Value} {r0:List Value} (h0:Bx W g0 (a0::a1::a2::a3::a4::a5::r0)):W.cell? ⟨g0,0,none⟩=some a0∧W.cell? ⟨g0,1,none⟩=some a1∧W.cell? ⟨g0,2,none⟩=some a2∧W.cell? ⟨g0,3,none⟩=some a3∧W.cell? ⟨g0,4,none⟩=some a4∧W.cell? ⟨g0,5,none⟩=some a5:=⟨h0.cell 0,h0.cell 1,h0.cell 2,h0.cell 3,h0.cell 4,h0.cell 5⟩
theorem cc6_2 {W:World} {g0 g1:Nat} {a0 a1 a2 a3 a4 a5 b0 b1:Value} {r0 r1:List Value} (h0:Bx W g0 (a0::a1::a2::a3::a4::a5::r0)) (h1:Bx W g1 (b0::b1::r1)):W.cell? ⟨g0,0,none⟩=some a0∧W.cell? ⟨g0,1,none⟩=some a1∧W.cell? ⟨g0,2,none⟩=some a2∧W.cell? ⟨g0,3,none⟩=some a3∧W.cell? ⟨g0,4,none⟩=some a4∧W.cell? ⟨g0,5,none⟩=some a5∧W.cell? ⟨g1,0,none⟩=some b0∧W.cell? ⟨g1,1,none⟩=some b1:=⟨h0.cell 0,h0.cell 1,h0.cell 2,h0.cell 3,h0.cell 4,h0.cell 5,h1.cell 0,h1.cell 1⟩
theorem cc6_3 {W:World} {g0 g1:Nat} {a0 a1 a2 a3 a4 a5 b0 b1 b2:Value} {r0 r1:List Value} (h0:Bx W g0 (a0::a1::a2::a3::a4::a5::r0)) (h1:Bx W g1 (b0::b1::b2::r1)):W.cell? ⟨g0,0,none⟩=some a0∧W.cell? ⟨g0,1,none⟩=some a1∧W.cell? ⟨g0,2,none⟩=some a2∧W.cell? ⟨g0,3,none⟩=some a3∧W.cell? ⟨g0,4,none⟩=some a4∧W.cell? ⟨g0,5,none⟩=some a5∧W.cell? ⟨g1,0,none⟩=some b0∧W.cell? ⟨g1,1,none⟩=some b1∧W.cell? ⟨g1,2,none⟩=some b2:=⟨h0.cell 0,h0.cell 1,h0.cell 2,h0.cell 3,h0.cell 4,h0.cell 5,h1.cell 0,h1.cell 1,h1.cell 2⟩
theorem cc6_4 {W:World} {g0 g1:Nat} {a0 a1 a2 a3 a4 a5 b0 b1 b2 b3:Value} {r0 r1:List Value} (h0:Bx W g0 (a0::a1::a2::a3::a4::a5::r0)) (h1:Bx W g1 (b0::b1::b2::b3::r1)):W.cell? ⟨g0,0,none⟩=some a0∧W.cell? ⟨g0,1,none⟩=some a1∧W.cell? ⟨g0,2,none⟩=some a2∧W.cell? ⟨g0,3,none⟩=some a3∧W.cell? ⟨g0,4,none⟩=some a4∧W.cell? ⟨g0,5,none⟩=some a5∧W.cell? ⟨g1,0,none⟩=some b0∧W.cell? ⟨g1,1,none⟩=some b1∧W.cell? ⟨g1,2,none⟩=some b2∧W.cell? ⟨g1,3,none⟩=some b3:=⟨h0.cell 0,h0.cell 1,h0.cell 2,h0.cell 3,h0.cell 4,h0.cell 5,h1.cell 0,h1.cell 1,h1.cell 2,h1.cell 3⟩
theorem cc6_6 {W:World} {g0 g1:Nat} {a0 a1 a2 a3 a4 a5 b0 b1 b2 b3 b4 b5:Value} {r0 r1:List Value} (h0:Bx W g0 (a0::a1::a2::a3::a4::a5::r0)) (h1:Bx W g1 (b0::b1::b2::b3::b4::b5::r1)):W.cell? ⟨g0,0,none⟩=some a0∧W.cell? ⟨g0,1,none⟩=some a1∧W.cell? ⟨g0,2,none⟩=some a2∧W.cell? ⟨g0,3,none⟩=some a3∧W.cell? ⟨g0,4,none⟩=some a4∧W.cell? ⟨g0,5,none⟩=some a5∧W.cell? ⟨g1,0,none⟩=some b0∧W.cell? ⟨g1,1,none⟩=some b1∧W.cell? ⟨g1,2,none⟩=some b2∧W.cell? ⟨g1,3,none⟩=some b3∧W.cell? ⟨g1,4,none⟩=some b4∧W.cell? ⟨g1,5,none⟩=some b5:=⟨h0.cell 0,h0.cell 1,h0.cell 2,h0.cell 3,h0.cell 4,h0.cell 5,h1.cell 0,h1.cell 1,h1.cell 2,h1.cell 3,h1.cell 4,h1.cell 5⟩
theorem cc6_6_2 {W:World} {g0 g1 g2:Nat} {a0 a1 a2 a3 a4 a5 b0 b1 b2 b3 b4 b5 c0 c1:Value} {r0 r1 r2:List Value} (h0:Bx W g0 (a0::a1::a2::a3::a4::a5::r0)) (h1:Bx W g1 (b0::b1::b2::b3::b4::b5::r1)) (h2:Bx W g2 (c0::c1::r2)):W.cell? ⟨g0,0,none⟩=some a0∧W.cell? ⟨g0,1,none⟩=some a1∧W.cell? ⟨g0,2,none⟩=some a2∧W.cell? ⟨g0,3,none⟩=some a3∧W.cell? ⟨g0,4,none⟩=some a4∧W.cell? ⟨g0,5,none⟩=some a5∧W.cell? ⟨g1,0,none⟩=some b0∧W.cell? ⟨g1,1,none⟩=some b1∧W.cell? ⟨g1,2,none⟩=some b2∧W.cell? ⟨g1,3,none⟩=some b3∧W.cell? ⟨g1,4,none⟩=some b4∧W.cell? ⟨g1,5,none⟩=some b5∧W.cell? ⟨g2,0,none⟩=some c0∧W.cell? ⟨g2,1,none⟩=some c1:=⟨h0.cell 0,h0.cell 1,h0.cell 2,h0.cell 3,h0.cell 4,h0.cell 5,h1.cell 0,h1.cell 1,h1.cell 2,h1.cell 3,h1.cell 4,h1.cell 5,h2.cell 0,h2.cell 1⟩
theorem cc8_3 {W:World} {g0 g1:Nat} {a0 a1 a2 a3 a4 a5 a6 a7 b0 b1 b2:Value} {r0 r1:List Value} (h0:Bx W g0 (a0::a1::a2::a3::a4::a5::a6::a7::r0)) (h1:Bx W g1 (b0::b1::b2::r1)):W.cell? ⟨g0,0,none⟩=some a0∧W.cell? ⟨g0,1,none⟩=some a1∧W.cell? ⟨g0,2,none⟩=some a2∧W.cell? ⟨g0,3,none⟩=some a3∧W.cell? ⟨g0,4,none⟩=some a4∧W.cell? ⟨g0,5,none⟩=some a5∧W.cell? ⟨g0,6,none⟩=some a6∧W.cell? ⟨g0,7,none⟩=some a7∧W.cell? ⟨g1,0,none⟩=some b0∧W.cell? ⟨g1,1,none⟩=some b1∧W.cell? ⟨g1,2,none⟩=some b2:=⟨h0.cell 0,h0.cell 1,h0.cell 2,h0.cell 3,h0.cell 4,h0.cell 5,h0.cell 6,h0.cell 7,h1.cell 0,h1.cell 1,h1.cell 2⟩
theorem cc8_8 {W:World} {g0 g1:Nat} {a0 a1 a2 a3 a4 a5 a6 a7 b0 b1 b2 b3 b4 b5 b6 b7:Value} {r0 r1:List Value} (h0:Bx W g0 (a0::a1::a2::a3::a4::a5::a6::a7::r0)) (h1:Bx W g1 (b0::b1::b2::b3::b4::b5::b6::b7::r1)):W.cell? ⟨g0,0,none⟩=some a0∧W.cell? ⟨g0,1,none⟩=some a1∧W.cell? ⟨g0,2,none⟩=some a2∧W.cell? ⟨g0,3,none⟩=some a3∧W.cell? ⟨g0,4,none⟩=some a4∧W.cell? ⟨g0,5,none⟩=some a5∧W.cell? ⟨g0,6,none⟩=some a6∧W.cell? ⟨g0,7,none⟩=some a7∧W.cell? ⟨g1,0,none⟩=some b0∧W.cell? ⟨g1,1,none⟩=some b1∧W.cell? ⟨g1,2,none⟩=some b2∧W.cell? ⟨g1,3,none⟩=some b3∧W.cell? ⟨g1,4,none⟩=some b4∧W.cell? ⟨g1,5,none⟩=some b5∧W.cell? ⟨g1,6,none⟩=some b6∧W.cell? ⟨g1,7,none⟩=some b7:=⟨h0.cell 0,h0.cell 1,h0.cell 2,h0.cell 3,h0.cell 4,h0.cell 5,h0.cell 6,h0.cell 7,h1.cell 0,h1.cell 1,h1.cell 2,h1.cell 3,h1.cell 4,h1.cell 5,h1.cell 6,h1.cell 7⟩
theorem Bx.f2 {W:World} {g:Nat} {r:List Value} (h:Bx W g r):W.frozen? ⟨g,0,none⟩=false∧W.frozen? ⟨g,1,none⟩=false:=⟨h.frozen 0,h.frozen 1⟩
theorem Bx.f3 {W:World} {g:Nat} {r:List Value} (h:Bx W g r):W.frozen? ⟨g,0,none⟩=false∧W.frozen? ⟨g,1,none⟩=false∧W.frozen? ⟨g,2,none⟩=false:=⟨h.frozen 0,h.frozen 1,h.frozen 2⟩
theorem Bx.f4 {W:World} {g:Nat} {r:List Value} (h:Bx W g r):W.frozen? ⟨g,0,none⟩=false∧W.frozen? ⟨g,1,none⟩=false∧W.frozen? ⟨g,2,none⟩=false∧W.frozen? ⟨g,3,none⟩=false:=⟨h.frozen 0,h.frozen 1,h.frozen 2,h.frozen 3⟩
theorem Bx.f6 {W:World} {g:Nat} {r:List Value} (h:Bx W g r):W.frozen? ⟨g,0,none⟩=false∧W.frozen? ⟨g,1,none⟩=false∧W.frozen? ⟨g,2,none⟩=false∧W.frozen? ⟨g,3,none⟩=false∧W.frozen? ⟨g,4,none⟩=false∧W.frozen? ⟨g,5,none⟩=false:=⟨h.frozen 0,h.frozen 1,h.frozen 2,h.frozen 3,h.frozen 4,h.frozen 5⟩
theorem Bx.f8 {W:World} {g:Nat} {r:List Value} (h:Bx W g r):W.frozen? ⟨g,0,none⟩=false∧W.frozen? ⟨g,1,none⟩=false∧W.frozen? ⟨g,2,none⟩=false∧W.frozen? ⟨g,3,none⟩=false∧W.frozen? ⟨g,4,none⟩=false∧W.frozen? ⟨g,5,none⟩=false∧W.frozen? ⟨g,6,none⟩=false∧W.frozen? ⟨g,7,none⟩=false:=⟨h.frozen 0,h.frozen 1,h.frozen 2,h.frozen 3,h.frozen 4,h.frozen 5,h.frozen 6,h.frozen 7⟩
theorem Bx.s3 {W:World} {g:Nat} {u0 u1 u2:Value} {r:List Value} (h:Bx W g (u0::u1::u2::r)) (v0 v1 v2:Value):Bx (((W.setCell ⟨g,0,none⟩ v0).setCell ⟨g,1,none⟩ v1).setCell ⟨g,2,none⟩ v2) g (v0::v1::v2::r):=((h.set 0 v0).set 1 v1).set 2 v2
theorem Bx.s4 {W:World} {g:Nat} {u0 u1 u2 u3:Value} {r:List Value} (h:Bx W g (u0::u1::u2::u3::r)) (v0 v1 v2 v3:Value):Bx ((((W.setCell ⟨g,0,none⟩ v0).setCell ⟨g,1,none⟩ v1).setCell ⟨g,2,none⟩ v2).setCell ⟨g,3,none⟩ v3) g (v0::v1::v2::v3::r):=(((h.set 0 v0).set 1 v1).set 2 v2).set 3 v3
theorem Bx.s6 {W:World} {g:Nat} {u0 u1 u2 u3 u4 u5:Value} {r:List Value} (h:Bx W g (u0::u1::u2::u3::u4::u5::r)) (v0 v1 v2 v3 v4 v5:Value):Bx ((((((W.setCell ⟨g,0,none⟩ v0).setCell ⟨g,1,none⟩ v1).setCell ⟨g,2,none⟩ v2).setCell ⟨g,3,none⟩ v3).setCell ⟨g,4,none⟩ v4).setCell ⟨g,5,none⟩ v5) g (v0::v1::v2::v3::v4::v5::r):=(((((h.set 0 v0).set 1 v1).set 2 v2).set 3 v3).set 4 v4).set 5 v5
theorem Bx.s8 {W:World} {g:Nat} {u0 u1 u2 u3 u4 u5 u6 u7:Value} {r:List Value} (h:Bx W g (u0::u1::u2::u3::u4::u5::u6::u7::r)) (v0 v1 v2 v3 v4 v5 v6 v7:Value):Bx ((((((((W.setCell ⟨g,0,none⟩ v0).setCell ⟨g,1,none⟩ v1).setCell ⟨g,2,none⟩ v2).setCell ⟨g,3,none⟩ v3).setCell ⟨g,4,none⟩ v4).setCell ⟨g,5,none⟩ v5).setCell ⟨g,6,none⟩ v6).setCell ⟨g,7,none⟩ v7) g (v0::v1::v2::v3::v4::v5::v6::v7::r):=(((((((h.set 0 v0).set 1 v1).set 2 v2).set 3 v3).set 4 v4).set 5 v5).set 6 v6).set 7 v7
theorem Bx.other {W:World} {g:Nat} {l:List Value} (h:Bx W g l) (p:Addr) (hp:p.block≠g) (v:Value):Bx (W.setCell p v) g l:=by
 obtain ⟨t,h⟩:=h; exact ⟨t,(Below.heap_setCell W p v g (fun e=>hp e.symm)).trans h⟩
theorem Bx.below {W W':World} {g N:Nat} {l:List Value} (h:Bx W g l) (hN:g<N) (hb:Below N W W'):Bx W' g l:=by
 obtain ⟨t,h⟩:=h; exact ⟨t,(hb.block g hN).trans h⟩
theorem Bx.alloc {W:World} {g:Nat} {l:List Value} (h:Bx W g l) (o:Obj):Bx (W.alloc o) g l:=h.below h.lt (below_alloc W o)
theorem Bx.drew {W:World} {g:Nat} {l:List Value} (h:Bx W g l):Bx W.drew g l:=h.below h.lt (Below.refl _ W).drew
theorem bx_new (W:World) (l:List Value) (ty:TypeId):Bx (W.alloc (.cells l.toArray ty)) W.heap.size l:=⟨ty,Array.getElem?_push_size⟩
theorem limbAt_any (B:Nat) (v:Value) (l:List Nat) (i:Nat) (w:World) (h:IsL B w v l) (_hi:i≤1000000) :
 Calls Tryz.prog 142 #[v,.int .i64 (i:Nat)] w fun e w'=>e=.returned (.int .i64 (l.getD i 0:Nat))∧w'=w:=by
 obtain ⟨p,c,rfl,_⟩:=id h; obtain ⟨_,_,_,t,s⟩:=h.cells
 by_cases hl:i<l.length
 ·obtain ⟨b,A,rfl,D,j⟩:=s i hl; have u:=okL_getD l t i hl; obtain ⟨x,m⟩:=exW (l.getD i 0); rw [m] at j u ⊢; clear m s h
  go_enter Tryz.func142,Tryz.ntmps142
  go_wp2
  go_ret
  exact ⟨rfl,rfl⟩
 have e:l.getD i 0=0:=by rw [List.getD_eq_getElem?_getD,List.getElem?_eq_none (by omega)]; rfl
 rw [e]; clear e s h
 go_enter Tryz.func142,Tryz.ntmps142
 go_wp2
 go_ret
 exact ⟨rfl,rfl⟩
theorem sq_lt (n:Nat) (M:Nat) (h:n*n<M*M):n<M:=by
 rcases Nat.lt_or_ge n M with i|i
 ·exact i
 exact absurd h (Nat.not_lt.2 (Nat.mul_le_mul i i))
structure LSt (x0 y0:Nat) (s:Bool) (p q r t x y:Nat):Prop where
 ex:x0=t*x+q*y
 ey:y0=r*x+p*y
 det:if s then p*t=q*r+1 else q*r=p*t+1
 low:if s then q≤x∧r≤y else p≤x∧t≤y
 bp:p<1000000000
 bq:q<1000000000
 br:r<1000000000
 bt:t<1000000000
 le:y≤x
 go:(s=true∧p=1∧q=0∧r=0∧t=1)∨(1≤r∧(if s then y+t+q<x else y+r+p<x))
theorem lst_init (x0 y0:Nat) (h:y0≤x0):LSt x0 y0 true 1 0 0 1 x0 y0:=
 ⟨by omega,by omega,by simp,by simp,by omega,by omega,by omega,by omega,h,.inl ⟨rfl,rfl,rfl,rfl,rfl⟩⟩
theorem mul_lt_of (m y x0:Nat) (h:m*y≤x0) (h1:m≤y) (hx:x0<1000000000000000000):m<1000000000:=by
 have i:m*m≤m*y:=Nat.mul_le_mul_left m h1; exact sq_lt m 1000000000 (by omega)
theorem lst_plus (x0 y0 p q r t x y k:Nat) (h:LSt x0 y0 true p q r t x y) (hx0:x0<1000000000000000000) (hle:y0≤x0) (hy:r<y)
 (k1:k*(y - r)≤x+p) (k2:x+p<k*(y - r)+(y - r)) (k3:k*(y+t)≤x - q) (k4:x - q<k*(y+t)+(y+t)) :
 k*y≤x∧LSt x0 y0 false r t (p+k*r) (q+k*t) y (x - k*y):=by
 obtain ⟨ex,ey,det,low,bp,bq,br,bt,le,go⟩:=h; simp only [if_true] at det low go; obtain ⟨J,A⟩:=low; have D:k*(y - r)+k*r=k*y:=by rw [← Nat.mul_add,Nat.sub_add_cancel A]
 have E:k*(y+t)=k*y+k*t:=Nat.mul_add _ _ _; obtain ⟨z,m⟩:∃ z,x=k*y+z:=⟨x - k*y,by omega⟩; have j:x - k*y=z:=by omega
 have f1:x0=(q+k*t)*y+t*z:=by rw [ex,m]; grind
 have f2:y0=(p+k*r)*y+r*z:=by rw [ey,m]; grind
 have F:q+k*t≤z:=by omega
 have G:z+(p+k*r)+r<y:=by omega
 have i:1≤p+k*r:=by
  rcases go with ⟨_,I,_⟩|⟨u,H⟩
  ·omega
  have:1≤k:=by
   rcases Nat.eq_zero_or_pos k with rfl|s
   ·simp at k4; omega
   exact s
  have:=Nat.mul_le_mul this u; omega
 rw [j]; refine ⟨by omega,f1,f2,?_,?_,br,bt,?_,?_,by omega,.inr ⟨i,?_⟩⟩
 ·simp only [Bool.false_eq_true,if_false]; grind
 ·simp only [Bool.false_eq_true,if_false]; omega
 ·exact mul_lt_of (p+k*r) y y0 (by omega) (by omega) (by omega)
 ·exact mul_lt_of (q+k*t) y x0 (by omega) (by omega) (by omega)
 simp only [Bool.false_eq_true,if_false]; omega
theorem lst_minus (x0 y0 p q r t x y k:Nat) (h:LSt x0 y0 false p q r t x y) (hx0:x0<1000000000000000000) (hle:y0≤x0) (hy:t<y)
 (k1:k*(y+r)≤x - p) (k2:x - p<k*(y+r)+(y+r)) (k3:k*(y - t)≤x+q) (k4:x+q<k*(y - t)+(y - t)) :
 k*y≤x∧LSt x0 y0 true r t (p+k*r) (q+k*t) y (x - k*y):=by
 obtain ⟨ex,ey,det,low,bp,bq,br,bt,le,go⟩:=h; simp only [Bool.false_eq_true,if_false] at det low go; obtain ⟨I,A⟩:=low; have D:k*(y - t)+k*t=k*y:=by rw [← Nat.mul_add,Nat.sub_add_cancel A]
 have E:k*(y+r)=k*y+k*r:=Nat.mul_add _ _ _; obtain ⟨z,m⟩:∃ z,x=k*y+z:=⟨x - k*y,by omega⟩; have j:x - k*y=z:=by omega
 have f1:x0=(q+k*t)*y+t*z:=by rw [ex,m]; grind
 have f2:y0=(p+k*r)*y+r*z:=by rw [ey,m]; grind
 have F:p+k*r≤z:=by omega
 have G:z+(q+k*t)+t<y:=by omega
 have i:1≤p+k*r:=by
  rcases go with ⟨h,_⟩|⟨u,H⟩
  ·cases h
  have:1≤k:=by
   rcases Nat.eq_zero_or_pos k with rfl|s
   ·simp at k2; omega
   exact s
  have:=Nat.mul_le_mul this u; omega
 rw [j]; refine ⟨by omega,f1,f2,?_,?_,br,bt,?_,?_,by omega,.inr ⟨i,?_⟩⟩
 ·simp only [if_true]; grind
 ·simp only [if_true]; omega
 ·exact mul_lt_of (p+k*r) y y0 (by omega) (by omega) (by omega)
 ·exact mul_lt_of (q+k*t) y x0 (by omega) (by omega) (by omega)
 simp only [if_true]; omega
def sgF (s:Bool) (n:Nat):Int:=if s then (n:Int) else -(n:Int)
def MadeG (A B C D:Int) (a b:Nat):Prop:=∃ a1 b1:Nat,A*a+B*b=a1∧C*a+D*b=b1∧Nat.gcd a1 b1=Nat.gcd a b∧b1<a1∧a1≤b
theorem gcd_of (a b a1 b1 p q r t:Nat) (h1:a=t*a1+q*b1) (h2:b=r*a1+p*b1) (h3:Nat.gcd a b∣a1) (h4:Nat.gcd a b∣b1):Nat.gcd a1 b1=Nat.gcd a b:=by
 apply Nat.dvd_antisymm
 ·apply Nat.dvd_gcd
  ·rw [h1]; exact Nat.dvd_add (Nat.dvd_mul_left_of_dvd (Nat.gcd_dvd_left _ _) _) (Nat.dvd_mul_left_of_dvd (Nat.gcd_dvd_right _ _) _)
  rw [h2]; exact Nat.dvd_add (Nat.dvd_mul_left_of_dvd (Nat.gcd_dvd_left _ _) _) (Nat.dvd_mul_left_of_dvd (Nat.gcd_dvd_right _ _) _)
 exact Nat.dvd_gcd h3 h4
theorem gmade_plus (x0 y0 p q r t x y S a b a' b':Nat) (h:LSt x0 y0 true p q r t x y) (hg:1≤r∧y+t+q<x) (ha:a=x0*S+a') (hb:b=y0*S+b') (ha':a'<S) (hb':b'<S) :
 MadeG p (-q) (-r) t a b:=by
 obtain ⟨ex,ey,det,low,bp,bq,br,bt,le,go⟩:=h; simp only [if_true] at det low; have D:p*x0=q*y0+x:=by rw [ex,ey]; grind
 have E:t*y0=r*x0+y:=by rw [ex,ey]; grind
 have K:p*a=q*(y0*S)+x*S+p*a':=by rw [ha,Nat.mul_add,← Nat.mul_assoc,D]; grind
 have L:q*b=q*(y0*S)+q*b':=by rw [hb]; grind
 have M:t*b=r*(x0*S)+y*S+t*b':=by rw [hb,Nat.mul_add,← Nat.mul_assoc,E]; grind
 have O:r*a=r*(x0*S)+r*a':=by rw [ha]; grind
 have m1:q*b'≤q*S:=Nat.mul_le_mul_left _ (by omega); have m2:r*a'≤r*S:=Nat.mul_le_mul_left _ (by omega); have m3:t*b'≤t*S:=Nat.mul_le_mul_left _ (by omega); have m4:(y+t+q+1)*S≤x*S:=Nat.mul_le_mul_right _ (by omega); have Q:r*S≤y*S:=Nat.mul_le_mul_right _ low.2; have T:(y+t+q+1)*S=y*S+t*S+q*S+S:=by grind
 obtain ⟨a1,i⟩:∃ a1,p*a=q*b+a1:=⟨x*S+p*a' - q*b',by omega⟩; obtain ⟨b1,j⟩:∃ b1,t*b=r*a+b1:=⟨y*S+t*b' - r*a',by omega⟩; have F:(a:Int)=t*a1+q*b1:=by
  have u:(p:Int)*a=q*b+a1:=by exact_mod_cast i
  have A:(t:Int)*b=r*a+b1:=by exact_mod_cast j
  have J:(p:Int)*t=q*r+1:=by exact_mod_cast det
  grind
 have G:(b:Int)=r*a1+p*b1:=by
  have u:(p:Int)*a=q*b+a1:=by exact_mod_cast i
  have A:(t:Int)*b=r*a+b1:=by exact_mod_cast j
  have J:(p:Int)*t=q*r+1:=by exact_mod_cast det
  grind
 have H:a=t*a1+q*b1:=by exact_mod_cast F
 have I:b=r*a1+p*b1:=by exact_mod_cast G
 have m:=Nat.gcd_dvd_left a b; have s:=Nat.gcd_dvd_right a b; refine ⟨a1,b1,?_,?_,gcd_of a b a1 b1 p q r t H I ?_ ?_,by omega,?_⟩
 ·have u:(p:Int)*a=q*b+a1:=by exact_mod_cast i
  grind
 ·have A:(t:Int)*b=r*a+b1:=by exact_mod_cast j
  grind
 ·exact (Nat.dvd_add_right (Nat.dvd_mul_left_of_dvd s q)).1 (i ▸ Nat.dvd_mul_left_of_dvd m p)
 ·exact (Nat.dvd_add_right (Nat.dvd_mul_left_of_dvd m r)).1 (j ▸ Nat.dvd_mul_left_of_dvd s t)
 have:=Nat.mul_le_mul_right a1 hg.1; omega
theorem gmade_minus (x0 y0 p q r t x y S a b a' b':Nat) (h:LSt x0 y0 false p q r t x y) (hg:1≤r∧y+r+p<x) (ha:a=x0*S+a') (hb:b=y0*S+b') (ha':a'<S) (hb':b'<S) :
 MadeG (-p) q r (-t) a b:=by
 obtain ⟨ex,ey,det,low,bp,bq,br,bt,le,go⟩:=h; simp only [Bool.false_eq_true,if_false] at det low; have D:q*y0=p*x0+x:=by rw [ex,ey]; grind
 have E:r*x0=t*y0+y:=by rw [ex,ey]; grind
 have K:q*b=p*(x0*S)+x*S+q*b':=by rw [hb,Nat.mul_add,← Nat.mul_assoc,D]; grind
 have L:p*a=p*(x0*S)+p*a':=by rw [ha]; grind
 have M:r*a=t*(y0*S)+y*S+r*a':=by rw [ha,Nat.mul_add,← Nat.mul_assoc,E]; grind
 have O:t*b=t*(y0*S)+t*b':=by rw [hb]; grind
 have m1:p*a'≤p*S:=Nat.mul_le_mul_left _ (by omega); have m2:t*b'≤t*S:=Nat.mul_le_mul_left _ (by omega); have m3:r*a'≤r*S:=Nat.mul_le_mul_left _ (by omega); have m4:(y+r+p+1)*S≤x*S:=Nat.mul_le_mul_right _ (by omega); have Q:t*S≤y*S:=Nat.mul_le_mul_right _ low.2; have T:(y+r+p+1)*S=y*S+r*S+p*S+S:=by grind
 obtain ⟨a1,i⟩:∃ a1,q*b=p*a+a1:=⟨x*S+q*b' - p*a',by omega⟩; obtain ⟨b1,j⟩:∃ b1,r*a=t*b+b1:=⟨y*S+r*a' - t*b',by omega⟩; have F:(a:Int)=t*a1+q*b1:=by
  have u:(q:Int)*b=p*a+a1:=by exact_mod_cast i
  have A:(r:Int)*a=t*b+b1:=by exact_mod_cast j
  have J:(q:Int)*r=p*t+1:=by exact_mod_cast det
  grind
 have G:(b:Int)=r*a1+p*b1:=by
  have u:(q:Int)*b=p*a+a1:=by exact_mod_cast i
  have A:(r:Int)*a=t*b+b1:=by exact_mod_cast j
  have J:(q:Int)*r=p*t+1:=by exact_mod_cast det
  grind
 have H:a=t*a1+q*b1:=by exact_mod_cast F
 have I:b=r*a1+p*b1:=by exact_mod_cast G
 have m:=Nat.gcd_dvd_left a b; have s:=Nat.gcd_dvd_right a b; refine ⟨a1,b1,?_,?_,gcd_of a b a1 b1 p q r t H I ?_ ?_,by omega,?_⟩
 ·have u:(q:Int)*b=p*a+a1:=by exact_mod_cast i
  grind
 ·have A:(r:Int)*a=t*b+b1:=by exact_mod_cast j
  grind
 ·exact (Nat.dvd_add_right (Nat.dvd_mul_left_of_dvd m p)).1 (i ▸ Nat.dvd_mul_left_of_dvd s q)
 ·exact (Nat.dvd_add_right (Nat.dvd_mul_left_of_dvd s t)).1 (j ▸ Nat.dvd_mul_left_of_dvd m r)
 have:=Nat.mul_le_mul_right a1 hg.1; omega
def StI (x0 y0:Nat) (A B C D x y:Int):Prop:=∃ (s:Bool) (p q r t X Y:Nat),A=sgF s p∧B = -sgF s q∧C = -sgF s r∧D=sgF s t∧x=X∧y=Y∧LSt x0 y0 s p q r t X Y
theorem stI_init (x0 y0:Nat) (h:y0≤x0):StI x0 y0 1 0 0 1 x0 y0:=⟨true,1,0,0,1,x0,y0,rfl,rfl,rfl,rfl,rfl,rfl,lst_init x0 y0 h⟩
theorem lst_le (x0 y0:Nat) (s:Bool) (p q r t x y:Nat) (h:LSt x0 y0 s p q r t x y) (hle:y0≤x0):x≤x0:=by
 obtain ⟨ex,ey,det,-⟩:=h
 cases s
 ·simp only [Bool.false_eq_true,if_false] at det; have:r≠0:=by rintro rfl; simp at det
  have:=Nat.mul_le_mul_right x (show 1≤r by omega); omega
 simp only [if_true] at det; have:t≠0:=by rintro rfl; simp at det
 have:=Nat.mul_le_mul_right x (show 1≤t by omega); omega
theorem stI_bd (x0 y0:Nat) (A B C D x y:Int) (h:StI x0 y0 A B C D x y) (hx0:x0<1000000000000000000) (hle:y0≤x0) :
 (-1000000000<A∧A<1000000000)∧(-1000000000<B∧B<1000000000)∧(-1000000000<C∧C<1000000000)∧(-1000000000<D∧D<1000000000) ∧
 (0≤x∧x<1000000000000000000)∧(0≤y∧y<1000000000000000000)∧(0≤x+A∧0≤x+B)∧0≤y+C∧0≤y+D:=by
 obtain ⟨s,p,q,r,t,X,Y,rfl,rfl,rfl,rfl,rfl,rfl,h⟩:=h; have i:=lst_le _ _ _ _ _ _ _ _ _ h hle; obtain ⟨ex,ey,det,low,bp,bq,br,bt,le,go⟩:=h
 cases s<;>simp only [sgF,Bool.false_eq_true,if_false,if_true] at*<;> omega
theorem ediv_nat (a b k:Nat) (hb:0<b) (h:(a:Int) / (b:Int)=(k:Int)):k*b≤a∧a<k*b+b:=by
 have i:a / b=k:=by exact_mod_cast h
 subst i; have:=Nat.div_add_mod a b; have:=Nat.mod_lt a hb; rw [Nat.mul_comm]; omega
theorem stI_step (x0 y0:Nat) (A B C D x y:Int) (h:StI x0 y0 A B C D x y) (hx0:x0<1000000000000000000) (hle:y0≤x0) (h1:0<y+C) (h2:0<y+D) (k:Int)
 (hk1:(x+A) / (y+C)=k) (hk2:(x+B) / (y+D)=k):StI x0 y0 C D (A - k*C) (B - k*D) y (x - k*y)∧0≤k∧(x - k*y)+(A - k*C)<y+C:=by
 obtain ⟨b1,b2,I,J,L,M,H,O⟩:=stI_bd x0 y0 A B C D x y h hx0 hle; have j:0≤k:=by rw [← hk1]; exact Int.ediv_nonneg H.1 (by omega)
 have u:(x - k*y)+(A - k*C)<y+C:=by
  have e:=Int.emod_add_mul_ediv (x+A) (y+C); have l:=Int.emod_lt_of_pos (x+A) h1; rw [hk1] at e; have Q:(y+C)*k=k*y+k*C:=by grind
  omega
 refine ⟨?_,j,u⟩; obtain ⟨K,rfl⟩:=Int.eq_ofNat_of_zero_le j; obtain ⟨s,p,q,r,t,X,Y,rfl,rfl,rfl,rfl,rfl,rfl,h⟩:=h; have low:=h.low
 cases s
 ·simp only [sgF,Bool.false_eq_true,if_false] at *; have F:((X - p:Nat):Int) / ((Y+r:Nat):Int)=K:=by rw [← hk1]; congr 1<;>omega
  have G:((X+q:Nat):Int) / ((Y - t:Nat):Int)=K:=by rw [← hk2]; congr 1<;>omega
  obtain ⟨E,k2⟩:=ediv_nat _ _ _ (by omega) F; obtain ⟨k3,k4⟩:=ediv_nat _ _ _ (by omega) G; obtain ⟨i,m⟩:=lst_minus x0 y0 p q r t X Y K h hx0 hle (by omega) E k2 k3 k4; refine ⟨true,r,t,p+K*r,q+K*t,Y,X - K*Y,?_,?_,?_,?_,rfl,?_,m⟩
  ·simp [sgF]
  ·simp [sgF]
  ·simp only [sgF,if_true]; push_cast; grind
  ·simp only [sgF,if_true]; push_cast; grind
  rw [Int.ofNat_sub i]; push_cast; rfl
 simp only [sgF,if_true] at *; have F:((X+p:Nat):Int) / ((Y - r:Nat):Int)=K:=by rw [← hk1]; congr 1<;>omega
 have G:((X - q:Nat):Int) / ((Y+t:Nat):Int)=K:=by rw [← hk2]; congr 1<;>omega
 obtain ⟨E,k2⟩:=ediv_nat _ _ _ (by omega) F; obtain ⟨k3,k4⟩:=ediv_nat _ _ _ (by omega) G; obtain ⟨i,m⟩:=lst_plus x0 y0 p q r t X Y K h hx0 hle (by omega) E k2 k3 k4; refine ⟨false,r,t,p+K*r,q+K*t,Y,X - K*Y,?_,?_,?_,?_,rfl,?_,m⟩
 ·simp [sgF]
 ·simp [sgF]
 ·simp only [sgF,Bool.false_eq_true,if_false]; push_cast; grind
 ·simp only [sgF,Bool.false_eq_true,if_false]; push_cast; grind
 rw [Int.ofNat_sub i]; push_cast; rfl
theorem stI_made (x0 y0:Nat) (A B C D x y:Int) (S a b a' b':Nat) (h:StI x0 y0 A B C D x y) (hno:¬ (A=1∧B=0)) (ha:a=x0*S+a') (hb:b=y0*S+b') (ha':a'<S) (hb':b'<S):MadeG A B C D a b:=by
 obtain ⟨s,p,q,r,t,X,Y,rfl,rfl,rfl,rfl,rfl,rfl,h⟩:=h; have go:=h.go
 cases s
 ·simp only [sgF,Bool.false_eq_true,if_false] at *
  rcases go with ⟨h,_⟩|i
  ·cases h
  have:=gmade_minus x0 y0 p q r t X Y S a b a' b' h i ha hb ha' hb'
  simpa using this
 simp only [sgF,if_true] at *
 rcases go with ⟨_,rfl,rfl,_⟩|i
 ·exact absurd ⟨rfl,rfl⟩ hno
 exact gmade_plus x0 y0 p q r t X Y S a b a' b' h i ha hb ha' hb'
theorem val_lead (l:List Nat) (n:Nat) (hl:l.length≤n+3):val l=val (l.take n)+1000000000 ^ n*(l.getD n 0+1000000000*l.getD (n+1) 0+1000000000*1000000000*l.getD (n+2) 0):=by
 have e:val (l.take (n+3))=val l:=by rw [List.take_of_length_le hl]
 rw [← e,val_take_succ,val_take_succ,val_take_succ,Nat.pow_succ 1000000000 (n+1),Nat.pow_succ]; generalize l.getD n 0=i; generalize l.getD (n+1) 0=j; generalize l.getD (n+2) 0=m; generalize val (l.take n)=V; generalize 1000000000 ^ n=P; clear e hl; generalize 1000000000=M
 grind
def leadW (l:List Nat) (n ten K:Nat):Nat:=(l.getD (n+2) 0*1000000000+l.getD (n+1) 0)*ten+l.getD n 0 / K
theorem lead_split (l:List Nat) (ok:okL l) (n:Nat) (hl:l.length≤n+3) (ten K:Nat) (hK:ten*K=1000000000) :
 ∃ a',val l=leadW l n ten K*(1000000000 ^ n*K)+a'∧a'<1000000000 ^ n*K:=by
 have i:0<K:=by rcases Nat.eq_zero_or_pos K with rfl|h<;>omega
 have e:=val_lead l n hl; have D:val (l.take n)<1000000000 ^ n:=by
  have j:=val_lt _ (okL_take l ok n); have s:(l.take n).length≤n:=by rw [List.length_take]; omega
  exact Nat.lt_of_lt_of_le j (Nat.pow_le_pow_right (by omega) s)
 have u:=Nat.div_add_mod (l.getD n 0) K; have A:=Nat.mod_lt (l.getD n 0) i; unfold leadW; generalize l.getD n 0=t at *; generalize l.getD (n+1) 0=E at *; generalize l.getD (n+2) 0=F at *; generalize val (l.take n)=V at *; generalize 1000000000 ^ n=P at *; generalize t / K=d at *; generalize t % K=m at *; refine ⟨V+P*m,?_,?_⟩
 ·rw [e,← u]; generalize 1000000000=M at *; subst hK
  grind
 have j:P*(m+1)≤P*K:=Nat.mul_le_mul_left _ A; have s:P*(m+1)=P*m+P:=by grind
 omega
theorem lead_lt (l:List Nat) (ok:okL l) (n ten K:Nat) (hK:ten*K=1000000000) (h2:l.getD (n+2) 0<K):leadW l n ten K<1000000000000000000:=by
 have u:0<K:=by omega
 have s:∀ i,l.getD i 0<1000000000:=fun i=>by
  rw [List.getD_eq_getElem?_getD]
  rcases Nat.lt_or_ge i l.length with h|h
  ·rw [List.getElem?_eq_getElem h]; exact ok _ (List.getElem_mem h)
  rw [List.getElem?_eq_none h]; decide
 have F:=s (n+1); have t:=s n; have G:l.getD n 0 / K<ten:=Nat.div_lt_of_lt_mul (by rw [Nat.mul_comm,hK]; exact t); unfold leadW; generalize l.getD n 0 / K=d at *; generalize l.getD (n+1) 0=j at *; generalize l.getD (n+2) 0=m at *; have A:(m*1000000000+j)*ten+ten=(m*1000000000+j+1)*ten:=by rw [Nat.add_mul _ 1,Nat.one_mul]
 have D:(m*1000000000+j+1)*ten≤(K*1000000000)*ten:=Nat.mul_le_mul_right _ (by omega); have E:(K*1000000000)*ten=1000000000000000000:=by rw [Nat.mul_right_comm,Nat.mul_comm K,hK]
 omega
theorem div_le_of_le (x y S a b a' b':Nat) (ha:a=x*S+a') (hb:b=y*S+b') (ha':a'<S) (hle:b≤a):y≤x:=by
 rcases Nat.lt_or_ge x y with h|h
 ·have:=Nat.mul_le_mul_right S h; rw [Nat.succ_mul] at this; omega
 exact h
open Go.RowKit Go.Shelf
attribute [local go_sem] Oper.semAt_some
def m64 (n:Nat):Int:=IntKind.u64.wrap (n:Int)
theorem u64_wrap (n:Int):IntKind.u64.wrap n=n % 18446744073709551616:=rfl
theorem m64_step (q y:Nat):IntKind.u64.wrap (IntKind.u64.wrap (m64 q*1000000000)+y)=m64 (q*1000000000+y):=by
 unfold m64; simp only [u64_wrap]; omega
theorem m64_zero:m64 0=0:=rfl
theorem m64_small (n:Nat) (h:n<18446744073709551616):m64 n=(n:Int):=by
 unfold m64; rw [u64_wrap]; omega
def sumB:List Lb→Int:=List.foldl (fun s x=>IntKind.u64.wrap (IntKind.u64.wrap (s*1000000000)+(x.1.2:Nat))) 0
theorem sumB_snoc (pre:List Lb) (x:Lb):sumB (pre++[x])=IntKind.u64.wrap (IntKind.u64.wrap (sumB pre*1000000000)+(x.1.2:Nat)):=by simp [sumB]
theorem sumB_upto (l:List Nat) (h:okL l) (k:Nat) (hk:k≤l.length):sumB (upto (bk l h) k)=m64 (vfrom l (l.length - k)):=by
 induction k with
 | zero=>simp [upto,sumB,vfrom_end,m64_zero]
 | succ k ih=>
   rw [upto_succ,sumB_snoc,ih (by omega)]; have i:l.length - k=l.length - (k+1)+1:=by omega
   have j:(bk l h k).1.2=l.getD (l.length - (k+1)) 0:=by simp only [bk]; rw [show l.length - 1 - k=l.length - (k+1) by omega]
   rw [j,i,m64_step,vfrom_step l (l.length - (k+1)) (by omega)]
theorem wordOf_in (F:Fence) (n:Nat) (hf:F.fn 128) (hf1:F.fn 119) (hf2:F.fn 131) (hro:F.round=none) (hn:3≤n) (B:Nat) (v:Value) (l:List Nat) (w:World) (hI:IsL B w v l) :
 CallsIn F n Tryz.prog 128 #[v] w fun e W'=>e=.returned (.int .u64 (m64 (val l)))∧Up w W':=by
 have M:1≤n:=by omega
 obtain ⟨a,cap,rfl,hl,t,u,hr⟩:=hI; refine callsIn_of_wp_marks Tryz.func128 rfl hf ?_ hro; simp only [Tryz.ntmps128,List.size_toArray,List.length_cons,List.length_nil,Nat.reduceAdd,Nat.reduceSub,Array.replicate_succ,Array.replicate_zero,List.push_toArray,List.append_toArray,List.nil_append,List.cons_append]
 gi_wp2_with (gi_at_call 119; refine (back_in F (n - 1) hf1 hro _ _ _ _).mono ?_; rintro e T ⟨rfl,rfl⟩)
 have J:=Boxed.new w 38 (.int .u64 0); have I:=Boxed.new (w.alloc (.cells #[.int .u64 0] 38)) 47 (.slice a l.length cap); rw [World.size_alloc] at I; have j:Up w ((w.alloc (.cells #[.int .u64 0] 38)).alloc (.cells #[.slice a l.length cap] 47)):=((Below.refl _ w).alloc leR _).alloc (by simp) _; have H:l=[]∨∃ b off,a=some ⟨b,off,none⟩∧b<w.heap.size∧∀ i,i<l.length→((w.alloc (.cells #[.int .u64 0] 38)).alloc (.cells #[.slice a l.length cap] 47)).cell? ⟨b,off+i,none⟩=some (.int .u32 (l.getD i 0:Nat)):=by
  rcases hr with h|⟨b,off,e,_,L,m⟩
  ·exact .inl h
  exact .inr ⟨b,off,e,L,fun i hi=>(j.cell (p:=⟨b,off+i,none⟩) L).trans (m i hi)⟩
 refine wpIn_rangeFunc_ownG hro M (gf:=131) (lb:=#[.pointer (some ⟨w.heap.size+1,0,none⟩)]) rfl hf2 (enters_of Tryz.func131 (by kernel_rfl) rfl)
  (back_stops F (n - 1) hf2 hro (by omega) (w.heap.size+1) w.heap.size _ l u _ (by simp) (by simp; omega) I.cell
    ⟨a,cap,rfl,hl,t,H⟩)
  KB_t (KB_b (by simp; omega) (by simp)) (Below.refl _ _) (fun _=>rfl)
  (fun pre W=>(W.cell? ⟨w.heap.size,0,none⟩=some (.int .u64 (sumB pre))∧W.frozen? ⟨w.heap.size,0,none⟩=false)∧Up w W)
  (fun _ _ _=>False)
  (OwnFrom.and (Own.from (fun s A B row hs hg hr=>⟨cell_kept hs.1 hg hr,(frozen_kept hs.1 hg hr).trans hs.2⟩) _) (ownFrom_below leR (by simp; omega)))
  (fun _ _ _ _ _ hs _ _=>hs)
  ⟨⟨(J.alloc _).cell,(J.alloc _).frozen⟩,j⟩
  (fun x=>{ tmps:=#[.slice a l.length cap,undef,.int .u64 0,.pointer (some ⟨w.heap.size,0,none⟩),undef,.int .u32 (x.1.2:Nat),.slice a l.length cap,.func (.func 131) #[] #[.pointer (some ⟨w.heap.size+1,0,none⟩)],.int .i64 x.1.1,.int .u32 (x.1.2:Nat),undef,undef,undef,undef,undef,undef],defers:=[] }) ?assign ?body ?done ?stop
 case assign=>
  intro Q x W K E
  gi_wp2
  exact E
 case body=>
  rintro Q pre x W ⟨⟨m,hf⟩,G⟩ _; have S:=x.2
  gi_wp2
  exact ⟨(KeepsOthers.setCell _ _ _).from _,⟨(Below.refl w.heap.size W).setCell (p:=⟨w.heap.size,0,none⟩) leR _,World.cell?_of_block (Below.heap_setCell W ⟨w.heap.size,0,none⟩ _ (w.heap.size+1) (Nat.succ_ne_self _))⟩,
   ⟨by rw [sumB_snoc]; exact World.cell?_setCell_same' _ _ _ (by rw [m]; rfl),by rw [World.frozen?_setCell]; exact hf⟩,G.setCell (p:=⟨w.heap.size,0,none⟩) leR _⟩
 case done=>
  rintro D U W O rfl ⟨⟨m,_⟩,G⟩ E; rw [sumB_upto l u l.length leR,Nat.sub_self] at m
  gi_wp2
  refine ⟨by simp,.inl ⟨_,_,rfl,run_takeDeferred E,?_⟩⟩; exact ⟨_,results_tmp rfl _ _ _,rfl,G.trans (belowK_b (w:=w) leR W D _ _ (by simp at O; omega) E rfl rfl)⟩
 case stop=>
  rintro D c pre W _ _ h _; exact h.elim
theorem wordOf_any (B:Nat) (v:Value) (l:List Nat) (w:World) (h:IsL B w v l) :
 Calls Tryz.prog 128 #[v] w fun e w'=>e=.returned (.int .u64 (m64 (val l)))∧Up w w':=
 (callsIn_wide (n:=3)).1 (wordOf_in Fence.wide 3 trivial trivial trivial rfl leR B v l w h)
theorem wrap_id (x:Int) (h1 : -9223372036854775808≤x) (h2:x<9223372036854775808):IntKind.i64.wrap x=x:=by
 have e:IntKind.i64.wrap x=if x % 18446744073709551616≥9223372036854775808 then x % 18446744073709551616 - 18446744073709551616 else x % 18446744073709551616:=by
  unfold IntKind.wrap; simp [IntKind.bits,IntKind.signed]
 rw [e]
 split<;>omega
theorem okL_getD' (t:List Nat) (h:okL t) (i:Nat):t.getD i 0<1000000000:=by
 by_cases hi:i<t.length
 ·exact okL_getD t h i hi
 rw [List.getD_eq_getElem?_getD,List.getElem?_eq_none (by omega)]; decide
theorem limbAt_at (B:Nat) (v:Value) (l:List Nat) (i:Int) (k:Nat) (X:Int) (w:World) (h:IsL B w v l) (hi:i=(k:Int)) (hk:k≤1000000) (hX:((l.getD k 0:Nat):Int)=X) :
 Calls Tryz.prog 142 #[v,.int .i64 i] w fun e w'=>e=.returned (.int .i64 X)∧w'=w:=by
 subst hi hX; exact limbAt_any B v l k w h hk
theorem leadingWord_any (B:Nat) (v:Value) (l:List Nat) (n ten K:Nat) (w:World) (h:IsL B w v l) (hn:n≤100000) (hK:ten*K=1000000000) (hlt:leadW l n ten K<1000000000000000000) :
 Calls Tryz.prog 141 #[v,.int .i64 (n+1:Nat),.int .i64 (ten:Nat)] w fun e w'=>e=.returned (.int .i64 (leadW l n ten K:Nat))∧Up w w':=by
 have G:=Hd h; obtain ⟨p,c,rfl,_,_,m,_⟩:=h; obtain ⟨i,J⟩:∃ X:Int,((l.getD n 0:Nat):Int)=X:=⟨_,rfl⟩; obtain ⟨D,L⟩:∃ X:Int,((l.getD (n+1) 0:Nat):Int)=X:=⟨_,rfl⟩; obtain ⟨E,O⟩:∃ X:Int,((l.getD (n+2) 0:Nat):Int)=X:=⟨_,rfl⟩; have H0:=Hd J; have H1:=Hd L; have H2:=Hd O; have b0:=okL_getD' l m n; have b1:=okL_getD' l m (n+1); have b2:=okL_getD' l m (n+2); obtain ⟨T,F⟩:∃ T:Int,(ten:Int)=T:=⟨_,rfl⟩; obtain ⟨M,Q⟩:∃ M:Int,(K:Int)=M:=⟨_,rfl⟩; have t:T*M=1000000000:=by rw [← F,← Q,← Int.natCast_mul,hK]; rfl
 have U:1≤T:=by
  have:ten≠0:=by rintro rfl; omega
  omega
 have S:1≤M:=by
  have:K≠0:=by rintro rfl; omega
  omega
 obtain ⟨W,V⟩:∃ W:Int,E*1000000000+D=W:=⟨_,rfl⟩; have j:((leadW l n ten K:Nat):Int)=W*T+i / M:=by
  unfold leadW; rw [Int.natCast_add,Int.natCast_mul,Int.natCast_add,Int.natCast_mul,Int.natCast_ediv,J,L,O,F,Q,← V]; rfl
 have u:0≤i:=by omega
 have b6:0≤i / M:=Int.ediv_nonneg u (by omega); have Y:0≤W:=by omega
 have a5:0≤W*T:=Int.mul_nonneg Y (by omega); have b5:W*T<1000000000000000000:=by omega
 have b7:i / M<1000000000000000000:=by omega
 have H:=Hd j; have c0:0≤i∧i<1000000000:=by omega
 have c1:0≤D∧D<1000000000:=by omega
 have c2:0≤E∧E<1000000000:=by omega
 have HW:=Hd V; have I:=Hd hn; have b3:M≤1000000000:=by
  have:=Int.mul_le_mul_of_nonneg_right U (show 0≤M by omega); omega
 have b4:T≤1000000000:=by
  have:=Int.mul_le_mul_of_nonneg_left S (show 0≤T by omega); omega
 have A:Int.tdiv 1000000000 T=M:=by
  rw [Int.tdiv_eq_ediv_of_nonneg (by decide),← t]; exact Int.mul_ediv_cancel_left _ (by omega)
 have s:Int.tdiv i M=i / M:=Int.tdiv_eq_ediv_of_nonneg u; rw [F]; clear J L O F Q hK hlt j V b0 b1 b2 m t
 go_enter Tryz.func141,Tryz.ntmps141
 go_wp2_with fail
 refine (limbAt_at B _ l _ (n+2) E _ G.o (by push_cast; omega) (by have:=I.o; omega) H2.o).mono ?_; rintro e w' ⟨rfl,Z⟩; subst Z
 go_wp2_with fail
 refine (limbAt_at B _ l _ (n+1) D _ G.o (by omega) (by have:=I.o; omega) H1.o).mono ?_; rintro e w2 ⟨rfl,a3⟩; subst a3
 go_upto_region 2 with fail
 rw [HW.o]; have q1:IntKind.i64.wrap (W*T)=W*T:=wrap_id _ (by omega) (by omega); have q2:IntKind.i64.wrap (n:Int)=(n:Int):=wrap_id _ (by omega) (by omega); have q3:(T==0)=false:=by rw [beq_eq_false_iff_ne]; omega
 have q4:(M==0)=false:=by rw [beq_eq_false_iff_ne]; omega
 have q5:IntKind.i64.wrap (Int.tdiv 1000000000 T)=M:=by rw [A]; exact wrap_id _ (by omega) (by omega)
 have q6:IntKind.i64.wrap (i.tdiv M)=i / M:=by rw [s]; exact wrap_id _ (by omega) (by omega)
 have q7:IntKind.i64.wrap (W*T+i / M)=W*T+i / M:=wrap_id _ (by omega) (by omega)
 go_quiet (first|(go_at_call 142; refine Calls.quiet_of_same (limbAt_at B _ l _ n i _ G.o rfl (by have:=I.o; omega) H0.o)))
 go_wp2
 go_ret
 exact ⟨ret_int H.o.symm,below_drewN (Below.refl _ _) _⟩
theorem leadingWord_at (B:Nat) (v:Value) (l:List Nat) (n ten K:Nat) (i T:Int) (w:World) (h:IsL B w v l) (hi:i=((n+1:Nat):Int)) (hT:T=((ten:Nat):Int)) (hn:n≤100000) (hK:ten*K=1000000000) (hlt:leadW l n ten K<1000000000000000000) :
 Calls Tryz.prog 141 #[v,.int .i64 i,.int .i64 T] w fun e w'=>e=.returned (.int .i64 (leadW l n ten K:Nat))∧Up w w':=by
 subst hi hT; exact leadingWord_any B v l n ten K w h hn hK hlt
def LeadOf (a b x y:Nat):Prop:=∃ S a' b',a=x*S+a'∧b=y*S+b'∧a'<S∧b'<S∧x<1000000000000000000∧y≤x
theorem lead_of (a b:List Nat) (n ten K:Nat) (oa:okL a) (ob:okL b) (hla:a.length=n+3) (hlb:b.length≤n+3) (hK:ten*K=1000000000) (ht:a.getD (n+2) 0<K) (hle:val b≤val a) :
 LeadOf (val a) (val b) (leadW a n ten K) (leadW b n ten K):=by
 obtain ⟨m,t,i⟩:=lead_split a oa n (by omega) ten K hK; obtain ⟨s,u,j⟩:=lead_split b ob n hlb ten K hK; exact ⟨_,m,s,t,u,i,j,lead_lt a oa n ten K hK ht,div_le_of_le _ _ _ _ _ m s t u i hle⟩
theorem pow_cut (k:Nat) (hk:k≤8):10 ^ k*10 ^ (9 - k)=1000000000:=by
 rw [← Nat.pow_add,show k+(9 - k)=9 by omega]
theorem pow_le8 (k:Nat) (hk:k≤8):1≤10 ^ k∧10 ^ k≤100000000:=⟨Nat.pow_pos (by decide),by
 have:=Nat.pow_le_pow_right (show 0<10 by decide) hk
 exact this⟩
theorem top_lt (X k:Nat) (hk:k≤8) (h:X*10 ^ k<1000000000):X<10 ^ (9 - k):=by
 apply Classical.byContradiction; intro hn; have i:10 ^ (9 - k)*10 ^ k≤X*10 ^ k:=Nat.mul_le_mul_right _ (by omega); rw [Nat.mul_comm,pow_cut k hk] at i; omega
theorem leadingWords_any (B:Nat) (va vb:Value) (a b:List Nat) (n:Nat) (w:World) (ha:IsL B w va a) (hb:IsL B w vb b) (hn:n≤100000) (hla:a.length=n+3) (hlb:b.length≤n+3) (hta:1≤a.getD (n+2) 0) (hle:val b≤val a) :
 Calls Tryz.prog 125 #[va,vb] w fun e w'=>∃ x y:Nat,e=.returned (.tuple #[.int .i64 (x:Nat),.int .i64 (y:Nat)])∧LeadOf (val a) (val b) x y∧Up w w':=by
 have HA:Hid (∀ W,Up w W→IsL B W va a):=fun W hW=>ha.below hW; have HB:Hid (∀ W,Up w W→IsL B W vb b):=fun W hW=>hb.below hW; obtain ⟨pa,ca,rfl,_⟩:=id ha; obtain ⟨pb,cb,rfl,_⟩:=id hb; obtain ⟨_,_,_,m,K⟩:=ha.cells; obtain ⟨_,_,_,J,_⟩:=hb.cells; obtain ⟨ba,oa,rfl,a6,i⟩:=K (n+2) (by omega); have F:Hid (∀ k,k≤8→a.getD (n+2) 0*10 ^ k<1000000000→LeadOf (val a) (val b) (leadW a n (10 ^ k) (10 ^ (9 - k))) (leadW b n (10 ^ k) (10 ^ (9 - k)))):=fun k hk h=>
  lead_of a b n _ _ m J hla hlb (pow_cut k hk) (top_lt _ k hk h) hle
 have a7:=okL_getD' a m (n+2); obtain ⟨x,hx⟩:=exW (a.getD (n+2) 0); rw [hx] at i a7 hta F; have HC:Hid (∀ W,Up w W→W.cell? ⟨ba,oa+(n+2),none⟩=some (.int .u32 (x:Nat))):=fun W hW=>(hW.cell (p:=⟨ba,oa+(n+2),none⟩) a6).trans i; have U:=Hd hla; rw [hla]; clear K i ha hb hle hla hx hlb
 go_enter Tryz.func125,Tryz.ntmps125
 go_wp2
 go_loopw [7] (fun tv wr=>∃ k:Nat,k≤8∧tv=.int .i64 ((10 ^ k:Nat):Int)∧x*10 ^ k<1000000000∧Up w wr) (fun tv _=>(1000000000 - intOf tv).toNat)
 case atStart=>exact ⟨0,by omega,rfl,by omega,Below.refl _ _⟩
 case round=>
  obtain ⟨k,hk,rfl,L,hB⟩:=hrel; have i:=HC.o _ hB; have hp:=pow_le8 k hk; have V:Hid (x*10 ^ k*10<1000000000→k+1≤8):=fun h=>by
   apply Classical.byContradiction; intro hn; obtain rfl:k=8:=by omega
   simp only [Nat.reducePow] at h; omega
  have Y:Hid (((10 ^ k:Nat):Int)*10=((10 ^ (k+1):Nat):Int)):=by
   unfold Hid
   rw [Nat.pow_succ,Int.natCast_mul]; rfl
  have Z:Hid (x*10 ^ (k+1)=x*10 ^ k*10):=by unfold Hid; rw [Nat.pow_succ,Nat.mul_assoc]
  have j:=Hd hB; have E:=Hd (F.o k hk L); have D:=Hd hk; obtain ⟨T,M⟩:∃ T:Int,((10 ^ k:Nat):Int)=T:=⟨_,rfl⟩; have HT:=Hd M; have t1:1≤T:=by omega
  have t2:T≤100000000:=by omega
  obtain ⟨X,O⟩:∃ X:Int,(x:Int)=X:=⟨_,rfl⟩; have HX:=Hd O; have H:((x*10 ^ k:Nat):Int)=X*T:=by rw [← O,← M]; exact Int.natCast_mul _ _
  have G:=Hd H; have x1:0≤X*T:=by omega
  have x2:X*T<1000000000:=by omega
  have x3:0≤X∧X<1000000000:=by omega
  rw [O] at i; rw [M]; clear M O H hp L hB
  by_cases hc:X*T*10<1000000000
  ·have hd:decide (X*T*10<1000000000)=true:=decide_eq_true hc
   go_wp2
   go_roundw
   case rel=>
    have e1:k+1≤8:=V.o (by have:=G.o; omega); refine ⟨k+1,e1,?_,?_,j.o⟩
    ·rw [← Y.o,HT.o]
    ·rw [Z.o]; have:=G.o; omega
   case measure=>simp [intOf]; omega
  ·have hd:decide (X*T*10<1000000000)=false:=decide_eq_false hc; have HD:Hid (leadW a n (10 ^ k) (10 ^ (9 - k))<1000000000000000000∧leadW b n (10 ^ k) (10 ^ (9 - k))<1000000000000000000):=by
    obtain ⟨_,_,_,_,_,_,_,h1,h2⟩:=E.o; exact ⟨h1,by omega⟩
   have u:=Hd (HA.o _ j.o); have S:=Hd (HB.o _ j.o); rw [U.o] at u
   go_wp2_with fail
   refine (leadingWord_at B _ a n (10 ^ k) (10 ^ (9 - k)) _ _ _ u.o (by omega) HT.o.symm hn (pow_cut k D.o) HD.o.1).mono ?_; rintro e w2 ⟨rfl,s⟩; have A:=Hd (S.o.below s); have t:=Hd (j.o.trans (s.mono j.o.size)); clear s
   go_wp2_with fail
   refine (leadingWord_at B _ b n (10 ^ k) (10 ^ (9 - k)) _ _ _ A.o (by omega) HT.o.symm hn (pow_cut k D.o) HD.o.2).mono ?_; rintro e w3 ⟨rfl,I⟩; have Q:=Hd (t.o.trans (I.mono t.o.size)); clear I
   go_wp2
   go_ret2
   exact ⟨_,_,rfl,E.o,Q.o⟩
def NS (w:World):Prop:=
 w.cell? ⟨1,0,none⟩=some (.int .i64 1)∧w.cell? ⟨1,1,none⟩=some (.int .i64 0)∧w.cell? ⟨1,2,none⟩=some (.int .i64 0)∧w.cell? ⟨1,3,none⟩=some (.int .i64 1)
theorem NS.below {w w':World} (h:NS w) (hb:Up w w'):NS w':=by
 have i:=cell_lt h.1; unfold NS at *; simp only [fun o=>hb.cell (p:=⟨1,o,none⟩) i]; exact h
def StE (x0 y0:Nat) (A B C D:Int):Prop:=∃ x y,StI x0 y0 A B C D x y
theorem leadingSteps_any (x0 y0:Nat) (w:World) (hx0:x0<1000000000000000000) (hle:y0≤x0) (h:NS w) :
 Calls Tryz.prog 124 #[.int .i64 (x0:Nat),.int .i64 (y0:Nat)] w fun e w'=>∃ A B C D:Int,e=.returned (.agg #[.int .i64 A,.int .i64 B,.int .i64 C,.int .i64 D])∧StE x0 y0 A B C D∧Up w w':=by
 have g8:=cell_lt h.1; obtain ⟨n0,n1,n2,n3⟩:=h
 go_enter Tryz.func124,Tryz.ntmps124
 go_wp2
 have U:Up w ((w.alloc (.cells #[.int .i64 0,.int .i64 0,.int .i64 0,.int .i64 0] 150)).alloc (.cells #[.int .i64 1,.int .i64 0,.int .i64 0,.int .i64 1] 150)):=((Below.refl _ w).alloc leR _).alloc (by simp) _; have a3:Bx ((w.alloc (.cells #[.int .i64 0,.int .i64 0,.int .i64 0,.int .i64 0] 150)).alloc (.cells #[.int .i64 1,.int .i64 0,.int .i64 0,.int .i64 1] 150)) w.heap.size [.int .i64 0,.int .i64 0,.int .i64 0,.int .i64 0]:=(bx_new w _ _).alloc _; have a5:Bx ((w.alloc (.cells #[.int .i64 0,.int .i64 0,.int .i64 0,.int .i64 0] 150)).alloc (.cells #[.int .i64 1,.int .i64 0,.int .i64 0,.int .i64 1] 150)) (w.heap.size+1) [.int .i64 1,.int .i64 0,.int .i64 0,.int .i64 1]:=by
  have:=bx_new (w.alloc (.cells #[.int .i64 0,.int .i64 0,.int .i64 0,.int .i64 0] 150)) [.int .i64 1,.int .i64 0,.int .i64 0,.int .i64 1] 150; rw [World.size_alloc] at this; exact this
 generalize (w.alloc (.cells #[.int .i64 0,.int .i64 0,.int .i64 0,.int .i64 0] 150)).alloc (.cells #[.int .i64 1,.int .i64 0,.int .i64 0,.int .i64 1] 150)=W0 at *
 go_loopw [0,1] (fun xv yv wr=>∃ A B C D x y:Int,xv=.int .i64 x∧yv=.int .i64 y∧StI x0 y0 A B C D x y∧Bx wr w.heap.size [.int .i64 0,.int .i64 0,.int .i64 0,.int .i64 0]∧Bx wr (w.heap.size+1) [.int .i64 A,.int .i64 B,.int .i64 C,.int .i64 D]∧Up w wr)
  (fun _ yv wr=>(intOf yv+intOf ((wr.cell? ⟨w.heap.size+1,2,none⟩).getD (.int .i64 0))).toNat)
 case atStart=>exact ⟨1,0,0,1,x0,y0,rfl,rfl,stI_init x0 y0 hle,a3,a5,U⟩
 case round=>
  clear a3 a5 U n0 n1 n2 n3; obtain ⟨A,B,C,D,x,y,rfl,rfl,hS,Y,F,T⟩:=hrel; obtain ⟨⟨a1,a2⟩,⟨b1,b2⟩,⟨c1,c2⟩,⟨d1,d2⟩,⟨x1,x2⟩,⟨y1,y2⟩,⟨p1,p2⟩,p3,p4⟩:=stI_bd x0 y0 A B C D x y hS hx0 hle; obtain ⟨e0,e1,e2,e3⟩:=F.k4; have HS:=Hd hS; have j:=Hd Y; have K:=Hd F; have t:=Hd T; clear hS Y F T; have w1:IntKind.i64.wrap (y+C)=y+C:=wrap_id _ (by omega) (by omega); have w2:IntKind.i64.wrap (y+D)=y+D:=wrap_id _ (by omega) (by omega); have w3:IntKind.i64.wrap (x+A)=x+A:=wrap_id _ (by omega) (by omega); have w4:IntKind.i64.wrap (x+B)=x+B:=wrap_id _ (by omega) (by omega)
  by_cases hg:0<y+C∧0<y+D
  ·obtain ⟨g1,g2⟩:=hg; obtain ⟨k,hk⟩:=exW ((x+A) / (y+C)); obtain ⟨m,hm⟩:=exW ((x+B) / (y+D)); have w5:IntKind.i64.wrap ((x+A).tdiv (y+C))=k:=by
    have h0:0≤k:=by rw [← hk]; exact Int.ediv_nonneg p1 (by omega)
    have h1:k≤x+A:=by rw [← hk]; exact Int.ediv_le_self _ p1
    rw [Int.tdiv_eq_ediv_of_nonneg p1,hk]; exact wrap_id _ (by omega) (by omega)
   have w6:IntKind.i64.wrap ((x+B).tdiv (y+D))=m:=by
    have h0:0≤m:=by rw [← hm]; exact Int.ediv_nonneg p2 (by omega)
    have h1:m≤x+B:=by rw [← hm]; exact Int.ediv_le_self _ p2
    rw [Int.tdiv_eq_ediv_of_nonneg p2,hm]; exact wrap_id _ (by omega) (by omega)
   have z1:(y+C==0)=false:=by rw [beq_eq_false_iff_ne]; omega
   have z2:(y+D==0)=false:=by rw [beq_eq_false_iff_ne]; omega
   by_cases a8:k=m
   ·subst a8; obtain ⟨E,g7,s⟩:=stI_step x0 y0 A B C D x y HS.o hx0 hle g1 g2 k hk hm; obtain ⟨C',L⟩:=exW (A - k*C); obtain ⟨D',V⟩:=exW (B - k*D); obtain ⟨y',Q⟩:=exW (x - k*y); rw [L,V,Q] at E; rw [L,Q] at s; obtain ⟨_,_,⟨f5,f7⟩,⟨f9,g0⟩,_,⟨i3,i4⟩,_⟩:=stI_bd x0 y0 _ _ _ _ _ _ E hx0 hle; have w7:IntKind.i64.wrap (k*C)=k*C:=wrap_id _ (by omega) (by omega); have w8:IntKind.i64.wrap (k*D)=k*D:=wrap_id _ (by omega) (by omega); have w9:IntKind.i64.wrap (A - k*C)=C':=by rw [L]; exact wrap_id _ (by omega) (by omega)
    have i0:IntKind.i64.wrap (B - k*D)=D':=by rw [V]; exact wrap_id _ (by omega) (by omega)
    have i1:IntKind.i64.wrap (k*y)=k*y:=wrap_id _ (by omega) (by omega); have i2:IntKind.i64.wrap (x - k*y)=y':=by rw [Q]; exact wrap_id _ (by omega) (by omega)
    have c7:=Hd E; have b9:=Hd s; clear E s hk hm
    go_wp2
    have hN:=K.o.lt; obtain ⟨N,M⟩:=exW wr.heap.size; have O:=bx_new wr [.int .i64 0,.int .i64 0] 148; have b3:=K.o.alloc (.cells #[.int .i64 0,.int .i64 0] 148); have b4:=j.o.alloc (.cells #[.int .i64 0,.int .i64 0] 148); have b5:=t.o.alloc t.o.size (.cells #[.int .i64 0,.int .i64 0] 148); rw [M] at O hN; rw [M]; have G:Bx (wr.alloc (.cells #[.int .i64 0,.int .i64 0] 148)) N [.int .i64 0,.int .i64 0]:=O; have c6:=Hd e2; clear O M e0 e1 e2 e3; generalize wr.alloc (.cells #[.int .i64 0,.int .i64 0] 148)=W1 at *; clear j K t
    go_loopw [48] (fun iv wr=>∃ i u v:Int,iv=.int .i64 i∧((i=0∧u=0∧v=0)∨(i=1∧u=C'∧v=0)∨(i=2∧u=C'∧v=D'))∧Bx wr N [.int .i64 u,.int .i64 v]∧Bx wr (w.heap.size+1) [.int .i64 A,.int .i64 B,.int .i64 C,.int .i64 D]∧Bx wr w.heap.size [.int .i64 0,.int .i64 0,.int .i64 0,.int .i64 0]∧Up w wr)
     (fun iv _=>(2 - intOf iv).toNat)
    case atStart=>exact ⟨0,0,0,rfl,.inl ⟨rfl,rfl,rfl⟩,G,b3,b4,b5⟩
    case round=>
     clear G b3 b4 b5; obtain ⟨i,u,v,rfl,a6,hn,F,Y,T⟩:=hrel; obtain ⟨e0,e1,e2,e3⟩:=F.k4; obtain ⟨f0,f1⟩:=hn.k2; obtain ⟨r0,r1⟩:=hn.f2; obtain ⟨t0,t1,t2,t3⟩:=F.f4; have g9:=hn.lt; have h2:=F.lt; have HN:=Hd hn; have j:=Hd Y; have K:=Hd F; have t:=Hd T; clear hn Y F T
     rcases a6 with ⟨rfl,rfl,rfl⟩|⟨rfl,rfl,rfl⟩|⟨rfl,rfl,rfl⟩
     ·go_wp2
      go_region
      go_wp2
      go_roundw
      case rel=>exact ⟨1,_,_,by go_num,.inr (.inl ⟨rfl,rfl,rfl⟩),(HN.o.set 0 _).drew,(K.o.other _ (by show N≠_; omega) _).drew,(j.o.other _ (by show N≠_; omega) _).drew,(t.o.setCell (p:=⟨N,0,none⟩) (by show _≤N; omega) _).drew⟩
      case measure=>simp [intOf]
     ·go_wp2
      go_region
      go_wp2
      go_roundw
      case rel=>exact ⟨2,_,_,by go_num,.inr (.inr ⟨rfl,rfl,rfl⟩),(HN.o.set 1 _).drew,(K.o.other _ (by show N≠_; omega) _).drew,(j.o.other _ (by show N≠_; omega) _).drew,(t.o.setCell (p:=⟨N,1,none⟩) (by show _≤N; omega) _).drew⟩
      case measure=>simp [intOf]
     ·go_wp2
      go_region
      go_wp2
      have S:Hid (Bx (((((wr.setCell ⟨w.heap.size+1,0,none⟩ (.int .i64 C)).setCell ⟨w.heap.size+1,1,none⟩ (.int .i64 D)).setCell ⟨w.heap.size+1,2,none⟩ (.int .i64 u)).setCell ⟨w.heap.size+1,3,none⟩ (.int .i64 v)).drew) (w.heap.size+1) [.int .i64 C,.int .i64 D,.int .i64 u,.int .i64 v]):=
       ((((K.o.set 0 _).set 1 _).set 2 _).set 3 _).drew
      have c8:Hid (Bx (((((wr.setCell ⟨w.heap.size+1,0,none⟩ (.int .i64 C)).setCell ⟨w.heap.size+1,1,none⟩ (.int .i64 D)).setCell ⟨w.heap.size+1,2,none⟩ (.int .i64 u)).setCell ⟨w.heap.size+1,3,none⟩ (.int .i64 v)).drew) w.heap.size [.int .i64 0,.int .i64 0,.int .i64 0,.int .i64 0]):=
       ((((j.o.other ⟨w.heap.size+1,0,none⟩ (by simp) _).other ⟨w.heap.size+1,1,none⟩ (by simp) _).other ⟨w.heap.size+1,2,none⟩ (by simp) _).other ⟨w.heap.size+1,3,none⟩ (by simp) _).drew
      have b8:Hid (Up w (((((wr.setCell ⟨w.heap.size+1,0,none⟩ (.int .i64 C)).setCell ⟨w.heap.size+1,1,none⟩ (.int .i64 D)).setCell ⟨w.heap.size+1,2,none⟩ (.int .i64 u)).setCell ⟨w.heap.size+1,3,none⟩ (.int .i64 v)).drew)):=
       ((((t.o.setCell (p:=⟨w.heap.size+1,0,none⟩) (Nat.le_succ _) _).setCell (p:=⟨w.heap.size+1,1,none⟩) (Nat.le_succ _) _).setCell (p:=⟨w.heap.size+1,2,none⟩) (Nat.le_succ _) _).setCell (p:=⟨w.heap.size+1,3,none⟩) (Nat.le_succ _) _).drew
      go_roundw
      case rel=>exact ⟨C,D,u,v,y,y',rfl,rfl,c7.o,c8.o,S.o,b8.o⟩
      case measure=>
       have H:=S.o.cell 2; simp only [List.getElem?_cons_zero,List.getElem?_cons_succ] at H; rw [H,c6.o]; have:=b9.o; simp only [Option.getD_some,intOf]; omega
   ·have z3:(k != m)=true:=by rw [bne_iff_ne]; exact a8
    obtain ⟨I,J,k2,k3⟩:=j.o.k4; obtain ⟨r0,r1,r2,r3⟩:=j.o.f4
    go_wp2
    have Z:Bx ((((wr.setCell ⟨w.heap.size,0,none⟩ (.int .i64 A)).setCell ⟨w.heap.size,1,none⟩ (.int .i64 B)).setCell ⟨w.heap.size,2,none⟩ (.int .i64 C)).setCell ⟨w.heap.size,3,none⟩ (.int .i64 D)) w.heap.size [.int .i64 A,.int .i64 B,.int .i64 C,.int .i64 D]:=(((j.o.set 0 _).set 1 _).set 2 _).set 3 _; have W:Up w ((((wr.setCell ⟨w.heap.size,0,none⟩ (.int .i64 A)).setCell ⟨w.heap.size,1,none⟩ (.int .i64 B)).setCell ⟨w.heap.size,2,none⟩ (.int .i64 C)).setCell ⟨w.heap.size,3,none⟩ (.int .i64 D)):=(((t.o.setCell (p:=⟨w.heap.size,0,none⟩) leR _).setCell (p:=⟨w.heap.size,1,none⟩) leR _).setCell (p:=⟨w.heap.size,2,none⟩) leR _).setCell (p:=⟨w.heap.size,3,none⟩) leR _; generalize (((wr.setCell ⟨w.heap.size,0,none⟩ (.int .i64 A)).setCell ⟨w.heap.size,1,none⟩ (.int .i64 B)).setCell ⟨w.heap.size,2,none⟩ (.int .i64 C)).setCell ⟨w.heap.size,3,none⟩ (.int .i64 D)=W5 at *; obtain ⟨I,J,k2,k3⟩:=Z.k4; refine bodyPost_ret (v:=.agg #[.int .i64 A,.int .i64 B,.int .i64 C,.int .i64 D]) ?_ rfl ⟨A,B,C,D,rfl,⟨x,y,HS.o⟩,W⟩; simp [results,Tryz.results124,go_sem,I,J,k2,k3]
  ·by_cases g1:0<y+C
   ·have g2:¬ 0<y+D:=fun h=>hg ⟨g1,h⟩; obtain ⟨I,J,k2,k3⟩:=j.o.k4; obtain ⟨r0,r1,r2,r3⟩:=j.o.f4
    go_wp2
    have Z:Bx ((((wr.setCell ⟨w.heap.size,0,none⟩ (.int .i64 A)).setCell ⟨w.heap.size,1,none⟩ (.int .i64 B)).setCell ⟨w.heap.size,2,none⟩ (.int .i64 C)).setCell ⟨w.heap.size,3,none⟩ (.int .i64 D)) w.heap.size [.int .i64 A,.int .i64 B,.int .i64 C,.int .i64 D]:=(((j.o.set 0 _).set 1 _).set 2 _).set 3 _; have W:Up w ((((wr.setCell ⟨w.heap.size,0,none⟩ (.int .i64 A)).setCell ⟨w.heap.size,1,none⟩ (.int .i64 B)).setCell ⟨w.heap.size,2,none⟩ (.int .i64 C)).setCell ⟨w.heap.size,3,none⟩ (.int .i64 D)):=(((t.o.setCell (p:=⟨w.heap.size,0,none⟩) leR _).setCell (p:=⟨w.heap.size,1,none⟩) leR _).setCell (p:=⟨w.heap.size,2,none⟩) leR _).setCell (p:=⟨w.heap.size,3,none⟩) leR _; generalize (((wr.setCell ⟨w.heap.size,0,none⟩ (.int .i64 A)).setCell ⟨w.heap.size,1,none⟩ (.int .i64 B)).setCell ⟨w.heap.size,2,none⟩ (.int .i64 C)).setCell ⟨w.heap.size,3,none⟩ (.int .i64 D)=W5 at *; obtain ⟨I,J,k2,k3⟩:=Z.k4; refine bodyPost_ret (v:=.agg #[.int .i64 A,.int .i64 B,.int .i64 C,.int .i64 D]) ?_ rfl ⟨A,B,C,D,rfl,⟨x,y,HS.o⟩,W⟩; simp [results,Tryz.results124,go_sem,I,J,k2,k3]
   ·obtain ⟨I,J,k2,k3⟩:=j.o.k4; obtain ⟨r0,r1,r2,r3⟩:=j.o.f4
    go_wp2
    have Z:Bx ((((wr.setCell ⟨w.heap.size,0,none⟩ (.int .i64 A)).setCell ⟨w.heap.size,1,none⟩ (.int .i64 B)).setCell ⟨w.heap.size,2,none⟩ (.int .i64 C)).setCell ⟨w.heap.size,3,none⟩ (.int .i64 D)) w.heap.size [.int .i64 A,.int .i64 B,.int .i64 C,.int .i64 D]:=(((j.o.set 0 _).set 1 _).set 2 _).set 3 _; have W:Up w ((((wr.setCell ⟨w.heap.size,0,none⟩ (.int .i64 A)).setCell ⟨w.heap.size,1,none⟩ (.int .i64 B)).setCell ⟨w.heap.size,2,none⟩ (.int .i64 C)).setCell ⟨w.heap.size,3,none⟩ (.int .i64 D)):=(((t.o.setCell (p:=⟨w.heap.size,0,none⟩) leR _).setCell (p:=⟨w.heap.size,1,none⟩) leR _).setCell (p:=⟨w.heap.size,2,none⟩) leR _).setCell (p:=⟨w.heap.size,3,none⟩) leR _; generalize (((wr.setCell ⟨w.heap.size,0,none⟩ (.int .i64 A)).setCell ⟨w.heap.size,1,none⟩ (.int .i64 B)).setCell ⟨w.heap.size,2,none⟩ (.int .i64 C)).setCell ⟨w.heap.size,3,none⟩ (.int .i64 D)=W5 at *; obtain ⟨I,J,k2,k3⟩:=Z.k4; refine bodyPost_ret (v:=.agg #[.int .i64 A,.int .i64 B,.int .i64 C,.int .i64 D]) ?_ rfl ⟨A,B,C,D,rfl,⟨x,y,HS.o⟩,W⟩; simp [results,Tryz.results124,go_sem,I,J,k2,k3]
theorem commonWord_any (x y:Nat) (w:World) (hx:x<18446744073709551616) (hy:y<18446744073709551616) :
 Calls Tryz.prog 127 #[.int .u64 (x:Nat),.int .u64 (y:Nat)] w fun e w'=>e=.returned (.int .u64 (Nat.gcd x y:Nat))∧Up w w':=by
 obtain ⟨d,D⟩:=exW (Nat.gcd x y); have O:=Hd D; rw [D]; clear D
 go_enter Tryz.func127,Tryz.ntmps127
 go_wp2
 go_loopw [0,1] (fun xv yv wr=>∃ a b:Nat,xv=.int .u64 (a:Nat)∧yv=.int .u64 (b:Nat)∧Nat.gcd a b=d∧a<18446744073709551616∧b<18446744073709551616∧Up w wr) (fun _ yv _=>(intOf yv).toNat)
 case atStart=>exact ⟨x,y,rfl,rfl,O.o,hx,hy,Below.refl _ _⟩
 case round=>
  obtain ⟨a,b,rfl,rfl,L,Q,K,J⟩:=hrel; have H:=Hd L; have E:=Hd J; clear L J
  by_cases t:b=0
  ·subst t; have M:Hid (a=d):=by have:=H.o; rw [Nat.gcd_zero_right] at this; exact this
   go_wp2
   go_ret
   exact ⟨ret_int (by rw [M.o]),E.o⟩
  ·have s:Hid (Nat.gcd b (a % b)=d):=by
    unfold Hid
    rw [← H.o,Nat.gcd_comm a b,Nat.gcd_rec b a,Nat.gcd_comm]
   have j:=Nat.mod_lt a (Nat.pos_of_ne_zero t); obtain ⟨A,u⟩:∃ A:Int,(a:Int)=A:=⟨_,rfl⟩; obtain ⟨C,m⟩:∃ C:Int,(b:Int)=C:=⟨_,rfl⟩; have I:A % C=((a % b:Nat):Int):=by rw [← u,← m]; rfl
   have G:Hid (A % C=((a % b:Nat):Int)):=I; have F:=Hd m; have i:Hid (a % b<b∧b<18446744073709551616):=⟨j,K⟩; have c1:0<C:=by omega
   have c2:C<18446744073709551616:=by omega
   have a1:0≤A:=by omega
   have a2:A<18446744073709551616:=by omega
   rw [u,m]; clear I u m t j Q K
   go_wp2
   go_quiet (fail)
   go_wp2
   go_roundw
   case rel=>exact ⟨b,a % b,val_int F.o.symm,val_int G.o,s.o,i.o.2,by have:=i.o; omega,below_drewN E.o _⟩
   case measure=>simp [intOf]; have:=G.o; have:=F.o; have:=i.o.1; omega
theorem RowT.drewN {w:World} {R:Nat} {l:List Nat} (h:RowT w R l) (n:Nat):RowT (w.drewN n) R l:=by
 obtain ⟨t,h⟩:=h; exact ⟨t,((below_drewN (Below.refl _ w) n).block R (Array.getElem?_eq_some_iff.1 h).1).trans h⟩
theorem Bx.drewN {W:World} {g:Nat} {l:List Value} (h:Bx W g l) (n:Nat):Bx (W.drewN n) g l:=h.below h.lt (below_drewN (Below.refl _ W) n)
theorem comb_step (P VL VN c s x y f0 f1 Va Vb low c':Int) (h:VL+P*c=f0*Va+f1*Vb) (hs:s=c+(f0*x+f1*y)) (hN:VN=VL+P*low) (hl:s=low+1000000000*c') :
 VN+P*1000000000*c'=f0*(Va+P*x)+f1*(Vb+P*y):=by
 have i:P*s=P*low+P*1000000000*c':=by rw [hl]; grind
 have j:P*s=P*c+f0*(P*x)+f1*(P*y):=by rw [hs]; grind
 rw [hN]
 grind
theorem mul_bd (f X:Int) (h1 : -1000000000<f) (h2:f<1000000000) (h3:0≤X) (h4:X<1000000000) : -999999998000000001≤f*X∧f*X≤999999998000000001:=by
 have i:f*X≤999999999*X:=Int.mul_le_mul_of_nonneg_right (by omega) h3; have j : -999999999*X≤f*X:=Int.mul_le_mul_of_nonneg_right (by omega) h3; constructor<;>omega
theorem tdm (S:Int):S=S.tmod 1000000000+1000000000*S.tdiv 1000000000:=by
 have:=Int.tmod_add_mul_tdiv S 1000000000; omega
theorem tdm_bd (S:Int) : -1000000000<S.tmod 1000000000∧S.tmod 1000000000<1000000000:=by
 have i:=Int.tmod_lt_of_pos S (show (0:Int)<1000000000 by decide); have j:=Int.lt_tmod_of_pos S (show (0:Int)<1000000000 by decide); omega
theorem comb_end (P VL c V:Int) (h:VL+P*c=V) (h1:0≤VL) (h2:VL<P) (h3:0≤V) (h4:V<P):c=0:=by
 rcases Int.lt_trichotomy c 0 with h5|h5|h5
 ·have:=Int.mul_le_mul_of_nonneg_left (show c ≤ -1 by omega) (show 0≤P by omega); omega
 ·exact h5
 have:=Int.mul_le_mul_of_nonneg_left (show 1≤c by omega) (show 0≤P by omega); omega
theorem combine_any (B:Nat) (va vb:Value) (a b:List Nat) (f0 f1:Int) (V:Nat) (w:World) (ha:IsL B w va a) (hb:IsL B w vb b) (hla:a.length≤100000) (hlb:b.length≤a.length) (hf0 : -1000000000<f0∧f0<1000000000) (hf1 : -1000000000<f1∧f1<1000000000)
 (hV:f0*val a+f1*val b=V) (hVl:V<1000000000 ^ a.length) :
 Calls Tryz.prog 126 #[va,vb,.agg #[.int .i64 f0,.int .i64 f1]] w fun e w'=>∃ v L,e=.returned v∧IsL w.heap.size w' v L∧isTrim L∧val L=V∧L.length≤a.length∧Up w w':=by
 obtain ⟨i0,b3,d6,d7,d8⟩:=info_parts Tryz.info_u32; have b9:Hid (∀ W,Up w W→IsL B W vb b):=fun W hW=>hb.below hW; obtain ⟨pa,ca,rfl,_⟩:=id ha; obtain ⟨pb,cb,rfl,_⟩:=id hb; obtain ⟨_,_,_,a6,D⟩:=ha.cells; obtain ⟨_,_,_,a7,_⟩:=hb.cells; have HA:=Hd D; clear D ha hb
 go_enter Tryz.func126,Tryz.ntmps126
 go_wp2_with (at_make; refine wpList_make_full _ rfl _ _ 47 rfl w.heap.size 85 i0 (.int .u32 0) 1 Tryz.underlying47 b3 d6 d7 .i64 .i64 _ _ a.length rfl rfl (by first|rfl|omega) (by first|rfl|omega) (by first|omega|(rw [d8]; omega)) (by unfold maxLen; omega) (by simp) ?_)
 intro w1 A a8
 first|rw [made_zero] at A|rw [made_zero'] at A
 have H:RowT w1 (w.heap.size+1) (List.replicate a.length 0):=(row_of_full A).tail; have J:Below (w.heap.size+1) (w.alloc (.cells #[.int .i64 f0,.int .i64 f1] 148)) w1:=(Below.refl _ _).grown a8 (by simp) (fun k h=>by cases h); have K:Bx w1 w.heap.size [.int .i64 f0,.int .i64 f1]:=(bx_new w [.int .i64 f0,.int .i64 f1] 148).below (Nat.lt_succ_self _) J; have a5:Up w w1:=(below_alloc w _).trans (J.mono (Nat.le_succ _)); clear A a8 J
 go_wp2
 go_loopw [8,16] (fun cv iv wr=>∃ (i:Nat) (c:Int) (L:List Nat),i≤a.length∧cv=.int .i64 c∧iv=.int .i64 (i:Nat)∧(-2000000000≤c∧c≤2000000000)∧L.length=a.length∧okL L∧RowT wr (w.heap.size+1) L∧Bx wr w.heap.size [.int .i64 f0,.int .i64 f1] ∧
  (val (L.take i):Int)+(1000000000 ^ i:Nat)*c=f0*val (a.take i)+f1*val (b.take i)∧Up w wr) (fun _ iv _=>a.length - (intOf iv).toNat)
 case atStart=>exact ⟨0,0,_,Nat.zero_le _,rfl,rfl,by omega,by simp,fun x hx=>by rw [List.eq_of_mem_replicate hx]; omega,H,K,by simp [val],a5⟩
 case round=>
  clear H K a5; obtain ⟨i,c,L,hi,rfl,rfl,⟨f7,f9⟩,M,s,H,K,j,U⟩:=hrel
  by_cases a9:i<a.length
  ·obtain ⟨ba,oa,rfl,b4,D⟩:=HA.o i a9; rw [← U.cell (p:=⟨ba,oa+i,none⟩) b4] at D; have d4:=okL_getD a a6 i a9; have d5:=okL_getD' b a7 i; obtain ⟨X,hX⟩:∃ X:Int,((a.getD i 0:Nat):Int)=X:=⟨_,rfl⟩; obtain ⟨Y,hY⟩:∃ Y:Int,((b.getD i 0:Nat):Int)=Y:=⟨_,rfl⟩; rw [hX] at D; obtain ⟨m1,m2⟩:=mul_bd f0 X hf0.1 hf0.2 (by omega) (by omega); obtain ⟨m3,m4⟩:=mul_bd f1 Y hf1.1 hf1.2 (by omega) (by omega); obtain ⟨S,hS⟩:=exW (c+(f0*X+f1*Y)); obtain ⟨R,O⟩:=exW (S.tmod 1000000000); obtain ⟨Q,hQ⟩:=exW (S.tdiv 1000000000); have T:=tdm S; have d3:=tdm_bd S; rw [O,hQ] at T; rw [O] at d3; have x1:0≤X∧X<1000000000:=by omega
   have y1:0≤Y∧Y<1000000000:=by omega
   have a3:Hid (∀ (low:Nat) (c':Int),S=low+1000000000*c'→(val ((L.set i low).take (i+1)):Int)+(1000000000 ^ (i+1):Nat)*c'=f0*val (a.take (i+1))+f1*val (b.take (i+1))):=fun low c' hl=>by
    rw [val_take_set L i low (by omega),val_take_succ a i,val_take_succ b i,Nat.pow_succ,Int.natCast_add,Int.natCast_add,Int.natCast_add,Int.natCast_mul,Int.natCast_mul,Int.natCast_mul,Int.natCast_mul,hX,hY]; exact comb_step _ _ _ c S X Y f0 f1 _ _ low c' j hS.symm rfl hl
   have u1:IntKind.i64.wrap (f0*X)=f0*X:=wrap_id _ (by omega) (by omega); have u2:IntKind.i64.wrap (f1*Y)=f1*Y:=wrap_id _ (by omega) (by omega); have u3:IntKind.i64.wrap (f0*X+f1*Y)=f0*X+f1*Y:=wrap_id _ (by omega) (by omega); have u4:IntKind.i64.wrap (c+(f0*X+f1*Y))=S:=by rw [hS]; exact wrap_id _ (by omega) (by omega)
   have u5:IntKind.i64.wrap (S.tmod 1000000000)=R:=by rw [O]; exact wrap_id _ (by omega) (by omega)
   have u6:IntKind.i64.wrap (S.tdiv 1000000000)=Q:=by rw [hQ]; exact wrap_id _ (by omega) (by omega)
   obtain ⟨e0,e1⟩:=K.k2; have d2:=H.cell i (by omega); have g0:=H.frozen i; have HY:=Hd hY; have HR:=Hd H; have HF:=Hd K; have HB:=Hd U; have c6:=Hd s; have I:=Hd M; have HI:=Hd (b9.o _ U); have q1 : -1999999999≤Q∧Q≤1999999999:=by omega
   have F:Hid (∀ (nq:Nat) (low:Nat),low<1000000000→RowT ((wr.drewN nq).setCell ⟨w.heap.size+1,i,none⟩ (.int .u32 (low:Nat))) (w.heap.size+1) (L.set i low)∧okL (L.set i low)):=fun nq low hl=>
    ⟨RowT.set (w:=wr.drewN nq) (HR.o.drewN nq) i low (by have:=I.o; omega),okL_set L c6.o i low hl⟩
   have G:Hid (∀ (nq:Nat) (u:Value),Bx ((wr.drewN nq).setCell ⟨w.heap.size+1,i,none⟩ u) w.heap.size [.int .i64 f0,.int .i64 f1]∧Up w ((wr.drewN nq).setCell ⟨w.heap.size+1,i,none⟩ u)):=fun nq u=>
    ⟨(HF.o.drewN nq).other _ (by simp) u,(below_drewN HB.o nq).setCell (p:=⟨w.heap.size+1,i,none⟩) (Nat.le_succ _) u⟩
   have Z:=Hd T; clear H K U s j hY hX hS d4 d5 T
   go_upto_region 6 with fail
   go_quiet (first|(go_at_call 142; refine Calls.quiet_of_same (limbAt_at B _ b _ i Y _ HI.o rfl (by omega) HY.o)))
   by_cases e4:R<0
   ·have u7:IntKind.i64.wrap (R+1000000000)=R+1000000000:=wrap_id _ (by omega) (by omega); have u8:IntKind.i64.wrap (Q - 1)=Q - 1:=wrap_id _ (by omega) (by omega); obtain ⟨low,t⟩:∃ low:Nat,R+1000000000=(low:Int):=⟨(R+1000000000).toNat,by omega⟩; have m:=Hd t; have E:low<1000000000:=by omega
    clear t
    go_wp2
    rw [m.o]
    go_roundw
    case rel=>exact ⟨i+1,Q - 1,L.set i low,by omega,rfl,by go_num,by omega,by rw [List.length_set]; exact I.o,(F.o nq low E).2,(F.o nq low E).1,(G.o nq _).1,a3.o low (Q - 1) (by have:=Z.o; have:=m.o; omega),(G.o nq _).2⟩
    case measure=>simp [intOf]; omega
   ·obtain ⟨low,t⟩:∃ low:Nat,R=(low:Int):=⟨R.toNat,by omega⟩; have m:=Hd t; have E:low<1000000000:=by omega
    clear t
    go_wp2
    rw [m.o]
    go_roundw
    case rel=>exact ⟨i+1,Q,L.set i low,by omega,rfl,by go_num,by omega,by rw [List.length_set]; exact I.o,(F.o nq low E).2,(F.o nq low E).1,(G.o nq _).1,a3.o low Q (by have:=Z.o; have:=m.o; omega),(G.o nq _).2⟩
    case measure=>simp [intOf]; omega
  ·obtain rfl:i=a.length:=by omega
   rw [List.take_of_length_le (by omega),List.take_of_length_le leR,List.take_of_length_le hlb,hV] at j; have hP:((val L:Nat):Int)<((1000000000 ^ a.length:Nat):Int):=by
    have:=val_lt L s; rw [M] at this; exact Int.ofNat_lt.2 this
   have d1:=comb_end _ _ c V j (Int.natCast_nonneg _) hP (Int.natCast_nonneg _) (Int.ofNat_lt.2 hVl); rw [d1,Int.mul_zero,Int.add_zero] at j; have b5:val L=V:=Int.ofNat.inj j; have HI:Hid (IsL w.heap.size wr (.slice (some ⟨w.heap.size+1,0,none⟩) a.length a.length) L):=by
    have h:=H.isL (B:=w.heap.size) (cap:=a.length) (Nat.le_succ _) s (by omega) (by unfold maxLen; omega); rw [M] at h; exact h
   have HT:Hid (val (trimL L)=V∧(trimL L).length≤a.length∧isTrim (trimL L)):=⟨by rw [val_trimL]; exact b5,by have:=trimL_len L; omega,trimL_trim _⟩; have b8:=Hd U; clear j H U s K hP b5 hV hVl
   go_wp2_with fail
   refine (trimLimbs_any w.heap.size _ L _ HI.o).mono ?_; rintro e w5 ⟨v,rfl,hcut,rfl⟩; have HW:Hid (IsL w.heap.size w5 v (trimL L)):=hcut _ _ HI.o; obtain ⟨pv,cv,hv,_⟩:=HW.o; subst hv; clear hcut
   go_wp2
   go_ret
   exact ⟨_,_,rfl,HW.o,HT.o.2.2,HT.o.1,HT.o.2.1,b8.o⟩
theorem lenOfLe (a b:List Nat) (ta:isTrim a) (ob:okL b) (h:val a≤val b):a.length≤b.length:=by
 by_cases i:a=[]
 ·rw [i]; exact Nat.zero_le _
 have j:=val_ge a ta i; have m:=val_lt b ob; have h3:1000000000 ^ (a.length - 1)<1000000000 ^ b.length:=by omega
 have h4:=(Nat.pow_lt_pow_iff_right (show 1<1000000000 by decide)).1 h3; omega
theorem top_pos (a:List Nat) (n:Nat) (h:a.length=n+1) (ta:isTrim a):1≤a.getD n 0:=by
 have i:a≠[]:=by rintro rfl; simp at h
 have:=ta i; rw [List.getLast_eq_getElem] at this; rw [List.getD_eq_getElem?_getD,List.getElem?_eq_getElem (by omega)]; simp only [h,Nat.add_sub_cancel] at this; simp only [Option.getD_some]; omega
theorem eqArr (a b c d:Int) (w:World):(Op.equalIn 10000 148 (.agg #[.int .i64 a,.int .i64 b]) (.agg #[.int .i64 c,.int .i64 d])).run Tryz.prog w=.ok (a==c&&b==d) w:=by
 have u3:=Tryz.underlying2; have m:=Tryz.isAgg2; have s:=Tryz.sizeOf2; rw [show (10000:Nat)=9999+1 from rfl,Op.equalIn]; simp only [Sem.run_bind,run_underlying Tryz.underlying148,Result.andThen_ok]; simp only [Std.Legacy.Range.forIn_eq_forIn_range',Std.Legacy.Range.size,Nat.sub_zero,Nat.add_sub_cancel,Nat.div_one,List.range'_succ,List.range'_zero,List.forIn_cons,List.forIn_nil]
 go_simp
 by_cases i:a=c<;>by_cases j:b=d<;>simp [i,j]
theorem gcd_div (a b q r:Nat) (h:a=q*b+r):Nat.gcd b r=Nat.gcd a b:=by
 rw [h,Nat.gcd_comm (q*b+r) b,Nat.gcd_rec b (q*b+r),Nat.mul_comm,Nat.mul_add_mod,Nat.gcd_rec b r]
theorem below_alloc_of {N:Nat} (w:World) (o:Obj) (h:N≤w.heap.size):Below N w (w.alloc o):=(Below.refl _ w).alloc h o
def Pairs (B n d:Nat) (w0:World) (k:Nat) (av bv:Value) (wr:World):Prop:=
 ∃ A L:List Nat,(IsL B wr av A∧IsL B wr bv L)∧(isTrim A∧isTrim L)∧(val L≤val A∧val L=k)∧Nat.gcd (val A) (val L)=d∧A.length≤n∧Up w0 wr
theorem commonLimbs_any (B:Nat) (va vb:Value) (a b:List Nat) (n:Nat) (w:World) (hBw:B≤w.heap.size) (ha:IsL B w va a) (hb:IsL B w vb b) (ta:isTrim a) (tb:isTrim b) (hla:a.length≤n) (hlb:b.length≤n) (hn:n≤90000) (hNS:NS w) :
 Calls Tryz.prog 111 #[va,vb] w fun e w'=>∃ v L,e=.returned v∧IsL B w' v L∧isTrim L∧val L=Nat.gcd (val a) (val b)∧Up w w':=by
 have HA:=Hd ha; have HB:=Hd hb; have i9:=Hd hNS; have HT:Hid (isTrim a∧isTrim b):=⟨ta,tb⟩; have d2:=Hd hBw; obtain ⟨pa,ca,rfl,_,_,oa,_⟩:=ha; obtain ⟨pb,cb,rfl,_,_,ob,_⟩:=hb; obtain ⟨d,hd⟩:=exW (Nat.gcd (val a) (val b)); rw [hd]; have HD:=Hd hd; obtain ⟨c,hc⟩:=exW (cmpL a b); have HC:=Hd hc; have p6 : -1≤c∧c≤1:=by rw [← hc]; exact cmpL_bd a b
 have e1:Hid (if c<0 then val a≤val b else val b≤val a):=by
  unfold Hid
  rw [← hc,cmpL_ord a b oa ob ta tb]; unfold ord
  split
  ·rw [if_pos (by decide)]; omega
  split
  ·rw [if_neg (by decide)]; omega
  rw [if_neg (by decide)]; omega
 clear hd hc ta tb hNS hBw oa ob
 by_cases k0:c<0
 all_goals
  go_enter Tryz.func111,Tryz.ntmps111
  go_wp2_with fail
  refine (compareLimbs_any B _ _ a b _ HA.o HB.o).mono ?_; rintro e w1 ⟨rfl,e7⟩; rw [HC.o]; have J:=Hd e7; clear e7
  go_wp2
  go_loopg [0,1] (min (val a) (val b)) (Pairs B n d w)
  case atStart=>
   have h:=e1.o
   first
    | (rw [if_pos k0] at h; rw [Nat.min_eq_left h]; exact ⟨b,a,⟨HB.o.below J.o,HA.o.below J.o⟩,⟨HT.o.2,HT.o.1⟩,⟨h,rfl⟩,by rw [Nat.gcd_comm]; exact HD.o,hlb,J.o⟩)
    | (rw [if_neg (by omega)] at h; rw [Nat.min_eq_right h]; exact ⟨a,b,⟨HA.o.below J.o,HB.o.below J.o⟩,⟨HT.o.1,HT.o.2⟩,⟨h,rfl⟩,HD.o,hla,J.o⟩)
  case round=>
   obtain ⟨A,L,⟨hA,hL⟩,⟨tA,tL⟩,⟨d6,hk⟩,hg,p7,hB⟩:=hrel; obtain ⟨p1,c1,rfl,_,_,oA,_⟩:=id hA; obtain ⟨p2,c2,rfl,_,_,oL,_⟩:=id hL; have M:=Hd hA; have S:=Hd hL; have s:Hid ((isTrim A∧isTrim L)∧(val L≤val A∧val L=gk)∧Nat.gcd (val A) (val L)=d∧(okL A∧okL L)∧L.length≤A.length):=⟨⟨tA,tL⟩,⟨d6,hk⟩,hg,⟨oA,oL⟩,lenOfLe L A tL oA d6⟩; have j:=Hd hB; have b7:=Hd (i9.o.below hB); clear hA hL tA tL d6 hk hg hB oA oL
   by_cases h2:A.length≤2
   ·have HV:Hid (val A<1000000000000000000∧val L<1000000000000000000):=by
     have h1:=val_lt A s.o.2.2.2.1.1; have h3:=Nat.pow_le_pow_right (show 0<1000000000 by decide) h2; have h4:=s.o.2.1.1; have h5:(1000000000:Nat) ^ 2=1000000000000000000:=by decide
     show val A<1000000000000000000∧val L<1000000000000000000
     omega
    go_wp2_with fail
    refine (wordOf_any B _ A _ M.o).mono ?_; rintro e w2 ⟨rfl,Z⟩; rw [m64_small _ (by have:=HV.o.1; omega)]; have F:=Hd Z; clear Z
    go_wp2_with fail
    refine (wordOf_any B _ L _ (S.o.below F.o)).mono ?_; rintro e w3 ⟨rfl,a3⟩; rw [m64_small _ (by have:=HV.o.2; omega)]; have i:=Hd (F.o.trans (a3.mono F.o.size)); clear a3
    go_wp2_with fail
    refine (commonWord_any (val A) (val L) _ (by have:=HV.o.1; omega) (by have:=HV.o.2; omega)).mono ?_; rintro e w4 ⟨rfl,e8⟩; rw [s.o.2.2.1]; have D:=Hd (i.o.trans (e8.mono i.o.size)); have f9:Hid (d<18446744073709551616):=by
     have h1:=s.o.2.2.1
     by_cases h0:val A=0
     ·rw [h0,Nat.gcd_zero_left] at h1; have:=HV.o.2
      show d<18446744073709551616
      omega
     ·have h3:=Nat.gcd_le_left (val L) (Nat.pos_of_ne_zero h0); have:=HV.o.1
      show d<18446744073709551616
      omega
    clear e8
    go_wp2_with fail
    refine (limbsOf_trim d _ f9.o).mono ?_; rintro e w5 ⟨v,t,rfl,hv,ht,g9,_,E⟩; have i6:=Hd (j.o.trans ((D.o.trans (E.mono D.o.size)).mono j.o.size)); have j1:Hid (IsL B w5 v t):=hv.mono (by have:=j.o.size; have:=D.o.size; have:=d2.o; omega); have e2:Hid (isTrim t∧val t=d):=⟨ht,g9⟩; obtain ⟨pv,cv,k7,_⟩:=hv; subst k7; clear ht g9 E
    go_wp2
    go_ret
    exact ⟨_,t,rfl,j1.o,e2.o.1,e2.o.2,i6.o⟩
   ·by_cases h0:L.length=0
    ·have HG:Hid (val A=d):=by
      have h1:=s.o.2.2.1; rw [List.eq_nil_of_length_eq_zero h0] at h1
      show val A=d
      simpa [val] using h1
     go_wp2_with fail
     go_ret
     exact ⟨_,A,rfl,M.o,s.o.1.1,HG.o,j.o⟩
    ·obtain ⟨m,hm⟩:∃ m,A.length=m+3:=⟨A.length - 3,by omega⟩; have HM:=Hd hm; have p8:m≤90000:=by omega
     have p5:((L.length:Int)==0)=false:=by rw [beq_eq_false_iff_ne]; omega
     clear hm
     go_wp2_with fail
     refine (leadingWords_any B _ _ A L m _ M.o S.o (by omega) HM.o (by have:=s.o.2.2.2.2; have:=HM.o; omega) (top_pos A (m+2) HM.o s.o.1.1) s.o.2.1.1).mono ?_; rintro e w2 ⟨x0,y0,rfl,H,Z⟩; have d3:=Hd H; have F:=Hd Z; have HX:Hid (x0<1000000000000000000∧y0≤x0):=by
      obtain ⟨_,_,_,_,_,_,_,h1,h2⟩:=H; exact ⟨h1,h2⟩
     clear H Z
     go_wp2_with fail
     refine (leadingSteps_any x0 y0 _ HX.o.1 HX.o.2 (b7.o.below F.o)).mono ?_; rintro e w3 ⟨K,Y,fC,fD,rfl,g2,a3⟩; have j0:=Hd g2; have i:=Hd (F.o.trans (a3.mono F.o.size)); obtain ⟨n0,n1,n2,n3⟩:=b7.o.below i.o; have l8:=cell_lt n0; clear g2 a3
     by_cases d7:K=1∧Y=0
     ·obtain ⟨rfl,rfl⟩:=d7; have hq:∀ W,(Op.equalIn 10000 148 (.agg #[.int .i64 1,.int .i64 0]) (.agg #[.int .i64 1,.int .i64 0])).run Tryz.prog W=.ok true W:=fun W=>eqArr 1 0 1 0 W
      go_wp2_with fail
      refine (divLimbs_any B _ _ A L _ (by have:=d2.o; have:=j.o.size; have:=i.o.size; simp; omega) (M.o.below (i.o.trans (below_alloc_of _ _ i.o.size))) (S.o.below (i.o.trans (below_alloc_of _ _ i.o.size))) (by omega) s.o.1.1 s.o.1.2 (fun h=>h0 (by rw [h]; rfl))).mono ?_; rintro e w5 ⟨v,u,Q,U,rfl,⟨⟨_,hu⟩,⟨_,g6⟩,_,c8,g1⟩,E⟩; have a5:Up wr w5:=(i.o.trans (below_alloc_of _ _ i.o.size)).trans (E.mono (by have:=i.o.size; simp; omega)); have d4:Hid (Pairs B n d w (val U) (.slice p2 L.length c2) u w5):=
       ⟨L,U,⟨S.o.below a5,hu⟩,⟨s.o.1.2,g6⟩,⟨by omega,rfl⟩,by rw [← s.o.2.2.1]; exact gcd_div _ _ _ _ c8,by have:=s.o.2.2.2.2; omega,j.o.trans (a5.mono j.o.size)⟩
      have i7:Hid (val U<gk):=by unfold Hid; have:=s.o.2.1.2; omega
      obtain ⟨pu,cu,k5,_⟩:=hu; subst k5; clear g6 c8 g1 E a5
      go_wp2
      go_roundg (val U)
      case measure=>exact i7.o
      case rel=>exact d4.o
     ·have hq:∀ W,(Op.equalIn 10000 148 (.agg #[.int .i64 K,.int .i64 Y]) (.agg #[.int .i64 1,.int .i64 0])).run Tryz.prog W=.ok false W:=fun W=>by
       rw [eqArr]
       congr 1
       rw [Bool.and_eq_false_iff,beq_eq_false_iff_ne,beq_eq_false_iff_ne]
       by_cases h:K=1
       ·exact .inr fun h'=>d7 ⟨h,h'⟩
       ·exact .inl h
      obtain ⟨W4,b5⟩:=exW (w3.alloc (.cells #[.int .i64 K,.int .i64 Y,.int .i64 fC,.int .i64 fD] 150)); have d5:Bx W4 w3.heap.size [.int .i64 K,.int .i64 Y,.int .i64 fC,.int .i64 fD]:=by rw [← b5]; exact bx_new w3 _ _
      have e6:Up wr W4:=by rw [← b5]; exact i.o.trans (below_alloc_of _ _ i.o.size)
      have j2:=Hd b5; have D:=Hd e6; have e0:Hid (∀ W,Up W4 W→W.cell? ⟨w3.heap.size,0,none⟩=some (.int .i64 K)∧W.cell? ⟨w3.heap.size,1,none⟩=some (.int .i64 Y)∧W.cell? ⟨w3.heap.size,2,none⟩=some (.int .i64 fC)∧W.cell? ⟨w3.heap.size,3,none⟩=some (.int .i64 fD)):=fun W hW=>by
       have h:=d5.below d5.lt hW; exact ⟨h.cell 0,h.cell 1,h.cell 2,h.cell 3⟩
      have b3:Hid (∀ W,Up W4 W→(IsL B W (.slice p1 A.length c1) A∧IsL B W (.slice p2 L.length c2) L)∧Up wr W):=fun W hW=>by
       have hh:=D.o.trans (hW.mono D.o.size); exact ⟨⟨M.o.below hh,S.o.below hh⟩,hh⟩
      obtain ⟨xf,yf,a7⟩:=j0.o; have a6:=stI_bd x0 y0 K Y fC fD xf yf a7 HX.o.1 HX.o.2; obtain ⟨SS,a',b',ea,eb,h6,h7,_,_⟩:=d3.o; obtain ⟨a1,b1,f5,f7,g0,b9,j7⟩:=stI_made x0 y0 K Y fC fD xf yf SS (val A) (val L) a' b' a7 d7 ea eb h6 h7; have k1:val A<1000000000 ^ A.length:=val_lt A s.o.2.2.2.1.1; have G:Hid ((K*(val A:Nat)+Y*(val L:Nat)=(a1:Nat)∧a1<1000000000 ^ A.length)∧(fC*(val A:Nat)+fD*(val L:Nat)=(b1:Nat)∧b1<1000000000 ^ A.length)∧Nat.gcd a1 b1=d∧b1<a1∧b1<gk):=by
       have h1:=s.o.2.1; exact ⟨⟨f5,by omega⟩,⟨f7,by omega⟩,g0.trans s.o.2.2.1,b9,by omega⟩
      have HF:Hid (((-1000000000<K∧K<1000000000)∧(-1000000000<Y∧Y<1000000000))∧(-1000000000<fC∧fC<1000000000)∧(-1000000000<fD∧fD<1000000000)):=⟨⟨a6.1,a6.2.1⟩,a6.2.2.1,a6.2.2.2.1⟩; have I:Hid (L.length≤A.length∧A.length≤100000):=⟨s.o.2.2.2.2,by omega⟩; clear a7 a6 ea eb h6 h7 f5 f7 g0 b9 j7 k1 d5 e6 b5
      go_upto_region 10 with fail
      rw [j2.o]; obtain ⟨c0,p0,p3,c3⟩:=e0.o W4 (Below.refl _ _)
      go_region_with (first
       | (go_at_call_of 126 (Value.int IntKind.i64 K)
          refine (combine_any B _ _ A L K Y a1 _ (b3.o _ (Below.refl _ W4).drew).1.1 (b3.o _ (Below.refl _ W4).drew).1.2 I.o.2 I.o.1 HF.o.1.1 HF.o.1.2 G.o.1.1 G.o.1.2).mono ?_; rintro e w5 ⟨v1,L1,rfl,g7,g3,c9,c6,E⟩; have O:Hid (Up W4 w5):=(Below.refl _ W4).drew.trans E; have T:Hid (IsL W4.heap.size w5 v1 L1∧isTrim L1∧val L1=a1∧L1.length≤A.length):=⟨g7,g3,c9,c6⟩; obtain ⟨o9,l2,l3,p4⟩:=e0.o w5 O.o; clear g7 g3 c9 c6 E)
       | (go_at_call_of 126 (Value.int IntKind.i64 fC)
          refine (combine_any B _ _ A L fC fD b1 _ (b3.o _ O.o).1.1 (b3.o _ O.o).1.2 I.o.2 I.o.1 HF.o.2.1 HF.o.2.2 G.o.2.1.1 G.o.2.1.2).mono ?_; rintro e w6 ⟨v2,L2,rfl,g8,g4,d0,c7,e9⟩; have d9:=Hd e9; have V:Hid (IsL w5.heap.size w6 v2 L2∧isTrim L2∧val L2=b1∧L2.length≤A.length):=⟨g8,g4,d0,c7⟩; clear g8 g4 d0 c7 e9))
      all_goals
       have d4:Hid (Pairs B n d w b1 v1 v2 w6):=by
        have s1:=d2.o; have s2:=j.o.size; have s3:=D.o.size; have s4:=O.o.size; exact ⟨L1,L2,⟨(T.o.1.below d9.o).mono (by omega),V.o.1.mono (by omega)⟩,⟨T.o.2.1,V.o.2.1⟩,⟨by rw [T.o.2.2.1,V.o.2.2.1]; exact Nat.le_of_lt G.o.2.2.2.1,V.o.2.2.1⟩,by rw [T.o.2.2.1,V.o.2.2.1]; exact G.o.2.2.1,by have:=T.o.2.2.2; omega,
         j.o.trans ((D.o.trans ((O.o.trans (d9.o.mono s4)).mono s3)).mono s2)⟩
       try simp only [List.getElem_toArray,List.getElem_cons_succ,List.getElem_cons_zero,Act.put,List.setIfInBounds_toArray,List.set_cons_succ,List.set_cons_zero]
       go_wp2
       go_roundg b1
       case measure=>exact G.o.2.2.2.2
       case rel=>exact d4.o
def gcdI (x y:Int):Int:=((Int.gcd x y:Nat):Int)
theorem sg_abs (n:Bool) (v:Nat):(sg n v).natAbs=v:=by cases n<;>simp [sg]
theorem gcdI_sg (na nb:Bool) (a b:Nat):gcdI (sg na a) (sg nb b)=((Nat.gcd a b:Nat):Int):=by
 unfold gcdI Int.gcd; rw [sg_abs,sg_abs]
theorem gcd_len (a b L:List Nat) (n:Nat) (tL:isTrim L) (oa:okL a) (ob:okL b) (hv:val L=Nat.gcd (val a) (val b)) (ha:a.length≤n) (hb:b.length≤n):L.length≤n:=by
 by_cases i:val a=0
 ·rw [i,Nat.gcd_zero_left] at hv; have:=lenOfLe L b tL ob (by omega); omega
 have j:=Nat.gcd_le_left (val b) (Nat.pos_of_ne_zero i); have:=lenOfLe L a tL oa (by omega); omega
theorem commonDivisor_any (B:Nat) (za zb:Value) (x y:Int) (n:Nat) (w:World) (hBw:B≤w.heap.size) (ha:IsI B w za x n) (hb:IsI B w zb y n) (hn:n≤90000) (hNS:NS w) :
 Calls Tryz.prog 96 #[za,zb] w fun e w'=>∃ z,e=.returned z∧IsI B w' z (gcdI x y) n∧Up w w':=by
 obtain ⟨na,va,a,rfl,T,ta,rfl,O⟩:=ha; obtain ⟨nb,vb,b,rfl,U,tb,rfl,Q⟩:=hb; rw [gcdI_sg]; have a3:=Hd T; have a5:=Hd U; have Z:=Hd hNS; have Y:=Hd hBw; have I:Hid (isTrim a∧isTrim b):=⟨ta,tb⟩; obtain ⟨pa,ca,rfl,_,_,oa,_⟩:=T; obtain ⟨pb,cb,rfl,_,_,ob,_⟩:=U; have H:Hid (okL a∧okL b):=⟨oa,ob⟩; clear ta tb hNS hBw oa ob; obtain ⟨W0,t⟩:=exW (((w.alloc (.cells #[.bool (negOf na a),.slice pa a.length ca] 55)).alloc (.cells #[.bool (negOf nb b),.slice pb b.length cb] 55)).alloc (.cells #[.bool false,.slice none 0 0] 55)); have a6:=Hd t; have j:Hid (Up w W0):=by
  unfold Hid
  rw [← t]; exact below_al (below_al (below_alloc _ _) _) _
 have D:Bx W0 (w.heap.size+1+1) [.bool false,.slice none 0 0]:=by
  rw [← t]; have h:=bx_new ((w.alloc (.cells #[.bool (negOf na a),.slice pa a.length ca] 55)).alloc (.cells #[.bool (negOf nb b),.slice pb b.length cb] 55)) [.bool false,.slice none 0 0] 55; rw [World.size_alloc,World.size_alloc] at h; exact h
 have G:Hid (∀ W,Up W0 W→Bx W (w.heap.size+1+1) [.bool false,.slice none 0 0]):=fun W hW=>D.below D.lt hW; clear t D
 go_enter Tryz.func96,Tryz.ntmps96
 go_wp2_with fail
 rw [a6.o]; refine (commonLimbs_any B _ _ a b n _ (by have:=Y.o; have:=j.o.size; omega) (a3.o.below j.o) (a5.o.below j.o) I.o.1 I.o.2 O Q hn (Z.o.below j.o)).mono ?_; rintro e w1 ⟨v,L,rfl,hv,tL,m,K⟩; have HV:=Hd hv; have F:=Hd K; have V:Hid (isTrim L∧val L=Nat.gcd (val a) (val b)∧L.length≤n):=⟨tL,m,gcd_len a b L n tL H.o.1 H.o.2 m O Q⟩; obtain ⟨pv,cv,b3,_⟩:=hv; subst b3; clear tL m K
 go_wp2_with fail
 refine (makeInteger_any B false _ L _ HV.o).mono ?_; rintro e s ⟨v',rfl,hcut,A⟩; have J:Hid (IsL B s v' L):=by
  have h:=hcut _ _ (HV.o.below A); rw [trimL_of_trim L V.o.1] at h; exact h
 have u:=Hd (F.o.trans (A.mono F.o.size)); have e1:negOf false (trimL L)=false:=by unfold negOf; rfl
 rw [e1]; have hb:=G.o s u.o; obtain ⟨k0,k1⟩:=hb.k2; obtain ⟨r0,r1⟩:=hb.f2; obtain ⟨E,c2,a9,_⟩:=J.o; subst a9; clear hcut A hb e1
 go_wp2
 have M:=G.o s u.o; have S:NoInt s (w.heap.size+1+1):=fun i x=>by
  rw [M.cell i]
  match i with
  | 0=>simp
  | 1=>simp
  | i+2=>simp
 have kk:Keeps (w.heap.size+1+1) (w.heap.size+1+1) s ((s.setCell ⟨w.heap.size+1+1,0,none⟩ (.bool false)).setCell ⟨w.heap.size+1+1,1,none⟩ (.slice E L.length c2)):=
  Keeps.setCell (Keeps.setCell (Keeps.refl _ _ s) ⟨w.heap.size+1+1,0,none⟩ (.bool false) (Or.inl rfl)) ⟨w.heap.size+1+1,1,none⟩ (.slice E L.length c2) (Or.inl rfl)
 have a8:=J.o.keeps S S kk; have hZ:Bx ((s.setCell ⟨w.heap.size+1+1,0,none⟩ (.bool false)).setCell ⟨w.heap.size+1+1,1,none⟩ (.slice E L.length c2)) (w.heap.size+1+1) [.bool false,.slice E L.length c2]:=(M.set 0 _).set 1 _; have hE:Up w ((s.setCell ⟨w.heap.size+1+1,0,none⟩ (.bool false)).setCell ⟨w.heap.size+1+1,1,none⟩ (.slice E L.length c2)):=
  ((j.o.trans (u.o.mono j.o.size)).setCell (p:=⟨w.heap.size+1+1,0,none⟩) (by show _≤w.heap.size+1+1; omega) _).setCell (p:=⟨w.heap.size+1+1,1,none⟩) (by show _≤w.heap.size+1+1; omega) _
 generalize (s.setCell ⟨w.heap.size+1+1,0,none⟩ (.bool false)).setCell ⟨w.heap.size+1+1,1,none⟩ (.slice E L.length c2)=WE at *; obtain ⟨m0,m1⟩:=hZ.k2; refine bodyPost_ret (v:=.agg #[.bool false,.slice E L.length c2]) ?_ rfl ⟨_,rfl,⟨false,_,L,by unfold negOf; rfl,a8,V.o.1,by rw [V.o.2.1]; rfl,V.o.2.2⟩,hE⟩; simp [results,Tryz.results96,go_sem,m0,m1]
end Go.Proofs.YtnhbmpnhijgpmaaGreatDoor
