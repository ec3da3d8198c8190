import Derived.Test.YtfclfbpjjlinhaaGreatDoorM6p
import Derived.Test.YtfclfbpjjlinhaaGreatDoorM2p
import Derived.Test.YtfclfbpjjlinhaaGreatDoorPCSp
set_option maxRecDepth 100000
set_option maxHeartbeats 1000000
namespace Go.Proofs.YtfclfbpjjlinhaaGreatDoor
open Go.ChangeShapes Go.WideShapes Go.ChangeAt Go.RowKit
theorem field_ord (x z:Int) (y:Bool) (w:World):(Instr.field 144 (.agg #[.int .i64 x,.bool y,.int .i64 z]) 2).run Tryz.prog w=.ok (.int .i64 z) w:=by kernel_rfl
theorem compare_any (B:Nat) (na nb:Bool) (va vb:Value) (a b:List Nat) (w:World) (ha:IsL B w va a) (hb:IsL B w vb b) (h:SP w) :
 Calls Tryz.prog 89 #[.agg #[.bool na,va],.agg #[.bool nb,vb]] w fun e w'=>e=.returned (.int .i64 (cmpI na nb a b))∧Up w w':=by
 obtain ⟨M,I,rfl,_⟩:=id ha; obtain ⟨O,J,rfl,_⟩:=id hb; obtain ⟨y,j⟩:=exW ((w.alloc (.cells #[.bool na,.slice M a.length I] 82)).alloc (.cells #[.bool nb,.slice O b.length J] 82)); have Y:=Hd j; have m:Up w y:=by rw [← j]; exact ((Below.refl _ w).alloc leR _).alloc (by simp) _
 have a8:y.heap.size=w.heap.size+2:=by rw [← j]; simp
 have Z:Hid (IsL B y (.slice M a.length I) a):=ha.below m; have HB:Hid (IsL B y (.slice O b.length J) b):=hb.below m; have HS:Hid (SP y):=h.below m; have U:=Hd m; have HX:Hid (∀ W,Up y W→W.cell? ⟨w.heap.size,0,none⟩=some (.bool na)∧W.cell? ⟨w.heap.size,1,none⟩=some (.slice M a.length I)∧W.cell? ⟨w.heap.size+1,1,none⟩=some (.slice O b.length J)):=fun W hW=>by
  refine ⟨?_,?_,?_⟩
  ·rw [hW.cell (p:=⟨w.heap.size,0,none⟩) (by show w.heap.size<_; omega),← j,World.cell?_alloc_past _ _ _ (by simp),World.cell?_alloc_at _ _ _ _ rfl]; rfl
  ·rw [hW.cell (p:=⟨w.heap.size,1,none⟩) (by show w.heap.size<_; omega),← j,World.cell?_alloc_past _ _ _ (by simp),World.cell?_alloc_at _ _ _ _ rfl]; rfl
  rw [hW.cell (p:=⟨w.heap.size+1,1,none⟩) (by show w.heap.size+1<_; omega),← j,World.cell?_alloc_at _ _ _ _ (by simp)]; rfl
 clear ha hb h m j; have a7:=field_ord
 go_enter Tryz.func89,Tryz.ntmps89
 go_wp2_with fail
 rw [Y.o]; refine (signsOf_any na nb M a.length I O b.length J y HS.o).mono ?_; rintro e T ⟨rfl,s⟩; obtain ⟨x0,x1,x2⟩:=HX.o T s; have E:Hid (IsL B T (.slice M a.length I) a):=Z.o.below s; have H:Hid (IsL B T (.slice O b.length J) b):=HB.o.below s; have u:Hid (Up w T):=U.o.trans (s.mono (by omega)); clear s Z HB HS HX
 cases na<;>cases nb
 case' _=>
  have D:Hid (cmpI false false a b=cmpL a b):=rfl; simp only [sgOrd,sgSum,if_true]
  go_wp2_with fail
  refine (compareLimbs_any B _ _ a b _ E.o H.o).mono ?_
 rotate_left
 ·have D:Hid (cmpI false true a b=1):=rfl; simp only [sgOrd,sgSum]
  go_wp2
  go_ret
  exact ⟨ret_int D.o.symm,u.o⟩
 ·have D:Hid (cmpI true false a b = -1):=rfl; simp only [sgOrd,sgSum]
  go_wp2
  go_ret
  exact ⟨ret_int D.o.symm,u.o⟩
 case' _=>
  have D:Hid (cmpI true true a b=cmpL b a):=rfl; simp only [sgOrd,sgSum,if_true]
  go_wp2_with fail
  refine (compareLimbs_any B _ _ b a _ H.o E.o).mono ?_
 rotate_left
 all_goals
  rintro e w2 ⟨rfl,K⟩; have V:Hid (Up w w2):=u.o.trans (K.mono u.o.size); clear K
  go_wp2
  go_ret
  exact ⟨ret_int D.o.symm,V.o⟩
end Go.Proofs.YtfclfbpjjlinhaaGreatDoor
