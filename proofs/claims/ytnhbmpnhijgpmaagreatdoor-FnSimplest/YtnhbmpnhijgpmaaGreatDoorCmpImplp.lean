import Derived.Test.YtnhbmpnhijgpmaaGreatDoorM6p
import Derived.Test.YtnhbmpnhijgpmaaGreatDoorM2p
import Derived.Test.YtnhbmpnhijgpmaaGreatDoorPCSp
set_option maxRecDepth 100000
set_option maxHeartbeats 1000000
namespace Go.Proofs.YtnhbmpnhijgpmaaGreatDoor
open Go.ChangeShapes Go.WideShapes Go.ChangeAt Go.RowKit
theorem field_ord (x z:Int) (y:Bool) (w:World):(Instr.field 133 (.agg #[.int .i64 x,.bool y,.int .i64 z]) 2).run Tryz.prog w=.ok (.int .i64 z) w:=by kernel_rfl
theorem compare_any (B:Nat) (na nb:Bool) (va vb:Value) (a b:List Nat) (w:World) (ha:IsL B w va a) (hb:IsL B w vb b) (h:SP w) :
 Calls Tryz.prog 77 #[.agg #[.bool na,va],.agg #[.bool nb,vb]] w fun e w'=>e=.returned (.int .i64 (cmpI na nb a b))∧Up w w':=by
 obtain ⟨H,E,rfl,_⟩:=id ha; obtain ⟨I,F,rfl,_⟩:=id hb; obtain ⟨t,i⟩:=exW ((w.alloc (.cells #[.bool na,.slice H a.length E] 55)).alloc (.cells #[.bool nb,.slice I b.length F] 55)); have M:=Hd i; have j:Up w t:=by rw [← i]; exact ((Below.refl _ w).alloc leR _).alloc (by simp) _
 have V:t.heap.size=w.heap.size+2:=by rw [← i]; simp
 have O:Hid (IsL B t (.slice H a.length E) a):=ha.below j; have Q:Hid (IsL B t (.slice I b.length F) b):=hb.below j; have S:Hid (SP t):=h.below j; have K:=Hd j; have T:Hid (∀ W,Up t W→W.cell? ⟨w.heap.size,0,none⟩=some (.bool na)∧W.cell? ⟨w.heap.size,1,none⟩=some (.slice H a.length E)∧W.cell? ⟨w.heap.size+1,1,none⟩=some (.slice I b.length F)):=fun W hW=>by
  refine ⟨?_,?_,?_⟩
  ·rw [hW.cell (p:=⟨w.heap.size,0,none⟩) (by show w.heap.size<_; omega),← i,World.cell?_alloc_past _ _ _ (by simp),World.cell?_alloc_at _ _ _ _ rfl]; rfl
  ·rw [hW.cell (p:=⟨w.heap.size,1,none⟩) (by show w.heap.size<_; omega),← i,World.cell?_alloc_past _ _ _ (by simp),World.cell?_alloc_at _ _ _ _ rfl]; rfl
  rw [hW.cell (p:=⟨w.heap.size+1,1,none⟩) (by show w.heap.size+1<_; omega),← i,World.cell?_alloc_at _ _ _ _ (by simp)]; rfl
 clear ha hb h j i; have U:=field_ord
 go_enter Tryz.func77,Tryz.ntmps77
 go_wp2_with fail
 rw [M.o]; refine (signsOf_any na nb H a.length E I b.length F t S.o).mono ?_; rintro e J ⟨rfl,m⟩; obtain ⟨Z,x1,x2⟩:=T.o J m; have A:Hid (IsL B J (.slice H a.length E) a):=O.o.below m; have D:Hid (IsL B J (.slice I b.length F) b):=Q.o.below m; have s:Hid (Up w J):=K.o.trans (m.mono (by omega)); clear m O Q S T
 cases na<;>cases nb
 case' _=>
  have u:Hid (cmpI false false a b=cmpL a b):=rfl; simp only [sgOrd,sgSum,if_true]
  go_wp2_with fail
  refine (compareLimbs_any B _ _ a b _ A.o D.o).mono ?_
 rotate_left
 ·have u:Hid (cmpI false true a b=1):=rfl; simp only [sgOrd,sgSum]
  go_wp2
  go_ret
  exact ⟨ret_int u.o.symm,s.o⟩
 ·have u:Hid (cmpI true false a b = -1):=rfl; simp only [sgOrd,sgSum]
  go_wp2
  go_ret
  exact ⟨ret_int u.o.symm,s.o⟩
 case' _=>
  have u:Hid (cmpI true true a b=cmpL b a):=rfl; simp only [sgOrd,sgSum,if_true]
  go_wp2_with fail
  refine (compareLimbs_any B _ _ b a _ D.o A.o).mono ?_
 rotate_left
 all_goals
  rintro e Y ⟨rfl,G⟩; have L:Hid (Up w Y):=s.o.trans (G.mono s.o.size); clear G
  go_wp2
  go_ret
  exact ⟨ret_int u.o.symm,L.o⟩
end Go.Proofs.YtnhbmpnhijgpmaaGreatDoor
