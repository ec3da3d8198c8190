import Derived.Test.YtknfmkeipeikkaaGreatDoorPCSp
import Derived.Test.YtknfmkeipeikkaaGreatDoorCmpImplp
set_option maxRecDepth 100000
set_option maxHeartbeats 4000000
namespace Go.Proofs.YtknfmkeipeikkaaGreatDoor
open Go.ChangeShapes Go.WideShapes Go.ChangeAt Go.RowKit
theorem l1Cmp_tf1 (x y:Int) (xn yn:Bool) (pa:Option Addr) (la ca:Nat) (pb:Option Addr) (lb cb:Nat) (w:World) (hz:((la:Int)==0)=false) (ha:ngZ x xn la=true) (hb:ngZ y yn lb=false) :
 Calls Tryz.prog 74 #[.agg #[.int .i64 x,.bool xn,.slice pa la ca],.agg #[.int .i64 y,.bool yn,.slice pb lb cb]] w fun e w'=>e=.returned (.int .i64 (-1))∧Up w w':=by
 have h:=Hd ha; have j:=Hd hb; clear ha hb
 go_enter Tryz.func74,Tryz.ntmps74
 go_wp2_with (go_at_call 44; refine (l1IsSmall_ex _ _ _ _ _ _).mono ?_; rintro e w' ⟨rfl,rfl⟩)
 go_region_with (first|(go_at_call_of 73 (Value.int IntKind.i64 x); refine (l1Neg_ex _ _ _ _ _ _).mono ?_; rintro e w' ⟨rfl,rfl⟩; rw [h.o])|(go_at_call_of 73 (Value.int IntKind.i64 y); refine (l1Neg_ex _ _ _ _ _ _).mono ?_; rintro e w' ⟨rfl,rfl⟩; rw [j.o]))
 all_goals
  go_wp2_with (go_at_call 73; refine (l1Neg_ex _ _ _ _ _ _).mono ?_; rintro e w' ⟨rfl,rfl⟩; rw [h.o])
  go_ret
  exact ⟨rfl,by repeat (first|exact Below.refl _ _|refine Below.drew ?_|refine below_al ?_ _)⟩
theorem l1Cmp_ft1 (x y:Int) (xn yn:Bool) (pa:Option Addr) (la ca:Nat) (pb:Option Addr) (lb cb:Nat) (w:World) (hz:((la:Int)==0)=false) (ha:ngZ x xn la=false) (hb:ngZ y yn lb=true) :
 Calls Tryz.prog 74 #[.agg #[.int .i64 x,.bool xn,.slice pa la ca],.agg #[.int .i64 y,.bool yn,.slice pb lb cb]] w fun e w'=>e=.returned (.int .i64 (1))∧Up w w':=by
 have h:=Hd ha; have j:=Hd hb; clear ha hb
 go_enter Tryz.func74,Tryz.ntmps74
 go_wp2_with (go_at_call 44; refine (l1IsSmall_ex _ _ _ _ _ _).mono ?_; rintro e w' ⟨rfl,rfl⟩)
 go_region_with (first|(go_at_call_of 73 (Value.int IntKind.i64 x); refine (l1Neg_ex _ _ _ _ _ _).mono ?_; rintro e w' ⟨rfl,rfl⟩; rw [h.o])|(go_at_call_of 73 (Value.int IntKind.i64 y); refine (l1Neg_ex _ _ _ _ _ _).mono ?_; rintro e w' ⟨rfl,rfl⟩; rw [j.o]))
 all_goals
  go_wp2_with (go_at_call 73; refine (l1Neg_ex _ _ _ _ _ _).mono ?_; rintro e w' ⟨rfl,rfl⟩; rw [h.o])
  go_ret
  exact ⟨rfl,by repeat (first|exact Below.refl _ _|refine Below.drew ?_|refine below_al ?_ _)⟩
theorem l1Cmp_tf2 (x y:Int) (xn yn:Bool) (pa:Option Addr) (la ca:Nat) (pb:Option Addr) (lb cb:Nat) (w:World) (hz:((la:Int)==0)=true) (hz2:((lb:Int)==0)=false) (ha:ngZ x xn la=true) (hb:ngZ y yn lb=false) :
 Calls Tryz.prog 74 #[.agg #[.int .i64 x,.bool xn,.slice pa la ca],.agg #[.int .i64 y,.bool yn,.slice pb lb cb]] w fun e w'=>e=.returned (.int .i64 (-1))∧Up w w':=by
 have h:=Hd ha; have j:=Hd hb; clear ha hb
 go_enter Tryz.func74,Tryz.ntmps74
 go_wp2_with (go_at_call 44; refine (l1IsSmall_ex _ _ _ _ _ _).mono ?_; rintro e w' ⟨rfl,rfl⟩)
 go_region_with (first|(go_at_call_of 73 (Value.int IntKind.i64 x); refine (l1Neg_ex _ _ _ _ _ _).mono ?_; rintro e w' ⟨rfl,rfl⟩; rw [h.o])|(go_at_call_of 73 (Value.int IntKind.i64 y); refine (l1Neg_ex _ _ _ _ _ _).mono ?_; rintro e w' ⟨rfl,rfl⟩; rw [j.o]))
 all_goals
  go_wp2_with (go_at_call 73; refine (l1Neg_ex _ _ _ _ _ _).mono ?_; rintro e w' ⟨rfl,rfl⟩; rw [h.o])
  go_ret
  exact ⟨rfl,by repeat (first|exact Below.refl _ _|refine Below.drew ?_|refine below_al ?_ _)⟩
theorem l1Cmp_ft2 (x y:Int) (xn yn:Bool) (pa:Option Addr) (la ca:Nat) (pb:Option Addr) (lb cb:Nat) (w:World) (hz:((la:Int)==0)=true) (hz2:((lb:Int)==0)=false) (ha:ngZ x xn la=false) (hb:ngZ y yn lb=true) :
 Calls Tryz.prog 74 #[.agg #[.int .i64 x,.bool xn,.slice pa la ca],.agg #[.int .i64 y,.bool yn,.slice pb lb cb]] w fun e w'=>e=.returned (.int .i64 (1))∧Up w w':=by
 have h:=Hd ha; have j:=Hd hb; clear ha hb
 go_enter Tryz.func74,Tryz.ntmps74
 go_wp2_with (go_at_call 44; refine (l1IsSmall_ex _ _ _ _ _ _).mono ?_; rintro e w' ⟨rfl,rfl⟩)
 go_region_with (first|(go_at_call_of 73 (Value.int IntKind.i64 x); refine (l1Neg_ex _ _ _ _ _ _).mono ?_; rintro e w' ⟨rfl,rfl⟩; rw [h.o])|(go_at_call_of 73 (Value.int IntKind.i64 y); refine (l1Neg_ex _ _ _ _ _ _).mono ?_; rintro e w' ⟨rfl,rfl⟩; rw [j.o]))
 all_goals
  go_wp2_with (go_at_call 73; refine (l1Neg_ex _ _ _ _ _ _).mono ?_; rintro e w' ⟨rfl,rfl⟩; rw [h.o])
  go_ret
  exact ⟨rfl,by repeat (first|exact Below.refl _ _|refine Below.drew ?_|refine below_al ?_ _)⟩
theorem l1Cmp_s1f (B:Nat) (x y:Int) (xn yn:Bool) (pa:Option Addr) (la ca:Nat) (pb:Option Addr) (lb cb:Nat) (na nb:Bool) (a b:List Nat) (w:World) (hBw:B≤w.heap.size) (hz:((la:Int)==0)=false)
 (hza:IsZ B w (.agg #[.int .i64 x,.bool xn,.slice pa la ca]) na a) (hzb:IsZ B w (.agg #[.int .i64 y,.bool yn,.slice pb lb cb]) nb b) (ha:ngZ x xn la=false) (hb:ngZ y yn lb=false) :
 Calls Tryz.prog 74 #[.agg #[.int .i64 x,.bool xn,.slice pa la ca],.agg #[.int .i64 y,.bool yn,.slice pb lb cb]] w fun e w'=>e=.returned (.int .i64 (cmpL a b))∧Up w w':=by
 have O:=Hd ha; have a8:=Hd hb; obtain ⟨s,h⟩:=exW ((w.alloc (.cells #[.int .i64 x,.bool xn,.slice pa la ca] 53)).alloc (.cells #[.int .i64 y,.bool yn,.slice pb lb cb] 53)); have b4:=Hd h; have E:Up w s:=by rw [← h]; exact ((Below.refl _ w).alloc leR _).alloc (by simp) _
 have a5:s.heap.size=w.heap.size+2:=by rw [← h]; simp
 have u:w.heap.size<s.heap.size:=by omega
 have D:w.heap.size+1<s.heap.size:=by omega
 have a7:=Hd E; have U:=Hd a5; have b6:Hid (∀ W,Up s W→IsZ B W (.agg #[.int .i64 x,.bool xn,.slice pa la ca]) na a):=fun W hW=>(hza.below E).below hW; have b7:Hid (∀ W,Up s W→IsZ B W (.agg #[.int .i64 y,.bool yn,.slice pb lb cb]) nb b):=fun W hW=>(hzb.below E).below hW; have HX:Hid (∀ W,Up s W→(W.cell? ⟨w.heap.size,0,none⟩=some (.int .i64 x)∧W.cell? ⟨w.heap.size,1,none⟩=some (.bool xn)∧W.cell? ⟨w.heap.size,2,none⟩=some (.slice pa la ca)) ∧
  (W.cell? ⟨w.heap.size+1,0,none⟩=some (.int .i64 y)∧W.cell? ⟨w.heap.size+1,1,none⟩=some (.bool yn)∧W.cell? ⟨w.heap.size+1,2,none⟩=some (.slice pb lb cb))):=fun W hW=>by
  refine ⟨⟨?_,?_,?_⟩,?_,?_,?_⟩
  ·rw [hW.cell (p:=⟨w.heap.size,0,none⟩) u,← h,World.cell?_alloc_past _ _ _ (by simp),World.cell?_alloc_at _ _ _ _ rfl]; rfl
  ·rw [hW.cell (p:=⟨w.heap.size,1,none⟩) u,← h,World.cell?_alloc_past _ _ _ (by simp),World.cell?_alloc_at _ _ _ _ rfl]; rfl
  ·rw [hW.cell (p:=⟨w.heap.size,2,none⟩) u,← h,World.cell?_alloc_past _ _ _ (by simp),World.cell?_alloc_at _ _ _ _ rfl]; rfl
  ·rw [hW.cell (p:=⟨w.heap.size+1,0,none⟩) D,← h,World.cell?_alloc_at _ _ _ _ (by simp)]; rfl
  ·rw [hW.cell (p:=⟨w.heap.size+1,1,none⟩) D,← h,World.cell?_alloc_at _ _ _ _ (by simp)]; rfl
  ·rw [hW.cell (p:=⟨w.heap.size+1,2,none⟩) D,← h,World.cell?_alloc_at _ _ _ _ (by simp)]; rfl
 obtain ⟨W1,I⟩:=exW (((s.alloc (.cells #[.int .i64 x,.bool xn,.slice pa la ca] 53)).alloc (.cells #[.int .i64 x,.bool xn,.slice pa la ca] 53)).alloc (.cells #[.int .i64 y,.bool yn,.slice pb lb cb] 53)); have b5:=Hd I; have j:Hid (Up s W1):=by rw [← I]; exact below_al (below_al (below_al (Below.refl _ _) _) _) _
 clear I; obtain ⟨⟨u0,u1,u2⟩,v0,v1,v2⟩:=HX.o s (Below.refl _ _); obtain ⟨c,hc⟩:=exW (cmpL a b); have HC:=Hd hc; have c7 : -1≤c∧c≤1:=by rw [← hc]; exact cmpL_bd a b
 obtain ⟨e2,e3⟩:=c7; clear ha hb hza hzb E a5 h hc
 go_enter Tryz.func74,Tryz.ntmps74
 go_wp2_with fail
 rw [b4.o]; refine (l1IsSmall_ex _ _ _ _ _ _).mono ?_; rintro e w' ⟨rfl,rfl⟩
 go_wp2_with (go_at_call 44; refine (l1IsSmall_ex _ _ _ _ _ _).mono ?_; rintro e w' ⟨rfl,rfl⟩)
 go_region_with (first|(go_at_call_of 73 (Value.int IntKind.i64 x); refine (l1Neg_ex _ _ _ _ _ _).mono ?_; rintro e w' ⟨rfl,rfl⟩; rw [O.o])|(go_at_call_of 73 (Value.int IntKind.i64 y); refine (l1Neg_ex _ _ _ _ _ _).mono ?_; rintro e w' ⟨rfl,rfl⟩; rw [a8.o]))
 all_goals
  go_wp2
  simp only [List.getElem_toArray,List.getElem_cons_succ,List.getElem_cons_zero,Act.put,List.setIfInBounds_toArray,List.set_cons_succ,List.set_cons_zero]; rw [b5.o]; clear u0 u1 u2 v0 v1 v2; obtain ⟨⟨u0,u1,u2⟩,v0,v1,v2⟩:=HX.o W1 j.o
  go_region_with (first
   | (go_at_call_of 72 (Value.int IntKind.i64 x); refine (l1Limbs_any B _ na a _ (b6.o _ ?_) ?_).mono ?_
      ·exact j.o.drew.drew
      ·have:=j.o.size; have:=U.o; show B≤W1.heap.size; omega
      rintro e wa ⟨va,rfl,Z,V⟩; have H:Up s wa:=j.o.drew.drew.trans (V.mono j.o.size); obtain ⟨⟨a0,a1,a2⟩,b0,b1,b2⟩:=HX.o wa H; have a9:=Hd Z; have m:Hid (Up s wa):=H; clear Z V H)
   | (go_at_call_of 72 (Value.int IntKind.i64 y); refine (l1Limbs_any B _ nb b _ (b7.o _ ?_) ?_).mono ?_
      ·exact m.o
      ·have:=m.o.size; have:=U.o; omega
      rintro e wb ⟨vb,rfl,a3,J⟩; have K:Hid (Up s wb):=m.o.trans (J.mono m.o.size); have b3:=Hd a3; have T:Hid (IsL B wb va a):=a9.o.below J; clear a3 J)
   | (go_at_call 92; refine (l1CmpD_any B va vb a b _ T.o b3.o).mono ?_
      rintro e wc ⟨rfl,Y⟩; have M:Hid (Up s wc):=K.o.trans (Y.mono K.o.size); obtain ⟨⟨c0,c1,c2⟩,d0,d1,d2⟩:=HX.o wc M.o; rw [HC.o]; clear Y))
  all_goals
   simp only [List.getElem_toArray,List.getElem_cons_succ,List.getElem_cons_zero,Act.put,List.setIfInBounds_toArray,List.set_cons_succ,List.set_cons_zero]
   go_wp2_with (go_at_call 73; refine (l1Neg_ex _ _ _ _ _ _).mono ?_; rintro e w' ⟨rfl,rfl⟩; rw [O.o])
   go_ret
   exact ⟨ret_int (by rw [HC.o]),below_al (a7.o.trans (M.o.mono (by omega))) _⟩
theorem l1Cmp_s1t (B:Nat) (x y:Int) (xn yn:Bool) (pa:Option Addr) (la ca:Nat) (pb:Option Addr) (lb cb:Nat) (na nb:Bool) (a b:List Nat) (w:World) (hBw:B≤w.heap.size) (hz:((la:Int)==0)=false)
 (hza:IsZ B w (.agg #[.int .i64 x,.bool xn,.slice pa la ca]) na a) (hzb:IsZ B w (.agg #[.int .i64 y,.bool yn,.slice pb lb cb]) nb b) (ha:ngZ x xn la=true) (hb:ngZ y yn lb=true) :
 Calls Tryz.prog 74 #[.agg #[.int .i64 x,.bool xn,.slice pa la ca],.agg #[.int .i64 y,.bool yn,.slice pb lb cb]] w fun e w'=>e=.returned (.int .i64 (-cmpL a b))∧Up w w':=by
 have O:=Hd ha; have a8:=Hd hb; obtain ⟨s,h⟩:=exW ((w.alloc (.cells #[.int .i64 x,.bool xn,.slice pa la ca] 53)).alloc (.cells #[.int .i64 y,.bool yn,.slice pb lb cb] 53)); have b4:=Hd h; have E:Up w s:=by rw [← h]; exact ((Below.refl _ w).alloc leR _).alloc (by simp) _
 have a5:s.heap.size=w.heap.size+2:=by rw [← h]; simp
 have u:w.heap.size<s.heap.size:=by omega
 have D:w.heap.size+1<s.heap.size:=by omega
 have a7:=Hd E; have U:=Hd a5; have b6:Hid (∀ W,Up s W→IsZ B W (.agg #[.int .i64 x,.bool xn,.slice pa la ca]) na a):=fun W hW=>(hza.below E).below hW; have b7:Hid (∀ W,Up s W→IsZ B W (.agg #[.int .i64 y,.bool yn,.slice pb lb cb]) nb b):=fun W hW=>(hzb.below E).below hW; have HX:Hid (∀ W,Up s W→(W.cell? ⟨w.heap.size,0,none⟩=some (.int .i64 x)∧W.cell? ⟨w.heap.size,1,none⟩=some (.bool xn)∧W.cell? ⟨w.heap.size,2,none⟩=some (.slice pa la ca)) ∧
  (W.cell? ⟨w.heap.size+1,0,none⟩=some (.int .i64 y)∧W.cell? ⟨w.heap.size+1,1,none⟩=some (.bool yn)∧W.cell? ⟨w.heap.size+1,2,none⟩=some (.slice pb lb cb))):=fun W hW=>by
  refine ⟨⟨?_,?_,?_⟩,?_,?_,?_⟩
  ·rw [hW.cell (p:=⟨w.heap.size,0,none⟩) u,← h,World.cell?_alloc_past _ _ _ (by simp),World.cell?_alloc_at _ _ _ _ rfl]; rfl
  ·rw [hW.cell (p:=⟨w.heap.size,1,none⟩) u,← h,World.cell?_alloc_past _ _ _ (by simp),World.cell?_alloc_at _ _ _ _ rfl]; rfl
  ·rw [hW.cell (p:=⟨w.heap.size,2,none⟩) u,← h,World.cell?_alloc_past _ _ _ (by simp),World.cell?_alloc_at _ _ _ _ rfl]; rfl
  ·rw [hW.cell (p:=⟨w.heap.size+1,0,none⟩) D,← h,World.cell?_alloc_at _ _ _ _ (by simp)]; rfl
  ·rw [hW.cell (p:=⟨w.heap.size+1,1,none⟩) D,← h,World.cell?_alloc_at _ _ _ _ (by simp)]; rfl
  ·rw [hW.cell (p:=⟨w.heap.size+1,2,none⟩) D,← h,World.cell?_alloc_at _ _ _ _ (by simp)]; rfl
 obtain ⟨W1,I⟩:=exW (((s.alloc (.cells #[.int .i64 x,.bool xn,.slice pa la ca] 53)).alloc (.cells #[.int .i64 x,.bool xn,.slice pa la ca] 53)).alloc (.cells #[.int .i64 y,.bool yn,.slice pb lb cb] 53)); have b5:=Hd I; have j:Hid (Up s W1):=by rw [← I]; exact below_al (below_al (below_al (Below.refl _ _) _) _) _
 clear I; obtain ⟨⟨u0,u1,u2⟩,v0,v1,v2⟩:=HX.o s (Below.refl _ _); obtain ⟨c,hc⟩:=exW (cmpL a b); have HC:=Hd hc; have c7 : -1≤c∧c≤1:=by rw [← hc]; exact cmpL_bd a b
 obtain ⟨e2,e3⟩:=c7; clear ha hb hza hzb E a5 h hc
 go_enter Tryz.func74,Tryz.ntmps74
 go_wp2_with fail
 rw [b4.o]; refine (l1IsSmall_ex _ _ _ _ _ _).mono ?_; rintro e w' ⟨rfl,rfl⟩
 go_wp2_with (go_at_call 44; refine (l1IsSmall_ex _ _ _ _ _ _).mono ?_; rintro e w' ⟨rfl,rfl⟩)
 go_region_with (first|(go_at_call_of 73 (Value.int IntKind.i64 x); refine (l1Neg_ex _ _ _ _ _ _).mono ?_; rintro e w' ⟨rfl,rfl⟩; rw [O.o])|(go_at_call_of 73 (Value.int IntKind.i64 y); refine (l1Neg_ex _ _ _ _ _ _).mono ?_; rintro e w' ⟨rfl,rfl⟩; rw [a8.o]))
 all_goals
  go_wp2
  simp only [List.getElem_toArray,List.getElem_cons_succ,List.getElem_cons_zero,Act.put,List.setIfInBounds_toArray,List.set_cons_succ,List.set_cons_zero]; rw [b5.o]; clear u0 u1 u2 v0 v1 v2; obtain ⟨⟨u0,u1,u2⟩,v0,v1,v2⟩:=HX.o W1 j.o
  go_region_with (first
   | (go_at_call_of 72 (Value.int IntKind.i64 x); refine (l1Limbs_any B _ na a _ (b6.o _ ?_) ?_).mono ?_
      ·exact j.o.drew.drew
      ·have:=j.o.size; have:=U.o; show B≤W1.heap.size; omega
      rintro e wa ⟨va,rfl,Z,V⟩; have H:Up s wa:=j.o.drew.drew.trans (V.mono j.o.size); obtain ⟨⟨a0,a1,a2⟩,b0,b1,b2⟩:=HX.o wa H; have a9:=Hd Z; have m:Hid (Up s wa):=H; clear Z V H)
   | (go_at_call_of 72 (Value.int IntKind.i64 y); refine (l1Limbs_any B _ nb b _ (b7.o _ ?_) ?_).mono ?_
      ·exact m.o
      ·have:=m.o.size; have:=U.o; omega
      rintro e wb ⟨vb,rfl,a3,J⟩; have K:Hid (Up s wb):=m.o.trans (J.mono m.o.size); have b3:=Hd a3; have T:Hid (IsL B wb va a):=a9.o.below J; clear a3 J)
   | (go_at_call 92; refine (l1CmpD_any B va vb a b _ T.o b3.o).mono ?_
      rintro e wc ⟨rfl,Y⟩; have M:Hid (Up s wc):=K.o.trans (Y.mono K.o.size); obtain ⟨⟨c0,c1,c2⟩,d0,d1,d2⟩:=HX.o wc M.o; rw [HC.o]; clear Y))
  all_goals
   simp only [List.getElem_toArray,List.getElem_cons_succ,List.getElem_cons_zero,Act.put,List.setIfInBounds_toArray,List.set_cons_succ,List.set_cons_zero]
   go_wp2_with (go_at_call 73; refine (l1Neg_ex _ _ _ _ _ _).mono ?_; rintro e w' ⟨rfl,rfl⟩; rw [O.o])
   go_ret
   exact ⟨ret_int (by rw [HC.o]),below_al (a7.o.trans (M.o.mono (by omega))) _⟩
theorem l1Cmp_s2f (B:Nat) (x y:Int) (xn yn:Bool) (pa:Option Addr) (la ca:Nat) (pb:Option Addr) (lb cb:Nat) (na nb:Bool) (a b:List Nat) (w:World) (hBw:B≤w.heap.size) (hz:((la:Int)==0)=true) (hz2:((lb:Int)==0)=false)
 (hza:IsZ B w (.agg #[.int .i64 x,.bool xn,.slice pa la ca]) na a) (hzb:IsZ B w (.agg #[.int .i64 y,.bool yn,.slice pb lb cb]) nb b) (ha:ngZ x xn la=false) (hb:ngZ y yn lb=false) :
 Calls Tryz.prog 74 #[.agg #[.int .i64 x,.bool xn,.slice pa la ca],.agg #[.int .i64 y,.bool yn,.slice pb lb cb]] w fun e w'=>e=.returned (.int .i64 (cmpL a b))∧Up w w':=by
 have O:=Hd ha; have a8:=Hd hb; obtain ⟨s,h⟩:=exW ((w.alloc (.cells #[.int .i64 x,.bool xn,.slice pa la ca] 53)).alloc (.cells #[.int .i64 y,.bool yn,.slice pb lb cb] 53)); have b4:=Hd h; have E:Up w s:=by rw [← h]; exact ((Below.refl _ w).alloc leR _).alloc (by simp) _
 have a5:s.heap.size=w.heap.size+2:=by rw [← h]; simp
 have u:w.heap.size<s.heap.size:=by omega
 have D:w.heap.size+1<s.heap.size:=by omega
 have a7:=Hd E; have U:=Hd a5; have b6:Hid (∀ W,Up s W→IsZ B W (.agg #[.int .i64 x,.bool xn,.slice pa la ca]) na a):=fun W hW=>(hza.below E).below hW; have b7:Hid (∀ W,Up s W→IsZ B W (.agg #[.int .i64 y,.bool yn,.slice pb lb cb]) nb b):=fun W hW=>(hzb.below E).below hW; have HX:Hid (∀ W,Up s W→(W.cell? ⟨w.heap.size,0,none⟩=some (.int .i64 x)∧W.cell? ⟨w.heap.size,1,none⟩=some (.bool xn)∧W.cell? ⟨w.heap.size,2,none⟩=some (.slice pa la ca)) ∧
  (W.cell? ⟨w.heap.size+1,0,none⟩=some (.int .i64 y)∧W.cell? ⟨w.heap.size+1,1,none⟩=some (.bool yn)∧W.cell? ⟨w.heap.size+1,2,none⟩=some (.slice pb lb cb))):=fun W hW=>by
  refine ⟨⟨?_,?_,?_⟩,?_,?_,?_⟩
  ·rw [hW.cell (p:=⟨w.heap.size,0,none⟩) u,← h,World.cell?_alloc_past _ _ _ (by simp),World.cell?_alloc_at _ _ _ _ rfl]; rfl
  ·rw [hW.cell (p:=⟨w.heap.size,1,none⟩) u,← h,World.cell?_alloc_past _ _ _ (by simp),World.cell?_alloc_at _ _ _ _ rfl]; rfl
  ·rw [hW.cell (p:=⟨w.heap.size,2,none⟩) u,← h,World.cell?_alloc_past _ _ _ (by simp),World.cell?_alloc_at _ _ _ _ rfl]; rfl
  ·rw [hW.cell (p:=⟨w.heap.size+1,0,none⟩) D,← h,World.cell?_alloc_at _ _ _ _ (by simp)]; rfl
  ·rw [hW.cell (p:=⟨w.heap.size+1,1,none⟩) D,← h,World.cell?_alloc_at _ _ _ _ (by simp)]; rfl
  ·rw [hW.cell (p:=⟨w.heap.size+1,2,none⟩) D,← h,World.cell?_alloc_at _ _ _ _ (by simp)]; rfl
 obtain ⟨W1,I⟩:=exW ((((s.alloc (.cells #[.int .i64 x,.bool xn,.slice pa la ca] 53)).alloc (.cells #[.int .i64 y,.bool yn,.slice pb lb cb] 53)).alloc (.cells #[.int .i64 x,.bool xn,.slice pa la ca] 53)).alloc (.cells #[.int .i64 y,.bool yn,.slice pb lb cb] 53)); have b5:=Hd I; have j:Hid (Up s W1):=by rw [← I]; exact below_al (below_al (below_al (below_al (Below.refl _ _) _) _) _) _
 clear I; obtain ⟨⟨u0,u1,u2⟩,v0,v1,v2⟩:=HX.o s (Below.refl _ _); obtain ⟨c,hc⟩:=exW (cmpL a b); have HC:=Hd hc; have c7 : -1≤c∧c≤1:=by rw [← hc]; exact cmpL_bd a b
 obtain ⟨e2,e3⟩:=c7; clear ha hb hza hzb E a5 h hc
 go_enter Tryz.func74,Tryz.ntmps74
 go_wp2_with fail
 rw [b4.o]; refine (l1IsSmall_ex _ _ _ _ _ _).mono ?_; rintro e w' ⟨rfl,rfl⟩
 go_wp2_with (go_at_call 44; refine (l1IsSmall_ex _ _ _ _ _ _).mono ?_; rintro e w' ⟨rfl,rfl⟩)
 go_region_with (first|(go_at_call_of 73 (Value.int IntKind.i64 x); refine (l1Neg_ex _ _ _ _ _ _).mono ?_; rintro e w' ⟨rfl,rfl⟩; rw [O.o])|(go_at_call_of 73 (Value.int IntKind.i64 y); refine (l1Neg_ex _ _ _ _ _ _).mono ?_; rintro e w' ⟨rfl,rfl⟩; rw [a8.o]))
 all_goals
  go_wp2
  simp only [List.getElem_toArray,List.getElem_cons_succ,List.getElem_cons_zero,Act.put,List.setIfInBounds_toArray,List.set_cons_succ,List.set_cons_zero]; rw [b5.o]; clear u0 u1 u2 v0 v1 v2; obtain ⟨⟨u0,u1,u2⟩,v0,v1,v2⟩:=HX.o W1 j.o
  go_region_with (first
   | (go_at_call_of 72 (Value.int IntKind.i64 x); refine (l1Limbs_any B _ na a _ (b6.o _ ?_) ?_).mono ?_
      ·exact j.o.drew.drew
      ·have:=j.o.size; have:=U.o; show B≤W1.heap.size; omega
      rintro e wa ⟨va,rfl,Z,V⟩; have H:Up s wa:=j.o.drew.drew.trans (V.mono j.o.size); obtain ⟨⟨a0,a1,a2⟩,b0,b1,b2⟩:=HX.o wa H; have a9:=Hd Z; have m:Hid (Up s wa):=H; clear Z V H)
   | (go_at_call_of 72 (Value.int IntKind.i64 y); refine (l1Limbs_any B _ nb b _ (b7.o _ ?_) ?_).mono ?_
      ·exact m.o
      ·have:=m.o.size; have:=U.o; omega
      rintro e wb ⟨vb,rfl,a3,J⟩; have K:Hid (Up s wb):=m.o.trans (J.mono m.o.size); have b3:=Hd a3; have T:Hid (IsL B wb va a):=a9.o.below J; clear a3 J)
   | (go_at_call 92; refine (l1CmpD_any B va vb a b _ T.o b3.o).mono ?_
      rintro e wc ⟨rfl,Y⟩; have M:Hid (Up s wc):=K.o.trans (Y.mono K.o.size); obtain ⟨⟨c0,c1,c2⟩,d0,d1,d2⟩:=HX.o wc M.o; rw [HC.o]; clear Y))
  all_goals
   simp only [List.getElem_toArray,List.getElem_cons_succ,List.getElem_cons_zero,Act.put,List.setIfInBounds_toArray,List.set_cons_succ,List.set_cons_zero]
   go_wp2_with (go_at_call 73; refine (l1Neg_ex _ _ _ _ _ _).mono ?_; rintro e w' ⟨rfl,rfl⟩; rw [O.o])
   go_ret
   exact ⟨ret_int (by rw [HC.o]),below_al (a7.o.trans (M.o.mono (by omega))) _⟩
theorem l1Cmp_s2t (B:Nat) (x y:Int) (xn yn:Bool) (pa:Option Addr) (la ca:Nat) (pb:Option Addr) (lb cb:Nat) (na nb:Bool) (a b:List Nat) (w:World) (hBw:B≤w.heap.size) (hz:((la:Int)==0)=true) (hz2:((lb:Int)==0)=false)
 (hza:IsZ B w (.agg #[.int .i64 x,.bool xn,.slice pa la ca]) na a) (hzb:IsZ B w (.agg #[.int .i64 y,.bool yn,.slice pb lb cb]) nb b) (ha:ngZ x xn la=true) (hb:ngZ y yn lb=true) :
 Calls Tryz.prog 74 #[.agg #[.int .i64 x,.bool xn,.slice pa la ca],.agg #[.int .i64 y,.bool yn,.slice pb lb cb]] w fun e w'=>e=.returned (.int .i64 (-cmpL a b))∧Up w w':=by
 have O:=Hd ha; have a8:=Hd hb; obtain ⟨s,h⟩:=exW ((w.alloc (.cells #[.int .i64 x,.bool xn,.slice pa la ca] 53)).alloc (.cells #[.int .i64 y,.bool yn,.slice pb lb cb] 53)); have b4:=Hd h; have E:Up w s:=by rw [← h]; exact ((Below.refl _ w).alloc leR _).alloc (by simp) _
 have a5:s.heap.size=w.heap.size+2:=by rw [← h]; simp
 have u:w.heap.size<s.heap.size:=by omega
 have D:w.heap.size+1<s.heap.size:=by omega
 have a7:=Hd E; have U:=Hd a5; have b6:Hid (∀ W,Up s W→IsZ B W (.agg #[.int .i64 x,.bool xn,.slice pa la ca]) na a):=fun W hW=>(hza.below E).below hW; have b7:Hid (∀ W,Up s W→IsZ B W (.agg #[.int .i64 y,.bool yn,.slice pb lb cb]) nb b):=fun W hW=>(hzb.below E).below hW; have HX:Hid (∀ W,Up s W→(W.cell? ⟨w.heap.size,0,none⟩=some (.int .i64 x)∧W.cell? ⟨w.heap.size,1,none⟩=some (.bool xn)∧W.cell? ⟨w.heap.size,2,none⟩=some (.slice pa la ca)) ∧
  (W.cell? ⟨w.heap.size+1,0,none⟩=some (.int .i64 y)∧W.cell? ⟨w.heap.size+1,1,none⟩=some (.bool yn)∧W.cell? ⟨w.heap.size+1,2,none⟩=some (.slice pb lb cb))):=fun W hW=>by
  refine ⟨⟨?_,?_,?_⟩,?_,?_,?_⟩
  ·rw [hW.cell (p:=⟨w.heap.size,0,none⟩) u,← h,World.cell?_alloc_past _ _ _ (by simp),World.cell?_alloc_at _ _ _ _ rfl]; rfl
  ·rw [hW.cell (p:=⟨w.heap.size,1,none⟩) u,← h,World.cell?_alloc_past _ _ _ (by simp),World.cell?_alloc_at _ _ _ _ rfl]; rfl
  ·rw [hW.cell (p:=⟨w.heap.size,2,none⟩) u,← h,World.cell?_alloc_past _ _ _ (by simp),World.cell?_alloc_at _ _ _ _ rfl]; rfl
  ·rw [hW.cell (p:=⟨w.heap.size+1,0,none⟩) D,← h,World.cell?_alloc_at _ _ _ _ (by simp)]; rfl
  ·rw [hW.cell (p:=⟨w.heap.size+1,1,none⟩) D,← h,World.cell?_alloc_at _ _ _ _ (by simp)]; rfl
  ·rw [hW.cell (p:=⟨w.heap.size+1,2,none⟩) D,← h,World.cell?_alloc_at _ _ _ _ (by simp)]; rfl
 obtain ⟨W1,I⟩:=exW ((((s.alloc (.cells #[.int .i64 x,.bool xn,.slice pa la ca] 53)).alloc (.cells #[.int .i64 y,.bool yn,.slice pb lb cb] 53)).alloc (.cells #[.int .i64 x,.bool xn,.slice pa la ca] 53)).alloc (.cells #[.int .i64 y,.bool yn,.slice pb lb cb] 53)); have b5:=Hd I; have j:Hid (Up s W1):=by rw [← I]; exact below_al (below_al (below_al (below_al (Below.refl _ _) _) _) _) _
 clear I; obtain ⟨⟨u0,u1,u2⟩,v0,v1,v2⟩:=HX.o s (Below.refl _ _); obtain ⟨c,hc⟩:=exW (cmpL a b); have HC:=Hd hc; have c7 : -1≤c∧c≤1:=by rw [← hc]; exact cmpL_bd a b
 obtain ⟨e2,e3⟩:=c7; clear ha hb hza hzb E a5 h hc
 go_enter Tryz.func74,Tryz.ntmps74
 go_wp2_with fail
 rw [b4.o]; refine (l1IsSmall_ex _ _ _ _ _ _).mono ?_; rintro e w' ⟨rfl,rfl⟩
 go_wp2_with (go_at_call 44; refine (l1IsSmall_ex _ _ _ _ _ _).mono ?_; rintro e w' ⟨rfl,rfl⟩)
 go_region_with (first|(go_at_call_of 73 (Value.int IntKind.i64 x); refine (l1Neg_ex _ _ _ _ _ _).mono ?_; rintro e w' ⟨rfl,rfl⟩; rw [O.o])|(go_at_call_of 73 (Value.int IntKind.i64 y); refine (l1Neg_ex _ _ _ _ _ _).mono ?_; rintro e w' ⟨rfl,rfl⟩; rw [a8.o]))
 all_goals
  go_wp2
  simp only [List.getElem_toArray,List.getElem_cons_succ,List.getElem_cons_zero,Act.put,List.setIfInBounds_toArray,List.set_cons_succ,List.set_cons_zero]; rw [b5.o]; clear u0 u1 u2 v0 v1 v2; obtain ⟨⟨u0,u1,u2⟩,v0,v1,v2⟩:=HX.o W1 j.o
  go_region_with (first
   | (go_at_call_of 72 (Value.int IntKind.i64 x); refine (l1Limbs_any B _ na a _ (b6.o _ ?_) ?_).mono ?_
      ·exact j.o.drew.drew
      ·have:=j.o.size; have:=U.o; show B≤W1.heap.size; omega
      rintro e wa ⟨va,rfl,Z,V⟩; have H:Up s wa:=j.o.drew.drew.trans (V.mono j.o.size); obtain ⟨⟨a0,a1,a2⟩,b0,b1,b2⟩:=HX.o wa H; have a9:=Hd Z; have m:Hid (Up s wa):=H; clear Z V H)
   | (go_at_call_of 72 (Value.int IntKind.i64 y); refine (l1Limbs_any B _ nb b _ (b7.o _ ?_) ?_).mono ?_
      ·exact m.o
      ·have:=m.o.size; have:=U.o; omega
      rintro e wb ⟨vb,rfl,a3,J⟩; have K:Hid (Up s wb):=m.o.trans (J.mono m.o.size); have b3:=Hd a3; have T:Hid (IsL B wb va a):=a9.o.below J; clear a3 J)
   | (go_at_call 92; refine (l1CmpD_any B va vb a b _ T.o b3.o).mono ?_
      rintro e wc ⟨rfl,Y⟩; have M:Hid (Up s wc):=K.o.trans (Y.mono K.o.size); obtain ⟨⟨c0,c1,c2⟩,d0,d1,d2⟩:=HX.o wc M.o; rw [HC.o]; clear Y))
  all_goals
   simp only [List.getElem_toArray,List.getElem_cons_succ,List.getElem_cons_zero,Act.put,List.setIfInBounds_toArray,List.set_cons_succ,List.set_cons_zero]
   go_wp2_with (go_at_call 73; refine (l1Neg_ex _ _ _ _ _ _).mono ?_; rintro e w' ⟨rfl,rfl⟩; rw [O.o])
   go_ret
   exact ⟨ret_int (by rw [HC.o]),below_al (a7.o.trans (M.o.mono (by omega))) _⟩
theorem cmpL_anti (a b:List Nat) (ha:okL a) (hb:okL b) (ta:isTrim a) (tb:isTrim b):cmpL b a = -cmpL a b:=by
 rw [cmpL_ord a b ha hb ta tb,cmpL_ord b a hb ha tb ta]; unfold ord
 split<;>split<;>(try split)<;>omega
theorem IsZ.form {B:Nat} {w:World} {z:Value} {na:Bool} {a:List Nat} (h:IsZ B w z na a):∃ x xn p l c,z=.agg #[.int .i64 x,.bool xn,.slice p l c]∧ngZ x xn l=negOf na a∧(l=0→z=.agg #[.int .i64 (sg na (val a)),.bool false,.slice none 0 0]):=by
 obtain ⟨j,h2,h3⟩:=h
 rcases h3 with ⟨h3,v,rfl,p,c,rfl,_⟩|⟨h3,rfl⟩
 ·refine ⟨_,_,_,_,_,rfl,?_,fun e=>by omega⟩; unfold ngZ negOf; have:0<a.length:=by omega
  simp [this]
 exact ⟨_,_,_,_,_,rfl,(negOf_small na a h3 j h2).symm,fun _=>rfl⟩
theorem l1Cmp_any (B:Nat) (za zb:Value) (na nb:Bool) (a b:List Nat) (w:World) (hBw:B≤w.heap.size) (hza:IsZ B w za na a) (hzb:IsZ B w zb nb b) :
 Calls Tryz.prog 74 #[za,zb] w fun e w'=>e=.returned (.int .i64 (cmpI (negOf na a) (negOf nb b) a b))∧Up w w':=by
 have M:=hza.1; have O:=hzb.1; have T:=hza.2.1; have U:=hzb.2.1; obtain ⟨x,J,H,la,D,rfl,s,ga⟩:=hza.form; obtain ⟨y,K,I,lb,E,rfl,u,gb⟩:=hzb.form
 by_cases Z:la=0∧lb=0
 ·rw [ga Z.1,gb Z.2,cmpI_ord na nb a b M O T U]; exact l1Cmp_small _ _ w
 have j:((la:Int)==0)=false∨(((la:Int)==0)=true∧((lb:Int)==0)=false):=by
  by_cases h:la=0
  ·exact .inr ⟨by rw [beq_iff_eq]; omega,by rw [beq_eq_false_iff_ne]; omega⟩
  exact .inl (by rw [beq_eq_false_iff_ne]; omega)
 cases V:negOf na a<;>cases Y:negOf nb b
 ·rw [V] at s; rw [Y] at u
  show Calls _ _ _ _ fun e w'=>e=.returned (.int .i64 (cmpL a b))∧_
  rcases j with j|⟨j,m⟩
  ·exact l1Cmp_s1f B x y J K H la D I lb E na nb a b w hBw j hza hzb s u
  exact l1Cmp_s2f B x y J K H la D I lb E na nb a b w hBw j m hza hzb s u
 ·rw [V] at s; rw [Y] at u
  show Calls _ _ _ _ fun e w'=>e=.returned (.int .i64 (1))∧_
  rcases j with j|⟨j,m⟩
  ·exact l1Cmp_ft1 x y J K H la D I lb E w j s u
  exact l1Cmp_ft2 x y J K H la D I lb E w j m s u
 ·rw [V] at s; rw [Y] at u
  show Calls _ _ _ _ fun e w'=>e=.returned (.int .i64 (-1))∧_
  rcases j with j|⟨j,m⟩
  ·exact l1Cmp_tf1 x y J K H la D I lb E w j s u
  exact l1Cmp_tf2 x y J K H la D I lb E w j m s u
 rw [V] at s; rw [Y] at u
 show Calls _ _ _ _ fun e w'=>e=.returned (.int .i64 (cmpL b a))∧_
 rw [cmpL_anti a b M O T U]
 rcases j with j|⟨j,m⟩
 ·exact l1Cmp_s1t B x y J K H la D I lb E na nb a b w hBw j hza hzb s u
 exact l1Cmp_s2t B x y J K H la D I lb E na nb a b w hBw j m hza hzb s u
end Go.Proofs.YtknfmkeipeikkaaGreatDoor
