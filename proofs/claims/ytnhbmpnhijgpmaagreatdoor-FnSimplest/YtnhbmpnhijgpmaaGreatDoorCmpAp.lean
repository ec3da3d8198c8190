import Derived.Test.YtnhbmpnhijgpmaaGreatDoorPCSp
import Derived.Test.YtnhbmpnhijgpmaaGreatDoorCmpImplp
set_option maxRecDepth 100000
set_option maxHeartbeats 4000000
namespace Go.Proofs.YtnhbmpnhijgpmaaGreatDoor
open Go.ChangeShapes Go.WideShapes Go.ChangeAt Go.RowKit
theorem l1Cmp_tf1 (x y:Int) (xn yn:Bool) (pa:Option Addr) (la ca:Nat) (pb:Option Addr) (lb cb:Nat) (w:World) (hz:((la:Int)==0)=false) (ha:ngZ x xn la=true) (hb:ngZ y yn lb=false) :
 Calls Tryz.prog 30 #[.agg #[.int .i64 x,.bool xn,.slice pa la ca],.agg #[.int .i64 y,.bool yn,.slice pb lb cb]] w fun e w'=>e=.returned (.int .i64 (-1))∧Up w w':=by
 have i:=Hd ha; have j:=Hd hb; clear ha hb
 go_enter Tryz.func30,Tryz.ntmps30
 go_wp2_with (go_at_call 39; refine (l1IsSmall_ex _ _ _ _ _ _).mono ?_; rintro e w' ⟨rfl,rfl⟩)
 go_region_with (first|(go_at_call_of 60 (Value.int IntKind.i64 x); refine (l1Neg_ex _ _ _ _ _ _).mono ?_; rintro e w' ⟨rfl,rfl⟩; rw [i.o])|(go_at_call_of 60 (Value.int IntKind.i64 y); refine (l1Neg_ex _ _ _ _ _ _).mono ?_; rintro e w' ⟨rfl,rfl⟩; rw [j.o]))
 all_goals
  go_wp2_with (go_at_call 60; refine (l1Neg_ex _ _ _ _ _ _).mono ?_; rintro e w' ⟨rfl,rfl⟩; rw [i.o])
  go_ret
  exact ⟨rfl,by repeat (first|exact Below.refl _ _|refine Below.drew ?_|refine below_al ?_ _)⟩
theorem l1Cmp_ft1 (x y:Int) (xn yn:Bool) (pa:Option Addr) (la ca:Nat) (pb:Option Addr) (lb cb:Nat) (w:World) (hz:((la:Int)==0)=false) (ha:ngZ x xn la=false) (hb:ngZ y yn lb=true) :
 Calls Tryz.prog 30 #[.agg #[.int .i64 x,.bool xn,.slice pa la ca],.agg #[.int .i64 y,.bool yn,.slice pb lb cb]] w fun e w'=>e=.returned (.int .i64 (1))∧Up w w':=by
 have i:=Hd ha; have j:=Hd hb; clear ha hb
 go_enter Tryz.func30,Tryz.ntmps30
 go_wp2_with (go_at_call 39; refine (l1IsSmall_ex _ _ _ _ _ _).mono ?_; rintro e w' ⟨rfl,rfl⟩)
 go_region_with (first|(go_at_call_of 60 (Value.int IntKind.i64 x); refine (l1Neg_ex _ _ _ _ _ _).mono ?_; rintro e w' ⟨rfl,rfl⟩; rw [i.o])|(go_at_call_of 60 (Value.int IntKind.i64 y); refine (l1Neg_ex _ _ _ _ _ _).mono ?_; rintro e w' ⟨rfl,rfl⟩; rw [j.o]))
 all_goals
  go_wp2_with (go_at_call 60; refine (l1Neg_ex _ _ _ _ _ _).mono ?_; rintro e w' ⟨rfl,rfl⟩; rw [i.o])
  go_ret
  exact ⟨rfl,by repeat (first|exact Below.refl _ _|refine Below.drew ?_|refine below_al ?_ _)⟩
theorem l1Cmp_tf2 (x y:Int) (xn yn:Bool) (pa:Option Addr) (la ca:Nat) (pb:Option Addr) (lb cb:Nat) (w:World) (hz:((la:Int)==0)=true) (hz2:((lb:Int)==0)=false) (ha:ngZ x xn la=true) (hb:ngZ y yn lb=false) :
 Calls Tryz.prog 30 #[.agg #[.int .i64 x,.bool xn,.slice pa la ca],.agg #[.int .i64 y,.bool yn,.slice pb lb cb]] w fun e w'=>e=.returned (.int .i64 (-1))∧Up w w':=by
 have i:=Hd ha; have j:=Hd hb; clear ha hb
 go_enter Tryz.func30,Tryz.ntmps30
 go_wp2_with (go_at_call 39; refine (l1IsSmall_ex _ _ _ _ _ _).mono ?_; rintro e w' ⟨rfl,rfl⟩)
 go_region_with (first|(go_at_call_of 60 (Value.int IntKind.i64 x); refine (l1Neg_ex _ _ _ _ _ _).mono ?_; rintro e w' ⟨rfl,rfl⟩; rw [i.o])|(go_at_call_of 60 (Value.int IntKind.i64 y); refine (l1Neg_ex _ _ _ _ _ _).mono ?_; rintro e w' ⟨rfl,rfl⟩; rw [j.o]))
 all_goals
  go_wp2_with (go_at_call 60; refine (l1Neg_ex _ _ _ _ _ _).mono ?_; rintro e w' ⟨rfl,rfl⟩; rw [i.o])
  go_ret
  exact ⟨rfl,by repeat (first|exact Below.refl _ _|refine Below.drew ?_|refine below_al ?_ _)⟩
theorem l1Cmp_ft2 (x y:Int) (xn yn:Bool) (pa:Option Addr) (la ca:Nat) (pb:Option Addr) (lb cb:Nat) (w:World) (hz:((la:Int)==0)=true) (hz2:((lb:Int)==0)=false) (ha:ngZ x xn la=false) (hb:ngZ y yn lb=true) :
 Calls Tryz.prog 30 #[.agg #[.int .i64 x,.bool xn,.slice pa la ca],.agg #[.int .i64 y,.bool yn,.slice pb lb cb]] w fun e w'=>e=.returned (.int .i64 (1))∧Up w w':=by
 have i:=Hd ha; have j:=Hd hb; clear ha hb
 go_enter Tryz.func30,Tryz.ntmps30
 go_wp2_with (go_at_call 39; refine (l1IsSmall_ex _ _ _ _ _ _).mono ?_; rintro e w' ⟨rfl,rfl⟩)
 go_region_with (first|(go_at_call_of 60 (Value.int IntKind.i64 x); refine (l1Neg_ex _ _ _ _ _ _).mono ?_; rintro e w' ⟨rfl,rfl⟩; rw [i.o])|(go_at_call_of 60 (Value.int IntKind.i64 y); refine (l1Neg_ex _ _ _ _ _ _).mono ?_; rintro e w' ⟨rfl,rfl⟩; rw [j.o]))
 all_goals
  go_wp2_with (go_at_call 60; refine (l1Neg_ex _ _ _ _ _ _).mono ?_; rintro e w' ⟨rfl,rfl⟩; rw [i.o])
  go_ret
  exact ⟨rfl,by repeat (first|exact Below.refl _ _|refine Below.drew ?_|refine below_al ?_ _)⟩
theorem l1Cmp_s1f (B:Nat) (x y:Int) (xn yn:Bool) (pa:Option Addr) (la ca:Nat) (pb:Option Addr) (lb cb:Nat) (na nb:Bool) (a b:List Nat) (w:World) (hBw:B≤w.heap.size) (hz:((la:Int)==0)=false)
 (hza:IsZ B w (.agg #[.int .i64 x,.bool xn,.slice pa la ca]) na a) (hzb:IsZ B w (.agg #[.int .i64 y,.bool yn,.slice pb lb cb]) nb b) (ha:ngZ x xn la=false) (hb:ngZ y yn lb=false) :
 Calls Tryz.prog 30 #[.agg #[.int .i64 x,.bool xn,.slice pa la ca],.agg #[.int .i64 y,.bool yn,.slice pb lb cb]] w fun e w'=>e=.returned (.int .i64 (cmpL a b))∧Up w w':=by
 have I:=Hd ha; have V:=Hd hb; obtain ⟨s,i⟩:=exW ((w.alloc (.cells #[.int .i64 x,.bool xn,.slice pa la ca] 49)).alloc (.cells #[.int .i64 y,.bool yn,.slice pb lb cb] 49)); have a3:=Hd i; have A:Up w s:=by rw [← i]; exact ((Below.refl _ w).alloc leR _).alloc (by simp) _
 have S:s.heap.size=w.heap.size+2:=by rw [← i]; simp
 have t:w.heap.size<s.heap.size:=by omega
 have u:w.heap.size+1<s.heap.size:=by omega
 have U:=Hd A; have K:=Hd S; have a6:Hid (∀ W,Up s W→IsZ B W (.agg #[.int .i64 x,.bool xn,.slice pa la ca]) na a):=fun W hW=>(hza.below A).below hW; have a7:Hid (∀ W,Up s W→IsZ B W (.agg #[.int .i64 y,.bool yn,.slice pb lb cb]) nb b):=fun W hW=>(hzb.below A).below hW; have T:Hid (∀ W,Up s W→(W.cell? ⟨w.heap.size,0,none⟩=some (.int .i64 x)∧W.cell? ⟨w.heap.size,1,none⟩=some (.bool xn)∧W.cell? ⟨w.heap.size,2,none⟩=some (.slice pa la ca)) ∧
  (W.cell? ⟨w.heap.size+1,0,none⟩=some (.int .i64 y)∧W.cell? ⟨w.heap.size+1,1,none⟩=some (.bool yn)∧W.cell? ⟨w.heap.size+1,2,none⟩=some (.slice pb lb cb))):=fun W hW=>by
  refine ⟨⟨?_,?_,?_⟩,?_,?_,?_⟩
  ·rw [hW.cell (p:=⟨w.heap.size,0,none⟩) t,← i,World.cell?_alloc_past _ _ _ (by simp),World.cell?_alloc_at _ _ _ _ rfl]; rfl
  ·rw [hW.cell (p:=⟨w.heap.size,1,none⟩) t,← i,World.cell?_alloc_past _ _ _ (by simp),World.cell?_alloc_at _ _ _ _ rfl]; rfl
  ·rw [hW.cell (p:=⟨w.heap.size,2,none⟩) t,← i,World.cell?_alloc_past _ _ _ (by simp),World.cell?_alloc_at _ _ _ _ rfl]; rfl
  ·rw [hW.cell (p:=⟨w.heap.size+1,0,none⟩) u,← i,World.cell?_alloc_at _ _ _ _ (by simp)]; rfl
  ·rw [hW.cell (p:=⟨w.heap.size+1,1,none⟩) u,← i,World.cell?_alloc_at _ _ _ _ (by simp)]; rfl
  ·rw [hW.cell (p:=⟨w.heap.size+1,2,none⟩) u,← i,World.cell?_alloc_at _ _ _ _ (by simp)]; rfl
 obtain ⟨W1,E⟩:=exW (((s.alloc (.cells #[.int .i64 x,.bool xn,.slice pa la ca] 49)).alloc (.cells #[.int .i64 x,.bool xn,.slice pa la ca] 49)).alloc (.cells #[.int .i64 y,.bool yn,.slice pb lb cb] 49)); have a5:=Hd E; have j:Hid (Up s W1):=by rw [← E]; exact below_al (below_al (below_al (Below.refl _ _) _) _) _
 clear E; obtain ⟨⟨u0,u1,u2⟩,v0,v1,v2⟩:=T.o s (Below.refl _ _); obtain ⟨c,hc⟩:=exW (cmpL a b); have HC:=Hd hc; have b3 : -1≤c∧c≤1:=by rw [← hc]; exact cmpL_bd a b
 obtain ⟨d3,d4⟩:=b3; clear ha hb hza hzb A S i hc
 go_enter Tryz.func30,Tryz.ntmps30
 go_wp2_with fail
 rw [a3.o]; refine (l1IsSmall_ex _ _ _ _ _ _).mono ?_; rintro e w' ⟨rfl,rfl⟩
 go_wp2_with (go_at_call 39; refine (l1IsSmall_ex _ _ _ _ _ _).mono ?_; rintro e w' ⟨rfl,rfl⟩)
 go_region_with (first|(go_at_call_of 60 (Value.int IntKind.i64 x); refine (l1Neg_ex _ _ _ _ _ _).mono ?_; rintro e w' ⟨rfl,rfl⟩; rw [I.o])|(go_at_call_of 60 (Value.int IntKind.i64 y); refine (l1Neg_ex _ _ _ _ _ _).mono ?_; rintro e w' ⟨rfl,rfl⟩; rw [V.o]))
 all_goals
  go_wp2
  simp only [List.getElem_toArray,List.getElem_cons_succ,List.getElem_cons_zero,Act.put,List.setIfInBounds_toArray,List.set_cons_succ,List.set_cons_zero]; rw [a5.o]; clear u0 u1 u2 v0 v1 v2; obtain ⟨⟨u0,u1,u2⟩,v0,v1,v2⟩:=T.o W1 j.o
  go_region_with (first
   | (go_at_call_of 62 (Value.int IntKind.i64 x); refine (l1Limbs_any B _ na a _ (a6.o _ ?_) ?_).mono ?_
      ·exact j.o.drew.drew
      ·have:=j.o.size; have:=K.o; show B≤W1.heap.size; omega
      rintro e wa ⟨va,rfl,O,L⟩; have D:Up s wa:=j.o.drew.drew.trans (L.mono j.o.size); obtain ⟨⟨a0,a1,a2⟩,b0,b1,b2⟩:=T.o wa D; have Y:=Hd O; have m:Hid (Up s wa):=D; clear O L D)
   | (go_at_call_of 62 (Value.int IntKind.i64 y); refine (l1Limbs_any B _ nb b _ (a7.o _ ?_) ?_).mono ?_
      ·exact m.o
      ·have:=m.o.size; have:=K.o; omega
      rintro e wb ⟨vb,rfl,Q,F⟩; have G:Hid (Up s wb):=m.o.trans (F.mono m.o.size); have Z:=Hd Q; have J:Hid (IsL B wb va a):=Y.o.below F; clear Q F)
   | (go_at_call 61; refine (l1CmpD_any B va vb a b _ J.o Z.o).mono ?_
      rintro e wc ⟨rfl,M⟩; have H:Hid (Up s wc):=G.o.trans (M.mono G.o.size); obtain ⟨⟨c0,c1,c2⟩,d0,d1,d2⟩:=T.o wc H.o; rw [HC.o]; clear M))
  all_goals
   simp only [List.getElem_toArray,List.getElem_cons_succ,List.getElem_cons_zero,Act.put,List.setIfInBounds_toArray,List.set_cons_succ,List.set_cons_zero]
   go_wp2_with (go_at_call 60; refine (l1Neg_ex _ _ _ _ _ _).mono ?_; rintro e w' ⟨rfl,rfl⟩; rw [I.o])
   go_ret
   exact ⟨ret_int (by rw [HC.o]),below_al (U.o.trans (H.o.mono (by omega))) _⟩
theorem l1Cmp_s1t (B:Nat) (x y:Int) (xn yn:Bool) (pa:Option Addr) (la ca:Nat) (pb:Option Addr) (lb cb:Nat) (na nb:Bool) (a b:List Nat) (w:World) (hBw:B≤w.heap.size) (hz:((la:Int)==0)=false)
 (hza:IsZ B w (.agg #[.int .i64 x,.bool xn,.slice pa la ca]) na a) (hzb:IsZ B w (.agg #[.int .i64 y,.bool yn,.slice pb lb cb]) nb b) (ha:ngZ x xn la=true) (hb:ngZ y yn lb=true) :
 Calls Tryz.prog 30 #[.agg #[.int .i64 x,.bool xn,.slice pa la ca],.agg #[.int .i64 y,.bool yn,.slice pb lb cb]] w fun e w'=>e=.returned (.int .i64 (-cmpL a b))∧Up w w':=by
 have I:=Hd ha; have V:=Hd hb; obtain ⟨s,i⟩:=exW ((w.alloc (.cells #[.int .i64 x,.bool xn,.slice pa la ca] 49)).alloc (.cells #[.int .i64 y,.bool yn,.slice pb lb cb] 49)); have a3:=Hd i; have A:Up w s:=by rw [← i]; exact ((Below.refl _ w).alloc leR _).alloc (by simp) _
 have S:s.heap.size=w.heap.size+2:=by rw [← i]; simp
 have t:w.heap.size<s.heap.size:=by omega
 have u:w.heap.size+1<s.heap.size:=by omega
 have U:=Hd A; have K:=Hd S; have a6:Hid (∀ W,Up s W→IsZ B W (.agg #[.int .i64 x,.bool xn,.slice pa la ca]) na a):=fun W hW=>(hza.below A).below hW; have a7:Hid (∀ W,Up s W→IsZ B W (.agg #[.int .i64 y,.bool yn,.slice pb lb cb]) nb b):=fun W hW=>(hzb.below A).below hW; have T:Hid (∀ W,Up s W→(W.cell? ⟨w.heap.size,0,none⟩=some (.int .i64 x)∧W.cell? ⟨w.heap.size,1,none⟩=some (.bool xn)∧W.cell? ⟨w.heap.size,2,none⟩=some (.slice pa la ca)) ∧
  (W.cell? ⟨w.heap.size+1,0,none⟩=some (.int .i64 y)∧W.cell? ⟨w.heap.size+1,1,none⟩=some (.bool yn)∧W.cell? ⟨w.heap.size+1,2,none⟩=some (.slice pb lb cb))):=fun W hW=>by
  refine ⟨⟨?_,?_,?_⟩,?_,?_,?_⟩
  ·rw [hW.cell (p:=⟨w.heap.size,0,none⟩) t,← i,World.cell?_alloc_past _ _ _ (by simp),World.cell?_alloc_at _ _ _ _ rfl]; rfl
  ·rw [hW.cell (p:=⟨w.heap.size,1,none⟩) t,← i,World.cell?_alloc_past _ _ _ (by simp),World.cell?_alloc_at _ _ _ _ rfl]; rfl
  ·rw [hW.cell (p:=⟨w.heap.size,2,none⟩) t,← i,World.cell?_alloc_past _ _ _ (by simp),World.cell?_alloc_at _ _ _ _ rfl]; rfl
  ·rw [hW.cell (p:=⟨w.heap.size+1,0,none⟩) u,← i,World.cell?_alloc_at _ _ _ _ (by simp)]; rfl
  ·rw [hW.cell (p:=⟨w.heap.size+1,1,none⟩) u,← i,World.cell?_alloc_at _ _ _ _ (by simp)]; rfl
  ·rw [hW.cell (p:=⟨w.heap.size+1,2,none⟩) u,← i,World.cell?_alloc_at _ _ _ _ (by simp)]; rfl
 obtain ⟨W1,E⟩:=exW (((s.alloc (.cells #[.int .i64 x,.bool xn,.slice pa la ca] 49)).alloc (.cells #[.int .i64 x,.bool xn,.slice pa la ca] 49)).alloc (.cells #[.int .i64 y,.bool yn,.slice pb lb cb] 49)); have a5:=Hd E; have j:Hid (Up s W1):=by rw [← E]; exact below_al (below_al (below_al (Below.refl _ _) _) _) _
 clear E; obtain ⟨⟨u0,u1,u2⟩,v0,v1,v2⟩:=T.o s (Below.refl _ _); obtain ⟨c,hc⟩:=exW (cmpL a b); have HC:=Hd hc; have b3 : -1≤c∧c≤1:=by rw [← hc]; exact cmpL_bd a b
 obtain ⟨d3,d4⟩:=b3; clear ha hb hza hzb A S i hc
 go_enter Tryz.func30,Tryz.ntmps30
 go_wp2_with fail
 rw [a3.o]; refine (l1IsSmall_ex _ _ _ _ _ _).mono ?_; rintro e w' ⟨rfl,rfl⟩
 go_wp2_with (go_at_call 39; refine (l1IsSmall_ex _ _ _ _ _ _).mono ?_; rintro e w' ⟨rfl,rfl⟩)
 go_region_with (first|(go_at_call_of 60 (Value.int IntKind.i64 x); refine (l1Neg_ex _ _ _ _ _ _).mono ?_; rintro e w' ⟨rfl,rfl⟩; rw [I.o])|(go_at_call_of 60 (Value.int IntKind.i64 y); refine (l1Neg_ex _ _ _ _ _ _).mono ?_; rintro e w' ⟨rfl,rfl⟩; rw [V.o]))
 all_goals
  go_wp2
  simp only [List.getElem_toArray,List.getElem_cons_succ,List.getElem_cons_zero,Act.put,List.setIfInBounds_toArray,List.set_cons_succ,List.set_cons_zero]; rw [a5.o]; clear u0 u1 u2 v0 v1 v2; obtain ⟨⟨u0,u1,u2⟩,v0,v1,v2⟩:=T.o W1 j.o
  go_region_with (first
   | (go_at_call_of 62 (Value.int IntKind.i64 x); refine (l1Limbs_any B _ na a _ (a6.o _ ?_) ?_).mono ?_
      ·exact j.o.drew.drew
      ·have:=j.o.size; have:=K.o; show B≤W1.heap.size; omega
      rintro e wa ⟨va,rfl,O,L⟩; have D:Up s wa:=j.o.drew.drew.trans (L.mono j.o.size); obtain ⟨⟨a0,a1,a2⟩,b0,b1,b2⟩:=T.o wa D; have Y:=Hd O; have m:Hid (Up s wa):=D; clear O L D)
   | (go_at_call_of 62 (Value.int IntKind.i64 y); refine (l1Limbs_any B _ nb b _ (a7.o _ ?_) ?_).mono ?_
      ·exact m.o
      ·have:=m.o.size; have:=K.o; omega
      rintro e wb ⟨vb,rfl,Q,F⟩; have G:Hid (Up s wb):=m.o.trans (F.mono m.o.size); have Z:=Hd Q; have J:Hid (IsL B wb va a):=Y.o.below F; clear Q F)
   | (go_at_call 61; refine (l1CmpD_any B va vb a b _ J.o Z.o).mono ?_
      rintro e wc ⟨rfl,M⟩; have H:Hid (Up s wc):=G.o.trans (M.mono G.o.size); obtain ⟨⟨c0,c1,c2⟩,d0,d1,d2⟩:=T.o wc H.o; rw [HC.o]; clear M))
  all_goals
   simp only [List.getElem_toArray,List.getElem_cons_succ,List.getElem_cons_zero,Act.put,List.setIfInBounds_toArray,List.set_cons_succ,List.set_cons_zero]
   go_wp2_with (go_at_call 60; refine (l1Neg_ex _ _ _ _ _ _).mono ?_; rintro e w' ⟨rfl,rfl⟩; rw [I.o])
   go_ret
   exact ⟨ret_int (by rw [HC.o]),below_al (U.o.trans (H.o.mono (by omega))) _⟩
theorem l1Cmp_s2f (B:Nat) (x y:Int) (xn yn:Bool) (pa:Option Addr) (la ca:Nat) (pb:Option Addr) (lb cb:Nat) (na nb:Bool) (a b:List Nat) (w:World) (hBw:B≤w.heap.size) (hz:((la:Int)==0)=true) (hz2:((lb:Int)==0)=false)
 (hza:IsZ B w (.agg #[.int .i64 x,.bool xn,.slice pa la ca]) na a) (hzb:IsZ B w (.agg #[.int .i64 y,.bool yn,.slice pb lb cb]) nb b) (ha:ngZ x xn la=false) (hb:ngZ y yn lb=false) :
 Calls Tryz.prog 30 #[.agg #[.int .i64 x,.bool xn,.slice pa la ca],.agg #[.int .i64 y,.bool yn,.slice pb lb cb]] w fun e w'=>e=.returned (.int .i64 (cmpL a b))∧Up w w':=by
 have I:=Hd ha; have V:=Hd hb; obtain ⟨s,i⟩:=exW ((w.alloc (.cells #[.int .i64 x,.bool xn,.slice pa la ca] 49)).alloc (.cells #[.int .i64 y,.bool yn,.slice pb lb cb] 49)); have a3:=Hd i; have A:Up w s:=by rw [← i]; exact ((Below.refl _ w).alloc leR _).alloc (by simp) _
 have S:s.heap.size=w.heap.size+2:=by rw [← i]; simp
 have t:w.heap.size<s.heap.size:=by omega
 have u:w.heap.size+1<s.heap.size:=by omega
 have U:=Hd A; have K:=Hd S; have a6:Hid (∀ W,Up s W→IsZ B W (.agg #[.int .i64 x,.bool xn,.slice pa la ca]) na a):=fun W hW=>(hza.below A).below hW; have a7:Hid (∀ W,Up s W→IsZ B W (.agg #[.int .i64 y,.bool yn,.slice pb lb cb]) nb b):=fun W hW=>(hzb.below A).below hW; have T:Hid (∀ W,Up s W→(W.cell? ⟨w.heap.size,0,none⟩=some (.int .i64 x)∧W.cell? ⟨w.heap.size,1,none⟩=some (.bool xn)∧W.cell? ⟨w.heap.size,2,none⟩=some (.slice pa la ca)) ∧
  (W.cell? ⟨w.heap.size+1,0,none⟩=some (.int .i64 y)∧W.cell? ⟨w.heap.size+1,1,none⟩=some (.bool yn)∧W.cell? ⟨w.heap.size+1,2,none⟩=some (.slice pb lb cb))):=fun W hW=>by
  refine ⟨⟨?_,?_,?_⟩,?_,?_,?_⟩
  ·rw [hW.cell (p:=⟨w.heap.size,0,none⟩) t,← i,World.cell?_alloc_past _ _ _ (by simp),World.cell?_alloc_at _ _ _ _ rfl]; rfl
  ·rw [hW.cell (p:=⟨w.heap.size,1,none⟩) t,← i,World.cell?_alloc_past _ _ _ (by simp),World.cell?_alloc_at _ _ _ _ rfl]; rfl
  ·rw [hW.cell (p:=⟨w.heap.size,2,none⟩) t,← i,World.cell?_alloc_past _ _ _ (by simp),World.cell?_alloc_at _ _ _ _ rfl]; rfl
  ·rw [hW.cell (p:=⟨w.heap.size+1,0,none⟩) u,← i,World.cell?_alloc_at _ _ _ _ (by simp)]; rfl
  ·rw [hW.cell (p:=⟨w.heap.size+1,1,none⟩) u,← i,World.cell?_alloc_at _ _ _ _ (by simp)]; rfl
  ·rw [hW.cell (p:=⟨w.heap.size+1,2,none⟩) u,← i,World.cell?_alloc_at _ _ _ _ (by simp)]; rfl
 obtain ⟨W1,E⟩:=exW ((((s.alloc (.cells #[.int .i64 x,.bool xn,.slice pa la ca] 49)).alloc (.cells #[.int .i64 y,.bool yn,.slice pb lb cb] 49)).alloc (.cells #[.int .i64 x,.bool xn,.slice pa la ca] 49)).alloc (.cells #[.int .i64 y,.bool yn,.slice pb lb cb] 49)); have a5:=Hd E; have j:Hid (Up s W1):=by rw [← E]; exact below_al (below_al (below_al (below_al (Below.refl _ _) _) _) _) _
 clear E; obtain ⟨⟨u0,u1,u2⟩,v0,v1,v2⟩:=T.o s (Below.refl _ _); obtain ⟨c,hc⟩:=exW (cmpL a b); have HC:=Hd hc; have b3 : -1≤c∧c≤1:=by rw [← hc]; exact cmpL_bd a b
 obtain ⟨d3,d4⟩:=b3; clear ha hb hza hzb A S i hc
 go_enter Tryz.func30,Tryz.ntmps30
 go_wp2_with fail
 rw [a3.o]; refine (l1IsSmall_ex _ _ _ _ _ _).mono ?_; rintro e w' ⟨rfl,rfl⟩
 go_wp2_with (go_at_call 39; refine (l1IsSmall_ex _ _ _ _ _ _).mono ?_; rintro e w' ⟨rfl,rfl⟩)
 go_region_with (first|(go_at_call_of 60 (Value.int IntKind.i64 x); refine (l1Neg_ex _ _ _ _ _ _).mono ?_; rintro e w' ⟨rfl,rfl⟩; rw [I.o])|(go_at_call_of 60 (Value.int IntKind.i64 y); refine (l1Neg_ex _ _ _ _ _ _).mono ?_; rintro e w' ⟨rfl,rfl⟩; rw [V.o]))
 all_goals
  go_wp2
  simp only [List.getElem_toArray,List.getElem_cons_succ,List.getElem_cons_zero,Act.put,List.setIfInBounds_toArray,List.set_cons_succ,List.set_cons_zero]; rw [a5.o]; clear u0 u1 u2 v0 v1 v2; obtain ⟨⟨u0,u1,u2⟩,v0,v1,v2⟩:=T.o W1 j.o
  go_region_with (first
   | (go_at_call_of 62 (Value.int IntKind.i64 x); refine (l1Limbs_any B _ na a _ (a6.o _ ?_) ?_).mono ?_
      ·exact j.o.drew.drew
      ·have:=j.o.size; have:=K.o; show B≤W1.heap.size; omega
      rintro e wa ⟨va,rfl,O,L⟩; have D:Up s wa:=j.o.drew.drew.trans (L.mono j.o.size); obtain ⟨⟨a0,a1,a2⟩,b0,b1,b2⟩:=T.o wa D; have Y:=Hd O; have m:Hid (Up s wa):=D; clear O L D)
   | (go_at_call_of 62 (Value.int IntKind.i64 y); refine (l1Limbs_any B _ nb b _ (a7.o _ ?_) ?_).mono ?_
      ·exact m.o
      ·have:=m.o.size; have:=K.o; omega
      rintro e wb ⟨vb,rfl,Q,F⟩; have G:Hid (Up s wb):=m.o.trans (F.mono m.o.size); have Z:=Hd Q; have J:Hid (IsL B wb va a):=Y.o.below F; clear Q F)
   | (go_at_call 61; refine (l1CmpD_any B va vb a b _ J.o Z.o).mono ?_
      rintro e wc ⟨rfl,M⟩; have H:Hid (Up s wc):=G.o.trans (M.mono G.o.size); obtain ⟨⟨c0,c1,c2⟩,d0,d1,d2⟩:=T.o wc H.o; rw [HC.o]; clear M))
  all_goals
   simp only [List.getElem_toArray,List.getElem_cons_succ,List.getElem_cons_zero,Act.put,List.setIfInBounds_toArray,List.set_cons_succ,List.set_cons_zero]
   go_wp2_with (go_at_call 60; refine (l1Neg_ex _ _ _ _ _ _).mono ?_; rintro e w' ⟨rfl,rfl⟩; rw [I.o])
   go_ret
   exact ⟨ret_int (by rw [HC.o]),below_al (U.o.trans (H.o.mono (by omega))) _⟩
theorem l1Cmp_s2t (B:Nat) (x y:Int) (xn yn:Bool) (pa:Option Addr) (la ca:Nat) (pb:Option Addr) (lb cb:Nat) (na nb:Bool) (a b:List Nat) (w:World) (hBw:B≤w.heap.size) (hz:((la:Int)==0)=true) (hz2:((lb:Int)==0)=false)
 (hza:IsZ B w (.agg #[.int .i64 x,.bool xn,.slice pa la ca]) na a) (hzb:IsZ B w (.agg #[.int .i64 y,.bool yn,.slice pb lb cb]) nb b) (ha:ngZ x xn la=true) (hb:ngZ y yn lb=true) :
 Calls Tryz.prog 30 #[.agg #[.int .i64 x,.bool xn,.slice pa la ca],.agg #[.int .i64 y,.bool yn,.slice pb lb cb]] w fun e w'=>e=.returned (.int .i64 (-cmpL a b))∧Up w w':=by
 have I:=Hd ha; have V:=Hd hb; obtain ⟨s,i⟩:=exW ((w.alloc (.cells #[.int .i64 x,.bool xn,.slice pa la ca] 49)).alloc (.cells #[.int .i64 y,.bool yn,.slice pb lb cb] 49)); have a3:=Hd i; have A:Up w s:=by rw [← i]; exact ((Below.refl _ w).alloc leR _).alloc (by simp) _
 have S:s.heap.size=w.heap.size+2:=by rw [← i]; simp
 have t:w.heap.size<s.heap.size:=by omega
 have u:w.heap.size+1<s.heap.size:=by omega
 have U:=Hd A; have K:=Hd S; have a6:Hid (∀ W,Up s W→IsZ B W (.agg #[.int .i64 x,.bool xn,.slice pa la ca]) na a):=fun W hW=>(hza.below A).below hW; have a7:Hid (∀ W,Up s W→IsZ B W (.agg #[.int .i64 y,.bool yn,.slice pb lb cb]) nb b):=fun W hW=>(hzb.below A).below hW; have T:Hid (∀ W,Up s W→(W.cell? ⟨w.heap.size,0,none⟩=some (.int .i64 x)∧W.cell? ⟨w.heap.size,1,none⟩=some (.bool xn)∧W.cell? ⟨w.heap.size,2,none⟩=some (.slice pa la ca)) ∧
  (W.cell? ⟨w.heap.size+1,0,none⟩=some (.int .i64 y)∧W.cell? ⟨w.heap.size+1,1,none⟩=some (.bool yn)∧W.cell? ⟨w.heap.size+1,2,none⟩=some (.slice pb lb cb))):=fun W hW=>by
  refine ⟨⟨?_,?_,?_⟩,?_,?_,?_⟩
  ·rw [hW.cell (p:=⟨w.heap.size,0,none⟩) t,← i,World.cell?_alloc_past _ _ _ (by simp),World.cell?_alloc_at _ _ _ _ rfl]; rfl
  ·rw [hW.cell (p:=⟨w.heap.size,1,none⟩) t,← i,World.cell?_alloc_past _ _ _ (by simp),World.cell?_alloc_at _ _ _ _ rfl]; rfl
  ·rw [hW.cell (p:=⟨w.heap.size,2,none⟩) t,← i,World.cell?_alloc_past _ _ _ (by simp),World.cell?_alloc_at _ _ _ _ rfl]; rfl
  ·rw [hW.cell (p:=⟨w.heap.size+1,0,none⟩) u,← i,World.cell?_alloc_at _ _ _ _ (by simp)]; rfl
  ·rw [hW.cell (p:=⟨w.heap.size+1,1,none⟩) u,← i,World.cell?_alloc_at _ _ _ _ (by simp)]; rfl
  ·rw [hW.cell (p:=⟨w.heap.size+1,2,none⟩) u,← i,World.cell?_alloc_at _ _ _ _ (by simp)]; rfl
 obtain ⟨W1,E⟩:=exW ((((s.alloc (.cells #[.int .i64 x,.bool xn,.slice pa la ca] 49)).alloc (.cells #[.int .i64 y,.bool yn,.slice pb lb cb] 49)).alloc (.cells #[.int .i64 x,.bool xn,.slice pa la ca] 49)).alloc (.cells #[.int .i64 y,.bool yn,.slice pb lb cb] 49)); have a5:=Hd E; have j:Hid (Up s W1):=by rw [← E]; exact below_al (below_al (below_al (below_al (Below.refl _ _) _) _) _) _
 clear E; obtain ⟨⟨u0,u1,u2⟩,v0,v1,v2⟩:=T.o s (Below.refl _ _); obtain ⟨c,hc⟩:=exW (cmpL a b); have HC:=Hd hc; have b3 : -1≤c∧c≤1:=by rw [← hc]; exact cmpL_bd a b
 obtain ⟨d3,d4⟩:=b3; clear ha hb hza hzb A S i hc
 go_enter Tryz.func30,Tryz.ntmps30
 go_wp2_with fail
 rw [a3.o]; refine (l1IsSmall_ex _ _ _ _ _ _).mono ?_; rintro e w' ⟨rfl,rfl⟩
 go_wp2_with (go_at_call 39; refine (l1IsSmall_ex _ _ _ _ _ _).mono ?_; rintro e w' ⟨rfl,rfl⟩)
 go_region_with (first|(go_at_call_of 60 (Value.int IntKind.i64 x); refine (l1Neg_ex _ _ _ _ _ _).mono ?_; rintro e w' ⟨rfl,rfl⟩; rw [I.o])|(go_at_call_of 60 (Value.int IntKind.i64 y); refine (l1Neg_ex _ _ _ _ _ _).mono ?_; rintro e w' ⟨rfl,rfl⟩; rw [V.o]))
 all_goals
  go_wp2
  simp only [List.getElem_toArray,List.getElem_cons_succ,List.getElem_cons_zero,Act.put,List.setIfInBounds_toArray,List.set_cons_succ,List.set_cons_zero]; rw [a5.o]; clear u0 u1 u2 v0 v1 v2; obtain ⟨⟨u0,u1,u2⟩,v0,v1,v2⟩:=T.o W1 j.o
  go_region_with (first
   | (go_at_call_of 62 (Value.int IntKind.i64 x); refine (l1Limbs_any B _ na a _ (a6.o _ ?_) ?_).mono ?_
      ·exact j.o.drew.drew
      ·have:=j.o.size; have:=K.o; show B≤W1.heap.size; omega
      rintro e wa ⟨va,rfl,O,L⟩; have D:Up s wa:=j.o.drew.drew.trans (L.mono j.o.size); obtain ⟨⟨a0,a1,a2⟩,b0,b1,b2⟩:=T.o wa D; have Y:=Hd O; have m:Hid (Up s wa):=D; clear O L D)
   | (go_at_call_of 62 (Value.int IntKind.i64 y); refine (l1Limbs_any B _ nb b _ (a7.o _ ?_) ?_).mono ?_
      ·exact m.o
      ·have:=m.o.size; have:=K.o; omega
      rintro e wb ⟨vb,rfl,Q,F⟩; have G:Hid (Up s wb):=m.o.trans (F.mono m.o.size); have Z:=Hd Q; have J:Hid (IsL B wb va a):=Y.o.below F; clear Q F)
   | (go_at_call 61; refine (l1CmpD_any B va vb a b _ J.o Z.o).mono ?_
      rintro e wc ⟨rfl,M⟩; have H:Hid (Up s wc):=G.o.trans (M.mono G.o.size); obtain ⟨⟨c0,c1,c2⟩,d0,d1,d2⟩:=T.o wc H.o; rw [HC.o]; clear M))
  all_goals
   simp only [List.getElem_toArray,List.getElem_cons_succ,List.getElem_cons_zero,Act.put,List.setIfInBounds_toArray,List.set_cons_succ,List.set_cons_zero]
   go_wp2_with (go_at_call 60; refine (l1Neg_ex _ _ _ _ _ _).mono ?_; rintro e w' ⟨rfl,rfl⟩; rw [I.o])
   go_ret
   exact ⟨ret_int (by rw [HC.o]),below_al (U.o.trans (H.o.mono (by omega))) _⟩
theorem cmpL_anti (a b:List Nat) (ha:okL a) (hb:okL b) (ta:isTrim a) (tb:isTrim b):cmpL b a = -cmpL a b:=by
 rw [cmpL_ord a b ha hb ta tb,cmpL_ord b a hb ha tb ta]; unfold ord
 split<;>split<;>(try split)<;>omega
theorem IsZ.form {B:Nat} {w:World} {z:Value} {na:Bool} {a:List Nat} (h:IsZ B w z na a):∃ x xn p l c,z=.agg #[.int .i64 x,.bool xn,.slice p l c]∧ngZ x xn l=negOf na a∧(l=0→z=.agg #[.int .i64 (sg na (val a)),.bool false,.slice none 0 0]):=by
 obtain ⟨i,j,h3⟩:=h
 rcases h3 with ⟨h3,v,rfl,p,c,rfl,_⟩|⟨h3,rfl⟩
 ·refine ⟨_,_,_,_,_,rfl,?_,fun e=>by omega⟩; unfold ngZ negOf; have:0<a.length:=by omega
  simp [this]
 exact ⟨_,_,_,_,_,rfl,(negOf_small na a h3 i j).symm,fun _=>rfl⟩
theorem l1Cmp_any (B:Nat) (za zb:Value) (na nb:Bool) (a b:List Nat) (w:World) (hBw:B≤w.heap.size) (hza:IsZ B w za na a) (hzb:IsZ B w zb nb b) :
 Calls Tryz.prog 30 #[za,zb] w fun e w'=>e=.returned (.int .i64 (cmpI (negOf na a) (negOf nb b) a b))∧Up w w':=by
 have G:=hza.1; have H:=hzb.1; have I:=hza.2.1; have J:=hzb.2.1; obtain ⟨x,E,A,la,t,rfl,m,O⟩:=hza.form; obtain ⟨y,F,D,lb,u,rfl,s,Q⟩:=hzb.form
 by_cases M:la=0∧lb=0
 ·rw [O M.1,Q M.2,cmpI_ord na nb a b G H I J]; exact l1Cmp_small _ _ w
 have i:((la:Int)==0)=false∨(((la:Int)==0)=true∧((lb:Int)==0)=false):=by
  by_cases h:la=0
  ·exact .inr ⟨by rw [beq_iff_eq]; omega,by rw [beq_eq_false_iff_ne]; omega⟩
  exact .inl (by rw [beq_eq_false_iff_ne]; omega)
 cases K:negOf na a<;>cases L:negOf nb b
 ·rw [K] at m; rw [L] at s
  show Calls _ _ _ _ fun e w'=>e=.returned (.int .i64 (cmpL a b))∧_
  rcases i with i|⟨i,j⟩
  ·exact l1Cmp_s1f B x y E F A la t D lb u na nb a b w hBw i hza hzb m s
  exact l1Cmp_s2f B x y E F A la t D lb u na nb a b w hBw i j hza hzb m s
 ·rw [K] at m; rw [L] at s
  show Calls _ _ _ _ fun e w'=>e=.returned (.int .i64 (1))∧_
  rcases i with i|⟨i,j⟩
  ·exact l1Cmp_ft1 x y E F A la t D lb u w i m s
  exact l1Cmp_ft2 x y E F A la t D lb u w i j m s
 ·rw [K] at m; rw [L] at s
  show Calls _ _ _ _ fun e w'=>e=.returned (.int .i64 (-1))∧_
  rcases i with i|⟨i,j⟩
  ·exact l1Cmp_tf1 x y E F A la t D lb u w i m s
  exact l1Cmp_tf2 x y E F A la t D lb u w i j m s
 rw [K] at m; rw [L] at s
 show Calls _ _ _ _ fun e w'=>e=.returned (.int .i64 (cmpL b a))∧_
 rw [cmpL_anti a b G H I J]
 rcases i with i|⟨i,j⟩
 ·exact l1Cmp_s1t B x y E F A la t D lb u na nb a b w hBw i hza hzb m s
 exact l1Cmp_s2t B x y E F A la t D lb u na nb a b w hBw i j hza hzb m s
end Go.Proofs.YtnhbmpnhijgpmaaGreatDoor
