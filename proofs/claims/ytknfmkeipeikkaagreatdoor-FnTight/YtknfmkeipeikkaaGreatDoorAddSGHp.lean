import Derived.Test.YtknfmkeipeikkaaGreatDoorM8p
set_option maxRecDepth 100000
set_option maxHeartbeats 4000000
namespace Go.Proofs.YtknfmkeipeikkaaGreatDoor
open Go.ChangeShapes Go.WideShapes Go.ChangeAt Go.RowKit
theorem hide {p:Prop} (h:p):Hid p:=h
theorem l1Add_same (B:Nat) (x y:Int) (xn yn:Bool) (pa:Option Addr) (la ca:Nat) (pb:Option Addr) (lb cb:Nat) (na nb:Bool) (a b:List Nat) (w:World) (hBw:B≤w.heap.size) (hz:((la:Int)==0)=false∨((la:Int)==0)=true∧((lb:Int)==0)=false)
 (hza:IsZ B w (.agg #[.int .i64 x,.bool xn,.slice pa la ca]) na a) (hzb:IsZ B w (.agg #[.int .i64 y,.bool yn,.slice pb lb cb]) nb b) (s:Bool) (ha:ngZ x xn la=s) (hb:ngZ y yn lb=s) (hla:a.length≤1000000) (hlb:b.length≤1000000) :
 Calls Tryz.prog 77 #[.agg #[.int .i64 x,.bool xn,.slice pa la ca],.agg #[.int .i64 y,.bool yn,.slice pb lb cb]] w fun e w'=>∃ z,e=.returned z∧IsN w.heap.size w' z (sg s (val a)+sg (s) (val b))∧Up w w':=by
 have a9:=Hd ha; have d6:=Hd hb; have a8:Hid (a.length≤1000000∧b.length≤1000000):=⟨hla,hlb⟩; have HX:=boxes_first w x xn pa la ca y yn pb lb cb 53; obtain ⟨m,E⟩:=exW (((w.alloc (.cells #[.int .i64 x,.bool xn,.slice pa la ca] 53)).alloc (.cells #[.int .i64 y,.bool yn,.slice pb lb cb] 53)).alloc (.cells #[.int .i64 0,.bool false,.slice none 0 0] 53)); have d9:=Hd E; have I:Up w m:=by rw [← E]; exact below_al (below_al (below_alloc _ _) _) _
 have d4:=Hd I; have c7:m.heap.size=w.heap.size+3:=by rw [← E]; simp
 have b6:w.heap.size<m.heap.size:=by omega
 have b7:w.heap.size+1<m.heap.size:=by omega
 have b8:w.heap.size+2<m.heap.size:=by omega
 rw [E] at HX; have HS:=Hd c7; have a3:=Hd hBw; have H:Hid (∀ W,Up m W→Boxes w.heap.size W x xn pa la ca y yn pb lb cb):=fun W hW=>HX.below (by omega) hW; have e3:Hid (∀ W,Up m W→IsZ B W (.agg #[.int .i64 x,.bool xn,.slice pa la ca]) na a):=fun W hW=>(hza.below I).below hW; have e4:Hid (∀ W,Up m W→IsZ B W (.agg #[.int .i64 y,.bool yn,.slice pb lb cb]) nb b):=fun W hW=>(hzb.below I).below hW; obtain ⟨a0,a1,a2,b0,b1,b2,r0,r1,r2,f0,f1,f2⟩:=HX; clear E c7 ha hb hza hzb I hBw hla hlb; have a7:Hid (∃ W1,Up m W1∧((((la:Int)==0)=false∧m.alloc (.cells #[.int .i64 x,.bool xn,.slice pa la ca] 53)=W1)∨(((la:Int)==0)=true∧((lb:Int)==0)=false∧(m.alloc (.cells #[.int .i64 x,.bool xn,.slice pa la ca] 53)).alloc (.cells #[.int .i64 y,.bool yn,.slice pb lb cb] 53)=W1))):=by
  rcases hz with h|⟨h,h'⟩
  ·exact ⟨_,below_alloc _ _,.inl ⟨h,rfl⟩⟩
  exact ⟨_,below_al (below_alloc _ _) _,.inr ⟨h,h',rfl⟩⟩
 obtain ⟨W1,J,e9⟩:=a7.o; have j:=Hd J; clear hz a7 J
 go_enter Tryz.func77,Tryz.ntmps77
 go_wp2_with fail
 rw [d9.o]; refine (l1IsSmall_ex _ _ _ _ _ _).mono ?_; rintro e w' ⟨rfl,rfl⟩
 rcases e9 with ⟨hz,O⟩|⟨hz,g4,O⟩
 all_goals
  have e0:=hide O; clear O
  go_wp2_with (go_at_call 44; refine (l1IsSmall_ex _ _ _ _ _ _).mono ?_; rintro e w' ⟨rfl,rfl⟩)
  rw [e0.o]; clear a0 a1 a2 b0 b1 b2 r0 r1 r2 f0 f1 f2; obtain ⟨a0,a1,a2,b0,b1,b2,r0,r1,r2,f0,f1,f2⟩:=H.o W1 j.o; refine (l1Limbs_any B _ na a _ (e3.o _ j.o) (by have:=j.o.size; have:=HS.o; have:=a3.o; omega)).mono ?_; rintro e wa ⟨va,rfl,c9,b4⟩; have d7:=Hd c9; have D:Hid (Up m wa):=j.o.trans (b4.mono j.o.size); clear a0 a1 a2 b0 b1 b2 r0 r1 r2 f0 f1 f2 c9 b4; obtain ⟨a0,a1,a2,b0,b1,b2,r0,r1,r2,f0,f1,f2⟩:=H.o wa D.o
  go_wp2_with fail
  refine (l1Limbs_any B _ nb b _ (e4.o _ D.o) (by have:=D.o.size; have:=HS.o; have:=a3.o; omega)).mono ?_; rintro e Y ⟨vb,rfl,d0,T⟩; have d8:=Hd d0; have b3:Hid (IsL B Y va a):=d7.o.below T; have u:Hid (Up m Y):=D.o.trans (T.mono D.o.size); have e6:w.heap.size<Y.heap.size:=by have:=u.o.size; omega
  have e7:w.heap.size+1<Y.heap.size:=by have:=u.o.size; omega
  have e8:w.heap.size+2<Y.heap.size:=by have:=u.o.size; omega
  clear a0 a1 a2 b0 b1 b2 r0 r1 r2 f0 f1 f2 d0 T b6 b7 b8; obtain ⟨a0,a1,a2,b0,b1,b2,r0,r1,r2,f0,f1,f2⟩:=H.o Y u.o
  go_wp2_with fail
  go_region_with (first|(go_at_call_of 73 (Value.int IntKind.i64 x); refine (l1Neg_ex _ _ _ _ _ _).mono ?_; rintro e w' ⟨rfl,rfl⟩; rw [a9.o])|(go_at_call_of 73 (Value.int IntKind.i64 y); refine (l1Neg_ex _ _ _ _ _ _).mono ?_; rintro e w' ⟨rfl,rfl⟩; rw [d6.o]))
  all_goals
   simp only [List.getElem_toArray,List.getElem_cons_succ,List.getElem_cons_zero,Act.put,List.setIfInBounds_toArray,List.set_cons_succ,List.set_cons_zero]
   go_wp2_with fail
   refine (l1Neg_ex _ _ _ _ _ _).mono ?_; rintro e wc ⟨rfl,d1⟩; rw [a9.o]; have U:Up Y wc:=by rw [d1]; exact below_al ((below_al (below_alloc _ _) _).drew) _
   have Z:=Hd U; have M:Hid (Up m wc):=u.o.trans (U.mono u.o.size); clear d1 U a0 a1 a2 b0 b1 b2 r0 r1 r2 f0 f1 f2 e6 e7 e8
   go_wp2_with fail
   refine (l1AddD_any B va vb a b _ (b3.o.below Z.o) (d8.o.below Z.o) a8.o.1 a8.o.2).mono ?_; rintro e wd ⟨vd,L,rfl,hL,K,b5⟩; have HL:=Hd hL; have HV:=Hd K; have a5:Hid (Up m wd):=M.o.trans (b5.mono M.o.size); clear hL K b5
   go_wp2_with fail
   refine (l1Make_any _ s vd L _ HL.o).mono ?_; rintro e we ⟨z,rfl,b9,V⟩; have hN:IsN (w.heap.size+3) we z (sg s (val a)+sg s (val b)):=⟨s,trimL L,(((b9 _ _ HL.o).below V).mono (by have:=M.o.size; have:=HS.o; omega)),by rw [val_trimL,HV.o,sg_add]⟩; have HN:=Hd hN; have a6:Hid (Up m we):=a5.o.trans (V.mono a5.o.size); have d5:Hid (Up w we):=d4.o.trans (a6.o.mono (by have:=HS.o; omega)); obtain ⟨a0,a1,a2,b0,b1,b2,r0,r1,r2,f0,f1,f2⟩:=H.o we a6.o; obtain ⟨z0,zn,za,zl,zc,f5⟩:=hN.shape; subst f5; clear b9 V hN
   go_wp2
   refine bodyPost_ret ?_ rfl ⟨_,rfl,(((HN.o.setCell _ _ (by simp)).setCell _ _ (by simp)).setCell _ _ (by simp)).mono (by omega),((d5.o.setCell (by simp; omega) _).setCell (by simp; omega) _).setCell (by simp; omega) _⟩; simp [results,Tryz.results77,go_sem,r0,r1,r2]
theorem l1Add_ge (B:Nat) (x y:Int) (xn yn:Bool) (pa:Option Addr) (la ca:Nat) (pb:Option Addr) (lb cb:Nat) (na nb:Bool) (a b:List Nat) (w:World) (hBw:B≤w.heap.size) (hz:((la:Int)==0)=false∨((la:Int)==0)=true∧((lb:Int)==0)=false)
 (hza:IsZ B w (.agg #[.int .i64 x,.bool xn,.slice pa la ca]) na a) (hzb:IsZ B w (.agg #[.int .i64 y,.bool yn,.slice pb lb cb]) nb b) (s:Bool) (ha:ngZ x xn la=s) (hb:ngZ y yn lb=!s) (hla:a.length≤1000000) (hlb:b.length≤1000000) (hcm:0≤cmpL a b) :
 Calls Tryz.prog 77 #[.agg #[.int .i64 x,.bool xn,.slice pa la ca],.agg #[.int .i64 y,.bool yn,.slice pb lb cb]] w fun e w'=>∃ z,e=.returned z∧IsN w.heap.size w' z (sg s (val a)+sg (!s) (val b))∧Up w w':=by
 have b5:=Hd ha; have e4:=Hd hb; have e3:Hid (a.length≤1000000∧b.length≤1000000):=⟨hla,hlb⟩; have b4:Hid (b.length≤a.length∧val b≤val a):=by
  have h:=cmpL_ord a b hza.1 hzb.1 hza.2.1 hzb.2.1; have h2:=hcm; rw [h] at h2; refine ⟨?_,?_⟩
  ·unfold cmpL at hcm
   by_cases h3:a.length<b.length
   ·simp [h3] at hcm<;>omega
   by_cases h4:b.length<a.length
   ·simp [h3,h4] at hcm<;>omega
   omega
  unfold ord at h2
  split at h2<;>(try split at h2)<;>omega
 obtain ⟨c,hc⟩:=exW (cmpL a b); have HC:=Hd hc; have f9 : -1≤c∧c≤1:=by rw [← hc]; exact cmpL_bd a b
 obtain ⟨h8,h9⟩:=f9; rw [hc] at hcm; clear hc; have HX:=boxes_first w x xn pa la ca y yn pb lb cb 53; obtain ⟨u,H⟩:=exW (((w.alloc (.cells #[.int .i64 x,.bool xn,.slice pa la ca] 53)).alloc (.cells #[.int .i64 y,.bool yn,.slice pb lb cb] 53)).alloc (.cells #[.int .i64 0,.bool false,.slice none 0 0] 53)); have e6:=Hd H; have K:Up w u:=by rw [← H]; exact below_al (below_al (below_alloc _ _) _) _
 have d9:=Hd K; have d2:u.heap.size=w.heap.size+3:=by rw [← H]; simp
 have c7:w.heap.size<u.heap.size:=by omega
 have c9:w.heap.size+1<u.heap.size:=by omega
 have d0:w.heap.size+2<u.heap.size:=by omega
 rw [H] at HX; have HS:=Hd d2; have a7:=Hd hBw; have E:Hid (∀ W,Up u W→Boxes w.heap.size W x xn pa la ca y yn pb lb cb):=fun W hW=>HX.below (by omega) hW; have e9:Hid (∀ W,Up u W→IsZ B W (.agg #[.int .i64 x,.bool xn,.slice pa la ca]) na a):=fun W hW=>(hza.below K).below hW; have f5:Hid (∀ W,Up u W→IsZ B W (.agg #[.int .i64 y,.bool yn,.slice pb lb cb]) nb b):=fun W hW=>(hzb.below K).below hW; obtain ⟨a0,a1,a2,b0,b1,b2,r0,r1,r2,f0,f1,f2⟩:=HX; clear H d2 ha hb hza hzb K hBw hla hlb; have b3:Hid (∃ W1,Up u W1∧((((la:Int)==0)=false∧u.alloc (.cells #[.int .i64 x,.bool xn,.slice pa la ca] 53)=W1)∨(((la:Int)==0)=true∧((lb:Int)==0)=false∧(u.alloc (.cells #[.int .i64 x,.bool xn,.slice pa la ca] 53)).alloc (.cells #[.int .i64 y,.bool yn,.slice pb lb cb] 53)=W1))):=by
  rcases hz with h|⟨h,h'⟩
  ·exact ⟨_,below_alloc _ _,.inl ⟨h,rfl⟩⟩
  exact ⟨_,below_al (below_alloc _ _) _,.inr ⟨h,h',rfl⟩⟩
 obtain ⟨W1,O,g3⟩:=b3.o; have m:=Hd O; clear hz b3 O
 go_enter Tryz.func77,Tryz.ntmps77
 go_wp2_with fail
 rw [e6.o]; refine (l1IsSmall_ex _ _ _ _ _ _).mono ?_; rintro e w' ⟨rfl,rfl⟩
 rcases g3 with ⟨hz,V⟩|⟨hz,i0,V⟩
 all_goals
  have e7:=hide V; clear V
  go_wp2_with (go_at_call 44; refine (l1IsSmall_ex _ _ _ _ _ _).mono ?_; rintro e w' ⟨rfl,rfl⟩)
  rw [e7.o]; clear a0 a1 a2 b0 b1 b2 r0 r1 r2 f0 f1 f2; obtain ⟨a0,a1,a2,b0,b1,b2,r0,r1,r2,f0,f1,f2⟩:=E.o W1 m.o; refine (l1Limbs_any B _ na a _ (e9.o _ m.o) (by have:=m.o.size; have:=HS.o; have:=a7.o; omega)).mono ?_; rintro e wa ⟨va,rfl,d3,b7⟩; have e5:=Hd d3; have D:Hid (Up u wa):=m.o.trans (b7.mono m.o.size); clear a0 a1 a2 b0 b1 b2 r0 r1 r2 f0 f1 f2 d3 b7; obtain ⟨a0,a1,a2,b0,b1,b2,r0,r1,r2,f0,f1,f2⟩:=E.o wa D.o
  go_wp2_with fail
  refine (l1Limbs_any B _ nb b _ (f5.o _ D.o) (by have:=D.o.size; have:=HS.o; have:=a7.o; omega)).mono ?_; rintro e J ⟨vb,rfl,d4,Y⟩; have b6:=Hd d4; have M:Hid (IsL B J va a):=e5.o.below Y; have j:Hid (Up u J):=D.o.trans (Y.mono D.o.size); have g0:w.heap.size<J.heap.size:=by have:=j.o.size; omega
  have g1:w.heap.size+1<J.heap.size:=by have:=j.o.size; omega
  have g2:w.heap.size+2<J.heap.size:=by have:=j.o.size; omega
  clear a0 a1 a2 b0 b1 b2 r0 r1 r2 f0 f1 f2 d4 Y c7 c9 d0; obtain ⟨a0,a1,a2,b0,b1,b2,r0,r1,r2,f0,f1,f2⟩:=E.o J j.o
  go_wp2_with fail
  go_region_with (first|(go_at_call_of 73 (Value.int IntKind.i64 x); refine (l1Neg_ex _ _ _ _ _ _).mono ?_; rintro e w' ⟨rfl,rfl⟩; rw [b5.o])|(go_at_call_of 73 (Value.int IntKind.i64 y); refine (l1Neg_ex _ _ _ _ _ _).mono ?_; rintro e w' ⟨rfl,rfl⟩; rw [e4.o]))
  all_goals
   simp only [List.getElem_toArray,List.getElem_cons_succ,List.getElem_cons_zero,Act.put,List.setIfInBounds_toArray,List.set_cons_succ,List.set_cons_zero]
   go_wp2_with fail
   refine (l1CmpD_any B va vb a b _ (M.o.below ?_) (b6.o.below ?_)).mono ?_
   ·exact (below_al (below_alloc _ _) _).drew
   ·exact (below_al (below_alloc _ _) _).drew
   rintro e wk ⟨rfl,b9⟩; rw [HC.o]; have I:Up J wk:=((below_al (below_alloc J (.cells #[.int .i64 x,.bool xn,.slice pa la ca] 53)) (.cells #[.int .i64 y,.bool yn,.slice pb lb cb] 53)).drew).trans (b9.mono (by show J.heap.size≤_; simp; omega)); have a6:=Hd I; have e2:Hid (Up u wk):=j.o.trans (I.mono j.o.size); clear b9 I a0 a1 a2 b0 b1 b2 r0 r1 r2 f0 f1 f2 g0 g1 g2; obtain ⟨a0,a1,a2,b0,b1,b2,r0,r1,r2,f0,f1,f2⟩:=E.o wk e2.o
   go_wp2_with fail
   refine (l1Neg_ex _ _ _ _ _ _).mono ?_; rintro e wc ⟨rfl,d5⟩; rw [b5.o]; have Z:Up J wc:=by rw [d5]; exact a6.o.alloc a6.o.size _
   have a5:=Hd Z; have U:Hid (Up u wc):=j.o.trans (Z.mono j.o.size); clear d5 Z a0 a1 a2 b0 b1 b2 r0 r1 r2 f0 f1 f2
   go_wp2_with fail
   refine (l1SubD_any B va vb a b _ (M.o.below a5.o) (b6.o.below a5.o) e3.o.1 b4.o.1 b4.o.2).mono ?_; rintro e wd ⟨vd,L,rfl,hL,T,b8⟩; have HL:=Hd hL; have HV:=Hd T; have a8:Hid (Up u wd):=U.o.trans (b8.mono U.o.size); clear hL T b8
   go_wp2_with fail
   refine (l1Make_any _ s vd L _ HL.o).mono ?_; rintro e we ⟨z,rfl,d1,a3⟩; have hN:IsN (w.heap.size+3) we z (sg s (val a)+sg (!s) (val b)):=⟨s,trimL L,(((d1 _ _ HL.o).below a3).mono (by have:=U.o.size; have:=HS.o; omega)),by rw [val_trimL,sg_sub s _ _ _ HV.o]⟩; have HN:=Hd hN; have a9:Hid (Up u we):=a8.o.trans (a3.mono a8.o.size); have e0:Hid (Up w we):=d9.o.trans (a9.o.mono (by have:=HS.o; omega)); obtain ⟨a0,a1,a2,b0,b1,b2,r0,r1,r2,f0,f1,f2⟩:=E.o we a9.o; obtain ⟨z0,zn,za,zl,zc,g4⟩:=hN.shape; subst g4; clear d1 a3 hN
   go_wp2
   refine bodyPost_ret ?_ rfl ⟨_,rfl,(((HN.o.setCell _ _ (by simp)).setCell _ _ (by simp)).setCell _ _ (by simp)).mono (by omega),((e0.o.setCell (by simp; omega) _).setCell (by simp; omega) _).setCell (by simp; omega) _⟩; simp [results,Tryz.results77,go_sem,r0,r1,r2]
theorem l1Add_lt (B:Nat) (x y:Int) (xn yn:Bool) (pa:Option Addr) (la ca:Nat) (pb:Option Addr) (lb cb:Nat) (na nb:Bool) (a b:List Nat) (w:World) (hBw:B≤w.heap.size) (hz:((la:Int)==0)=false∨((la:Int)==0)=true∧((lb:Int)==0)=false)
 (hza:IsZ B w (.agg #[.int .i64 x,.bool xn,.slice pa la ca]) na a) (hzb:IsZ B w (.agg #[.int .i64 y,.bool yn,.slice pb lb cb]) nb b) (s:Bool) (ha:ngZ x xn la=s) (hb:ngZ y yn lb=!s) (hla:a.length≤1000000) (hlb:b.length≤1000000) (hcm:cmpL a b<0) :
 Calls Tryz.prog 77 #[.agg #[.int .i64 x,.bool xn,.slice pa la ca],.agg #[.int .i64 y,.bool yn,.slice pb lb cb]] w fun e w'=>∃ z,e=.returned z∧IsN w.heap.size w' z (sg s (val a)+sg (!s) (val b))∧Up w w':=by
 have e4:=Hd ha; have b5:=Hd hb; have e3:Hid (a.length≤1000000∧b.length≤1000000):=⟨hla,hlb⟩; have b4:Hid (a.length≤b.length∧val a≤val b):=by
  have h:=cmpL_ord a b hza.1 hzb.1 hza.2.1 hzb.2.1; have h2:=hcm; rw [h] at h2; refine ⟨?_,?_⟩
  ·unfold cmpL at hcm
   by_cases h3:a.length<b.length
   ·simp [h3] at hcm<;>omega
   by_cases h4:b.length<a.length
   ·simp [h3,h4] at hcm<;>omega
   omega
  unfold ord at h2
  split at h2<;>(try split at h2)<;>omega
 obtain ⟨c,hc⟩:=exW (cmpL a b); have HC:=Hd hc; have f9 : -1≤c∧c≤1:=by rw [← hc]; exact cmpL_bd a b
 obtain ⟨h8,h9⟩:=f9; rw [hc] at hcm; clear hc; have HX:=boxes_first w x xn pa la ca y yn pb lb cb 53; obtain ⟨u,H⟩:=exW (((w.alloc (.cells #[.int .i64 x,.bool xn,.slice pa la ca] 53)).alloc (.cells #[.int .i64 y,.bool yn,.slice pb lb cb] 53)).alloc (.cells #[.int .i64 0,.bool false,.slice none 0 0] 53)); have e6:=Hd H; have K:Up w u:=by rw [← H]; exact below_al (below_al (below_alloc _ _) _) _
 have d9:=Hd K; have d2:u.heap.size=w.heap.size+3:=by rw [← H]; simp
 have c7:w.heap.size<u.heap.size:=by omega
 have c9:w.heap.size+1<u.heap.size:=by omega
 have d0:w.heap.size+2<u.heap.size:=by omega
 rw [H] at HX; have HS:=Hd d2; have a7:=Hd hBw; have E:Hid (∀ W,Up u W→Boxes w.heap.size W x xn pa la ca y yn pb lb cb):=fun W hW=>HX.below (by omega) hW; have e9:Hid (∀ W,Up u W→IsZ B W (.agg #[.int .i64 x,.bool xn,.slice pa la ca]) na a):=fun W hW=>(hza.below K).below hW; have f5:Hid (∀ W,Up u W→IsZ B W (.agg #[.int .i64 y,.bool yn,.slice pb lb cb]) nb b):=fun W hW=>(hzb.below K).below hW; obtain ⟨a0,a1,a2,b0,b1,b2,r0,r1,r2,f0,f1,f2⟩:=HX; clear H d2 ha hb hza hzb K hBw hla hlb; have b3:Hid (∃ W1,Up u W1∧((((la:Int)==0)=false∧u.alloc (.cells #[.int .i64 x,.bool xn,.slice pa la ca] 53)=W1)∨(((la:Int)==0)=true∧((lb:Int)==0)=false∧(u.alloc (.cells #[.int .i64 x,.bool xn,.slice pa la ca] 53)).alloc (.cells #[.int .i64 y,.bool yn,.slice pb lb cb] 53)=W1))):=by
  rcases hz with h|⟨h,h'⟩
  ·exact ⟨_,below_alloc _ _,.inl ⟨h,rfl⟩⟩
  exact ⟨_,below_al (below_alloc _ _) _,.inr ⟨h,h',rfl⟩⟩
 obtain ⟨W1,O,g3⟩:=b3.o; have m:=Hd O; clear hz b3 O
 go_enter Tryz.func77,Tryz.ntmps77
 go_wp2_with fail
 rw [e6.o]; refine (l1IsSmall_ex _ _ _ _ _ _).mono ?_; rintro e w' ⟨rfl,rfl⟩
 rcases g3 with ⟨hz,V⟩|⟨hz,i0,V⟩
 all_goals
  have e7:=hide V; clear V
  go_wp2_with (go_at_call 44; refine (l1IsSmall_ex _ _ _ _ _ _).mono ?_; rintro e w' ⟨rfl,rfl⟩)
  rw [e7.o]; clear a0 a1 a2 b0 b1 b2 r0 r1 r2 f0 f1 f2; obtain ⟨a0,a1,a2,b0,b1,b2,r0,r1,r2,f0,f1,f2⟩:=E.o W1 m.o; refine (l1Limbs_any B _ na a _ (e9.o _ m.o) (by have:=m.o.size; have:=HS.o; have:=a7.o; omega)).mono ?_; rintro e wa ⟨va,rfl,d3,b7⟩; have e5:=Hd d3; have D:Hid (Up u wa):=m.o.trans (b7.mono m.o.size); clear a0 a1 a2 b0 b1 b2 r0 r1 r2 f0 f1 f2 d3 b7; obtain ⟨a0,a1,a2,b0,b1,b2,r0,r1,r2,f0,f1,f2⟩:=E.o wa D.o
  go_wp2_with fail
  refine (l1Limbs_any B _ nb b _ (f5.o _ D.o) (by have:=D.o.size; have:=HS.o; have:=a7.o; omega)).mono ?_; rintro e J ⟨vb,rfl,d4,Y⟩; have b6:=Hd d4; have M:Hid (IsL B J va a):=e5.o.below Y; have j:Hid (Up u J):=D.o.trans (Y.mono D.o.size); have g0:w.heap.size<J.heap.size:=by have:=j.o.size; omega
  have g1:w.heap.size+1<J.heap.size:=by have:=j.o.size; omega
  have g2:w.heap.size+2<J.heap.size:=by have:=j.o.size; omega
  clear a0 a1 a2 b0 b1 b2 r0 r1 r2 f0 f1 f2 d4 Y c7 c9 d0; obtain ⟨a0,a1,a2,b0,b1,b2,r0,r1,r2,f0,f1,f2⟩:=E.o J j.o
  go_wp2_with fail
  go_region_with (first|(go_at_call_of 73 (Value.int IntKind.i64 x); refine (l1Neg_ex _ _ _ _ _ _).mono ?_; rintro e w' ⟨rfl,rfl⟩; rw [e4.o])|(go_at_call_of 73 (Value.int IntKind.i64 y); refine (l1Neg_ex _ _ _ _ _ _).mono ?_; rintro e w' ⟨rfl,rfl⟩; rw [b5.o]))
  all_goals
   simp only [List.getElem_toArray,List.getElem_cons_succ,List.getElem_cons_zero,Act.put,List.setIfInBounds_toArray,List.set_cons_succ,List.set_cons_zero]
   go_wp2_with fail
   refine (l1CmpD_any B va vb a b _ (M.o.below ?_) (b6.o.below ?_)).mono ?_
   ·exact (below_al (below_alloc _ _) _).drew
   ·exact (below_al (below_alloc _ _) _).drew
   rintro e wk ⟨rfl,b9⟩; rw [HC.o]; have I:Up J wk:=((below_al (below_alloc J (.cells #[.int .i64 x,.bool xn,.slice pa la ca] 53)) (.cells #[.int .i64 y,.bool yn,.slice pb lb cb] 53)).drew).trans (b9.mono (by show J.heap.size≤_; simp; omega)); have a6:=Hd I; have e2:Hid (Up u wk):=j.o.trans (I.mono j.o.size); clear b9 I a0 a1 a2 b0 b1 b2 r0 r1 r2 f0 f1 f2 g0 g1 g2; obtain ⟨a0,a1,a2,b0,b1,b2,r0,r1,r2,f0,f1,f2⟩:=E.o wk e2.o
   go_wp2_with fail
   refine (l1Neg_ex _ _ _ _ _ _).mono ?_; rintro e wc ⟨rfl,d5⟩; rw [b5.o]; have Z:Up J wc:=by rw [d5]; exact a6.o.alloc a6.o.size _
   have a5:=Hd Z; have U:Hid (Up u wc):=j.o.trans (Z.mono j.o.size); clear d5 Z a0 a1 a2 b0 b1 b2 r0 r1 r2 f0 f1 f2
   go_wp2_with fail
   refine (l1SubD_any B vb va b a _ (b6.o.below a5.o) (M.o.below a5.o) e3.o.2 b4.o.1 b4.o.2).mono ?_; rintro e wd ⟨vd,L,rfl,hL,T,b8⟩; have HL:=Hd hL; have HV:=Hd T; have a8:Hid (Up u wd):=U.o.trans (b8.mono U.o.size); clear hL T b8
   go_wp2_with fail
   refine (l1Make_any _ (!s) vd L _ HL.o).mono ?_; rintro e we ⟨z,rfl,d1,a3⟩; have hN:IsN (w.heap.size+3) we z (sg s (val a)+sg (!s) (val b)):=⟨(!s),trimL L,(((d1 _ _ HL.o).below a3).mono (by have:=U.o.size; have:=HS.o; omega)),by rw [val_trimL,sg_sub (!s) _ _ _ HV.o,Bool.not_not,Int.add_comm]⟩; have HN:=Hd hN; have a9:Hid (Up u we):=a8.o.trans (a3.mono a8.o.size); have e0:Hid (Up w we):=d9.o.trans (a9.o.mono (by have:=HS.o; omega)); obtain ⟨a0,a1,a2,b0,b1,b2,r0,r1,r2,f0,f1,f2⟩:=E.o we a9.o; obtain ⟨z0,zn,za,zl,zc,g4⟩:=hN.shape; subst g4; clear d1 a3 hN
   go_wp2
   refine bodyPost_ret ?_ rfl ⟨_,rfl,(((HN.o.setCell _ _ (by simp)).setCell _ _ (by simp)).setCell _ _ (by simp)).mono (by omega),((e0.o.setCell (by simp; omega) _).setCell (by simp; omega) _).setCell (by simp; omega) _⟩; simp [results,Tryz.results77,go_sem,r0,r1,r2]
end Go.Proofs.YtknfmkeipeikkaaGreatDoor
