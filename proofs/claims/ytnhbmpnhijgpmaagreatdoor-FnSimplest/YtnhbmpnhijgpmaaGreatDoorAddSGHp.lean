import Derived.Test.YtnhbmpnhijgpmaaGreatDoorM8p
set_option maxRecDepth 100000
set_option maxHeartbeats 4000000
namespace Go.Proofs.YtnhbmpnhijgpmaaGreatDoor
open Go.ChangeShapes Go.WideShapes Go.ChangeAt Go.RowKit
theorem hide {p:Prop} (h:p):Hid p:=h
theorem l1Add_same (B:Nat) (x y:Int) (xn yn:Bool) (pa:Option Addr) (la ca:Nat) (pb:Option Addr) (lb cb:Nat) (na nb:Bool) (a b:List Nat) (w:World) (hBw:B≤w.heap.size) (hz:((la:Int)==0)=false∨((la:Int)==0)=true∧((lb:Int)==0)=false)
 (hza:IsZ B w (.agg #[.int .i64 x,.bool xn,.slice pa la ca]) na a) (hzb:IsZ B w (.agg #[.int .i64 y,.bool yn,.slice pb lb cb]) nb b) (s:Bool) (ha:ngZ x xn la=s) (hb:ngZ y yn lb=s) (hla:a.length≤1000000) (hlb:b.length≤1000000) :
 Calls Tryz.prog 68 #[.agg #[.int .i64 x,.bool xn,.slice pa la ca],.agg #[.int .i64 y,.bool yn,.slice pb lb cb]] w fun e w'=>∃ z,e=.returned z∧IsN w.heap.size w' z (sg s (val a)+sg (s) (val b))∧Up w w':=by
 have Y:=Hd ha; have c7:=Hd hb; have V:Hid (a.length≤1000000∧b.length≤1000000):=⟨hla,hlb⟩; have HX:=boxes_first w x xn pa la ca y yn pb lb cb 49; obtain ⟨j,u⟩:=exW (((w.alloc (.cells #[.int .i64 x,.bool xn,.slice pa la ca] 49)).alloc (.cells #[.int .i64 y,.bool yn,.slice pb lb cb] 49)).alloc (.cells #[.int .i64 0,.bool false,.slice none 0 0] 49)); have d0:=Hd u; have D:Up w j:=by rw [← u]; exact below_al (below_al (below_alloc _ _) _) _
 have b9:=Hd D; have b3:j.heap.size=w.heap.size+3:=by rw [← u]; simp
 have a6:w.heap.size<j.heap.size:=by omega
 have a7:w.heap.size+1<j.heap.size:=by omega
 have a8:w.heap.size+2<j.heap.size:=by omega
 rw [u] at HX; have HS:=Hd b3; have Q:=Hd hBw; have A:Hid (∀ W,Up j W→Boxes w.heap.size W x xn pa la ca y yn pb lb cb):=fun W hW=>HX.below (by omega) hW; have d3:Hid (∀ W,Up j W→IsZ B W (.agg #[.int .i64 x,.bool xn,.slice pa la ca]) na a):=fun W hW=>(hza.below D).below hW; have d4:Hid (∀ W,Up j W→IsZ B W (.agg #[.int .i64 y,.bool yn,.slice pb lb cb]) nb b):=fun W hW=>(hzb.below D).below hW; obtain ⟨a0,a1,a2,b0,b1,b2,r0,r1,r2,f0,f1,f2⟩:=HX; clear u b3 ha hb hza hzb D hBw hla hlb; have U:Hid (∃ W1,Up j W1∧((((la:Int)==0)=false∧j.alloc (.cells #[.int .i64 x,.bool xn,.slice pa la ca] 49)=W1)∨(((la:Int)==0)=true∧((lb:Int)==0)=false∧(j.alloc (.cells #[.int .i64 x,.bool xn,.slice pa la ca] 49)).alloc (.cells #[.int .i64 y,.bool yn,.slice pb lb cb] 49)=W1))):=by
  rcases hz with h|⟨h,h'⟩
  ·exact ⟨_,below_alloc _ _,.inl ⟨h,rfl⟩⟩
  exact ⟨_,below_al (below_alloc _ _) _,.inr ⟨h,h',rfl⟩⟩
 obtain ⟨W1,E,d9⟩:=U.o; have i:=Hd E; clear hz U E
 go_enter Tryz.func68,Tryz.ntmps68
 go_wp2_with fail
 rw [d0.o]; refine (l1IsSmall_ex _ _ _ _ _ _).mono ?_; rintro e w' ⟨rfl,rfl⟩
 rcases d9 with ⟨hz,H⟩|⟨hz,e8,H⟩
 all_goals
  have d1:=hide H; clear H
  go_wp2_with (go_at_call 39; refine (l1IsSmall_ex _ _ _ _ _ _).mono ?_; rintro e w' ⟨rfl,rfl⟩)
  rw [d1.o]; clear a0 a1 a2 b0 b1 b2 r0 r1 r2 f0 f1 f2; obtain ⟨a0,a1,a2,b0,b1,b2,r0,r1,r2,f0,f1,f2⟩:=A.o W1 i.o; refine (l1Limbs_any B _ na a _ (d3.o _ i.o) (by have:=i.o.size; have:=HS.o; have:=Q.o; omega)).mono ?_; rintro e wa ⟨va,rfl,b4,a3⟩; have c8:=Hd b4; have t:Hid (Up j wa):=i.o.trans (a3.mono i.o.size); clear a0 a1 a2 b0 b1 b2 r0 r1 r2 f0 f1 f2 b4 a3; obtain ⟨a0,a1,a2,b0,b1,b2,r0,r1,r2,f0,f1,f2⟩:=A.o wa t.o
  go_wp2_with fail
  refine (l1Limbs_any B _ nb b _ (d4.o _ t.o) (by have:=t.o.size; have:=HS.o; have:=Q.o; omega)).mono ?_; rintro e M ⟨vb,rfl,b5,I⟩; have c9:=Hd b5; have Z:Hid (IsL B M va a):=c8.o.below I; have m:Hid (Up j M):=t.o.trans (I.mono t.o.size); have d6:w.heap.size<M.heap.size:=by have:=m.o.size; omega
  have d7:w.heap.size+1<M.heap.size:=by have:=m.o.size; omega
  have d8:w.heap.size+2<M.heap.size:=by have:=m.o.size; omega
  clear a0 a1 a2 b0 b1 b2 r0 r1 r2 f0 f1 f2 b5 I a6 a7 a8; obtain ⟨a0,a1,a2,b0,b1,b2,r0,r1,r2,f0,f1,f2⟩:=A.o M m.o
  go_wp2_with fail
  go_region_with (first|(go_at_call_of 60 (Value.int IntKind.i64 x); refine (l1Neg_ex _ _ _ _ _ _).mono ?_; rintro e w' ⟨rfl,rfl⟩; rw [Y.o])|(go_at_call_of 60 (Value.int IntKind.i64 y); refine (l1Neg_ex _ _ _ _ _ _).mono ?_; rintro e w' ⟨rfl,rfl⟩; rw [c7.o]))
  all_goals
   simp only [List.getElem_toArray,List.getElem_cons_succ,List.getElem_cons_zero,Act.put,List.setIfInBounds_toArray,List.set_cons_succ,List.set_cons_zero]
   go_wp2_with fail
   refine (l1Neg_ex _ _ _ _ _ _).mono ?_; rintro e wc ⟨rfl,b6⟩; rw [Y.o]; have J:Up M wc:=by rw [b6]; exact below_al ((below_al (below_alloc _ _) _).drew) _
   have O:=Hd J; have G:Hid (Up j wc):=m.o.trans (J.mono m.o.size); clear b6 J a0 a1 a2 b0 b1 b2 r0 r1 r2 f0 f1 f2 d6 d7 d8
   go_wp2_with fail
   refine (l1AddD_any B va vb a b _ (Z.o.below O.o) (c9.o.below O.o) V.o.1 V.o.2).mono ?_; rintro e wd ⟨vd,L,rfl,hL,F,a5⟩; have HL:=Hd hL; have HV:=Hd F; have S:Hid (Up j wd):=G.o.trans (a5.mono G.o.size); clear hL F a5
   go_wp2_with fail
   refine (l1Make_any _ s vd L _ HL.o).mono ?_; rintro e we ⟨z,rfl,a9,K⟩; have hN:IsN (w.heap.size+3) we z (sg s (val a)+sg s (val b)):=⟨s,trimL L,(((a9 _ _ HL.o).below K).mono (by have:=G.o.size; have:=HS.o; omega)),by rw [val_trimL,HV.o,sg_add]⟩; have HN:=Hd hN; have T:Hid (Up j we):=S.o.trans (K.mono S.o.size); have c6:Hid (Up w we):=b9.o.trans (T.o.mono (by have:=HS.o; omega)); obtain ⟨a0,a1,a2,b0,b1,b2,r0,r1,r2,f0,f1,f2⟩:=A.o we T.o; obtain ⟨z0,zn,za,zl,zc,e0⟩:=hN.shape; subst e0; clear a9 K hN
   go_wp2
   refine bodyPost_ret ?_ rfl ⟨_,rfl,(((HN.o.setCell _ _ (by simp)).setCell _ _ (by simp)).setCell _ _ (by simp)).mono (by omega),((c6.o.setCell (by simp; omega) _).setCell (by simp; omega) _).setCell (by simp; omega) _⟩; simp [results,Tryz.results68,go_sem,r0,r1,r2]
theorem l1Add_ge (B:Nat) (x y:Int) (xn yn:Bool) (pa:Option Addr) (la ca:Nat) (pb:Option Addr) (lb cb:Nat) (na nb:Bool) (a b:List Nat) (w:World) (hBw:B≤w.heap.size) (hz:((la:Int)==0)=false∨((la:Int)==0)=true∧((lb:Int)==0)=false)
 (hza:IsZ B w (.agg #[.int .i64 x,.bool xn,.slice pa la ca]) na a) (hzb:IsZ B w (.agg #[.int .i64 y,.bool yn,.slice pb lb cb]) nb b) (s:Bool) (ha:ngZ x xn la=s) (hb:ngZ y yn lb=!s) (hla:a.length≤1000000) (hlb:b.length≤1000000) (hcm:0≤cmpL a b) :
 Calls Tryz.prog 68 #[.agg #[.int .i64 x,.bool xn,.slice pa la ca],.agg #[.int .i64 y,.bool yn,.slice pb lb cb]] w fun e w'=>∃ z,e=.returned z∧IsN w.heap.size w' z (sg s (val a)+sg (!s) (val b))∧Up w w':=by
 have a5:=Hd ha; have d5:=Hd hb; have d4:Hid (a.length≤1000000∧b.length≤1000000):=⟨hla,hlb⟩; have a3:Hid (b.length≤a.length∧val b≤val a):=by
  have h:=cmpL_ord a b hza.1 hzb.1 hza.2.1 hzb.2.1; have h2:=hcm; rw [h] at h2; refine ⟨?_,?_⟩
  ·unfold cmpL at hcm
   by_cases h3:a.length<b.length
   ·simp [h3] at hcm<;>omega
   by_cases h4:b.length<a.length
   ·simp [h3,h4] at hcm<;>omega
   omega
  unfold ord at h2
  split at h2<;>(try split at h2)<;>omega
 obtain ⟨c,hc⟩:=exW (cmpL a b); have HC:=Hd hc; have e3 : -1≤c∧c≤1:=by rw [← hc]; exact cmpL_bd a b
 obtain ⟨g7,g8⟩:=e3; rw [hc] at hcm; clear hc; have HX:=boxes_first w x xn pa la ca y yn pb lb cb 49; obtain ⟨m,A⟩:=exW (((w.alloc (.cells #[.int .i64 x,.bool xn,.slice pa la ca] 49)).alloc (.cells #[.int .i64 y,.bool yn,.slice pb lb cb] 49)).alloc (.cells #[.int .i64 0,.bool false,.slice none 0 0] 49)); have d7:=Hd A; have F:Up w m:=by rw [← A]; exact below_al (below_al (below_alloc _ _) _) _
 have d1:=Hd F; have b7:m.heap.size=w.heap.size+3:=by rw [← A]; simp
 have b3:w.heap.size<m.heap.size:=by omega
 have b4:w.heap.size+1<m.heap.size:=by omega
 have b5:w.heap.size+2<m.heap.size:=by omega
 rw [A] at HX; have HS:=Hd b7; have U:=Hd hBw; have u:Hid (∀ W,Up m W→Boxes w.heap.size W x xn pa la ca y yn pb lb cb):=fun W hW=>HX.below (by omega) hW; have e0:Hid (∀ W,Up m W→IsZ B W (.agg #[.int .i64 x,.bool xn,.slice pa la ca]) na a):=fun W hW=>(hza.below F).below hW; have e1:Hid (∀ W,Up m W→IsZ B W (.agg #[.int .i64 y,.bool yn,.slice pb lb cb]) nb b):=fun W hW=>(hzb.below F).below hW; obtain ⟨a0,a1,a2,b0,b1,b2,r0,r1,r2,f0,f1,f2⟩:=HX; clear A b7 ha hb hza hzb F hBw hla hlb; have Z:Hid (∃ W1,Up m W1∧((((la:Int)==0)=false∧m.alloc (.cells #[.int .i64 x,.bool xn,.slice pa la ca] 49)=W1)∨(((la:Int)==0)=true∧((lb:Int)==0)=false∧(m.alloc (.cells #[.int .i64 x,.bool xn,.slice pa la ca] 49)).alloc (.cells #[.int .i64 y,.bool yn,.slice pb lb cb] 49)=W1))):=by
  rcases hz with h|⟨h,h'⟩
  ·exact ⟨_,below_alloc _ _,.inl ⟨h,rfl⟩⟩
  exact ⟨_,below_al (below_alloc _ _) _,.inr ⟨h,h',rfl⟩⟩
 obtain ⟨W1,H,e7⟩:=Z.o; have j:=Hd H; clear hz Z H
 go_enter Tryz.func68,Tryz.ntmps68
 go_wp2_with fail
 rw [d7.o]; refine (l1IsSmall_ex _ _ _ _ _ _).mono ?_; rintro e w' ⟨rfl,rfl⟩
 rcases e7 with ⟨hz,K⟩|⟨hz,g9,K⟩
 all_goals
  have d8:=hide K; clear K
  go_wp2_with (go_at_call 39; refine (l1IsSmall_ex _ _ _ _ _ _).mono ?_; rintro e w' ⟨rfl,rfl⟩)
  rw [d8.o]; clear a0 a1 a2 b0 b1 b2 r0 r1 r2 f0 f1 f2; obtain ⟨a0,a1,a2,b0,b1,b2,r0,r1,r2,f0,f1,f2⟩:=u.o W1 j.o; refine (l1Limbs_any B _ na a _ (e0.o _ j.o) (by have:=j.o.size; have:=HS.o; have:=U.o; omega)).mono ?_; rintro e wa ⟨va,rfl,b8,a7⟩; have d6:=Hd b8; have t:Hid (Up m wa):=j.o.trans (a7.mono j.o.size); clear a0 a1 a2 b0 b1 b2 r0 r1 r2 f0 f1 f2 b8 a7; obtain ⟨a0,a1,a2,b0,b1,b2,r0,r1,r2,f0,f1,f2⟩:=u.o wa t.o
  go_wp2_with fail
  refine (l1Limbs_any B _ nb b _ (e1.o _ t.o) (by have:=t.o.size; have:=HS.o; have:=U.o; omega)).mono ?_; rintro e E ⟨vb,rfl,b9,M⟩; have a6:=Hd b9; have G:Hid (IsL B E va a):=d6.o.below M; have i:Hid (Up m E):=t.o.trans (M.mono t.o.size); have e4:w.heap.size<E.heap.size:=by have:=i.o.size; omega
  have e5:w.heap.size+1<E.heap.size:=by have:=i.o.size; omega
  have e6:w.heap.size+2<E.heap.size:=by have:=i.o.size; omega
  clear a0 a1 a2 b0 b1 b2 r0 r1 r2 f0 f1 f2 b9 M b3 b4 b5; obtain ⟨a0,a1,a2,b0,b1,b2,r0,r1,r2,f0,f1,f2⟩:=u.o E i.o
  go_wp2_with fail
  go_region_with (first|(go_at_call_of 60 (Value.int IntKind.i64 x); refine (l1Neg_ex _ _ _ _ _ _).mono ?_; rintro e w' ⟨rfl,rfl⟩; rw [a5.o])|(go_at_call_of 60 (Value.int IntKind.i64 y); refine (l1Neg_ex _ _ _ _ _ _).mono ?_; rintro e w' ⟨rfl,rfl⟩; rw [d5.o]))
  all_goals
   simp only [List.getElem_toArray,List.getElem_cons_succ,List.getElem_cons_zero,Act.put,List.setIfInBounds_toArray,List.set_cons_succ,List.set_cons_zero]
   go_wp2_with fail
   refine (l1CmpD_any B va vb a b _ (G.o.below ?_) (a6.o.below ?_)).mono ?_
   ·exact (below_al (below_alloc _ _) _).drew
   ·exact (below_al (below_alloc _ _) _).drew
   rintro e wk ⟨rfl,a9⟩; rw [HC.o]; have D:Up E wk:=((below_al (below_alloc E (.cells #[.int .i64 x,.bool xn,.slice pa la ca] 49)) (.cells #[.int .i64 y,.bool yn,.slice pb lb cb] 49)).drew).trans (a9.mono (by show E.heap.size≤_; simp; omega)); have T:=Hd D; have d3:Hid (Up m wk):=i.o.trans (D.mono i.o.size); clear a9 D a0 a1 a2 b0 b1 b2 r0 r1 r2 f0 f1 f2 e4 e5 e6; obtain ⟨a0,a1,a2,b0,b1,b2,r0,r1,r2,f0,f1,f2⟩:=u.o wk d3.o
   go_wp2_with fail
   refine (l1Neg_ex _ _ _ _ _ _).mono ?_; rintro e wc ⟨rfl,c6⟩; rw [a5.o]; have O:Up E wc:=by rw [c6]; exact T.o.alloc T.o.size _
   have S:=Hd O; have J:Hid (Up m wc):=i.o.trans (O.mono i.o.size); clear c6 O a0 a1 a2 b0 b1 b2 r0 r1 r2 f0 f1 f2
   go_wp2_with fail
   refine (l1SubD_any B va vb a b _ (G.o.below S.o) (a6.o.below S.o) d4.o.1 a3.o.1 a3.o.2).mono ?_; rintro e wd ⟨vd,L,rfl,hL,I,a8⟩; have HL:=Hd hL; have HV:=Hd I; have V:Hid (Up m wd):=J.o.trans (a8.mono J.o.size); clear hL I a8
   go_wp2_with fail
   refine (l1Make_any _ s vd L _ HL.o).mono ?_; rintro e we ⟨z,rfl,b6,Q⟩; have hN:IsN (w.heap.size+3) we z (sg s (val a)+sg (!s) (val b)):=⟨s,trimL L,(((b6 _ _ HL.o).below Q).mono (by have:=J.o.size; have:=HS.o; omega)),by rw [val_trimL,sg_sub s _ _ _ HV.o]⟩; have HN:=Hd hN; have Y:Hid (Up m we):=V.o.trans (Q.mono V.o.size); have d2:Hid (Up w we):=d1.o.trans (Y.o.mono (by have:=HS.o; omega)); obtain ⟨a0,a1,a2,b0,b1,b2,r0,r1,r2,f0,f1,f2⟩:=u.o we Y.o; obtain ⟨z0,zn,za,zl,zc,e8⟩:=hN.shape; subst e8; clear b6 Q hN
   go_wp2
   refine bodyPost_ret ?_ rfl ⟨_,rfl,(((HN.o.setCell _ _ (by simp)).setCell _ _ (by simp)).setCell _ _ (by simp)).mono (by omega),((d2.o.setCell (by simp; omega) _).setCell (by simp; omega) _).setCell (by simp; omega) _⟩; simp [results,Tryz.results68,go_sem,r0,r1,r2]
theorem l1Add_lt (B:Nat) (x y:Int) (xn yn:Bool) (pa:Option Addr) (la ca:Nat) (pb:Option Addr) (lb cb:Nat) (na nb:Bool) (a b:List Nat) (w:World) (hBw:B≤w.heap.size) (hz:((la:Int)==0)=false∨((la:Int)==0)=true∧((lb:Int)==0)=false)
 (hza:IsZ B w (.agg #[.int .i64 x,.bool xn,.slice pa la ca]) na a) (hzb:IsZ B w (.agg #[.int .i64 y,.bool yn,.slice pb lb cb]) nb b) (s:Bool) (ha:ngZ x xn la=s) (hb:ngZ y yn lb=!s) (hla:a.length≤1000000) (hlb:b.length≤1000000) (hcm:cmpL a b<0) :
 Calls Tryz.prog 68 #[.agg #[.int .i64 x,.bool xn,.slice pa la ca],.agg #[.int .i64 y,.bool yn,.slice pb lb cb]] w fun e w'=>∃ z,e=.returned z∧IsN w.heap.size w' z (sg s (val a)+sg (!s) (val b))∧Up w w':=by
 have d5:=Hd ha; have a5:=Hd hb; have d4:Hid (a.length≤1000000∧b.length≤1000000):=⟨hla,hlb⟩; have a3:Hid (a.length≤b.length∧val a≤val b):=by
  have h:=cmpL_ord a b hza.1 hzb.1 hza.2.1 hzb.2.1; have h2:=hcm; rw [h] at h2; refine ⟨?_,?_⟩
  ·unfold cmpL at hcm
   by_cases h3:a.length<b.length
   ·simp [h3] at hcm<;>omega
   by_cases h4:b.length<a.length
   ·simp [h3,h4] at hcm<;>omega
   omega
  unfold ord at h2
  split at h2<;>(try split at h2)<;>omega
 obtain ⟨c,hc⟩:=exW (cmpL a b); have HC:=Hd hc; have e3 : -1≤c∧c≤1:=by rw [← hc]; exact cmpL_bd a b
 obtain ⟨g7,g8⟩:=e3; rw [hc] at hcm; clear hc; have HX:=boxes_first w x xn pa la ca y yn pb lb cb 49; obtain ⟨m,A⟩:=exW (((w.alloc (.cells #[.int .i64 x,.bool xn,.slice pa la ca] 49)).alloc (.cells #[.int .i64 y,.bool yn,.slice pb lb cb] 49)).alloc (.cells #[.int .i64 0,.bool false,.slice none 0 0] 49)); have d7:=Hd A; have F:Up w m:=by rw [← A]; exact below_al (below_al (below_alloc _ _) _) _
 have d1:=Hd F; have b7:m.heap.size=w.heap.size+3:=by rw [← A]; simp
 have b3:w.heap.size<m.heap.size:=by omega
 have b4:w.heap.size+1<m.heap.size:=by omega
 have b5:w.heap.size+2<m.heap.size:=by omega
 rw [A] at HX; have HS:=Hd b7; have U:=Hd hBw; have u:Hid (∀ W,Up m W→Boxes w.heap.size W x xn pa la ca y yn pb lb cb):=fun W hW=>HX.below (by omega) hW; have e0:Hid (∀ W,Up m W→IsZ B W (.agg #[.int .i64 x,.bool xn,.slice pa la ca]) na a):=fun W hW=>(hza.below F).below hW; have e1:Hid (∀ W,Up m W→IsZ B W (.agg #[.int .i64 y,.bool yn,.slice pb lb cb]) nb b):=fun W hW=>(hzb.below F).below hW; obtain ⟨a0,a1,a2,b0,b1,b2,r0,r1,r2,f0,f1,f2⟩:=HX; clear A b7 ha hb hza hzb F hBw hla hlb; have Z:Hid (∃ W1,Up m W1∧((((la:Int)==0)=false∧m.alloc (.cells #[.int .i64 x,.bool xn,.slice pa la ca] 49)=W1)∨(((la:Int)==0)=true∧((lb:Int)==0)=false∧(m.alloc (.cells #[.int .i64 x,.bool xn,.slice pa la ca] 49)).alloc (.cells #[.int .i64 y,.bool yn,.slice pb lb cb] 49)=W1))):=by
  rcases hz with h|⟨h,h'⟩
  ·exact ⟨_,below_alloc _ _,.inl ⟨h,rfl⟩⟩
  exact ⟨_,below_al (below_alloc _ _) _,.inr ⟨h,h',rfl⟩⟩
 obtain ⟨W1,H,e7⟩:=Z.o; have j:=Hd H; clear hz Z H
 go_enter Tryz.func68,Tryz.ntmps68
 go_wp2_with fail
 rw [d7.o]; refine (l1IsSmall_ex _ _ _ _ _ _).mono ?_; rintro e w' ⟨rfl,rfl⟩
 rcases e7 with ⟨hz,K⟩|⟨hz,g9,K⟩
 all_goals
  have d8:=hide K; clear K
  go_wp2_with (go_at_call 39; refine (l1IsSmall_ex _ _ _ _ _ _).mono ?_; rintro e w' ⟨rfl,rfl⟩)
  rw [d8.o]; clear a0 a1 a2 b0 b1 b2 r0 r1 r2 f0 f1 f2; obtain ⟨a0,a1,a2,b0,b1,b2,r0,r1,r2,f0,f1,f2⟩:=u.o W1 j.o; refine (l1Limbs_any B _ na a _ (e0.o _ j.o) (by have:=j.o.size; have:=HS.o; have:=U.o; omega)).mono ?_; rintro e wa ⟨va,rfl,b8,a7⟩; have d6:=Hd b8; have t:Hid (Up m wa):=j.o.trans (a7.mono j.o.size); clear a0 a1 a2 b0 b1 b2 r0 r1 r2 f0 f1 f2 b8 a7; obtain ⟨a0,a1,a2,b0,b1,b2,r0,r1,r2,f0,f1,f2⟩:=u.o wa t.o
  go_wp2_with fail
  refine (l1Limbs_any B _ nb b _ (e1.o _ t.o) (by have:=t.o.size; have:=HS.o; have:=U.o; omega)).mono ?_; rintro e E ⟨vb,rfl,b9,M⟩; have a6:=Hd b9; have G:Hid (IsL B E va a):=d6.o.below M; have i:Hid (Up m E):=t.o.trans (M.mono t.o.size); have e4:w.heap.size<E.heap.size:=by have:=i.o.size; omega
  have e5:w.heap.size+1<E.heap.size:=by have:=i.o.size; omega
  have e6:w.heap.size+2<E.heap.size:=by have:=i.o.size; omega
  clear a0 a1 a2 b0 b1 b2 r0 r1 r2 f0 f1 f2 b9 M b3 b4 b5; obtain ⟨a0,a1,a2,b0,b1,b2,r0,r1,r2,f0,f1,f2⟩:=u.o E i.o
  go_wp2_with fail
  go_region_with (first|(go_at_call_of 60 (Value.int IntKind.i64 x); refine (l1Neg_ex _ _ _ _ _ _).mono ?_; rintro e w' ⟨rfl,rfl⟩; rw [d5.o])|(go_at_call_of 60 (Value.int IntKind.i64 y); refine (l1Neg_ex _ _ _ _ _ _).mono ?_; rintro e w' ⟨rfl,rfl⟩; rw [a5.o]))
  all_goals
   simp only [List.getElem_toArray,List.getElem_cons_succ,List.getElem_cons_zero,Act.put,List.setIfInBounds_toArray,List.set_cons_succ,List.set_cons_zero]
   go_wp2_with fail
   refine (l1CmpD_any B va vb a b _ (G.o.below ?_) (a6.o.below ?_)).mono ?_
   ·exact (below_al (below_alloc _ _) _).drew
   ·exact (below_al (below_alloc _ _) _).drew
   rintro e wk ⟨rfl,a9⟩; rw [HC.o]; have D:Up E wk:=((below_al (below_alloc E (.cells #[.int .i64 x,.bool xn,.slice pa la ca] 49)) (.cells #[.int .i64 y,.bool yn,.slice pb lb cb] 49)).drew).trans (a9.mono (by show E.heap.size≤_; simp; omega)); have T:=Hd D; have d3:Hid (Up m wk):=i.o.trans (D.mono i.o.size); clear a9 D a0 a1 a2 b0 b1 b2 r0 r1 r2 f0 f1 f2 e4 e5 e6; obtain ⟨a0,a1,a2,b0,b1,b2,r0,r1,r2,f0,f1,f2⟩:=u.o wk d3.o
   go_wp2_with fail
   refine (l1Neg_ex _ _ _ _ _ _).mono ?_; rintro e wc ⟨rfl,c6⟩; rw [a5.o]; have O:Up E wc:=by rw [c6]; exact T.o.alloc T.o.size _
   have S:=Hd O; have J:Hid (Up m wc):=i.o.trans (O.mono i.o.size); clear c6 O a0 a1 a2 b0 b1 b2 r0 r1 r2 f0 f1 f2
   go_wp2_with fail
   refine (l1SubD_any B vb va b a _ (a6.o.below S.o) (G.o.below S.o) d4.o.2 a3.o.1 a3.o.2).mono ?_; rintro e wd ⟨vd,L,rfl,hL,I,a8⟩; have HL:=Hd hL; have HV:=Hd I; have V:Hid (Up m wd):=J.o.trans (a8.mono J.o.size); clear hL I a8
   go_wp2_with fail
   refine (l1Make_any _ (!s) vd L _ HL.o).mono ?_; rintro e we ⟨z,rfl,b6,Q⟩; have hN:IsN (w.heap.size+3) we z (sg s (val a)+sg (!s) (val b)):=⟨(!s),trimL L,(((b6 _ _ HL.o).below Q).mono (by have:=J.o.size; have:=HS.o; omega)),by rw [val_trimL,sg_sub (!s) _ _ _ HV.o,Bool.not_not,Int.add_comm]⟩; have HN:=Hd hN; have Y:Hid (Up m we):=V.o.trans (Q.mono V.o.size); have d2:Hid (Up w we):=d1.o.trans (Y.o.mono (by have:=HS.o; omega)); obtain ⟨a0,a1,a2,b0,b1,b2,r0,r1,r2,f0,f1,f2⟩:=u.o we Y.o; obtain ⟨z0,zn,za,zl,zc,e8⟩:=hN.shape; subst e8; clear b6 Q hN
   go_wp2
   refine bodyPost_ret ?_ rfl ⟨_,rfl,(((HN.o.setCell _ _ (by simp)).setCell _ _ (by simp)).setCell _ _ (by simp)).mono (by omega),((d2.o.setCell (by simp; omega) _).setCell (by simp; omega) _).setCell (by simp; omega) _⟩; simp [results,Tryz.results68,go_sem,r0,r1,r2]
end Go.Proofs.YtnhbmpnhijgpmaaGreatDoor
