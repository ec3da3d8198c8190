import Derived.Test.YtipgjenolpofpaaGreatDoorP11
set_option maxRecDepth 100000
set_option maxHeartbeats 40000000
namespace Go.Proofs.YtipgjenolpofpaaGreatDoor.Q
open ChangeShapes WideShapes ChangeAt RowKit Proofs.Tryz
theorem Pf (B:Nat)(neg:Bool)(v:Value)(l:List Nat)(w W:World)(h:U1 B w v l)(hb:Up w W) :
 Calls prog 126 #[.bool neg,v] W fun e w'=>∃ z,e=.returned z/\Nz B w' z neg (Oe l)/\Up w w'/\Up W w':=by
 refine (Np B neg v l W (h.bl hb)).mono ?_;rintro e A ⟨z,rfl,j,d⟩;exact⟨z,rfl,(j _ _ (h.bl hb)).bl d,hb.trans (d.mono hb.size),d⟩
theorem EP (B:Nat)(x y:Int)(xn yn:Bool)(pa:Option Addr)(la ca:Nat)(pb:Option Addr)(lb cb:Nat)(na nb:Bool)(a b:List Nat)(w:World)(hBw:B<=w.heap.size)(hz:((la:Int)==0)=false∨((la:Int)==0)=true/\((lb:Int)==0)=false)
 (hza:Nz B w (.agg #[.int .i64 x,.bool xn,.slice pa la ca]) na a) (hzb:Nz B w (.agg #[.int .i64 y,.bool yn,.slice pb lb cb]) nb b) (s t:Bool) (ha:Tp x xn la=s) (hb:Tp y yn lb=t) (hla:a.length<=100000) (hlb:b.length<=100000) (hne:b≠[]) :
 Calls prog 129 #[.agg #[.int .i64 x,.bool xn,.slice pa la ca],.agg #[.int .i64 y,.bool yn,.slice pb lb cb]] w fun e w'=>∃ z1 z2 q r,e=.returned (.tuple #[z1,z2])/\(N5 w.heap.size w' z1 q/\N5 w.heap.size w' z2 r)/\No (sg s (val a)) (sg t (val b)) q r/\Up w w':=by
 have y7:=Hd ha;have y8:=Hd hb;have d8:Hid (a.length<=100000/\b.length<=100000/\b≠[]/\isTrim b):=⟨hla,hlb,hne,hzb.2.1⟩;have y9:Hid (okL b):=hzb.1;have q5:Hid (okL a):=hza.1;have HX:=Cl w x xn pa la ca y yn pb lb cb 123;obtain⟨W0,l8⟩:=O1 ((((w.alloc (.cells #[.int .i64 x,.bool xn,.slice pa la ca] 123)).alloc (.cells #[.int .i64 y,.bool yn,.slice pb lb cb] 123)).alloc (.cells #[.int .i64 0,.bool false,.slice none 0 0] 123)).alloc (.cells #[.int .i64 0,.bool false,.slice none 0 0] 123));have W2:=Ec l8;have l7:Up w W0:=by rw[<-l8];exact Om (Om (Om (Oy _ _) _) _) _
 have HB0:=Ec l7;have L2:W0.heap.size=w.heap.size+4:=by rw[<-l8];simp
 rw[l8] at HX;have HS:=Ec L2;have Z:=Hd hBw;have d7:Hid (∀ W,Up W0 W->BoxQ w.heap.size W x xn pa la ca y yn pb lb cb):=fun W hW=>HX.bl (by omega) hW;have HF:Hid (∀ W,Up W0 W->Up w W):=fun W hW=>l7.trans (hW.mono (by omega));have W8:Hid (∀ W,Up W0 W->Nz B W (.agg #[.int .i64 x,.bool xn,.slice pa la ca]) na a):=fun W hW=>(hza.bl l7).bl hW;have F2:Hid (∀ W,Up W0 W->Nz B W (.agg #[.int .i64 y,.bool yn,.slice pb lb cb]) nb b):=fun W hW=>(hzb.bl l7).bl hW;obtain⟨a0,a1,a2,b0,b1,b2,r0,r1,r2,t0,t1,t2,f⟩:=HX;clear f l8 L2 ha hb hza hzb l7 hBw hne
 go_in
 go_wp2_with fail
 rw[W2.o];refine (U6 _ _ _ _ _ _).mono ?_;rintro e wA ⟨rfl,hA⟩;have o0:Hid (Up W0 wA):=by rw[hA];exact Oy _ _
 clear hA a0 a1 a2 b0 b1 b2 r0 r1 r2 t0 t1 t2;obtain⟨a0,a1,a2,b0,b1,b2,r0,r1,r2,t0,t1,t2,f⟩:=d7.o wA o0.o;clear f;have y5:Hid (∃ W1,Up W0 W1/\((((la:Int)==0)=false/\wA=W1)∨(((la:Int)==0)=true/\((lb:Int)==0)=false/\wA.alloc (.cells #[.int .i64 y,.bool yn,.slice pb lb cb] 123)=W1))):=by
  rcases hz with h|⟨h,h'⟩
  ·exact⟨_,o0.o,.inl ⟨h,rfl⟩⟩
  exact⟨_,o0.o.alloc o0.o.size _,.inr ⟨h,h',rfl⟩⟩
 obtain⟨W1,q7,n3⟩:=y5.o;have d6:=Hd q7;clear hz y5 q7
 rcases n3 with⟨hz,s7⟩|⟨hz,hz',s7⟩
 all_goals
  have W3:=Ec s7;clear s7;rw[hz]
  go_upto_region 9 with (go_at_call 105;refine (U6 _ _ _ _ _ _).mono ?_;rintro e w' ⟨rfl,rfl⟩;try rw[hz'])
  rw[W3.o];clear a0 a1 a2 b0 b1 b2 r0 r1 r2 t0 t1 t2;obtain⟨a0,a1,a2,b0,b1,b2,r0,r1,r2,t0,t1,t2,f⟩:=d7.o W1 d6.o;clear f
  go_cut [8,9] (fun s8 s9 wx=>∃ (pv:Option Addr) (lv cv:Nat) (pu:Option Addr) (lu cu:Nat) (Q U:List Nat),s8=.slice pv lv cv/\s9=.slice pu lu cu/\(U1 (w.heap.size+4) wx (.slice pv lv cv) Q/\U1 (w.heap.size+4) wx (.slice pu lu cu) U)/\val a=val Q*val b+val U/\val U<val b/\Up W0 wx)
  case first=>
   go_region_with (first
    | (go_at_call_of 127 (Value.int IntKind.i64 x);refine (Db B _ na a _ (W8.o _ d6.o.drew) (by have:=d6.o.size;have:=HS.o;have:=Z.o;show B<=W1.heap.size;omega)).mono ?_
       rintro e wa ⟨va,rfl,u6,L3,H4⟩;have D0:Hid (U1 B wa va a/\(a=[]->va=.slice none 0 0)):=⟨u6,L3⟩;have o2:Hid (Up W0 wa):=d6.o.drew.trans (H4.mono d6.o.size);obtain⟨c0,c1,c2,d0,d1,d2,_,_,_,_,_,_,f⟩:=d7.o wa o2.o;obtain⟨q1,k1,e1,_⟩:=id u6;subst e1;clear u6 L3 H4 f)
    | (go_at_call_of 127 (Value.int IntKind.i64 y);refine (Db B _ nb b _ (F2.o _ o2.o) (by have:=o2.o.size;have:=HS.o;have:=Z.o;omega)).mono ?_
       rintro e wb ⟨vb,rfl,u7,_,t8⟩;have V2:=Hd u7;have D1:Hid (U1 B wb (.slice q1 a.length k1) a):=D0.o.1.bl t8;have j5:=o2.up t8;obtain⟨q2,k2,e2,_⟩:=id u7;subst e2;clear u7 t8)
    | (go_at_call 141;refine (YE B _ _ a b _ (by have:=j5.o.size;have:=HS.o;have:=Z.o;omega) d8.o.1 D1.o D0.o.2 V2.o d8.o.2.1 d8.o.2.2.2 d8.o.2.2.1).mono ?_
       rintro e wd ⟨v,u,Q,U,rfl,⟨hv,hu⟩,f5,m8,H7⟩;have o4:Hid (U1 (w.heap.size+4) wd v Q/\U1 (w.heap.size+4) wd u U):=⟨hv.mono (by have:=j5.o.size;have:=HS.o;omega),hu.mono (by have:=j5.o.size;have:=HS.o;omega)⟩;have O:Hid (val a=val Q*val b+val U/\val U<val b/\Up W0 wd):=⟨f5,m8,j5.o.trans (H7.mono j5.o.size)⟩;obtain⟨pv,cv,ev,_⟩:=id hv;obtain⟨pu,cu,eu,_⟩:=id hu;subst ev eu;clear hv hu f5 m8 H7))
   all_goals
    go_wp2
    go_meet
    exact⟨_,_,_,_,_,_,Q,U,rfl,rfl,o4.o,O.o.1,O.o.2.1,O.o.2.2⟩
  obtain⟨pv,lv,cv,pu,lu,cu,Q,U,rfl,rfl,u1,f5,m8,i6⟩:=hcut;have o4:Hid (∀ W,Up wc W->U1 (w.heap.size+4) W (.slice pv lv cv) Q/\U1 (w.heap.size+4) W (.slice pu lu cu) U):=fun W hW=>⟨u1.1.bl hW,u1.2.bl hW⟩;have O:Hid (val a=val Q*val b+val U/\val U<val b):=⟨f5,m8⟩;have d5:=Hd i6;obtain⟨w1,hw1⟩:=O1 wc;subst hw1;clear u1 f5 m8 i6 a0 a1 a2 b0 b1 b2 r0 r1 r2 t0 t1 t2;obtain⟨a0,a1,a2,b0,b1,b2,r0,r1,r2,t0,t1,t2,f⟩:=d7.o _ d5.o;clear f;have X2:w.heap.size<wc.heap.size:=by have:=d5.o.size;have:=HS.o;omega
  have X3:w.heap.size+1<wc.heap.size:=by have:=d5.o.size;have:=HS.o;omega
  go_upto_region 10 with fail
  go_cut [10] (fun s10 wx=>∃ (gq:Nat) (z0:Int) (zn:Bool) (za:Option Addr) (zl zc:Nat),s10=.pointer (some ⟨gq,0,none⟩)/\W0.heap.size<=gq/\BoxV gq wx z0 zn za zl zc/\N5 (w.heap.size+4) wx (.agg #[.int .i64 z0,.bool zn,.slice za zl zc]) (sg (s != t) (val Q))/\Up wc wx)
  case first=>
   go_region_with (first
    | (go_at_call_of 124 (Value.int IntKind.i64 x);refine (Er _ _ _ _ _ _).mono ?_;rintro e w' ⟨rfl,rfl⟩;rw[y7.o])
    | (go_at_call_of 124 (Value.int IntKind.i64 y);refine (Er _ _ _ _ _ _).mono ?_;rintro e w' ⟨rfl,rfl⟩;rw[y8.o])
    | (go_at_call 126;refine (Pf (w.heap.size+4) _ _ Q wc _ (o4.o wc (Jh _ _)).1 ?_).mono ?_
       ·repeat' (first|exact Jh _ _|refine Below.drew ?_|refine Below.alloc ?_ ?_ _|(simp;done)|(simp;omega))
       rintro e we ⟨z,rfl,b7,K0,p5⟩;have hN:N5 (w.heap.size+4) we z (sg (s != t) (val Q)):=⟨s != t,Oe Q,b7,by rw[O3]⟩;have HN:=Hd hN;have g9:=Hd K0;have H0:∀ g,BoxV g _ 0 false none 0 0->BoxV g we 0 false none 0 0:=fun g h=>h.bl h.lt p5;have r6:=Ec H0;have hcl:=fun (i:Nat) (g:Nat) hp=>p5.cell (p:=⟨g,i,none⟩) hp;have hfz:=fun (i:Nat) (g:Nat) hp=>p5.frozen (p:=⟨g,i,none⟩) hp;obtain⟨z0,zn,za,zl,zc,n4⟩:=hN.shape;subst n4;clear b7 K0 hN p5 H0))
   all_goals
    go_wp2
    go_meet
    first
     | exact⟨we.heap.size,z0,zn,za,zl,zc,rfl,(by have:=g9.o.size;have:=d5.o.size;omega),Ht we z0 zn za zl zc _,HN.o.bl (Oy _ _),g9.o.alloc g9.o.size _⟩
     | (have hbv:BoxV wc.heap.size we 0 false none 0 0:=r6.o _ (by repeat' (first|exact Hp _ _ (by simp) _ _ _ _ _ _|refine BoxV.alloc ?_ _|refine BoxV.drew ?_));exact⟨wc.heap.size,z0,zn,za,zl,zc,rfl,(by have:=d5.o.size;omega),hbv.put z0 zn za zl zc,HN.o.keeps hbv.n hbv.n (Kq.three _ _ _ _ _),((g9.o.setCell (by simp) _).setCell (by simp) _).setCell (by simp) _⟩)
     | (have hbv:BoxV (wc.heap.size+1) we 0 false none 0 0:=r6.o _ (by repeat' (first|exact Hp _ _ (by simp) _ _ _ _ _ _|refine BoxV.alloc ?_ _|refine BoxV.drew ?_));exact⟨wc.heap.size+1,z0,zn,za,zl,zc,rfl,(by have:=d5.o.size;omega),hbv.put z0 zn za zl zc,HN.o.keeps hbv.n hbv.n (Kq.three _ _ _ _ _),((g9.o.setCell (by simp) _).setCell (by simp) _).setCell (by simp) _⟩)
     | (have hbv:BoxV (wc.heap.size+1+1) we 0 false none 0 0:=r6.o _ (by repeat' (first|exact Hp _ _ (by simp) _ _ _ _ _ _|refine BoxV.alloc ?_ _|refine BoxV.drew ?_));exact⟨wc.heap.size+1+1,z0,zn,za,zl,zc,rfl,(by have:=d5.o.size;omega),hbv.put z0 zn za zl zc,HN.o.keeps hbv.n hbv.n (Kq.three _ _ _ _ _),((g9.o.setCell (by simp;omega) _).setCell (by simp;omega) _).setCell (by simp;omega) _⟩)
  obtain⟨gq,z0,zn,za,zl,zc,rfl,K6,hbv,hN,i6⟩:=hcut;have j6:Hid (W0.heap.size<=gq/\BoxV gq wc z0 zn za zl zc/\N5 (w.heap.size+4) wc (.agg #[.int .i64 z0,.bool zn,.slice za zl zc]) (sg (s != t) (val Q))):=⟨K6,hbv,hN⟩;have M6:=d5.up i6;have U2:Hid (U1 (w.heap.size+4) wc (.slice pu lu cu) U):=(o4.o wc i6).2;clear K6 hbv hN i6 a0 a1 a2 b0 b1 b2 r0 r1 r2 t0 t1 t2 X2 X3
  go_wp2_with fail
  refine (Pf (w.heap.size+4) false _ U wc wc U2.o (Jh _ _)).mono ?_;rintro e M ⟨zr,rfl,b7,H1,_⟩;have y6:=Hd b7;have r3:=Hd H1;obtain⟨y0,b8,ya,yl,yc,n4⟩:=b7.shape;subst n4;clear b7 H1;obtain⟨w3,p7⟩:=O1 (M.alloc (.cells #[.int .i64 y0,.bool b8,.slice ya yl yc] 123));have W4:=Ec p7;have t7:Up M w3:=by rw[<-p7];exact Oy _ _
  have p3:Up wc w3:=r3.o.trans (t7.mono r3.o.size);have y1:=M6.up p3;have o3:Hid (BoxV gq w3 z0 zn za zl zc/\N5 (w.heap.size+4) w3 (.agg #[.int .i64 z0,.bool zn,.slice za zl zc]) (sg (s != t) (val Q))/\gq<M.heap.size):=⟨j6.o.2.1.bl j6.o.2.1.lt p3,j6.o.2.2.bl p3,Jz j6.o.2.1.lt r3.o.size⟩;have r9:Hid (BoxV M.heap.size w3 y0 b8 ya yl yc/\N5 (w.heap.size+4) w3 (.agg #[.int .i64 y0,.bool b8,.slice ya yl yc]) (sg false (val U))):=by
   refine⟨by rw[<-p7];exact Ht _ _ _ _ _ _ _,⟨false,Oe U,y6.o.bl t7,by rw[O3]⟩⟩
  have W9:Hid ((((yl:Int)==0)&&(y0==0))=decide (val U=0)):=by
   have h:=D4 y6.o;rw[O3] at h;exact h
  clear p7 t7 p3;obtain⟨a0,a1,a2,b0,b1,b2,r0,r1,r2,t0,t1,t2,f⟩:=d7.o _ y1.o;clear f
  go_upto_region 12 with fail
  rw[W4.o]
  go_wp2_with fail
  refine (Er _ _ _ _ _ _).mono ?_;rintro e w4 ⟨rfl,L6⟩;rw[y7.o];have h7:Up w3 w4:=by rw[L6];exact Oy _ _
  have r4:=y1.up h7;have f9:Hid (BoxV gq w4 z0 zn za zl zc/\N5 (w.heap.size+4) w4 (.agg #[.int .i64 z0,.bool zn,.slice za zl zc]) (sg (s != t) (val Q))/\gq<M.heap.size):=⟨o3.o.1.bl o3.o.1.lt h7,o3.o.2.1.bl h7,o3.o.2.2⟩;have j8:Hid (BoxV M.heap.size w4 y0 b8 ya yl yc/\N5 (w.heap.size+4) w4 (.agg #[.int .i64 y0,.bool b8,.slice ya yl yc]) (sg false (val U))):=⟨r9.o.1.bl r9.o.1.lt h7,r9.o.2.bl h7⟩;clear L6 h7 a0 a1 a2 b0 b1 b2 r0 r1 r2 t0 t1 t2;obtain⟨a0,a1,a2,b0,b1,b2,r0,r1,r2,t0,t1,t2,f⟩:=d7.o _ r4.o;have k8:=f 2 (by omega) 0;have k9:=f 2 (by omega) 1;have l0:=f 2 (by omega) 2;have l1:=f 3 (by omega) 0;have l2:=f 3 (by omega) 1;have l3:=f 3 (by omega) 2;clear f;obtain⟨_,q0,q1,q2,fq,_⟩:=f9.o.1;obtain⟨_,g0,g1,g2,fg,_⟩:=j8.o.1;clear fq fg;have hq4:w.heap.size+4<=gq:=by have:=j6.o.1;have:=HS.o;omega
  have hr4:w.heap.size+4<=M.heap.size:=by have:=f9.o.2.2;omega
  have f8:Hid (Up w w4):=HF.o _ r4.o
  cases s
  ·go_wp2
   go_region
   all_goals
    go_wp2
    refine Jj ?_ rfl ⟨_,_,_,_,rfl,⟨((((((f9.o.2.1.setCell _ _ ?_).setCell _ _ ?_).setCell _ _ ?_).setCell _ _ ?_).setCell _ _ ?_).setCell _ _ ?_).drew.mono ?_,((((((j8.o.2.setCell _ _ ?_).setCell _ _ ?_).setCell _ _ ?_).setCell _ _ ?_).setCell _ _ ?_).setCell _ _ ?_).drew.mono ?_⟩,Mx t _ _ _ _ O.o.1 O.o.2,((((((f8.o.setCell ?_ _).setCell ?_ _).setCell ?_ _).setCell ?_ _).setCell ?_ _).setCell ?_ _).drew⟩
    all_goals first
     | (simp[results,results129,go_sem,r0,r1,r2,t0,t1,t2];done)
     | (simp;omega)
     | omega
  go_wp2_with fail
  refine (Mf _ _ _ _ _ _).mono ?_;rintro e w5 ⟨rfl,h8⟩;rw[W9.o];have j4:=r4.up h8;have h0:Hid (BoxV gq w5 z0 zn za zl zc/\N5 (w.heap.size+4) w5 (.agg #[.int .i64 z0,.bool zn,.slice za zl zc]) (sg (true != t) (val Q))/\gq<M.heap.size):=⟨f9.o.1.bl f9.o.1.lt h8,f9.o.2.1.bl h8,f9.o.2.2⟩;have h1:Hid (BoxV M.heap.size w5 y0 b8 ya yl yc/\N5 (w.heap.size+4) w5 (.agg #[.int .i64 y0,.bool b8,.slice ya yl yc]) (sg false (val U))):=⟨j8.o.1.bl j8.o.1.lt h8,j8.o.2.bl h8⟩;have f8:Hid (Up w w5):=HF.o _ j4.o;clear h8 a0 a1 a2 b0 b1 b2 r0 r1 r2 t0 t1 t2 k8 k9 l0 l1 l2 l3 q0 q1 q2 g0 g1 g2;obtain⟨a0,a1,a2,b0,b1,b2,r0,r1,r2,t0,t1,t2,f⟩:=d7.o _ j4.o;have k8:=f 2 (by omega) 0;have k9:=f 2 (by omega) 1;have l0:=f 2 (by omega) 2;have l1:=f 3 (by omega) 0;have l2:=f 3 (by omega) 1;have l3:=f 3 (by omega) 2;clear f;obtain⟨_,q0,q1,q2,fq,_⟩:=h0.o.1;obtain⟨_,g0,g1,g2,fg,_⟩:=h1.o.1;have l4:=fg 0;have l5:=fg 1;have l6:=fg 2;have o6:=fq 0;have o7:=fq 1;have o8:=fq 2;clear fq fg
  by_cases hU:val U=0
  ·have zz:decide (val U=0)=true:=Jb hU;have M8:Hid (No (sg true (val a)) (sg t (val b)) (sg (true != t) (val Q)) (sg false (val U))):=by
    have h:=O.o;rw[hU] at h ⊢;exact C2 t _ _ _ h.1 h.2
   rw[zz];clear hU
   go_wp2
   go_region
   all_goals
    go_wp2
    refine Jj ?_ rfl ⟨_,_,_,_,rfl,⟨((((((h0.o.2.1.setCell _ _ ?_).setCell _ _ ?_).setCell _ _ ?_).setCell _ _ ?_).setCell _ _ ?_).setCell _ _ ?_).drew.mono ?_,((((((h1.o.2.setCell _ _ ?_).setCell _ _ ?_).setCell _ _ ?_).setCell _ _ ?_).setCell _ _ ?_).setCell _ _ ?_).drew.mono ?_⟩,M8.o,((((((f8.o.setCell ?_ _).setCell ?_ _).setCell ?_ _).setCell ?_ _).setCell ?_ _).setCell ?_ _).drew⟩
    all_goals first
     | (simp[results,results129,go_sem,r0,r1,r2,t0,t1,t2];done)
     | (simp;omega)
     | omega
  have zz:decide (val U=0)=false:=Jg hU;rw[zz];have B2:Hid (0<val U):=Yp hU;clear hU
  go_wp2_with fail
  refine (Ez B _ nb b _ (F2.o _ j4.o) (by have:=j4.o.size;have:=HS.o;have:=Z.o;omega)).mono ?_;rintro e w6 ⟨v6,rfl,u2,H2⟩;have V1:=Hd u2;have M4:=Hd H2;obtain⟨p6,c6,e6,_⟩:=id u2;subst e6;clear u2 H2
  go_wp2_with fail
  refine (Pf B false _ b w6 w6 V1.o (Jh _ _)).mono ?_;rintro e w7 ⟨zs,rfl,b7,H3,_⟩;have Q2:=Hd b7;have r5:=M4.up H3;obtain⟨x0,x6,xa,xl,xc,n4⟩:=b7.shape;subst n4;clear b7 H3;obtain⟨w8,p8⟩:=O1 (w7.alloc (.cells #[.int .i64 x0,.bool x6,.slice xa xl xc] 123));have W5:=Ec p8;have l9:Up w7 w8:=by rw[<-p8];exact Oy _ _
  have h6:Up w5 w8:=r5.o.trans (l9.mono r5.o.size);have y2:=j4.up h6;have e3:Hid (BoxV gq w8 z0 zn za zl zc/\N5 (w.heap.size+4) w8 (.agg #[.int .i64 z0,.bool zn,.slice za zl zc]) (sg (true != t) (val Q))/\gq<M.heap.size):=⟨h0.o.1.bl h0.o.1.lt h6,h0.o.2.1.bl h6,h0.o.2.2⟩;have j9:Hid (BoxV M.heap.size w8 y0 b8 ya yl yc/\N5 (w.heap.size+4) w8 (.agg #[.int .i64 y0,.bool b8,.slice ya yl yc]) (sg false (val U))/\M.heap.size<w7.heap.size):=⟨h1.o.1.bl h1.o.1.lt h6,h1.o.2.bl h6,Jz h1.o.1.lt r5.o.size⟩;have z8:Hid (BoxV w7.heap.size w8 x0 x6 xa xl xc/\Nz B w8 (.agg #[.int .i64 x0,.bool x6,.slice xa xl xc]) false (Oe b)):=⟨by rw[<-p8];exact Ht _ _ _ _ _ _ _,Q2.o.bl l9⟩;clear p8 l9 h6 a0 a1 a2 b0 b1 b2 r0 r1 r2 t0 t1 t2 k8 k9 l0 l1 l2 l3 q0 q1 q2 g0 g1 g2 l4 l5 l6 o6 o7 o8;obtain⟨_,g0,g1,g2,fg,_⟩:=j9.o.1;obtain⟨_,s0,s1,s2,fs,_⟩:=z8.o.1;have l4:=fg 0;have l5:=fg 1;have l6:=fg 2;clear fs fg
  go_upto_region 14 with fail
  rw[W5.o]
  go_wp2_with fail
  obtain⟨nr,tr,t6,u8⟩:=j9.o.2.1;have L5:val tr=val U:=by cases nr<;>simp[sg] at u8<;>omega
  have X0:tr.length<=b.length:=Ru tr b t6.2.1 y9.o (by rw[L5];exact O.o.2);refine (Mc B _ _ false nr (Oe b) tr _ (by have:=y2.o.size;have:=HS.o;have:=Z.o;omega) z8.o.2 (t6.mono (by have:=Z.o;omega)) (by have:=Ku b;have:=d8.o.2.1;omega) (by have:=d8.o.2.1;omega)).mono ?_;rintro e w9 ⟨z9,rfl,p4,h9⟩;have T0:Hid (N5 w8.heap.size w9 z9 (sg false (val b - val U:Nat))):=by
   have e:sg false (val (Oe b)) - sg nr (val tr)=sg false (val b - val U:Nat):=by rw[u8,O3];have:=O.o.2;simp[sg];omega
   rw[e] at p4;exact p4
  have o5:Hid (BoxV M.heap.size w9 y0 b8 ya yl yc):=j9.o.1.bl j9.o.1.lt h9;have z6:Hid (BoxV gq w9 z0 zn za zl zc/\N5 (w.heap.size+4) w9 (.agg #[.int .i64 z0,.bool zn,.slice za zl zc]) (sg (true != t) (val Q))):=⟨e3.o.1.bl e3.o.1.lt h9,e3.o.2.1.bl h9⟩;have y4:=y2.up h9;have d9:Hid (M.heap.size<w8.heap.size):=j9.o.1.lt;have y3:Hid (w8.heap.size<=w9.heap.size):=h9.size;obtain⟨n0,nn,np,nl,nc,X1⟩:=p4.shape;subst X1;clear t6 u8 L5 X0 p4 h9 g0 g1 g2 s0 s1 s2 l4 l5 l6;obtain⟨_,g0,g1,g2,fg,_⟩:=o5.o;have l4:=fg 0;have l5:=fg 1;have l6:=fg 2;clear fg;obtain⟨d4,b5⟩:=O1 (((w9.setCell ⟨M.heap.size,0,none⟩ (.int .i64 n0)).setCell ⟨M.heap.size,1,none⟩ (.bool nn)).setCell ⟨M.heap.size,2,none⟩ (.slice np nl nc));have D2:=Ec b5;have m5:Kq M.heap.size M.heap.size w9 d4:=by rw[<-b5];exact Kq.three _ _ _ _ _
  have e4:Hid (BoxV M.heap.size d4 n0 nn np nl nc/\N5 w8.heap.size d4 (.agg #[.int .i64 n0,.bool nn,.slice np nl nc]) (sg false (val b - val U:Nat))):=by
   rw[<-b5];exact⟨o5.o.put _ _ _ _ _,((T0.o.setCell _ _ d9.o).setCell _ _ d9.o).setCell _ _ d9.o⟩
  have j7:Hid (BoxV gq d4 z0 zn za zl zc/\N5 (w.heap.size+4) d4 (.agg #[.int .i64 z0,.bool zn,.slice za zl zc]) (sg (true != t) (val Q))):=⟨z6.o.1.other (by have:=e3.o.2.2;omega) m5,z6.o.2.keeps o5.o.n o5.o.n m5⟩;have q4:Hid (Up w d4):=by
   rw[<-b5];exact (((HF.o _ y4.o).setCell (by show w.heap.size<=M.heap.size;omega) _).setCell (by show w.heap.size<=M.heap.size;omega) _).setCell (by show w.heap.size<=M.heap.size;omega) _
  have q6:Hid (BoxQ w.heap.size d4 x xn pa la ca y yn pb lb cb/\w8.heap.size<=d4.heap.size):=by
   refine⟨?_,by rw[<-b5];simpa using y3.o⟩;rw[<-b5];exact (((d7.o _ y4.o).far _ (by show w.heap.size+4<=M.heap.size;omega) _).far _ (by show w.heap.size+4<=M.heap.size;omega) _).far _ (by show w.heap.size+4<=M.heap.size;omega) _
  clear b5 m5
  go_upto_region 15 with fail
  rw[D2.o];clear g0 g1 g2 l4 l5 l6;obtain⟨a0,a1,a2,b0,b1,b2,r0,r1,r2,t0,t1,t2,f⟩:=q6.o.1;clear f
  go_wp2_with fail
  refine (Er _ _ _ _ _ _).mono ?_;rintro e j ⟨rfl,q8⟩;rw[y8.o];have Y:Up d4 j:=by rw[q8];exact Oy _ _
  have A:Hid (BoxV gq j z0 zn za zl zc/\N5 (w.heap.size+4) j (.agg #[.int .i64 z0,.bool zn,.slice za zl zc]) (sg (true != t) (val Q))):=⟨j7.o.1.bl j7.o.1.lt Y,j7.o.2.bl Y⟩;have b9:Hid (BoxV M.heap.size j n0 nn np nl nc/\N5 w8.heap.size j (.agg #[.int .i64 n0,.bool nn,.slice np nl nc]) (sg false (val b - val U:Nat))):=⟨e4.o.1.bl e4.o.1.lt Y,e4.o.2.bl Y⟩;have c8:Hid (w.heap.size+4<=j.heap.size):=by have:=Y.size;have:=e4.o.1.lt;show w.heap.size+4<=j.heap.size;omega
  have a7:Hid (BoxQ w.heap.size j x xn pa la ca y yn pb lb cb/\Up w j):=⟨q6.o.1.bl (by have:=e4.o.1.lt;omega) Y,q4.o.trans (Y.mono q4.o.size)⟩;have z7:Hid (val Q<=val a):=by
   have h:=O.o;have hp:1<=val b:=by omega
   have:val Q*1<=val Q*val b:=J8 _ hp
   show val Q<=val a
   omega
  clear q8 Y a0 a1 a2 b0 b1 b2 r0 r1 r2 t0 t1 t2;obtain⟨a0,a1,a2,b0,b1,b2,r0,r1,r2,t0,t1,t2,f⟩:=a7.o.1;obtain⟨_,q0,q1,q2,fq,_⟩:=A.o.1;have o6:=fq 0;have o7:=fq 1;have o8:=fq 2;clear f fq
  cases t
  ·go_wp2
   go_region_with (first
    | (go_at_call 125;refine (Ii 1 _ (by omega) (by omega)).mono ?_
       rintro e K ⟨z1,rfl,⟨n1,o1,g4,m9,m6⟩,b4⟩;have a8:Up j K:=(Jh _ j).drew.trans (b4.mono Of);obtain⟨nq,tq,g5,g8⟩:=A.o.2;have n2:val tq=val Q:=by cases nq<;>simp[sg] at g8<;>omega
       have m7:tq.length<=a.length:=Qq tq a g5.2.1 q5.o (by rw[n2];exact z7.o);obtain⟨i0,i1,i2,i3,i4,n3⟩:=g4.shape;subst n3;have d:Hid (Nz j.heap.size K (.agg #[.int .i64 i0,.bool i1,.slice i2 i3 i4]) n1 o1/\sg n1 (val o1)=1/\o1.length<=3/\Up j K/\Nz (w.heap.size+4) j (.agg #[.int .i64 z0,.bool zn,.slice za zl zc]) nq tq/\tq.length<=a.length):=⟨g4,m9,m6,a8,g5,m7⟩;have s3:=Hd g8;obtain⟨_,q0',q1',q2',_,_⟩:=A.o.1.bl A.o.1.lt a8;clear g4 m9 m6 b4 a8 g5 g8 n2 m7)
    | (go_at_call 142;refine (Mc B _ _ nq n1 tq o1 _ (by have:=d.o.2.2.2.1.size;have:=c8.o;have:=Z.o;omega) ((d.o.2.2.2.2.1.bl d.o.2.2.2.1).mono (by have:=Z.o;omega)) (d.o.1.mono (by have:=c8.o;have:=Z.o;omega)) (by have:=d8.o.1;have:=d.o.2.2.2.2.2;omega) (by have:=d.o.2.2.1;omega)).mono ?_
       rintro e J ⟨zq,rfl,b3,e9⟩;have G:Up j J:=d.o.2.2.2.1.trans (e9.mono d.o.2.2.2.1.size);have r8:Hid (N5 K.heap.size J zq (sg true (val Q+1))):=by
        rw[s3.o,d.o.2.1] at b3;have e:sg (true != false) (val Q) - 1=sg true (val Q+1):=by simp[sg]<;>omega
        rw[e] at b3;exact b3
       have E:Hid (BoxV gq J z0 zn za zl zc/\gq<K.heap.size):=⟨A.o.1.bl A.o.1.lt G,Jz A.o.1.lt d.o.2.2.2.1.size⟩;have e5:Hid (BoxV M.heap.size J n0 nn np nl nc/\N5 w8.heap.size J (.agg #[.int .i64 n0,.bool nn,.slice np nl nc]) (sg false (val b - val U:Nat))):=⟨b9.o.1.bl b9.o.1.lt G,b9.o.2.bl G⟩;have e8:Hid (BoxQ w.heap.size J x xn pa la ca y yn pb lb cb/\Up w J):=⟨a7.o.1.bl (by have:=c8.o;omega) G,a7.o.2.trans (G.mono a7.o.2.size)⟩;obtain⟨m0,mn,mp,ml,mc,u0⟩:=b3.shape;subst u0;obtain⟨_,v0,v1,v2,fv,_⟩:=E.o.1;have s4:=fv 0;have s5:=fv 1;have s6:=fv 2;clear b3 e9 G fv))
   all_goals
    try simp only[Yz,Ys,Yn,Act.put,Ja,Jd,Je]
    clear a0 a1 a2 b0 b1 b2 r0 r1 r2 t0 t1 t2 q0 q1 q2 o6 o7 o8 v0 v1 v2 s4 s5 s6;obtain⟨V,I⟩:=O1 (((J.setCell ⟨gq,0,none⟩ (.int .i64 m0)).setCell ⟨gq,1,none⟩ (.bool mn)).setCell ⟨gq,2,none⟩ (.slice mp ml mc));have k0:=Ec I;have g7:w.heap.size<=gq:=by omega
    have g6:gq<w8.heap.size:=by have:=d9.o;have:=e3.o.2.2;omega
    have e0:Hid (BoxV gq V m0 mn mp ml mc/\N5 K.heap.size V (.agg #[.int .i64 m0,.bool mn,.slice mp ml mc]) (sg true (val Q+1))):=by
     rw[<-I];exact⟨E.o.1.put _ _ _ _ _,((r8.o.setCell _ _ E.o.2).setCell _ _ E.o.2).setCell _ _ E.o.2⟩
    have e7:Hid (BoxV M.heap.size V n0 nn np nl nc/\N5 w8.heap.size V (.agg #[.int .i64 n0,.bool nn,.slice np nl nc]) (sg false (val b - val U:Nat))):=by
     rw[<-I];exact⟨e5.o.1.other (by have:=e3.o.2.2;omega) (Kq.three _ _ _ _ _),((e5.o.2.setCell _ _ g6).setCell _ _ g6).setCell _ _ g6⟩
    have k7:Hid (BoxQ w.heap.size V x xn pa la ca y yn pb lb cb):=by
     rw[<-I];exact ((e8.o.1.far _ (by show w.heap.size+4<=gq;omega) _).far _ (by show w.heap.size+4<=gq;omega) _).far _ (by show w.heap.size+4<=gq;omega) _
    have f8:Hid (Up w V):=by
     rw[<-I];exact ((e8.o.2.setCell g7 _).setCell g7 _).setCell g7 _
    have r7:Hid (No (sg true (val a)) (sg false (val b)) (sg true (val Q+1)) (sg false (val b - val U:Nat))):=Pd false _ _ _ _ _ O.o.1 (by have:=O.o.2;omega) B2.o;have b4:w.heap.size+4<=K.heap.size:=by have:=E.o.2;omega
    have l9:w.heap.size+4<=w8.heap.size:=by omega
    clear I
    go_upto_region 18 with fail
    rw[k0.o];obtain⟨_,_,_,_,_,_,r0,r1,r2,t0,t1,t2,f⟩:=k7.o;have k8:=f 2 (by omega) 0;have k9:=f 2 (by omega) 1;have l0:=f 2 (by omega) 2;have l1:=f 3 (by omega) 0;have l2:=f 3 (by omega) 1;have l3:=f 3 (by omega) 2;clear f;obtain⟨_,q0,q1,q2,fq,_⟩:=e0.o.1;obtain⟨_,g0,g1,g2,fg,_⟩:=e7.o.1;clear fq fg
    go_wp2
    go_region
    all_goals
     go_wp2
     refine Jj ?_ rfl ⟨_,_,_,_,rfl,⟨((((((e0.o.2.setCell _ _ ?_).setCell _ _ ?_).setCell _ _ ?_).setCell _ _ ?_).setCell _ _ ?_).setCell _ _ ?_).drew.mono ?_,((((((e7.o.2.setCell _ _ ?_).setCell _ _ ?_).setCell _ _ ?_).setCell _ _ ?_).setCell _ _ ?_).setCell _ _ ?_).drew.mono ?_⟩,r7.o,((((((f8.o.setCell ?_ _).setCell ?_ _).setCell ?_ _).setCell ?_ _).setCell ?_ _).setCell ?_ _).drew⟩
     all_goals first
      | (simp[results,results129,go_sem,r0,r1,r2,t0,t1,t2];done)
      | (simp;omega)
      | omega
  go_wp2
  go_region_with (first
   | (go_at_call 125;refine (Ii 1 _ (by omega) (by omega)).mono ?_
      rintro e K ⟨z1,rfl,⟨n1,o1,g4,m9,m6⟩,b4⟩;have a8:Up j K:=(Jh _ j).drew.trans (b4.mono Of);obtain⟨nq,tq,g5,g8⟩:=A.o.2;have n2:val tq=val Q:=by cases nq<;>simp[sg] at g8<;>omega
      have m7:tq.length<=a.length:=Qq tq a g5.2.1 q5.o (by rw[n2];exact z7.o);obtain⟨i0,i1,i2,i3,i4,n3⟩:=g4.shape;subst n3;have d:Hid (Nz j.heap.size K (.agg #[.int .i64 i0,.bool i1,.slice i2 i3 i4]) n1 o1/\sg n1 (val o1)=1/\o1.length<=3/\Up j K/\Nz (w.heap.size+4) j (.agg #[.int .i64 z0,.bool zn,.slice za zl zc]) nq tq/\tq.length<=a.length):=⟨g4,m9,m6,a8,g5,m7⟩;have s3:=Hd g8;obtain⟨_,q0',q1',q2',_,_⟩:=A.o.1.bl A.o.1.lt a8;clear g4 m9 m6 b4 a8 g5 g8 n2 m7)
   | (go_at_call 143;refine (Md B _ _ nq n1 tq o1 _ (by have:=d.o.2.2.2.1.size;have:=c8.o;have:=Z.o;omega) ((d.o.2.2.2.2.1.bl d.o.2.2.2.1).mono (by have:=Z.o;omega)) (d.o.1.mono (by have:=c8.o;have:=Z.o;omega)) (by have:=d8.o.1;have:=d.o.2.2.2.2.2;omega) (by have:=d.o.2.2.1;omega)).mono ?_
      rintro e J ⟨zq,rfl,b3,e9⟩;have G:Up j J:=d.o.2.2.2.1.trans (e9.mono d.o.2.2.2.1.size);have r8:Hid (N5 K.heap.size J zq (sg false (val Q+1))):=by
       rw[s3.o,d.o.2.1] at b3;have e:sg (true != true) (val Q)+1=sg false (val Q+1):=by simp[sg]<;>omega
       rw[e] at b3;exact b3
      have E:Hid (BoxV gq J z0 zn za zl zc/\gq<K.heap.size):=⟨A.o.1.bl A.o.1.lt G,Jz A.o.1.lt d.o.2.2.2.1.size⟩;have e5:Hid (BoxV M.heap.size J n0 nn np nl nc/\N5 w8.heap.size J (.agg #[.int .i64 n0,.bool nn,.slice np nl nc]) (sg false (val b - val U:Nat))):=⟨b9.o.1.bl b9.o.1.lt G,b9.o.2.bl G⟩;have e8:Hid (BoxQ w.heap.size J x xn pa la ca y yn pb lb cb/\Up w J):=⟨a7.o.1.bl (by have:=c8.o;omega) G,a7.o.2.trans (G.mono a7.o.2.size)⟩;obtain⟨m0,mn,mp,ml,mc,u0⟩:=b3.shape;subst u0;obtain⟨_,v0,v1,v2,fv,_⟩:=E.o.1;have s4:=fv 0;have s5:=fv 1;have s6:=fv 2;clear b3 e9 G fv))
  all_goals
   try simp only[Yz,Ys,Yn,Act.put,Ja,Jd,Je]
   clear a0 a1 a2 b0 b1 b2 r0 r1 r2 t0 t1 t2 q0 q1 q2 o6 o7 o8 v0 v1 v2 s4 s5 s6;obtain⟨V,I⟩:=O1 (((J.setCell ⟨gq,0,none⟩ (.int .i64 m0)).setCell ⟨gq,1,none⟩ (.bool mn)).setCell ⟨gq,2,none⟩ (.slice mp ml mc));have k0:=Ec I;have g7:w.heap.size<=gq:=by omega
   have g6:gq<w8.heap.size:=by have:=d9.o;have:=e3.o.2.2;omega
   have e0:Hid (BoxV gq V m0 mn mp ml mc/\N5 K.heap.size V (.agg #[.int .i64 m0,.bool mn,.slice mp ml mc]) (sg false (val Q+1))):=by
    rw[<-I];exact⟨E.o.1.put _ _ _ _ _,((r8.o.setCell _ _ E.o.2).setCell _ _ E.o.2).setCell _ _ E.o.2⟩
   have e7:Hid (BoxV M.heap.size V n0 nn np nl nc/\N5 w8.heap.size V (.agg #[.int .i64 n0,.bool nn,.slice np nl nc]) (sg false (val b - val U:Nat))):=by
    rw[<-I];exact⟨e5.o.1.other (by have:=e3.o.2.2;omega) (Kq.three _ _ _ _ _),((e5.o.2.setCell _ _ g6).setCell _ _ g6).setCell _ _ g6⟩
   have k7:Hid (BoxQ w.heap.size V x xn pa la ca y yn pb lb cb):=by
    rw[<-I];exact ((e8.o.1.far _ (by show w.heap.size+4<=gq;omega) _).far _ (by show w.heap.size+4<=gq;omega) _).far _ (by show w.heap.size+4<=gq;omega) _
   have f8:Hid (Up w V):=by
    rw[<-I];exact ((e8.o.2.setCell g7 _).setCell g7 _).setCell g7 _
   have r7:Hid (No (sg true (val a)) (sg true (val b)) (sg false (val Q+1)) (sg false (val b - val U:Nat))):=Pd true _ _ _ _ _ O.o.1 (by have:=O.o.2;omega) B2.o;have b4:w.heap.size+4<=K.heap.size:=by have:=E.o.2;omega
   have l9:w.heap.size+4<=w8.heap.size:=by omega
   clear I
   go_upto_region 18 with fail
   rw[k0.o];obtain⟨_,_,_,_,_,_,r0,r1,r2,t0,t1,t2,f⟩:=k7.o;have k8:=f 2 (by omega) 0;have k9:=f 2 (by omega) 1;have l0:=f 2 (by omega) 2;have l1:=f 3 (by omega) 0;have l2:=f 3 (by omega) 1;have l3:=f 3 (by omega) 2;clear f;obtain⟨_,q0,q1,q2,fq,_⟩:=e0.o.1;obtain⟨_,g0,g1,g2,fg,_⟩:=e7.o.1;clear fq fg
   go_wp2
   go_region
   all_goals
    go_wp2
    refine Jj ?_ rfl ⟨_,_,_,_,rfl,⟨((((((e0.o.2.setCell _ _ ?_).setCell _ _ ?_).setCell _ _ ?_).setCell _ _ ?_).setCell _ _ ?_).setCell _ _ ?_).drew.mono ?_,((((((e7.o.2.setCell _ _ ?_).setCell _ _ ?_).setCell _ _ ?_).setCell _ _ ?_).setCell _ _ ?_).setCell _ _ ?_).drew.mono ?_⟩,r7.o,((((((f8.o.setCell ?_ _).setCell ?_ _).setCell ?_ _).setCell ?_ _).setCell ?_ _).setCell ?_ _).drew⟩
    all_goals first
     | (simp[results,results129,go_sem,r0,r1,r2,t0,t1,t2];done)
     | (simp;omega)
     | omega
end Go.Proofs.YtipgjenolpofpaaGreatDoor.Q
