import Derived.Test.YtdmdmgfjpomdbaaGreatDoorP11
set_option maxRecDepth 100000
set_option maxHeartbeats 40000000
namespace Go.Proofs.YtdmdmgfjpomdbaaGreatDoor.Q
open ChangeShapes WideShapes ChangeAt RowKit Proofs.Tryz
theorem Dw (B:Nat)(neg:Bool)(v:Value)(l:List Nat)(w W:World)(h:Kz B w v l)(hb:Up w W) :
 Calls prog 126 #[.bool neg,v] W fun e w'=>∃ z,e=.returned z/\Gy B w' z neg (Og l)/\Up w w'/\Up W w':=by
 refine (Gi B neg v l W (h.bl hb)).mono ?_;rintro e A ⟨z,rfl,j,d⟩;exact⟨z,rfl,(j _ _ (h.bl hb)).bl d,hb.trans (d.mono hb.size),d⟩
theorem IM (B:Nat)(x y:Int)(xn yn:Bool)(pa:Option Addr)(la ca:Nat)(pb:Option Addr)(lb cb:Nat)(na nb:Bool)(a b:List Nat)(w:World)(hBw:B<=w.heap.size)(hz:((la:Int)==0)=false∨((la:Int)==0)=true/\((lb:Int)==0)=false)
 (hza:Gy B w (.agg #[.int .i64 x,.bool xn,.slice pa la ca]) na a) (hzb:Gy B w (.agg #[.int .i64 y,.bool yn,.slice pb lb cb]) nb b) (s t:Bool) (ha:YG x xn la=s) (hb:YG y yn lb=t) (hla:a.length<=100000) (hlb:b.length<=100000) (hne:b≠[]) :
 Calls prog 129 #[.agg #[.int .i64 x,.bool xn,.slice pa la ca],.agg #[.int .i64 y,.bool yn,.slice pb lb cb]] w fun e w'=>∃ z1 z2 q r,e=.returned (.tuple #[z1,z2])/\(G0 w.heap.size w' z1 q/\G0 w.heap.size w' z2 r)/\Nw (sg s (val a)) (sg t (val b)) q r/\Up w w':=by
 have y8:=Hd ha;have y9:=Hd hb;have d7:Hid (a.length<=100000/\b.length<=100000/\b≠[]/\isTrim b):=⟨hla,hlb,hne,hzb.2.1⟩;have z6:Hid (okL b):=hzb.1;have q6:Hid (okL a):=hza.1;have HX:=F9 w x xn pa la ca y yn pb lb cb 119;obtain⟨W0,l9⟩:=Oa ((((w.alloc (.cells #[.int .i64 x,.bool xn,.slice pa la ca] 119)).alloc (.cells #[.int .i64 y,.bool yn,.slice pb lb cb] 119)).alloc (.cells #[.int .i64 0,.bool false,.slice none 0 0] 119)).alloc (.cells #[.int .i64 0,.bool false,.slice none 0 0] 119));have M8:=E8 l9;have l8:Up w W0:=by rw[<-l9];exact Ob (Ob (Ob (Oz _ _) _) _) _
 have HB0:=E8 l8;have H3:W0.heap.size=w.heap.size+4:=by rw[<-l9];simp
 rw[l9] at HX;have HS:=E8 H3;have Y:=Hd hBw;have d6:Hid (∀ W,Up W0 W->BoxQ w.heap.size W x xn pa la ca y yn pb lb cb):=fun W hW=>HX.bl (by omega) hW;have HF:Hid (∀ W,Up W0 W->Up w W):=fun W hW=>l8.trans (hW.mono (by omega));have N8:Hid (∀ W,Up W0 W->Gy B W (.agg #[.int .i64 x,.bool xn,.slice pa la ca]) na a):=fun W hW=>(hza.bl l8).bl hW;have D0:Hid (∀ W,Up W0 W->Gy B W (.agg #[.int .i64 y,.bool yn,.slice pb lb cb]) nb b):=fun W hW=>(hzb.bl l8).bl hW;obtain⟨a0,a1,a2,b0,b1,b2,r0,r1,r2,t0,t1,t2,f⟩:=HX;clear f l9 H3 ha hb hza hzb l8 hBw hne
 go_in
 go_wp2_with fail
 rw[M8.o];refine (Ki _ _ _ _ _ _).mono ?_;rintro e wA ⟨rfl,hA⟩;have o2:Hid (Up W0 wA):=by rw[hA];exact Oz _ _
 clear hA a0 a1 a2 b0 b1 b2 r0 r1 r2 t0 t1 t2;obtain⟨a0,a1,a2,b0,b1,b2,r0,r1,r2,t0,t1,t2,f⟩:=d6.o wA o2.o;clear f;have y6:Hid (∃ W1,Up W0 W1/\((((la:Int)==0)=false/\wA=W1)∨(((la:Int)==0)=true/\((lb:Int)==0)=false/\wA.alloc (.cells #[.int .i64 y,.bool yn,.slice pb lb cb] 119)=W1))):=by
  rcases hz with h|⟨h,h'⟩
  ·exact⟨_,o2.o,.inl ⟨h,rfl⟩⟩
  exact⟨_,o2.o.alloc o2.o.size _,.inr ⟨h,h',rfl⟩⟩
 obtain⟨W1,q8,n4⟩:=y6.o;have d5:=Hd q8;clear hz y6 q8
 rcases n4 with⟨hz,t6⟩|⟨hz,W3,t6⟩
 all_goals
  have N0:=E8 t6;clear t6;rw[hz]
  go_upto_region 9 with (go_at_call 103;refine (Ki _ _ _ _ _ _).mono ?_;rintro e w' ⟨rfl,rfl⟩;try rw[W3])
  rw[N0.o];clear a0 a1 a2 b0 b1 b2 r0 r1 r2 t0 t1 t2;obtain⟨a0,a1,a2,b0,b1,b2,r0,r1,r2,t0,t1,t2,f⟩:=d6.o W1 d5.o;clear f
  go_cut [8,9] (fun s8 s9 wx=>∃ (pv:Option Addr) (lv cv:Nat) (pu:Option Addr) (lu cu:Nat) (Q U:List Nat),s8=.slice pv lv cv/\s9=.slice pu lu cu/\(Kz (w.heap.size+4) wx (.slice pv lv cv) Q/\Kz (w.heap.size+4) wx (.slice pu lu cu) U)/\val a=val Q*val b+val U/\val U<val b/\Up W0 wx)
  case first=>
   go_region_with (first
    | (go_at_call_of 127 (Value.int IntKind.i64 x);refine (C7 B _ na a _ (N8.o _ d5.o.drew) (by have:=d5.o.size;have:=HS.o;have:=Y.o;show B<=W1.heap.size;omega)).mono ?_
       rintro e wa ⟨va,rfl,u7,H4,E2⟩;have B2:Hid (Kz B wa va a/\(a=[]->va=.slice none 0 0)):=⟨u7,H4⟩;have o3:Hid (Up W0 wa):=d5.o.drew.trans (E2.mono d5.o.size);obtain⟨c0,c1,c2,d0,d1,d2,_,_,_,_,_,_,f⟩:=d6.o wa o3.o;obtain⟨q1,k1,e1,_⟩:=id u7;subst e1;clear u7 H4 E2 f)
    | (go_at_call_of 127 (Value.int IntKind.i64 y);refine (C7 B _ nb b _ (D0.o _ o3.o) (by have:=o3.o.size;have:=HS.o;have:=Y.o;omega)).mono ?_
       rintro e wb ⟨vb,rfl,u8,_,u0⟩;have M6:=Hd u8;have B6:Hid (Kz B wb (.slice q1 a.length k1) a):=B2.o.1.bl u0;have j6:=o3.up u0;obtain⟨q2,k2,e2,_⟩:=id u8;subst e2;clear u8 u0)
    | (go_at_call 142;refine (UR B _ _ a b _ (by have:=j6.o.size;have:=HS.o;have:=Y.o;omega) d7.o.1 B6.o B2.o.2 M6.o d7.o.2.1 d7.o.2.2.2 d7.o.2.2.1).mono ?_
       rintro e wd ⟨v,u,Q,U,rfl,⟨hv,hu⟩,e9,m9,F2⟩;have o5:Hid (Kz (w.heap.size+4) wd v Q/\Kz (w.heap.size+4) wd u U):=⟨hv.mono (by have:=j6.o.size;have:=HS.o;omega),hu.mono (by have:=j6.o.size;have:=HS.o;omega)⟩;have M:Hid (val a=val Q*val b+val U/\val U<val b/\Up W0 wd):=⟨e9,m9,j6.o.trans (F2.mono j6.o.size)⟩;obtain⟨pv,cv,ev,_⟩:=id hv;obtain⟨pu,cu,eu,_⟩:=id hu;subst ev eu;clear hv hu e9 m9 F2))
   all_goals
    go_wp2
    go_meet
    exact⟨_,_,_,_,_,_,Q,U,rfl,rfl,o5.o,M.o.1,M.o.2.1,M.o.2.2⟩
  obtain⟨pv,lv,cv,pu,lu,cu,Q,U,rfl,rfl,u2,e9,m9,i7⟩:=hcut;have o5:Hid (∀ W,Up wc W->Kz (w.heap.size+4) W (.slice pv lv cv) Q/\Kz (w.heap.size+4) W (.slice pu lu cu) U):=fun W hW=>⟨u2.1.bl hW,u2.2.bl hW⟩;have M:Hid (val a=val Q*val b+val U/\val U<val b):=⟨e9,m9⟩;have d4:=Hd i7;obtain⟨w1,W2⟩:=Oa wc;subst W2;clear u2 e9 m9 i7 a0 a1 a2 b0 b1 b2 r0 r1 r2 t0 t1 t2;obtain⟨a0,a1,a2,b0,b1,b2,r0,r1,r2,t0,t1,t2,f⟩:=d6.o _ d4.o;clear f;have T0:w.heap.size<wc.heap.size:=by have:=d4.o.size;have:=HS.o;omega
  have U2:w.heap.size+1<wc.heap.size:=by have:=d4.o.size;have:=HS.o;omega
  go_upto_region 10 with fail
  go_cut [10] (fun s10 wx=>∃ (gq:Nat) (z0:Int) (zn:Bool) (za:Option Addr) (zl zc:Nat),s10=.pointer (some ⟨gq,0,none⟩)/\W0.heap.size<=gq/\BoxV gq wx z0 zn za zl zc/\G0 (w.heap.size+4) wx (.agg #[.int .i64 z0,.bool zn,.slice za zl zc]) (sg (s != t) (val Q))/\Up wc wx)
  case first=>
   go_region_with (first
    | (go_at_call_of 124 (Value.int IntKind.i64 x);refine (E0 _ _ _ _ _ _).mono ?_;rintro e w' ⟨rfl,rfl⟩;rw[y8.o])
    | (go_at_call_of 124 (Value.int IntKind.i64 y);refine (E0 _ _ _ _ _ _).mono ?_;rintro e w' ⟨rfl,rfl⟩;rw[y9.o])
    | (go_at_call 126;refine (Dw (w.heap.size+4) _ _ Q wc _ (o5.o wc (Je _ _)).1 ?_).mono ?_
       ·repeat' (first|exact Je _ _|refine Below.drew ?_|refine Below.alloc ?_ ?_ _|(simp;done)|(simp;omega))
       rintro e we ⟨z,rfl,b6,H0,p7⟩;have hN:G0 (w.heap.size+4) we z (sg (s != t) (val Q)):=⟨s != t,Og Q,b6,by rw[O4]⟩;have HN:=Hd hN;have g9:=Hd H0;have D1:∀ g,BoxV g _ 0 false none 0 0->BoxV g we 0 false none 0 0:=fun g h=>h.bl h.lt p7;have r7:=E8 D1;have hcl:=fun (i:Nat) (g:Nat) hp=>p7.cell (p:=⟨g,i,none⟩) hp;have hfz:=fun (i:Nat) (g:Nat) hp=>p7.frozen (p:=⟨g,i,none⟩) hp;obtain⟨z0,zn,za,zl,zc,n5⟩:=hN.shape;subst n5;clear b6 H0 hN p7 D1))
   all_goals
    go_wp2
    go_meet
    first
     | exact⟨we.heap.size,z0,zn,za,zl,zc,rfl,(by have:=g9.o.size;have:=d4.o.size;omega),Ia we z0 zn za zl zc _,HN.o.bl (Oz _ _),g9.o.alloc g9.o.size _⟩
     | (have hbv:BoxV wc.heap.size we 0 false none 0 0:=r7.o _ (by repeat' (first|exact Ip _ _ (by simp) _ _ _ _ _ _|refine BoxV.alloc ?_ _|refine BoxV.drew ?_));exact⟨wc.heap.size,z0,zn,za,zl,zc,rfl,(by have:=d4.o.size;omega),hbv.put z0 zn za zl zc,HN.o.keeps hbv.n hbv.n (Ka.three _ _ _ _ _),((g9.o.setCell (by simp) _).setCell (by simp) _).setCell (by simp) _⟩)
     | (have hbv:BoxV (wc.heap.size+1) we 0 false none 0 0:=r7.o _ (by repeat' (first|exact Ip _ _ (by simp) _ _ _ _ _ _|refine BoxV.alloc ?_ _|refine BoxV.drew ?_));exact⟨wc.heap.size+1,z0,zn,za,zl,zc,rfl,(by have:=d4.o.size;omega),hbv.put z0 zn za zl zc,HN.o.keeps hbv.n hbv.n (Ka.three _ _ _ _ _),((g9.o.setCell (by simp) _).setCell (by simp) _).setCell (by simp) _⟩)
     | (have hbv:BoxV (wc.heap.size+1+1) we 0 false none 0 0:=r7.o _ (by repeat' (first|exact Ip _ _ (by simp) _ _ _ _ _ _|refine BoxV.alloc ?_ _|refine BoxV.drew ?_));exact⟨wc.heap.size+1+1,z0,zn,za,zl,zc,rfl,(by have:=d4.o.size;omega),hbv.put z0 zn za zl zc,HN.o.keeps hbv.n hbv.n (Ka.three _ _ _ _ _),((g9.o.setCell (by simp;omega) _).setCell (by simp;omega) _).setCell (by simp;omega) _⟩)
  obtain⟨gq,z0,zn,za,zl,zc,rfl,H1,hbv,hN,i7⟩:=hcut;have j7:Hid (W0.heap.size<=gq/\BoxV gq wc z0 zn za zl zc/\G0 (w.heap.size+4) wc (.agg #[.int .i64 z0,.bool zn,.slice za zl zc]) (sg (s != t) (val Q))):=⟨H1,hbv,hN⟩;have L5:=d4.up i7;have M2:Hid (Kz (w.heap.size+4) wc (.slice pu lu cu) U):=(o5.o wc i7).2;clear H1 hbv hN i7 a0 a1 a2 b0 b1 b2 r0 r1 r2 t0 t1 t2 T0 U2
  go_wp2_with fail
  refine (Dw (w.heap.size+4) false _ U wc wc M2.o (Je _ _)).mono ?_;rintro e w2 ⟨zr,rfl,b6,hb2,_⟩;have y7:=Hd b6;have r4:=Hd hb2;obtain⟨y0,b7,ya,yl,yc,n5⟩:=b6.shape;subst n5;clear b6 hb2;obtain⟨w3,p8⟩:=Oa (w2.alloc (.cells #[.int .i64 y0,.bool b7,.slice ya yl yc] 119));have N1:=E8 p8;have t8:Up w2 w3:=by rw[<-p8];exact Oz _ _
  have p4:Up wc w3:=r4.o.trans (t8.mono r4.o.size);have y2:=L5.up p4;have o4:Hid (BoxV gq w3 z0 zn za zl zc/\G0 (w.heap.size+4) w3 (.agg #[.int .i64 z0,.bool zn,.slice za zl zc]) (sg (s != t) (val Q))/\gq<w2.heap.size):=⟨j7.o.2.1.bl j7.o.2.1.lt p4,j7.o.2.2.bl p4,Jq j7.o.2.1.lt r4.o.size⟩;have s3:Hid (BoxV w2.heap.size w3 y0 b7 ya yl yc/\G0 (w.heap.size+4) w3 (.agg #[.int .i64 y0,.bool b7,.slice ya yl yc]) (sg false (val U))):=by
   refine⟨by rw[<-p8];exact Ia _ _ _ _ _ _ _,⟨false,Og U,y7.o.bl t8,by rw[O4]⟩⟩
  have N9:Hid ((((yl:Int)==0)&&(y0==0))=decide (val U=0)):=by
   have h:=Fh y7.o;rw[O4] at h;exact h
  clear p8 t8 p4;obtain⟨a0,a1,a2,b0,b1,b2,r0,r1,r2,t0,t1,t2,f⟩:=d6.o _ y2.o;clear f
  go_upto_region 12 with fail
  rw[N1.o]
  go_wp2_with fail
  refine (E0 _ _ _ _ _ _).mono ?_;rintro e w4 ⟨rfl,K0⟩;rw[y8.o];have h8:Up w3 w4:=by rw[K0];exact Oz _ _
  have r5:=y2.up h8;have f9:Hid (BoxV gq w4 z0 zn za zl zc/\G0 (w.heap.size+4) w4 (.agg #[.int .i64 z0,.bool zn,.slice za zl zc]) (sg (s != t) (val Q))/\gq<w2.heap.size):=⟨o4.o.1.bl o4.o.1.lt h8,o4.o.2.1.bl h8,o4.o.2.2⟩;have j9:Hid (BoxV w2.heap.size w4 y0 b7 ya yl yc/\G0 (w.heap.size+4) w4 (.agg #[.int .i64 y0,.bool b7,.slice ya yl yc]) (sg false (val U))):=⟨s3.o.1.bl s3.o.1.lt h8,s3.o.2.bl h8⟩;clear K0 h8 a0 a1 a2 b0 b1 b2 r0 r1 r2 t0 t1 t2;obtain⟨a0,a1,a2,b0,b1,b2,r0,r1,r2,t0,t1,t2,f⟩:=d6.o _ r5.o;have k9:=f 2 (by omega) 0;have l0:=f 2 (by omega) 1;have l1:=f 2 (by omega) 2;have l2:=f 3 (by omega) 0;have l3:=f 3 (by omega) 1;have l4:=f 3 (by omega) 2;clear f;obtain⟨_,q0,q1,q2,fq,_⟩:=f9.o.1;obtain⟨_,g0,g1,g2,fg,_⟩:=j9.o.1;clear fq fg;have hq4:w.heap.size+4<=gq:=by have:=j7.o.1;have:=HS.o;omega
  have hr4:w.heap.size+4<=w2.heap.size:=by have:=f9.o.2.2;omega
  have f8:Hid (Up w w4):=HF.o _ r5.o
  cases s
  ·go_wp2
   go_region
   all_goals
    go_wp2
    refine Jg ?_ rfl ⟨_,_,_,_,rfl,⟨((((((f9.o.2.1.setCell _ _ ?_).setCell _ _ ?_).setCell _ _ ?_).setCell _ _ ?_).setCell _ _ ?_).setCell _ _ ?_).drew.mono ?_,((((((j9.o.2.setCell _ _ ?_).setCell _ _ ?_).setCell _ _ ?_).setCell _ _ ?_).setCell _ _ ?_).setCell _ _ ?_).drew.mono ?_⟩,Al t _ _ _ _ M.o.1 M.o.2,((((((f8.o.setCell ?_ _).setCell ?_ _).setCell ?_ _).setCell ?_ _).setCell ?_ _).setCell ?_ _).drew⟩
    all_goals first
     | (simp[results,results129,go_sem,r0,r1,r2,t0,t1,t2];done)
     | (simp;omega)
     | omega
  go_wp2_with fail
  refine (Aw _ _ _ _ _ _).mono ?_;rintro e w5 ⟨rfl,h9⟩;rw[N9.o];have j5:=r5.up h9;have h0:Hid (BoxV gq w5 z0 zn za zl zc/\G0 (w.heap.size+4) w5 (.agg #[.int .i64 z0,.bool zn,.slice za zl zc]) (sg (true != t) (val Q))/\gq<w2.heap.size):=⟨f9.o.1.bl f9.o.1.lt h9,f9.o.2.1.bl h9,f9.o.2.2⟩;have h1:Hid (BoxV w2.heap.size w5 y0 b7 ya yl yc/\G0 (w.heap.size+4) w5 (.agg #[.int .i64 y0,.bool b7,.slice ya yl yc]) (sg false (val U))):=⟨j9.o.1.bl j9.o.1.lt h9,j9.o.2.bl h9⟩;have f8:Hid (Up w w5):=HF.o _ j5.o;clear h9 a0 a1 a2 b0 b1 b2 r0 r1 r2 t0 t1 t2 k9 l0 l1 l2 l3 l4 q0 q1 q2 g0 g1 g2;obtain⟨a0,a1,a2,b0,b1,b2,r0,r1,r2,t0,t1,t2,f⟩:=d6.o _ j5.o;have k9:=f 2 (by omega) 0;have l0:=f 2 (by omega) 1;have l1:=f 2 (by omega) 2;have l2:=f 3 (by omega) 0;have l3:=f 3 (by omega) 1;have l4:=f 3 (by omega) 2;clear f;obtain⟨_,q0,q1,q2,fq,_⟩:=h0.o.1;obtain⟨_,g0,g1,g2,fg,_⟩:=h1.o.1;have l5:=fg 0;have l6:=fg 1;have l7:=fg 2;have o7:=fq 0;have o8:=fq 1;have o9:=fq 2;clear fq fg
  by_cases hU:val U=0
  ·have zz:decide (val U=0)=true:=Ja hU;have L6:Hid (Nw (sg true (val a)) (sg t (val b)) (sg (true != t) (val Q)) (sg false (val U))):=by
    have h:=M.o;rw[hU] at h ⊢;exact Lf t _ _ _ h.1 h.2
   rw[zz];clear hU
   go_wp2
   go_region
   all_goals
    go_wp2
    refine Jg ?_ rfl ⟨_,_,_,_,rfl,⟨((((((h0.o.2.1.setCell _ _ ?_).setCell _ _ ?_).setCell _ _ ?_).setCell _ _ ?_).setCell _ _ ?_).setCell _ _ ?_).drew.mono ?_,((((((h1.o.2.setCell _ _ ?_).setCell _ _ ?_).setCell _ _ ?_).setCell _ _ ?_).setCell _ _ ?_).setCell _ _ ?_).drew.mono ?_⟩,L6.o,((((((f8.o.setCell ?_ _).setCell ?_ _).setCell ?_ _).setCell ?_ _).setCell ?_ _).setCell ?_ _).drew⟩
    all_goals first
     | (simp[results,results129,go_sem,r0,r1,r2,t0,t1,t2];done)
     | (simp;omega)
     | omega
  have zz:decide (val U=0)=false:=Jc hU;rw[zz];have A9:Hid (0<val U):=Ys hU;clear hU
  go_wp2_with fail
  refine (El B _ nb b _ (D0.o _ j5.o) (by have:=j5.o.size;have:=HS.o;have:=Y.o;omega)).mono ?_;rintro e w6 ⟨v6,rfl,u6,D2⟩;have M4:=Hd u6;have L3:=Hd D2;obtain⟨p6,c6,e6,_⟩:=id u6;subst e6;clear u6 D2
  go_wp2_with fail
  refine (Dw B false _ b w6 w6 M4.o (Je _ _)).mono ?_;rintro e w7 ⟨zs,rfl,b6,E1,_⟩;have M0:=Hd b6;have r6:=L3.up E1;obtain⟨x0,x7,xa,xl,xc,n5⟩:=b6.shape;subst n5;clear b6 E1;obtain⟨w8,p9⟩:=Oa (w7.alloc (.cells #[.int .i64 x0,.bool x7,.slice xa xl xc] 119));have N6:=E8 p9;have m5:Up w7 w8:=by rw[<-p9];exact Oz _ _
  have h7:Up w5 w8:=r6.o.trans (m5.mono r6.o.size);have y3:=j5.up h7;have e0:Hid (BoxV gq w8 z0 zn za zl zc/\G0 (w.heap.size+4) w8 (.agg #[.int .i64 z0,.bool zn,.slice za zl zc]) (sg (true != t) (val Q))/\gq<w2.heap.size):=⟨h0.o.1.bl h0.o.1.lt h7,h0.o.2.1.bl h7,h0.o.2.2⟩;have k0:Hid (BoxV w2.heap.size w8 y0 b7 ya yl yc/\G0 (w.heap.size+4) w8 (.agg #[.int .i64 y0,.bool b7,.slice ya yl yc]) (sg false (val U))/\w2.heap.size<w7.heap.size):=⟨h1.o.1.bl h1.o.1.lt h7,h1.o.2.bl h7,Jq h1.o.1.lt r6.o.size⟩;have A6:Hid (BoxV w7.heap.size w8 x0 x7 xa xl xc/\Gy B w8 (.agg #[.int .i64 x0,.bool x7,.slice xa xl xc]) false (Og b)):=⟨by rw[<-p9];exact Ia _ _ _ _ _ _ _,M0.o.bl m5⟩;clear p9 m5 h7 a0 a1 a2 b0 b1 b2 r0 r1 r2 t0 t1 t2 k9 l0 l1 l2 l3 l4 q0 q1 q2 g0 g1 g2 l5 l6 l7 o7 o8 o9;obtain⟨_,g0,g1,g2,fg,_⟩:=k0.o.1;obtain⟨_,s0,s1,s2,fs,_⟩:=A6.o.1;have l5:=fg 0;have l6:=fg 1;have l7:=fg 2;clear fs fg
  go_upto_region 14 with fail
  rw[N6.o]
  go_wp2_with fail
  obtain⟨nr,tr,t7,u9⟩:=k0.o.2.1;have H7:val tr=val U:=by cases nr<;>simp[sg] at u9<;>omega
  have P1:tr.length<=b.length:=Pi tr b t7.2.1 z6.o (by rw[H7];exact M.o.2);refine (At B _ _ false nr (Og b) tr _ (by have:=y3.o.size;have:=HS.o;have:=Y.o;omega) A6.o.2 (t7.mono (by have:=Y.o;omega)) (by have:=Kd b;have:=d7.o.2.1;omega) (by have:=d7.o.2.1;omega)).mono ?_;rintro e w9 ⟨z9,rfl,p5,i6⟩;have M1:Hid (G0 w8.heap.size w9 z9 (sg false (val b - val U:Nat))):=by
   have e:sg false (val (Og b)) - sg nr (val tr)=sg false (val b - val U:Nat):=by rw[u9,O4];have:=M.o.2;simp[sg];omega
   rw[e] at p5;exact p5
  have o6:Hid (BoxV w2.heap.size w9 y0 b7 ya yl yc):=k0.o.1.bl k0.o.1.lt i6;have z7:Hid (BoxV gq w9 z0 zn za zl zc/\G0 (w.heap.size+4) w9 (.agg #[.int .i64 z0,.bool zn,.slice za zl zc]) (sg (true != t) (val Q))):=⟨e0.o.1.bl e0.o.1.lt i6,e0.o.2.1.bl i6⟩;have y5:=y3.up i6;have d8:Hid (w2.heap.size<w8.heap.size):=k0.o.1.lt;have y4:Hid (w8.heap.size<=w9.heap.size):=i6.size;obtain⟨n0,nn,np,nl,nc,Q2⟩:=p5.shape;subst Q2;clear t7 u9 H7 P1 p5 i6 g0 g1 g2 s0 s1 s2 l5 l6 l7;obtain⟨_,g0,g1,g2,fg,_⟩:=o6.o;have l5:=fg 0;have l6:=fg 1;have l7:=fg 2;clear fg;obtain⟨d3,b4⟩:=Oa (((w9.setCell ⟨w2.heap.size,0,none⟩ (.int .i64 n0)).setCell ⟨w2.heap.size,1,none⟩ (.bool nn)).setCell ⟨w2.heap.size,2,none⟩ (.slice np nl nc));have B9:=E8 b4;have m6:Ka w2.heap.size w2.heap.size w9 d3:=by rw[<-b4];exact Ka.three _ _ _ _ _
  have e3:Hid (BoxV w2.heap.size d3 n0 nn np nl nc/\G0 w8.heap.size d3 (.agg #[.int .i64 n0,.bool nn,.slice np nl nc]) (sg false (val b - val U:Nat))):=by
   rw[<-b4];exact⟨o6.o.put _ _ _ _ _,((M1.o.setCell _ _ d8.o).setCell _ _ d8.o).setCell _ _ d8.o⟩
  have j8:Hid (BoxV gq d3 z0 zn za zl zc/\G0 (w.heap.size+4) d3 (.agg #[.int .i64 z0,.bool zn,.slice za zl zc]) (sg (true != t) (val Q))):=⟨z7.o.1.other (by have:=e0.o.2.2;omega) m6,z7.o.2.keeps o6.o.n o6.o.n m6⟩;have q5:Hid (Up w d3):=by
   rw[<-b4];exact (((HF.o _ y5.o).setCell (by show w.heap.size<=w2.heap.size;omega) _).setCell (by show w.heap.size<=w2.heap.size;omega) _).setCell (by show w.heap.size<=w2.heap.size;omega) _
  have q7:Hid (BoxQ w.heap.size d3 x xn pa la ca y yn pb lb cb/\w8.heap.size<=d3.heap.size):=by
   refine⟨?_,by rw[<-b4];simpa using y4.o⟩;rw[<-b4];exact (((d6.o _ y5.o).far _ (by show w.heap.size+4<=w2.heap.size;omega) _).far _ (by show w.heap.size+4<=w2.heap.size;omega) _).far _ (by show w.heap.size+4<=w2.heap.size;omega) _
  clear b4 m6
  go_upto_region 15 with fail
  rw[B9.o];clear g0 g1 g2 l5 l6 l7;obtain⟨a0,a1,a2,b0,b1,b2,r0,r1,r2,t0,t1,t2,f⟩:=q7.o.1;clear f
  go_wp2_with fail
  refine (E0 _ _ _ _ _ _).mono ?_;rintro e j ⟨rfl,q9⟩;rw[y9.o];have V:Up d3 j:=by rw[q9];exact Oz _ _
  have A:Hid (BoxV gq j z0 zn za zl zc/\G0 (w.heap.size+4) j (.agg #[.int .i64 z0,.bool zn,.slice za zl zc]) (sg (true != t) (val Q))):=⟨j8.o.1.bl j8.o.1.lt V,j8.o.2.bl V⟩;have b8:Hid (BoxV w2.heap.size j n0 nn np nl nc/\G0 w8.heap.size j (.agg #[.int .i64 n0,.bool nn,.slice np nl nc]) (sg false (val b - val U:Nat))):=⟨e3.o.1.bl e3.o.1.lt V,e3.o.2.bl V⟩;have b9:Hid (w.heap.size+4<=j.heap.size):=by have:=V.size;have:=e3.o.1.lt;show w.heap.size+4<=j.heap.size;omega
  have Z:Hid (BoxQ w.heap.size j x xn pa la ca y yn pb lb cb/\Up w j):=⟨q7.o.1.bl (by have:=e3.o.1.lt;omega) V,q5.o.trans (V.mono q5.o.size)⟩;have z8:Hid (val Q<=val a):=by
   have h:=M.o;have hp:1<=val b:=by omega
   have:val Q*1<=val Q*val b:=Yb _ hp
   show val Q<=val a
   omega
  clear q9 V a0 a1 a2 b0 b1 b2 r0 r1 r2 t0 t1 t2;obtain⟨a0,a1,a2,b0,b1,b2,r0,r1,r2,t0,t1,t2,f⟩:=Z.o.1;obtain⟨_,q0,q1,q2,fq,_⟩:=A.o.1;have o7:=fq 0;have o8:=fq 1;have o9:=fq 2;clear f fq
  cases t
  ·go_wp2
   go_region_with (first
    | (go_at_call 125;refine (Xk 1 _ (by omega) (by omega)).mono ?_
       rintro e K ⟨z1,rfl,⟨n1,o1,g4,n2,m7⟩,b3⟩;have a7:Up j K:=(Je _ j).drew.trans (b3.mono leR);obtain⟨nq,tq,g5,g8⟩:=A.o.2;have n3:val tq=val Q:=by cases nq<;>simp[sg] at g8<;>omega
       have m8:tq.length<=a.length:=Rm tq a g5.2.1 q6.o (by rw[n3];exact z8.o);obtain⟨i0,i1,i2,i3,i4,n4⟩:=g4.shape;subst n4;have d:Hid (Gy j.heap.size K (.agg #[.int .i64 i0,.bool i1,.slice i2 i3 i4]) n1 o1/\sg n1 (val o1)=1/\o1.length<=3/\Up j K/\Gy (w.heap.size+4) j (.agg #[.int .i64 z0,.bool zn,.slice za zl zc]) nq tq/\tq.length<=a.length):=⟨g4,n2,m7,a7,g5,m8⟩;have s4:=Hd g8;obtain⟨_,W7,W8,W9,_,_⟩:=A.o.1.bl A.o.1.lt a7;clear g4 n2 m7 b3 a7 g5 g8 n3 m8)
    | (go_at_call 143;refine (At B _ _ nq n1 tq o1 _ (by have:=d.o.2.2.2.1.size;have:=b9.o;have:=Y.o;omega) ((d.o.2.2.2.2.1.bl d.o.2.2.2.1).mono (by have:=Y.o;omega)) (d.o.1.mono (by have:=b9.o;have:=Y.o;omega)) (by have:=d7.o.1;have:=d.o.2.2.2.2.2;omega) (by have:=d.o.2.2.1;omega)).mono ?_
       rintro e J ⟨zq,rfl,a8,e8⟩;have G:Up j J:=d.o.2.2.2.1.trans (e8.mono d.o.2.2.2.1.size);have r9:Hid (G0 K.heap.size J zq (sg true (val Q+1))):=by
        rw[s4.o,d.o.2.1] at a8;have e:sg (true != false) (val Q) - 1=sg true (val Q+1):=by simp[sg]<;>omega
        rw[e] at a8;exact a8
       have E:Hid (BoxV gq J z0 zn za zl zc/\gq<K.heap.size):=⟨A.o.1.bl A.o.1.lt G,Jq A.o.1.lt d.o.2.2.2.1.size⟩;have e4:Hid (BoxV w2.heap.size J n0 nn np nl nc/\G0 w8.heap.size J (.agg #[.int .i64 n0,.bool nn,.slice np nl nc]) (sg false (val b - val U:Nat))):=⟨b8.o.1.bl b8.o.1.lt G,b8.o.2.bl G⟩;have e7:Hid (BoxQ w.heap.size J x xn pa la ca y yn pb lb cb/\Up w J):=⟨Z.o.1.bl (by have:=b9.o;omega) G,Z.o.2.trans (G.mono Z.o.2.size)⟩;obtain⟨m0,mn,mp,ml,mc,u1⟩:=a8.shape;subst u1;obtain⟨_,v0,v1,v2,fv,_⟩:=E.o.1;have s5:=fv 0;have s6:=fv 1;have s7:=fv 2;clear a8 e8 G fv))
   all_goals
    try simp only[Y3,Yv,Yp,Act.put,Jp,Jz,J0]
    clear a0 a1 a2 b0 b1 b2 r0 r1 r2 t0 t1 t2 q0 q1 q2 o7 o8 o9 v0 v1 v2 s5 s6 s7;obtain⟨O,I⟩:=Oa (((J.setCell ⟨gq,0,none⟩ (.int .i64 m0)).setCell ⟨gq,1,none⟩ (.bool mn)).setCell ⟨gq,2,none⟩ (.slice mp ml mc));have k7:=E8 I;have g7:w.heap.size<=gq:=by omega
    have g6:gq<w8.heap.size:=by have:=d8.o;have:=e0.o.2.2;omega
    have d9:Hid (BoxV gq O m0 mn mp ml mc/\G0 K.heap.size O (.agg #[.int .i64 m0,.bool mn,.slice mp ml mc]) (sg true (val Q+1))):=by
     rw[<-I];exact⟨E.o.1.put _ _ _ _ _,((r9.o.setCell _ _ E.o.2).setCell _ _ E.o.2).setCell _ _ E.o.2⟩
    have e5:Hid (BoxV w2.heap.size O n0 nn np nl nc/\G0 w8.heap.size O (.agg #[.int .i64 n0,.bool nn,.slice np nl nc]) (sg false (val b - val U:Nat))):=by
     rw[<-I];exact⟨e4.o.1.other (by have:=e0.o.2.2;omega) (Ka.three _ _ _ _ _),((e4.o.2.setCell _ _ g6).setCell _ _ g6).setCell _ _ g6⟩
    have k8:Hid (BoxQ w.heap.size O x xn pa la ca y yn pb lb cb):=by
     rw[<-I];exact ((e7.o.1.far _ (by show w.heap.size+4<=gq;omega) _).far _ (by show w.heap.size+4<=gq;omega) _).far _ (by show w.heap.size+4<=gq;omega) _
    have f8:Hid (Up w O):=by
     rw[<-I];exact ((e7.o.2.setCell g7 _).setCell g7 _).setCell g7 _
    have r8:Hid (Nw (sg true (val a)) (sg false (val b)) (sg true (val Q+1)) (sg false (val b - val U:Nat))):=Da false _ _ _ _ _ M.o.1 (by have:=M.o.2;omega) A9.o;have b3:w.heap.size+4<=K.heap.size:=by have:=E.o.2;omega
    have m5:w.heap.size+4<=w8.heap.size:=by omega
    clear I
    go_upto_region 18 with fail
    rw[k7.o];obtain⟨_,_,_,_,_,_,r0,r1,r2,t0,t1,t2,f⟩:=k8.o;have k9:=f 2 (by omega) 0;have l0:=f 2 (by omega) 1;have l1:=f 2 (by omega) 2;have l2:=f 3 (by omega) 0;have l3:=f 3 (by omega) 1;have l4:=f 3 (by omega) 2;clear f;obtain⟨_,q0,q1,q2,fq,_⟩:=d9.o.1;obtain⟨_,g0,g1,g2,fg,_⟩:=e5.o.1;clear fq fg
    go_wp2
    go_region
    all_goals
     go_wp2
     refine Jg ?_ rfl ⟨_,_,_,_,rfl,⟨((((((d9.o.2.setCell _ _ ?_).setCell _ _ ?_).setCell _ _ ?_).setCell _ _ ?_).setCell _ _ ?_).setCell _ _ ?_).drew.mono ?_,((((((e5.o.2.setCell _ _ ?_).setCell _ _ ?_).setCell _ _ ?_).setCell _ _ ?_).setCell _ _ ?_).setCell _ _ ?_).drew.mono ?_⟩,r8.o,((((((f8.o.setCell ?_ _).setCell ?_ _).setCell ?_ _).setCell ?_ _).setCell ?_ _).setCell ?_ _).drew⟩
     all_goals first
      | (simp[results,results129,go_sem,r0,r1,r2,t0,t1,t2];done)
      | (simp;omega)
      | omega
  go_wp2
  go_region_with (first
   | (go_at_call 125;refine (Xk 1 _ (by omega) (by omega)).mono ?_
      rintro e K ⟨z1,rfl,⟨n1,o1,g4,n2,m7⟩,b3⟩;have a7:Up j K:=(Je _ j).drew.trans (b3.mono leR);obtain⟨nq,tq,g5,g8⟩:=A.o.2;have n3:val tq=val Q:=by cases nq<;>simp[sg] at g8<;>omega
      have m8:tq.length<=a.length:=Rm tq a g5.2.1 q6.o (by rw[n3];exact z8.o);obtain⟨i0,i1,i2,i3,i4,n4⟩:=g4.shape;subst n4;have d:Hid (Gy j.heap.size K (.agg #[.int .i64 i0,.bool i1,.slice i2 i3 i4]) n1 o1/\sg n1 (val o1)=1/\o1.length<=3/\Up j K/\Gy (w.heap.size+4) j (.agg #[.int .i64 z0,.bool zn,.slice za zl zc]) nq tq/\tq.length<=a.length):=⟨g4,n2,m7,a7,g5,m8⟩;have s4:=Hd g8;obtain⟨_,W7,W8,W9,_,_⟩:=A.o.1.bl A.o.1.lt a7;clear g4 n2 m7 b3 a7 g5 g8 n3 m8)
   | (go_at_call 144;refine (As B _ _ nq n1 tq o1 _ (by have:=d.o.2.2.2.1.size;have:=b9.o;have:=Y.o;omega) ((d.o.2.2.2.2.1.bl d.o.2.2.2.1).mono (by have:=Y.o;omega)) (d.o.1.mono (by have:=b9.o;have:=Y.o;omega)) (by have:=d7.o.1;have:=d.o.2.2.2.2.2;omega) (by have:=d.o.2.2.1;omega)).mono ?_
      rintro e J ⟨zq,rfl,a8,e8⟩;have G:Up j J:=d.o.2.2.2.1.trans (e8.mono d.o.2.2.2.1.size);have r9:Hid (G0 K.heap.size J zq (sg false (val Q+1))):=by
       rw[s4.o,d.o.2.1] at a8;have e:sg (true != true) (val Q)+1=sg false (val Q+1):=by simp[sg]<;>omega
       rw[e] at a8;exact a8
      have E:Hid (BoxV gq J z0 zn za zl zc/\gq<K.heap.size):=⟨A.o.1.bl A.o.1.lt G,Jq A.o.1.lt d.o.2.2.2.1.size⟩;have e4:Hid (BoxV w2.heap.size J n0 nn np nl nc/\G0 w8.heap.size J (.agg #[.int .i64 n0,.bool nn,.slice np nl nc]) (sg false (val b - val U:Nat))):=⟨b8.o.1.bl b8.o.1.lt G,b8.o.2.bl G⟩;have e7:Hid (BoxQ w.heap.size J x xn pa la ca y yn pb lb cb/\Up w J):=⟨Z.o.1.bl (by have:=b9.o;omega) G,Z.o.2.trans (G.mono Z.o.2.size)⟩;obtain⟨m0,mn,mp,ml,mc,u1⟩:=a8.shape;subst u1;obtain⟨_,v0,v1,v2,fv,_⟩:=E.o.1;have s5:=fv 0;have s6:=fv 1;have s7:=fv 2;clear a8 e8 G fv))
  all_goals
   try simp only[Y3,Yv,Yp,Act.put,Jp,Jz,J0]
   clear a0 a1 a2 b0 b1 b2 r0 r1 r2 t0 t1 t2 q0 q1 q2 o7 o8 o9 v0 v1 v2 s5 s6 s7;obtain⟨O,I⟩:=Oa (((J.setCell ⟨gq,0,none⟩ (.int .i64 m0)).setCell ⟨gq,1,none⟩ (.bool mn)).setCell ⟨gq,2,none⟩ (.slice mp ml mc));have k7:=E8 I;have g7:w.heap.size<=gq:=by omega
   have g6:gq<w8.heap.size:=by have:=d8.o;have:=e0.o.2.2;omega
   have d9:Hid (BoxV gq O m0 mn mp ml mc/\G0 K.heap.size O (.agg #[.int .i64 m0,.bool mn,.slice mp ml mc]) (sg false (val Q+1))):=by
    rw[<-I];exact⟨E.o.1.put _ _ _ _ _,((r9.o.setCell _ _ E.o.2).setCell _ _ E.o.2).setCell _ _ E.o.2⟩
   have e5:Hid (BoxV w2.heap.size O n0 nn np nl nc/\G0 w8.heap.size O (.agg #[.int .i64 n0,.bool nn,.slice np nl nc]) (sg false (val b - val U:Nat))):=by
    rw[<-I];exact⟨e4.o.1.other (by have:=e0.o.2.2;omega) (Ka.three _ _ _ _ _),((e4.o.2.setCell _ _ g6).setCell _ _ g6).setCell _ _ g6⟩
   have k8:Hid (BoxQ w.heap.size O x xn pa la ca y yn pb lb cb):=by
    rw[<-I];exact ((e7.o.1.far _ (by show w.heap.size+4<=gq;omega) _).far _ (by show w.heap.size+4<=gq;omega) _).far _ (by show w.heap.size+4<=gq;omega) _
   have f8:Hid (Up w O):=by
    rw[<-I];exact ((e7.o.2.setCell g7 _).setCell g7 _).setCell g7 _
   have r8:Hid (Nw (sg true (val a)) (sg true (val b)) (sg false (val Q+1)) (sg false (val b - val U:Nat))):=Da true _ _ _ _ _ M.o.1 (by have:=M.o.2;omega) A9.o;have b3:w.heap.size+4<=K.heap.size:=by have:=E.o.2;omega
   have m5:w.heap.size+4<=w8.heap.size:=by omega
   clear I
   go_upto_region 18 with fail
   rw[k7.o];obtain⟨_,_,_,_,_,_,r0,r1,r2,t0,t1,t2,f⟩:=k8.o;have k9:=f 2 (by omega) 0;have l0:=f 2 (by omega) 1;have l1:=f 2 (by omega) 2;have l2:=f 3 (by omega) 0;have l3:=f 3 (by omega) 1;have l4:=f 3 (by omega) 2;clear f;obtain⟨_,q0,q1,q2,fq,_⟩:=d9.o.1;obtain⟨_,g0,g1,g2,fg,_⟩:=e5.o.1;clear fq fg
   go_wp2
   go_region
   all_goals
    go_wp2
    refine Jg ?_ rfl ⟨_,_,_,_,rfl,⟨((((((d9.o.2.setCell _ _ ?_).setCell _ _ ?_).setCell _ _ ?_).setCell _ _ ?_).setCell _ _ ?_).setCell _ _ ?_).drew.mono ?_,((((((e5.o.2.setCell _ _ ?_).setCell _ _ ?_).setCell _ _ ?_).setCell _ _ ?_).setCell _ _ ?_).setCell _ _ ?_).drew.mono ?_⟩,r8.o,((((((f8.o.setCell ?_ _).setCell ?_ _).setCell ?_ _).setCell ?_ _).setCell ?_ _).setCell ?_ _).drew⟩
    all_goals first
     | (simp[results,results129,go_sem,r0,r1,r2,t0,t1,t2];done)
     | (simp;omega)
     | omega
end Go.Proofs.YtdmdmgfjpomdbaaGreatDoor.Q
