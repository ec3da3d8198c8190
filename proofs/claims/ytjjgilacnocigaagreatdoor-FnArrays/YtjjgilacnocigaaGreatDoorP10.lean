import Derived.Test.YtjjgilacnocigaaGreatDoorP09
import Derived.Deep.DeepCutAuto
set_option maxRecDepth 100000
set_option maxHeartbeats 40000000
namespace Go.Proofs.YtjjgilacnocigaaGreatDoor.Q
open ChangeShapes WideShapes ChangeAt RowKit Proofs.Tryz
theorem Fo (B:Nat)(neg:Bool)(v:Value)(l:List Nat)(w W:World)(h:Kn B w v l)(hb:Up w W) :
 Calls prog 147 #[.bool neg,v] W fun e w'=>∃ z,e=.returned z/\Ej B w' z neg (Ov l)/\Up w w'/\Up W w':=by
 refine (Nt B neg v l W (h.bl hb)).mono ?_;rintro e we ⟨z,rfl,j,d⟩;exact⟨z,rfl,(j _ _ (h.bl hb)).bl d,hb.trans (d.mono hb.size),d⟩
theorem XB (B:Nat)(x y:Int)(xn yn:Bool)(pa:Option Addr)(la ca:Nat)(pb:Option Addr)(lb cb:Nat)(na nb:Bool)(a b:List Nat)(w:World)(hBw:B<=w.heap.size)(hz:((la:Int)==0)=false∨((la:Int)==0)=true/\((lb:Int)==0)=false)
 (hza:Ej B w (.agg #[.int .i64 x,.bool xn,.slice pa la ca]) na a) (hzb:Ej B w (.agg #[.int .i64 y,.bool yn,.slice pb lb cb]) nb b) (s t:Bool) (ha:Rg x xn la=s) (hb:Rg y yn lb=t) (hla:a.length<=100000) (hlb:b.length<=100000) (hne:b≠[]) :
 Calls prog 114 #[.agg #[.int .i64 x,.bool xn,.slice pa la ca],.agg #[.int .i64 y,.bool yn,.slice pb lb cb]] w fun e w'=>∃ z1 z2 q r,e=.returned (.tuple #[z1,z2])/\(Nb w.heap.size w' z1 q/\Nb w.heap.size w' z2 r)/\Nf (sg s (val a)) (sg t (val b)) q r/\Up w w':=by
 have x8:=Hd ha;have x9:=Hd hb;have d4:Hid (a.length<=100000/\b.length<=100000/\b≠[]/\Oq b):=⟨hla,hlb,hne,hzb.2.1⟩;have y1:Hid (Kx b):=hzb.1;have p3:Hid (Kx a):=hza.1;have HX:=Mr w x xn pa la ca y yn pb lb cb 72;obtain⟨W0,l2⟩:=O2 ((((w.alloc (.cells #[.int .i64 x,.bool xn,.slice pa la ca] 72)).alloc (.cells #[.int .i64 y,.bool yn,.slice pb lb cb] 72)).alloc (.cells #[.int .i64 0,.bool false,.slice none 0 0] 72)).alloc (.cells #[.int .i64 0,.bool false,.slice none 0 0] 72));have M1:=Em l2;have l1:Up w W0:=by rw[<-l2];exact Ou (Ou (Ou (Oo _ _) _) _) _
 have HB0:=Em l1;have F2:W0.heap.size=w.heap.size+4:=by rw[<-l2];simp
 rw[l2] at HX;have HS:=Em F2;have V:=Hd hBw;have d3:Hid (∀ W,Up W0 W->BoxQ w.heap.size W x xn pa la ca y yn pb lb cb):=fun W hW=>HX.bl (by omega) hW;have HF:Hid (∀ W,Up W0 W->Up w W):=fun W hW=>l1.trans (hW.mono (by omega));have M8:Hid (∀ W,Up W0 W->Ej B W (.agg #[.int .i64 x,.bool xn,.slice pa la ca]) na a):=fun W hW=>(hza.bl l1).bl hW;have y9:Hid (∀ W,Up W0 W->Ej B W (.agg #[.int .i64 y,.bool yn,.slice pb lb cb]) nb b):=fun W hW=>(hzb.bl l1).bl hW;obtain⟨a0,a1,a2,b0,b1,b2,r0,r1,r2,t0,t1,t2,f⟩:=HX;clear f l2 F2 ha hb hza hzb l1 hBw hne
 go_in
 go_wp2_with fail
 rw[M1.o];refine (O0 _ _ _ _ _ _).mono ?_;rintro e wA ⟨rfl,hA⟩;have n3:Hid (Up W0 wA):=by rw[hA];exact Oo _ _
 clear hA a0 a1 a2 b0 b1 b2 r0 r1 r2 t0 t1 t2;obtain⟨a0,a1,a2,b0,b1,b2,r0,r1,r2,t0,t1,t2,f⟩:=d3.o wA n3.o;clear f;have x6:Hid (∃ W1,Up W0 W1/\((((la:Int)==0)=false/\wA=W1)∨(((la:Int)==0)=true/\((lb:Int)==0)=false/\wA.alloc (.cells #[.int .i64 y,.bool yn,.slice pb lb cb] 72)=W1))):=by
  rcases hz with h|⟨h,h'⟩
  ·exact⟨_,n3.o,.inl ⟨h,rfl⟩⟩
  exact⟨_,n3.o.alloc n3.o.size _,.inr ⟨h,h',rfl⟩⟩
 obtain⟨W1,p5,m5⟩:=x6.o;have c8:=Hd p5;clear hz x6 p5
 rcases m5 with⟨hz,r8⟩|⟨hz,V2,r8⟩
 all_goals
  have M2:=Em r8;clear r8;rw[hz]
  go_upto_region 9 with (go_at_call 106;refine (O0 _ _ _ _ _ _).mono ?_;rintro e w' ⟨rfl,rfl⟩;try rw[V2])
  rw[M2.o];clear a0 a1 a2 b0 b1 b2 r0 r1 r2 t0 t1 t2;obtain⟨a0,a1,a2,b0,b1,b2,r0,r1,r2,t0,t1,t2,f⟩:=d3.o W1 c8.o;clear f
  go_cut [8,9] (fun s8 s9 wx=>∃ (pv:Option Addr) (lv cv:Nat) (pu:Option Addr) (lu cu:Nat) (Q U:List Nat),s8=.slice pv lv cv/\s9=.slice pu lu cu/\(Kn (w.heap.size+4) wx (.slice pv lv cv) Q/\Kn (w.heap.size+4) wx (.slice pu lu cu) U)/\val a=val Q*val b+val U/\val U<val b/\Up W0 wx)
  case first=>
   go_region_with (first
    | (go_at_call_of 73 (Value.int IntKind.i64 x);refine (F7 B _ na a _ (M8.o _ c8.o.drew) (by have:=c8.o.size;have:=HS.o;have:=V.o;show B<=W1.heap.size;omega)).mono ?_
       rintro e wa ⟨va,rfl,t6,H0,D0⟩;have y6:Hid (Kn B wa va a/\(a=[]->va=.slice none 0 0)):=⟨t6,H0⟩;have n4:Hid (Up W0 wa):=c8.o.drew.trans (D0.mono c8.o.size);obtain⟨c0,c1,c2,d0,d1,d2,_,_,_,_,_,_,f⟩:=d3.o wa n4.o;obtain⟨q1,k1,e1,_⟩:=id t6;subst e1;clear t6 H0 D0 f)
    | (go_at_call_of 73 (Value.int IntKind.i64 y);refine (F7 B _ nb b _ (y9.o _ n4.o) (by have:=n4.o.size;have:=HS.o;have:=V.o;omega)).mono ?_
       rintro e wb ⟨vb,rfl,t7,_,s4⟩;have L9:=Hd t7;have y7:Hid (Kn B wb (.slice q1 a.length k1) a):=y6.o.1.bl s4;have j0:=n4.up s4;obtain⟨q2,k2,e2,_⟩:=id t7;subst e2;clear t7 s4)
    | (go_at_call 151;refine (KM B _ _ a b _ (by have:=j0.o.size;have:=HS.o;have:=V.o;omega) d4.o.1 y7.o y6.o.2 L9.o d4.o.2.1 d4.o.2.2.2 d4.o.2.2.1).mono ?_
       rintro e wd ⟨v,u,Q,U,rfl,⟨hv,hu⟩,e5,l7,D1⟩;have n6:Hid (Kn (w.heap.size+4) wd v Q/\Kn (w.heap.size+4) wd u U):=⟨hv.mono (by have:=j0.o.size;have:=HS.o;omega),hu.mono (by have:=j0.o.size;have:=HS.o;omega)⟩;have K:Hid (val a=val Q*val b+val U/\val U<val b/\Up W0 wd):=⟨e5,l7,j0.o.trans (D1.mono j0.o.size)⟩;obtain⟨pv,cv,ev,_⟩:=id hv;obtain⟨pu,cu,eu,_⟩:=id hu;subst ev eu;clear hv hu e5 l7 D1))
   all_goals
    go_wp2
    go_meet
    exact⟨_,_,_,_,_,_,Q,U,rfl,rfl,n6.o,K.o.1,K.o.2.1,K.o.2.2⟩
  obtain⟨pv,lv,cv,pu,lu,cu,Q,U,rfl,rfl,s6,e5,l7,h2⟩:=hcut;have n6:Hid (∀ W,Up wc W->Kn (w.heap.size+4) W (.slice pv lv cv) Q/\Kn (w.heap.size+4) W (.slice pu lu cu) U):=fun W hW=>⟨s6.1.bl hW,s6.2.bl hW⟩;have K:Hid (val a=val Q*val b+val U/\val U<val b):=⟨e5,l7⟩;have c7:=Hd h2;obtain⟨w1,V1⟩:=O2 wc;subst V1;clear s6 e5 l7 h2 a0 a1 a2 b0 b1 b2 r0 r1 r2 t0 t1 t2;obtain⟨a0,a1,a2,b0,b1,b2,r0,r1,r2,t0,t1,t2,f⟩:=d3.o _ c7.o;clear f;have Q2:w.heap.size<wc.heap.size:=by have:=c7.o.size;have:=HS.o;omega
  have T1:w.heap.size+1<wc.heap.size:=by have:=c7.o.size;have:=HS.o;omega
  go_upto_region 10 with fail
  go_cut [10] (fun s10 wx=>∃ (gq:Nat) (z0:Int) (zn:Bool) (za:Option Addr) (zl zc:Nat),s10=.pointer (some ⟨gq,0,none⟩)/\W0.heap.size<=gq/\BoxV gq wx z0 zn za zl zc/\Nb (w.heap.size+4) wx (.agg #[.int .i64 z0,.bool zn,.slice za zl zc]) (sg (s != t) (val Q))/\Up wc wx)
  case first=>
   go_region_with (first
    | (go_at_call_of 74 (Value.int IntKind.i64 x);refine (Ku _ _ _ _ _ _).mono ?_;rintro e w' ⟨rfl,rfl⟩;rw[x8.o])
    | (go_at_call_of 74 (Value.int IntKind.i64 y);refine (Ku _ _ _ _ _ _).mono ?_;rintro e w' ⟨rfl,rfl⟩;rw[x9.o])
    | (go_at_call 147;refine (Fo (w.heap.size+4) _ _ Q wc _ (n6.o wc (Jj _ _)).1 ?_).mono ?_
       ·repeat' (first|exact Jj _ _|refine Below.drew ?_|refine Below.alloc ?_ ?_ _|(simp;done)|(simp;omega))
       rintro e we ⟨z,rfl,b4,D2,o8⟩;have hN:Nb (w.heap.size+4) we z (sg (s != t) (val Q)):=⟨s != t,Ov Q,b4,by rw[O9]⟩;have HN:=Hd hN;have g4:=Hd D2;have z6:∀ g,BoxV g _ 0 false none 0 0->BoxV g we 0 false none 0 0:=fun g h=>h.bl h.lt o8;have q7:=Em z6;have hcl:=fun (i:Nat) (g:Nat) hp=>o8.cell (p:=⟨g,i,none⟩) hp;have hfz:=fun (i:Nat) (g:Nat) hp=>o8.frozen (p:=⟨g,i,none⟩) hp;obtain⟨z0,zn,za,zl,zc,m6⟩:=hN.shape;subst m6;clear b4 D2 hN o8 z6))
   all_goals
    go_wp2
    go_meet
    first
     | exact⟨we.heap.size,z0,zn,za,zl,zc,rfl,(by have:=g4.o.size;have:=c7.o.size;omega),I4 we z0 zn za zl zc _,HN.o.bl (Oo _ _),g4.o.alloc g4.o.size _⟩
     | (have hbv:BoxV wc.heap.size we 0 false none 0 0:=q7.o _ (by repeat' (first|exact It _ _ (by simp) _ _ _ _ _ _|refine BoxV.alloc ?_ _|refine BoxV.drew ?_));exact⟨wc.heap.size,z0,zn,za,zl,zc,rfl,(by have:=c7.o.size;omega),hbv.put z0 zn za zl zc,HN.o.keeps hbv.n hbv.n (K0.three _ _ _ _ _),((g4.o.setCell (by simp) _).setCell (by simp) _).setCell (by simp) _⟩)
     | (have hbv:BoxV (wc.heap.size+1) we 0 false none 0 0:=q7.o _ (by repeat' (first|exact It _ _ (by simp) _ _ _ _ _ _|refine BoxV.alloc ?_ _|refine BoxV.drew ?_));exact⟨wc.heap.size+1,z0,zn,za,zl,zc,rfl,(by have:=c7.o.size;omega),hbv.put z0 zn za zl zc,HN.o.keeps hbv.n hbv.n (K0.three _ _ _ _ _),((g4.o.setCell (by simp) _).setCell (by simp) _).setCell (by simp) _⟩)
     | (have hbv:BoxV (wc.heap.size+1+1) we 0 false none 0 0:=q7.o _ (by repeat' (first|exact It _ _ (by simp) _ _ _ _ _ _|refine BoxV.alloc ?_ _|refine BoxV.drew ?_));exact⟨wc.heap.size+1+1,z0,zn,za,zl,zc,rfl,(by have:=c7.o.size;omega),hbv.put z0 zn za zl zc,HN.o.keeps hbv.n hbv.n (K0.three _ _ _ _ _),((g4.o.setCell (by simp;omega) _).setCell (by simp;omega) _).setCell (by simp;omega) _⟩)
  obtain⟨gq,z0,zn,za,zl,zc,rfl,E1,hbv,hN,h2⟩:=hcut;have j1:Hid (W0.heap.size<=gq/\BoxV gq wc z0 zn za zl zc/\Nb (w.heap.size+4) wc (.agg #[.int .i64 z0,.bool zn,.slice za zl zc]) (sg (s != t) (val Q))):=⟨E1,hbv,hN⟩;have L1:=c7.up h2;have L6:Hid (Kn (w.heap.size+4) wc (.slice pu lu cu) U):=(n6.o wc h2).2;clear E1 hbv hN h2 a0 a1 a2 b0 b1 b2 r0 r1 r2 t0 t1 t2 Q2 T1
  go_wp2_with fail
  refine (Fo (w.heap.size+4) false _ U wc wc L6.o (Jj _ _)).mono ?_;rintro e J ⟨zr,rfl,b4,z7,_⟩;have x7:=Hd b4;have p8:=Hd z7;obtain⟨y0,b5,ya,yl,yc,m6⟩:=b4.shape;subst m6;clear b4 z7;obtain⟨w3,o9⟩:=O2 (J.alloc (.cells #[.int .i64 y0,.bool b5,.slice ya yl yc] 72));have M3:=Em o9;have s3:Up J w3:=by rw[<-o9];exact Oo _ _
  have o6:Up wc w3:=p8.o.trans (s3.mono p8.o.size);have x2:=L1.up o6;have n5:Hid (BoxV gq w3 z0 zn za zl zc/\Nb (w.heap.size+4) w3 (.agg #[.int .i64 z0,.bool zn,.slice za zl zc]) (sg (s != t) (val Q))/\gq<J.heap.size):=⟨j1.o.2.1.bl j1.o.2.1.lt o6,j1.o.2.2.bl o6,Js j1.o.2.1.lt p8.o.size⟩;have r3:Hid (BoxV J.heap.size w3 y0 b5 ya yl yc/\Nb (w.heap.size+4) w3 (.agg #[.int .i64 y0,.bool b5,.slice ya yl yc]) (sg false (val U))):=by
   refine⟨by rw[<-o9];exact I4 _ _ _ _ _ _ _,⟨false,Ov U,x7.o.bl s3,by rw[O9]⟩⟩
  have N3:Hid ((((yl:Int)==0)&&(y0==0))=decide (val U=0)):=by
   have h:=Li x7.o;rw[O9] at h;exact h
  clear o9 s3 o6;obtain⟨a0,a1,a2,b0,b1,b2,r0,r1,r2,t0,t1,t2,f⟩:=d3.o _ x2.o;clear f
  go_upto_region 12 with fail
  rw[M3.o]
  go_wp2_with fail
  refine (Ku _ _ _ _ _ _).mono ?_;rintro e w4 ⟨rfl,H2⟩;rw[x8.o];have g9:Up w3 w4:=by rw[H2];exact Oo _ _
  have p9:=x2.up g9;have e8:Hid (BoxV gq w4 z0 zn za zl zc/\Nb (w.heap.size+4) w4 (.agg #[.int .i64 z0,.bool zn,.slice za zl zc]) (sg (s != t) (val Q))/\gq<J.heap.size):=⟨n5.o.1.bl n5.o.1.lt g9,n5.o.2.1.bl g9,n5.o.2.2⟩;have j3:Hid (BoxV J.heap.size w4 y0 b5 ya yl yc/\Nb (w.heap.size+4) w4 (.agg #[.int .i64 y0,.bool b5,.slice ya yl yc]) (sg false (val U))):=⟨r3.o.1.bl r3.o.1.lt g9,r3.o.2.bl g9⟩;clear H2 g9 a0 a1 a2 b0 b1 b2 r0 r1 r2 t0 t1 t2;obtain⟨a0,a1,a2,b0,b1,b2,r0,r1,r2,t0,t1,t2,f⟩:=d3.o _ p9.o;have j7:=f 2 (by omega) 0;have j8:=f 2 (by omega) 1;have j9:=f 2 (by omega) 2;have k0:=f 3 (by omega) 0;have k5:=f 3 (by omega) 1;have k7:=f 3 (by omega) 2;clear f;obtain⟨_,q0,q1,q2,fq,_⟩:=e8.o.1;obtain⟨_,g0,g1,g2,fg,_⟩:=j3.o.1;clear fq fg;have hq4:w.heap.size+4<=gq:=by have:=j1.o.1;have:=HS.o;omega
  have hr4:w.heap.size+4<=J.heap.size:=by have:=e8.o.2.2;omega
  have e7:Hid (Up w w4):=HF.o _ p9.o
  cases s
  ·go_wp2
   go_region
   all_goals
    go_wp2
    refine Jh ?_ rfl ⟨_,_,_,_,rfl,⟨((((((e8.o.2.1.setCell _ _ ?_).setCell _ _ ?_).setCell _ _ ?_).setCell _ _ ?_).setCell _ _ ?_).setCell _ _ ?_).drew.mono ?_,((((((j3.o.2.setCell _ _ ?_).setCell _ _ ?_).setCell _ _ ?_).setCell _ _ ?_).setCell _ _ ?_).setCell _ _ ?_).drew.mono ?_⟩,Sr t _ _ _ _ K.o.1 K.o.2,((((((e7.o.setCell ?_ _).setCell ?_ _).setCell ?_ _).setCell ?_ _).setCell ?_ _).setCell ?_ _).drew⟩
    all_goals first
     | (simp[results,results114,go_sem,r0,r1,r2,t0,t1,t2];done)
     | (simp;omega)
     | omega
  go_wp2_with fail
  refine (Sa _ _ _ _ _ _).mono ?_;rintro e w5 ⟨rfl,h0⟩;rw[N3.o];have i8:=p9.up h0;have g5:Hid (BoxV gq w5 z0 zn za zl zc/\Nb (w.heap.size+4) w5 (.agg #[.int .i64 z0,.bool zn,.slice za zl zc]) (sg (true != t) (val Q))/\gq<J.heap.size):=⟨e8.o.1.bl e8.o.1.lt h0,e8.o.2.1.bl h0,e8.o.2.2⟩;have g6:Hid (BoxV J.heap.size w5 y0 b5 ya yl yc/\Nb (w.heap.size+4) w5 (.agg #[.int .i64 y0,.bool b5,.slice ya yl yc]) (sg false (val U))):=⟨j3.o.1.bl j3.o.1.lt h0,j3.o.2.bl h0⟩;have e7:Hid (Up w w5):=HF.o _ i8.o;clear h0 a0 a1 a2 b0 b1 b2 r0 r1 r2 t0 t1 t2 j7 j8 j9 k0 k5 k7 q0 q1 q2 g0 g1 g2;obtain⟨a0,a1,a2,b0,b1,b2,r0,r1,r2,t0,t1,t2,f⟩:=d3.o _ i8.o;have j7:=f 2 (by omega) 0;have j8:=f 2 (by omega) 1;have j9:=f 2 (by omega) 2;have k0:=f 3 (by omega) 0;have k5:=f 3 (by omega) 1;have k7:=f 3 (by omega) 2;clear f;obtain⟨_,q0,q1,q2,fq,_⟩:=g5.o.1;obtain⟨_,g0,g1,g2,fg,_⟩:=g6.o.1;have k8:=fg 0;have k9:=fg 1;have l0:=fg 2;have n8:=fq 0;have n9:=fq 1;have o0:=fq 2;clear fq fg
  by_cases hU:val U=0
  ·have zz:decide (val U=0)=true:=Jn hU;have L2:Hid (Nf (sg true (val a)) (sg t (val b)) (sg (true != t) (val Q)) (sg false (val U))):=by
    have h:=K.o;rw[hU] at h ⊢;exact By t _ _ _ h.1 h.2
   rw[zz];clear hU
   go_wp2
   go_region
   all_goals
    go_wp2
    refine Jh ?_ rfl ⟨_,_,_,_,rfl,⟨((((((g5.o.2.1.setCell _ _ ?_).setCell _ _ ?_).setCell _ _ ?_).setCell _ _ ?_).setCell _ _ ?_).setCell _ _ ?_).drew.mono ?_,((((((g6.o.2.setCell _ _ ?_).setCell _ _ ?_).setCell _ _ ?_).setCell _ _ ?_).setCell _ _ ?_).setCell _ _ ?_).drew.mono ?_⟩,L2.o,((((((e7.o.setCell ?_ _).setCell ?_ _).setCell ?_ _).setCell ?_ _).setCell ?_ _).setCell ?_ _).drew⟩
    all_goals first
     | (simp[results,results114,go_sem,r0,r1,r2,t0,t1,t2];done)
     | (simp;omega)
     | omega
  have zz:decide (val U=0)=false:=Jp hU;rw[zz];have y5:Hid (0<val U):=Y0 hU;clear hU
  go_wp2_with fail
  refine (Kc B _ nb b _ (y9.o _ i8.o) (by have:=i8.o.size;have:=HS.o;have:=V.o;omega)).mono ?_;rintro e w6 ⟨v6,rfl,s7,z8⟩;have L7:=Hd s7;have K3:=Hd z8;obtain⟨p6,c6,e6,_⟩:=id s7;subst e6;clear s7 z8
  go_wp2_with fail
  refine (Fo B false _ b w6 w6 L7.o (Jj _ _)).mono ?_;rintro e w7 ⟨zs,rfl,b4,B2,_⟩;have L4:=Hd b4;have q6:=K3.up B2;obtain⟨x0,u9,xa,xl,xc,m6⟩:=b4.shape;subst m6;clear b4 B2;obtain⟨w8,p0⟩:=O2 (w7.alloc (.cells #[.int .i64 x0,.bool u9,.slice xa xl xc] 72));have M4:=Em p0;have l3:Up w7 w8:=by rw[<-p0];exact Oo _ _
  have g8:Up w5 w8:=q6.o.trans (l3.mono q6.o.size);have x3:=i8.up g8;have d7:Hid (BoxV gq w8 z0 zn za zl zc/\Nb (w.heap.size+4) w8 (.agg #[.int .i64 z0,.bool zn,.slice za zl zc]) (sg (true != t) (val Q))/\gq<J.heap.size):=⟨g5.o.1.bl g5.o.1.lt g8,g5.o.2.1.bl g8,g5.o.2.2⟩;have j4:Hid (BoxV J.heap.size w8 y0 b5 ya yl yc/\Nb (w.heap.size+4) w8 (.agg #[.int .i64 y0,.bool b5,.slice ya yl yc]) (sg false (val U))/\J.heap.size<w7.heap.size):=⟨g6.o.1.bl g6.o.1.lt g8,g6.o.2.bl g8,Js g6.o.1.lt q6.o.size⟩;have y4:Hid (BoxV w7.heap.size w8 x0 u9 xa xl xc/\Ej B w8 (.agg #[.int .i64 x0,.bool u9,.slice xa xl xc]) false (Ov b)):=⟨by rw[<-p0];exact I4 _ _ _ _ _ _ _,L4.o.bl l3⟩;clear p0 l3 g8 a0 a1 a2 b0 b1 b2 r0 r1 r2 t0 t1 t2 j7 j8 j9 k0 k5 k7 q0 q1 q2 g0 g1 g2 k8 k9 l0 n8 n9 o0;obtain⟨_,g0,g1,g2,fg,_⟩:=j4.o.1;obtain⟨_,s0,s1,s2,fs,_⟩:=y4.o.1;have k8:=fg 0;have k9:=fg 1;have l0:=fg 2;clear fs fg
  go_upto_region 14 with fail
  rw[M4.o]
  go_wp2_with fail
  obtain⟨nr,tr,r9,t8⟩:=j4.o.2.1;have H1:val tr=val U:=by cases nr<;>simp[sg] at t8<;>omega
  have P0:tr.length<=b.length:=Dz tr b r9.2.1 y1.o (by rw[H1];exact K.o.2);refine (Sb B _ _ false nr (Ov b) tr _ (by have:=x3.o.size;have:=HS.o;have:=V.o;omega) y4.o.2 (r9.mono (by have:=V.o;omega)) (by have:=Kl b;have:=d4.o.2.1;omega) (by have:=d4.o.2.1;omega)).mono ?_;rintro e w9 ⟨z9,rfl,o7,h1⟩;have L5:Hid (Nb w8.heap.size w9 z9 (sg false (val b - val U:Nat))):=by
   have e:sg false (val (Ov b)) - sg nr (val tr)=sg false (val b - val U:Nat):=by rw[t8,O9];have:=K.o.2;simp[sg];omega
   rw[e] at o7;exact o7
  have n7:Hid (BoxV J.heap.size w9 y0 b5 ya yl yc):=j4.o.1.bl j4.o.1.lt h1;have y2:Hid (BoxV gq w9 z0 zn za zl zc/\Nb (w.heap.size+4) w9 (.agg #[.int .i64 z0,.bool zn,.slice za zl zc]) (sg (true != t) (val Q))):=⟨d7.o.1.bl d7.o.1.lt h1,d7.o.2.1.bl h1⟩;have x5:=x3.up h1;have d5:Hid (J.heap.size<w8.heap.size):=j4.o.1.lt;have x4:Hid (w8.heap.size<=w9.heap.size):=h1.size;obtain⟨n0,nn,np,nl,nc,Q0⟩:=o7.shape;subst Q0;clear r9 t8 H1 P0 o7 h1 g0 g1 g2 s0 s1 s2 k8 k9 l0;obtain⟨_,g0,g1,g2,fg,_⟩:=n7.o;have k8:=fg 0;have k9:=fg 1;have l0:=fg 2;clear fg;obtain⟨b9,a8⟩:=O2 (((w9.setCell ⟨J.heap.size,0,none⟩ (.int .i64 n0)).setCell ⟨J.heap.size,1,none⟩ (.bool nn)).setCell ⟨J.heap.size,2,none⟩ (.slice np nl nc));have y8:=Em a8;have l4:K0 J.heap.size J.heap.size w9 b9:=by rw[<-a8];exact K0.three _ _ _ _ _
  have d8:Hid (BoxV J.heap.size b9 n0 nn np nl nc/\Nb w8.heap.size b9 (.agg #[.int .i64 n0,.bool nn,.slice np nl nc]) (sg false (val b - val U:Nat))):=by
   rw[<-a8];exact⟨n7.o.put _ _ _ _ _,((L5.o.setCell _ _ d5.o).setCell _ _ d5.o).setCell _ _ d5.o⟩
  have j2:Hid (BoxV gq b9 z0 zn za zl zc/\Nb (w.heap.size+4) b9 (.agg #[.int .i64 z0,.bool zn,.slice za zl zc]) (sg (true != t) (val Q))):=⟨y2.o.1.other (by have:=d7.o.2.2;omega) l4,y2.o.2.keeps n7.o.n n7.o.n l4⟩;have p2:Hid (Up w b9):=by
   rw[<-a8];exact (((HF.o _ x5.o).setCell (by show w.heap.size<=J.heap.size;omega) _).setCell (by show w.heap.size<=J.heap.size;omega) _).setCell (by show w.heap.size<=J.heap.size;omega) _
  have p4:Hid (BoxQ w.heap.size b9 x xn pa la ca y yn pb lb cb/\w8.heap.size<=b9.heap.size):=by
   refine⟨?_,by rw[<-a8];simpa using x4.o⟩;rw[<-a8];exact (((d3.o _ x5.o).far _ (by show w.heap.size+4<=J.heap.size;omega) _).far _ (by show w.heap.size+4<=J.heap.size;omega) _).far _ (by show w.heap.size+4<=J.heap.size;omega) _
  clear a8 l4
  go_upto_region 15 with fail
  rw[y8.o];clear g0 g1 g2 k8 k9 l0;obtain⟨a0,a1,a2,b0,b1,b2,r0,r1,r2,t0,t1,t2,f⟩:=p4.o.1;clear f
  go_wp2_with fail
  refine (Ku _ _ _ _ _ _).mono ?_;rintro e j ⟨rfl,p7⟩;rw[x9.o];have T:Up b9 j:=by rw[p7];exact Oo _ _
  have D:Hid (BoxV gq j z0 zn za zl zc/\Nb (w.heap.size+4) j (.agg #[.int .i64 z0,.bool zn,.slice za zl zc]) (sg (true != t) (val Q))):=⟨j2.o.1.bl j2.o.1.lt T,j2.o.2.bl T⟩;have b6:Hid (BoxV J.heap.size j n0 nn np nl nc/\Nb w8.heap.size j (.agg #[.int .i64 n0,.bool nn,.slice np nl nc]) (sg false (val b - val U:Nat))):=⟨d8.o.1.bl d8.o.1.lt T,d8.o.2.bl T⟩;have b7:Hid (w.heap.size+4<=j.heap.size):=by have:=T.size;have:=d8.o.1.lt;show w.heap.size+4<=j.heap.size;omega
  have Y:Hid (BoxQ w.heap.size j x xn pa la ca y yn pb lb cb/\Up w j):=⟨p4.o.1.bl (by have:=d8.o.1.lt;omega) T,p2.o.trans (T.mono p2.o.size)⟩;have y3:Hid (val Q<=val a):=by
   have h:=K.o;have hp:1<=val b:=by omega
   have:val Q*1<=val Q*val b:=Jz _ hp
   show val Q<=val a
   omega
  clear p7 T a0 a1 a2 b0 b1 b2 r0 r1 r2 t0 t1 t2;obtain⟨a0,a1,a2,b0,b1,b2,r0,r1,r2,t0,t1,t2,f⟩:=Y.o.1;obtain⟨_,q0,q1,q2,fq,_⟩:=D.o.1;have n8:=fq 0;have n9:=fq 1;have o0:=fq 2;clear f fq
  cases t
  ·go_wp2
   go_region_with (first
    | (go_at_call 39;refine (Nl 1 _ (by omega) (by omega)).mono ?_
       rintro e I ⟨z1,rfl,⟨n1,o1,f5,l8,l5⟩,a7⟩;have Z:Up j I:=(Jj _ j).drew.trans (a7.mono O1);obtain⟨nq,tq,f7,g3⟩:=D.o.2;have l9:val tq=val Q:=by cases nq<;>simp[sg] at g3<;>omega
       have l6:tq.length<=a.length:=Pk tq a f7.2.1 p3.o (by rw[l9];exact y3.o);obtain⟨i0,i1,i2,i3,i4,m5⟩:=f5.shape;subst m5;have d:Hid (Ej j.heap.size I (.agg #[.int .i64 i0,.bool i1,.slice i2 i3 i4]) n1 o1/\sg n1 (val o1)=1/\o1.length<=3/\Up j I/\Ej (w.heap.size+4) j (.agg #[.int .i64 z0,.bool zn,.slice za zl zc]) nq tq/\tq.length<=a.length):=⟨f5,l8,l5,Z,f7,l6⟩;have r4:=Hd g3;obtain⟨_,W4,W5,W7,_,_⟩:=D.o.1.bl D.o.1.lt Z;clear f5 l8 l5 a7 Z f7 g3 l9 l6)
    | (go_at_call 152;refine (Sb B _ _ nq n1 tq o1 _ (by have:=d.o.2.2.2.1.size;have:=b7.o;have:=V.o;omega) ((d.o.2.2.2.2.1.bl d.o.2.2.2.1).mono (by have:=V.o;omega)) (d.o.1.mono (by have:=b7.o;have:=V.o;omega)) (by have:=d4.o.1;have:=d.o.2.2.2.2.2;omega) (by have:=d.o.2.2.1;omega)).mono ?_
       rintro e H ⟨zq,rfl,a6,e4⟩;have F:Up j H:=d.o.2.2.2.1.trans (e4.mono d.o.2.2.2.1.size);have q9:Hid (Nb I.heap.size H zq (sg true (val Q+1))):=by
        rw[r4.o,d.o.2.1] at a6;have e:sg (true != false) (val Q) - 1=sg true (val Q+1):=by simp[sg]<;>omega
        rw[e] at a6;exact a6
       have E:Hid (BoxV gq H z0 zn za zl zc/\gq<I.heap.size):=⟨D.o.1.bl D.o.1.lt F,Js D.o.1.lt d.o.2.2.2.1.size⟩;have d9:Hid (BoxV J.heap.size H n0 nn np nl nc/\Nb w8.heap.size H (.agg #[.int .i64 n0,.bool nn,.slice np nl nc]) (sg false (val b - val U:Nat))):=⟨b6.o.1.bl b6.o.1.lt F,b6.o.2.bl F⟩;have e3:Hid (BoxQ w.heap.size H x xn pa la ca y yn pb lb cb/\Up w H):=⟨Y.o.1.bl (by have:=b7.o;omega) F,Y.o.2.trans (F.mono Y.o.2.size)⟩;obtain⟨m0,mn,mp,ml,mc,s5⟩:=a6.shape;subst s5;obtain⟨_,v0,v1,v2,fv,_⟩:=E.o.1;have r5:=fv 0;have r6:=fv 1;have r7:=fv 2;clear a6 e4 F fv))
   all_goals
    try simp only[Yg,Yb,J0,Act.put,Ja,Jb,Jc]
    clear a0 a1 a2 b0 b1 b2 r0 r1 r2 t0 t1 t2 q0 q1 q2 n8 n9 o0 v0 v1 v2 r5 r6 r7;obtain⟨O,G⟩:=O2 (((H.setCell ⟨gq,0,none⟩ (.int .i64 m0)).setCell ⟨gq,1,none⟩ (.bool mn)).setCell ⟨gq,2,none⟩ (.slice mp ml mc));have j5:=Em G;have f9:w.heap.size<=gq:=by omega
    have f8:gq<w8.heap.size:=by have:=d5.o;have:=d7.o.2.2;omega
    have d6:Hid (BoxV gq O m0 mn mp ml mc/\Nb I.heap.size O (.agg #[.int .i64 m0,.bool mn,.slice mp ml mc]) (sg true (val Q+1))):=by
     rw[<-G];exact⟨E.o.1.put _ _ _ _ _,((q9.o.setCell _ _ E.o.2).setCell _ _ E.o.2).setCell _ _ E.o.2⟩
    have e0:Hid (BoxV J.heap.size O n0 nn np nl nc/\Nb w8.heap.size O (.agg #[.int .i64 n0,.bool nn,.slice np nl nc]) (sg false (val b - val U:Nat))):=by
     rw[<-G];exact⟨d9.o.1.other (by have:=d7.o.2.2;omega) (K0.three _ _ _ _ _),((d9.o.2.setCell _ _ f8).setCell _ _ f8).setCell _ _ f8⟩
    have j6:Hid (BoxQ w.heap.size O x xn pa la ca y yn pb lb cb):=by
     rw[<-G];exact ((e3.o.1.far _ (by show w.heap.size+4<=gq;omega) _).far _ (by show w.heap.size+4<=gq;omega) _).far _ (by show w.heap.size+4<=gq;omega) _
    have e7:Hid (Up w O):=by
     rw[<-G];exact ((e3.o.2.setCell f9 _).setCell f9 _).setCell f9 _
    have q8:Hid (Nf (sg true (val a)) (sg false (val b)) (sg true (val Q+1)) (sg false (val b - val U:Nat))):=C7 false _ _ _ _ _ K.o.1 (by have:=K.o.2;omega) y5.o;have a7:w.heap.size+4<=I.heap.size:=by have:=E.o.2;omega
    have l3:w.heap.size+4<=w8.heap.size:=by omega
    clear G
    go_upto_region 18 with fail
    rw[j5.o];obtain⟨_,_,_,_,_,_,r0,r1,r2,t0,t1,t2,f⟩:=j6.o;have j7:=f 2 (by omega) 0;have j8:=f 2 (by omega) 1;have j9:=f 2 (by omega) 2;have k0:=f 3 (by omega) 0;have k5:=f 3 (by omega) 1;have k7:=f 3 (by omega) 2;clear f;obtain⟨_,q0,q1,q2,fq,_⟩:=d6.o.1;obtain⟨_,g0,g1,g2,fg,_⟩:=e0.o.1;clear fq fg
    go_wp2
    go_region
    all_goals
     go_wp2
     refine Jh ?_ rfl ⟨_,_,_,_,rfl,⟨((((((d6.o.2.setCell _ _ ?_).setCell _ _ ?_).setCell _ _ ?_).setCell _ _ ?_).setCell _ _ ?_).setCell _ _ ?_).drew.mono ?_,((((((e0.o.2.setCell _ _ ?_).setCell _ _ ?_).setCell _ _ ?_).setCell _ _ ?_).setCell _ _ ?_).setCell _ _ ?_).drew.mono ?_⟩,q8.o,((((((e7.o.setCell ?_ _).setCell ?_ _).setCell ?_ _).setCell ?_ _).setCell ?_ _).setCell ?_ _).drew⟩
     all_goals first
      | (simp[results,results114,go_sem,r0,r1,r2,t0,t1,t2];done)
      | (simp;omega)
      | omega
  go_wp2
  go_region_with (first
   | (go_at_call 39;refine (Nl 1 _ (by omega) (by omega)).mono ?_
      rintro e I ⟨z1,rfl,⟨n1,o1,f5,l8,l5⟩,a7⟩;have Z:Up j I:=(Jj _ j).drew.trans (a7.mono O1);obtain⟨nq,tq,f7,g3⟩:=D.o.2;have l9:val tq=val Q:=by cases nq<;>simp[sg] at g3<;>omega
      have l6:tq.length<=a.length:=Pk tq a f7.2.1 p3.o (by rw[l9];exact y3.o);obtain⟨i0,i1,i2,i3,i4,m5⟩:=f5.shape;subst m5;have d:Hid (Ej j.heap.size I (.agg #[.int .i64 i0,.bool i1,.slice i2 i3 i4]) n1 o1/\sg n1 (val o1)=1/\o1.length<=3/\Up j I/\Ej (w.heap.size+4) j (.agg #[.int .i64 z0,.bool zn,.slice za zl zc]) nq tq/\tq.length<=a.length):=⟨f5,l8,l5,Z,f7,l6⟩;have r4:=Hd g3;obtain⟨_,W4,W5,W7,_,_⟩:=D.o.1.bl D.o.1.lt Z;clear f5 l8 l5 a7 Z f7 g3 l9 l6)
   | (go_at_call 153;refine (Sf B _ _ nq n1 tq o1 _ (by have:=d.o.2.2.2.1.size;have:=b7.o;have:=V.o;omega) ((d.o.2.2.2.2.1.bl d.o.2.2.2.1).mono (by have:=V.o;omega)) (d.o.1.mono (by have:=b7.o;have:=V.o;omega)) (by have:=d4.o.1;have:=d.o.2.2.2.2.2;omega) (by have:=d.o.2.2.1;omega)).mono ?_
      rintro e H ⟨zq,rfl,a6,e4⟩;have F:Up j H:=d.o.2.2.2.1.trans (e4.mono d.o.2.2.2.1.size);have q9:Hid (Nb I.heap.size H zq (sg false (val Q+1))):=by
       rw[r4.o,d.o.2.1] at a6;have e:sg (true != true) (val Q)+1=sg false (val Q+1):=by simp[sg]<;>omega
       rw[e] at a6;exact a6
      have E:Hid (BoxV gq H z0 zn za zl zc/\gq<I.heap.size):=⟨D.o.1.bl D.o.1.lt F,Js D.o.1.lt d.o.2.2.2.1.size⟩;have d9:Hid (BoxV J.heap.size H n0 nn np nl nc/\Nb w8.heap.size H (.agg #[.int .i64 n0,.bool nn,.slice np nl nc]) (sg false (val b - val U:Nat))):=⟨b6.o.1.bl b6.o.1.lt F,b6.o.2.bl F⟩;have e3:Hid (BoxQ w.heap.size H x xn pa la ca y yn pb lb cb/\Up w H):=⟨Y.o.1.bl (by have:=b7.o;omega) F,Y.o.2.trans (F.mono Y.o.2.size)⟩;obtain⟨m0,mn,mp,ml,mc,s5⟩:=a6.shape;subst s5;obtain⟨_,v0,v1,v2,fv,_⟩:=E.o.1;have r5:=fv 0;have r6:=fv 1;have r7:=fv 2;clear a6 e4 F fv))
  all_goals
   try simp only[Yg,Yb,J0,Act.put,Ja,Jb,Jc]
   clear a0 a1 a2 b0 b1 b2 r0 r1 r2 t0 t1 t2 q0 q1 q2 n8 n9 o0 v0 v1 v2 r5 r6 r7;obtain⟨O,G⟩:=O2 (((H.setCell ⟨gq,0,none⟩ (.int .i64 m0)).setCell ⟨gq,1,none⟩ (.bool mn)).setCell ⟨gq,2,none⟩ (.slice mp ml mc));have j5:=Em G;have f9:w.heap.size<=gq:=by omega
   have f8:gq<w8.heap.size:=by have:=d5.o;have:=d7.o.2.2;omega
   have d6:Hid (BoxV gq O m0 mn mp ml mc/\Nb I.heap.size O (.agg #[.int .i64 m0,.bool mn,.slice mp ml mc]) (sg false (val Q+1))):=by
    rw[<-G];exact⟨E.o.1.put _ _ _ _ _,((q9.o.setCell _ _ E.o.2).setCell _ _ E.o.2).setCell _ _ E.o.2⟩
   have e0:Hid (BoxV J.heap.size O n0 nn np nl nc/\Nb w8.heap.size O (.agg #[.int .i64 n0,.bool nn,.slice np nl nc]) (sg false (val b - val U:Nat))):=by
    rw[<-G];exact⟨d9.o.1.other (by have:=d7.o.2.2;omega) (K0.three _ _ _ _ _),((d9.o.2.setCell _ _ f8).setCell _ _ f8).setCell _ _ f8⟩
   have j6:Hid (BoxQ w.heap.size O x xn pa la ca y yn pb lb cb):=by
    rw[<-G];exact ((e3.o.1.far _ (by show w.heap.size+4<=gq;omega) _).far _ (by show w.heap.size+4<=gq;omega) _).far _ (by show w.heap.size+4<=gq;omega) _
   have e7:Hid (Up w O):=by
    rw[<-G];exact ((e3.o.2.setCell f9 _).setCell f9 _).setCell f9 _
   have q8:Hid (Nf (sg true (val a)) (sg true (val b)) (sg false (val Q+1)) (sg false (val b - val U:Nat))):=C7 true _ _ _ _ _ K.o.1 (by have:=K.o.2;omega) y5.o;have a7:w.heap.size+4<=I.heap.size:=by have:=E.o.2;omega
   have l3:w.heap.size+4<=w8.heap.size:=by omega
   clear G
   go_upto_region 18 with fail
   rw[j5.o];obtain⟨_,_,_,_,_,_,r0,r1,r2,t0,t1,t2,f⟩:=j6.o;have j7:=f 2 (by omega) 0;have j8:=f 2 (by omega) 1;have j9:=f 2 (by omega) 2;have k0:=f 3 (by omega) 0;have k5:=f 3 (by omega) 1;have k7:=f 3 (by omega) 2;clear f;obtain⟨_,q0,q1,q2,fq,_⟩:=d6.o.1;obtain⟨_,g0,g1,g2,fg,_⟩:=e0.o.1;clear fq fg
   go_wp2
   go_region
   all_goals
    go_wp2
    refine Jh ?_ rfl ⟨_,_,_,_,rfl,⟨((((((d6.o.2.setCell _ _ ?_).setCell _ _ ?_).setCell _ _ ?_).setCell _ _ ?_).setCell _ _ ?_).setCell _ _ ?_).drew.mono ?_,((((((e0.o.2.setCell _ _ ?_).setCell _ _ ?_).setCell _ _ ?_).setCell _ _ ?_).setCell _ _ ?_).setCell _ _ ?_).drew.mono ?_⟩,q8.o,((((((e7.o.setCell ?_ _).setCell ?_ _).setCell ?_ _).setCell ?_ _).setCell ?_ _).setCell ?_ _).drew⟩
    all_goals first
     | (simp[results,results114,go_sem,r0,r1,r2,t0,t1,t2];done)
     | (simp;omega)
     | omega
end Go.Proofs.YtjjgilacnocigaaGreatDoor.Q
