import Derived.Test.YtipgjenolpofpaaGreatDoorP11
set_option maxRecDepth 100000
set_option maxHeartbeats 40000000
namespace Go.Proofs.YtipgjenolpofpaaGreatDoor.Q
open Go.ChangeShapes Go.WideShapes Go.ChangeAt Go.RowKit Go.Proofs.Tryz
theorem Pc (B:Nat)(neg:Bool)(v:Value)(l:List Nat)(w W:World)(h:U1 B w v l)(hb:Up w W) :
 Calls prog 126 #[.bool neg,v] W fun e w'=>∃ z,e=.returned z/\Nu B w' z neg (Oe l)/\Up w w'/\Up W w':=by
 refine (Nc B neg v l W (h.below hb)).mono ?_;rintro e A ⟨z,rfl,j,d⟩;exact⟨z,rfl,(j _ _ (h.below hb)).below d,hb.trans (d.mono hb.size),d⟩
theorem GF (B:Nat)(x y:Int)(xn yn:Bool)(pa:Option Addr)(la ca:Nat)(pb:Option Addr)(lb cb:Nat)(na nb:Bool)(a b:List Nat)(w:World)(hBw:B<=w.heap.size)(hz:((la:Int)==0)=false∨((la:Int)==0)=true/\((lb:Int)==0)=false)
 (hza:Nu B w (.agg #[.int .i64 x,.bool xn,.slice pa la ca]) na a) (hzb:Nu B w (.agg #[.int .i64 y,.bool yn,.slice pb lb cb]) nb b) (s t:Bool) (ha:Tn x xn la=s) (hb:Tn y yn lb=t) (hla:a.length<=100000) (hlb:b.length<=100000) (hne:b≠[]) :
 Calls prog 129 #[.agg #[.int .i64 x,.bool xn,.slice pa la ca],.agg #[.int .i64 y,.bool yn,.slice pb lb cb]] w fun e w'=>∃ z1 z2 q r,e=.returned (.tuple #[z1,z2])/\(N5 w.heap.size w' z1 q/\N5 w.heap.size w' z2 r)/\Ny (sg s (val a)) (sg t (val b)) q r/\Up w w':=by
 have y8:=Hd ha;have y9:=Hd hb;have d5:Hid (a.length<=100000/\b.length<=100000/\b≠[]/\isTrim b):=⟨hla,hlb,hne,hzb.2.1⟩;have D0:Hid (okL b):=hzb.1;have q6:Hid (okL a):=hza.1;have HX:=F6 w x xn pa la ca y yn pb lb cb 123;obtain⟨W0,j4⟩:=O1 ((((w.alloc (.cells #[.int .i64 x,.bool xn,.slice pa la ca] 123)).alloc (.cells #[.int .i64 y,.bool yn,.slice pb lb cb] 123)).alloc (.cells #[.int .i64 0,.bool false,.slice none 0 0] 123)).alloc (.cells #[.int .i64 0,.bool false,.slice none 0 0] 123));have HW0:=Ec j4;have n3:Up w W0:=by rw[<-j4];exact Om (Om (Om (Oy _ _) _) _) _
 have HB0:=Ec n3;have H3:W0.heap.size=w.heap.size+4:=by rw[<-j4];simp
 rw[j4] at HX;have HS:=Ec H3;have Z:=Hd hBw;have e0:Hid (∀ W,Up W0 W->BoxQ w.heap.size W x xn pa la ca y yn pb lb cb):=fun W hW=>HX.below (by omega) hW;have HF:Hid (∀ W,Up W0 W->Up w W):=fun W hW=>n3.trans (hW.mono (by omega));have HZA:Hid (∀ W,Up W0 W->Nu B W (.agg #[.int .i64 x,.bool xn,.slice pa la ca]) na a):=fun W hW=>(hza.below n3).below hW;have H7:Hid (∀ W,Up W0 W->Nu B W (.agg #[.int .i64 y,.bool yn,.slice pb lb cb]) nb b):=fun W hW=>(hzb.below n3).below hW;obtain⟨a0,a1,a2,b0,b1,b2,r0,r1,r2,t0,t1,t2,f⟩:=HX;clear f j4 H3 ha hb hza hzb n3 hBw hne
 go_enter func129,ntmps129
 go_wp2_with fail
 rw[HW0.o];refine (U5 _ _ _ _ _ _).mono ?_;rintro e wA ⟨rfl,hA⟩;have p3:Hid (Up W0 wA):=by rw[hA];exact Oy _ _
 clear hA a0 a1 a2 b0 b1 b2 r0 r1 r2 t0 t1 t2;obtain⟨a0,a1,a2,b0,b1,b2,r0,r1,r2,t0,t1,t2,f⟩:=e0.o wA p3.o;clear f;have z6:Hid (∃ W1,Up W0 W1/\((((la:Int)==0)=false/\wA=W1)∨(((la:Int)==0)=true/\((lb:Int)==0)=false/\wA.alloc (.cells #[.int .i64 y,.bool yn,.slice pb lb cb] 123)=W1))):=by
  rcases hz with h|⟨h,h'⟩
  ·exact⟨_,p3.o,.inl ⟨h,rfl⟩⟩
  exact⟨_,p3.o.alloc p3.o.size _,.inr ⟨h,h',rfl⟩⟩
 obtain⟨W1,q9,l2⟩:=z6.o;have e8:=Hd q9;clear hz z6 q9
 rcases l2 with⟨hz,u1⟩|⟨hz,M6,u1⟩
 all_goals
  have HW1:=Ec u1;clear u1;rw[hz]
  go_upto_region 9 with (go_at_call 105;refine (U5 _ _ _ _ _ _).mono ?_;rintro e w' ⟨rfl,rfl⟩;try rw[M6])
  rw[HW1.o];clear a0 a1 a2 b0 b1 b2 r0 r1 r2 t0 t1 t2;obtain⟨a0,a1,a2,b0,b1,b2,r0,r1,r2,t0,t1,t2,f⟩:=e0.o W1 e8.o;clear f
  go_cut [8,9] (fun s8 s9 wx=>∃ (pv:Option Addr) (lv cv:Nat) (pu:Option Addr) (lu cu:Nat) (Q U:List Nat),s8=.slice pv lv cv/\s9=.slice pu lu cu/\(U1 (w.heap.size+4) wx (.slice pv lv cv) Q/\U1 (w.heap.size+4) wx (.slice pu lu cu) U)/\val a=val Q*val b+val U/\val U<val b/\Up W0 wx)
  case first=>
   go_region_with (first
    | (go_at_call_of 127 (Value.int IntKind.i64 x);refine (Dt B _ na a _ (HZA.o _ e8.o.drew) (by have:=e8.o.size;have:=HS.o;have:=Z.o;show B<=W1.heap.size;omega)).mono ?_
       rintro e wa ⟨va,rfl,r4,D1,H0⟩;have H4:Hid (U1 B wa va a/\(a=[]->va=.slice none 0 0)):=⟨r4,D1⟩;have o9:Hid (Up W0 wa):=e8.o.drew.trans (H0.mono e8.o.size);obtain⟨c0,c1,c2,d0,d1,d2,_,_,_,_,_,_,f⟩:=e0.o wa o9.o;obtain⟨q1,k1,e1,_⟩:=id r4;subst e1;clear r4 D1 H0 f)
    | (go_at_call_of 127 (Value.int IntKind.i64 y);refine (Dt B _ nb b _ (H7.o _ o9.o) (by have:=o9.o.size;have:=HS.o;have:=Z.o;omega)).mono ?_
       rintro e wb ⟨vb,rfl,u7,_,v7⟩;have HVB:=Hd u7;have H2:Hid (U1 B wb (.slice q1 a.length k1) a):=H4.o.1.below v7;have m5:=o9.up v7;obtain⟨q2,k2,e2,_⟩:=id u7;subst e2;clear u7 v7)
    | (go_at_call 141;refine (OS B _ _ a b _ (by have:=m5.o.size;have:=HS.o;have:=Z.o;omega) d5.o.1 H2.o H4.o.2 HVB.o d5.o.2.1 d5.o.2.2.2 d5.o.2.2.1).mono ?_
       rintro e wd ⟨v,u,Q,U,rfl,⟨hv,hu⟩,e5,m9,z7⟩;have p2:Hid (U1 (w.heap.size+4) wd v Q/\U1 (w.heap.size+4) wd u U):=⟨hv.mono (by have:=m5.o.size;have:=HS.o;omega),hu.mono (by have:=m5.o.size;have:=HS.o;omega)⟩;have O:Hid (val a=val Q*val b+val U/\val U<val b/\Up W0 wd):=⟨e5,m9,m5.o.trans (z7.mono m5.o.size)⟩;obtain⟨pv,cv,ev,_⟩:=id hv;obtain⟨pu,cu,eu,_⟩:=id hu;subst ev eu;clear hv hu e5 m9 z7))
   all_goals
    go_wp2_with fail
    go_meet
    exact⟨_,_,_,_,_,_,Q,U,rfl,rfl,p2.o,O.o.1,O.o.2.1,O.o.2.2⟩
  case rest=>
   obtain⟨pv,lv,cv,pu,lu,cu,Q,U,rfl,rfl,r5,e5,m9,h6⟩:=hcut;have p2:Hid (∀ W,Up wc W->U1 (w.heap.size+4) W (.slice pv lv cv) Q/\U1 (w.heap.size+4) W (.slice pu lu cu) U):=fun W hW=>⟨r5.1.below hW,r5.2.below hW⟩;have O:Hid (val a=val Q*val b+val U/\val U<val b):=⟨e5,m9⟩;have d6:=Hd h6;obtain⟨w1,hw1⟩:=O1 wc;subst hw1;clear r5 e5 m9 h6 a0 a1 a2 b0 b1 b2 r0 r1 r2 t0 t1 t2;obtain⟨a0,a1,a2,b0,b1,b2,r0,r1,r2,t0,t1,t2,f⟩:=e0.o _ d6.o;clear f;have hs0:w.heap.size<wc.heap.size:=by have:=d6.o.size;have:=HS.o;omega
   have V2:w.heap.size+1<wc.heap.size:=by have:=d6.o.size;have:=HS.o;omega
   go_upto_region 10 with fail
   go_cut [10] (fun s10 wx=>∃ (gq:Nat) (z0:Int) (zn:Bool) (za:Option Addr) (zl zc:Nat),s10=.pointer (some ⟨gq,0,none⟩)/\W0.heap.size<=gq/\BoxV gq wx z0 zn za zl zc/\N5 (w.heap.size+4) wx (.agg #[.int .i64 z0,.bool zn,.slice za zl zc]) (sg (s != t) (val Q))/\Up wc wx)
   case first=>
    go_region_with (first
     | (go_at_call_of 124 (Value.int IntKind.i64 x);refine (Er _ _ _ _ _ _).mono ?_;rintro e w' ⟨rfl,rfl⟩;rw[y8.o])
     | (go_at_call_of 124 (Value.int IntKind.i64 y);refine (Er _ _ _ _ _ _).mono ?_;rintro e w' ⟨rfl,rfl⟩;rw[y9.o])
     | (go_at_call 126;refine (Pc (w.heap.size+4) _ _ Q wc _ (p2.o wc (Jh _ _)).1 ?_).mono ?_
        ·repeat' (first|exact Jh _ _|refine Below.drew ?_|refine Below.alloc ?_ ?_ _|(simp;done)|(simp;omega))
        rintro e we ⟨z,rfl,b8,L5,p1⟩;have hN:N5 (w.heap.size+4) we z (sg (s != t) (val Q)):=⟨s != t,Oe Q,b8,by rw[O3]⟩;have HN:=Hd hN;have i6:=Hd L5;have F2:∀ g,BoxV g _ 0 false none 0 0->BoxV g we 0 false none 0 0:=fun g h=>h.below h.lt p1;have u8:=Ec F2;have hcl:=fun (i:Nat) (g:Nat) hp=>p1.cell (p:=⟨g,i,none⟩) hp;have hfz:=fun (i:Nat) (g:Nat) hp=>p1.frozen (p:=⟨g,i,none⟩) hp;obtain⟨z0,zn,za,zl,zc,l9⟩:=hN.shape;subst l9;clear b8 L5 hN p1 F2))
    all_goals
     go_wp2_with fail
     go_meet
     first
      | exact⟨we.heap.size,z0,zn,za,zl,zc,rfl,(by have:=i6.o.size;have:=d6.o.size;omega),H6 we z0 zn za zl zc _,HN.o.below (Oy _ _),i6.o.alloc i6.o.size _⟩
      | (have hbv:BoxV wc.heap.size we 0 false none 0 0:=u8.o _ (by repeat' (first|exact Hm _ _ (by simp) _ _ _ _ _ _|refine BoxV.alloc ?_ _|refine BoxV.drew ?_));exact⟨wc.heap.size,z0,zn,za,zl,zc,rfl,(by have:=d6.o.size;omega),hbv.put z0 zn za zl zc,HN.o.keeps hbv.n hbv.n (Kq.three _ _ _ _ _),((i6.o.setCell (by simp) _).setCell (by simp) _).setCell (by simp) _⟩)
      | (have hbv:BoxV (wc.heap.size+1) we 0 false none 0 0:=u8.o _ (by repeat' (first|exact Hm _ _ (by simp) _ _ _ _ _ _|refine BoxV.alloc ?_ _|refine BoxV.drew ?_));exact⟨wc.heap.size+1,z0,zn,za,zl,zc,rfl,(by have:=d6.o.size;omega),hbv.put z0 zn za zl zc,HN.o.keeps hbv.n hbv.n (Kq.three _ _ _ _ _),((i6.o.setCell (by simp) _).setCell (by simp) _).setCell (by simp) _⟩)
      | (have hbv:BoxV (wc.heap.size+1+1) we 0 false none 0 0:=u8.o _ (by repeat' (first|exact Hm _ _ (by simp) _ _ _ _ _ _|refine BoxV.alloc ?_ _|refine BoxV.drew ?_));exact⟨wc.heap.size+1+1,z0,zn,za,zl,zc,rfl,(by have:=d6.o.size;omega),hbv.put z0 zn za zl zc,HN.o.keeps hbv.n hbv.n (Kq.three _ _ _ _ _),((i6.o.setCell (by simp;omega) _).setCell (by simp;omega) _).setCell (by simp;omega) _⟩)
   case rest=>
    obtain⟨gq,z0,zn,za,zl,zc,rfl,H1,hbv,hN,h6⟩:=hcut;have l6:Hid (W0.heap.size<=gq/\BoxV gq wc z0 zn za zl zc/\N5 (w.heap.size+4) wc (.agg #[.int .i64 z0,.bool zn,.slice za zl zc]) (sg (s != t) (val Q))):=⟨H1,hbv,hN⟩;have HBD:=d6.up h6;have HUL:Hid (U1 (w.heap.size+4) wc (.slice pu lu cu) U):=(p2.o wc h6).2;clear H1 hbv hN h6 a0 a1 a2 b0 b1 b2 r0 r1 r2 t0 t1 t2 hs0 V2
    go_wp2_with fail
    refine (Pc (w.heap.size+4) false _ U wc wc HUL.o (Jh _ _)).mono ?_;rintro e M ⟨zr,rfl,b8,L3,_⟩;have y3:=Hd b8;have v8:=Hd L3;obtain⟨y0,b7,ya,yl,yc,l9⟩:=b8.shape;subst l9;clear b8 L3;obtain⟨w3,o6⟩:=O1 (M.alloc (.cells #[.int .i64 y0,.bool b7,.slice ya yl yc] 123));have X2:=Ec o6;have u0:Up M w3:=by rw[<-o6];exact Oy _ _
    have p5:Up wc w3:=v8.o.trans (u0.mono v8.o.size);have y6:=HBD.up p5;have o3:Hid (BoxV gq w3 z0 zn za zl zc/\N5 (w.heap.size+4) w3 (.agg #[.int .i64 z0,.bool zn,.slice za zl zc]) (sg (s != t) (val Q))/\gq<M.heap.size):=⟨l6.o.2.1.below l6.o.2.1.lt p5,l6.o.2.2.below p5,Jz l6.o.2.1.lt v8.o.size⟩;have t8:Hid (BoxV M.heap.size w3 y0 b7 ya yl yc/\N5 (w.heap.size+4) w3 (.agg #[.int .i64 y0,.bool b7,.slice ya yl yc]) (sg false (val U))):=by
     refine⟨by rw[<-o6];exact H6 _ _ _ _ _ _ _,⟨false,Oe U,y3.o.below u0,by rw[O3]⟩⟩
    have W8:Hid ((((yl:Int)==0)&&(y0==0))=decide (val U=0)):=by
     have h:=D4 y3.o;rw[O3] at h;exact h
    clear o6 u0 p5;obtain⟨a0,a1,a2,b0,b1,b2,r0,r1,r2,t0,t1,t2,f⟩:=e0.o _ y6.o;clear f
    go_upto_region 12 with fail
    rw[X2.o]
    go_wp2_with fail
    refine (Er _ _ _ _ _ _).mono ?_;rintro e w4 ⟨rfl,y1⟩;rw[y8.o];have h1:Up w3 w4:=by rw[y1];exact Oy _ _
    have x5:=y6.up h1;have g8:Hid (BoxV gq w4 z0 zn za zl zc/\N5 (w.heap.size+4) w4 (.agg #[.int .i64 z0,.bool zn,.slice za zl zc]) (sg (s != t) (val Q))/\gq<M.heap.size):=⟨o3.o.1.below o3.o.1.lt h1,o3.o.2.1.below h1,o3.o.2.2⟩;have l4:Hid (BoxV M.heap.size w4 y0 b7 ya yl yc/\N5 (w.heap.size+4) w4 (.agg #[.int .i64 y0,.bool b7,.slice ya yl yc]) (sg false (val U))):=⟨t8.o.1.below t8.o.1.lt h1,t8.o.2.below h1⟩;clear y1 h1 a0 a1 a2 b0 b1 b2 r0 r1 r2 t0 t1 t2;obtain⟨a0,a1,a2,b0,b1,b2,r0,r1,r2,t0,t1,t2,f⟩:=e0.o _ x5.o;have n5:=f 2 (by omega) 0;have k8:=f 2 (by omega) 1;have j5:=f 2 (by omega) 2;have m8:=f 3 (by omega) 0;have l7:=f 3 (by omega) 1;have k7:=f 3 (by omega) 2;clear f;obtain⟨_,q0,q1,q2,fq,_⟩:=g8.o.1;obtain⟨_,g0,g1,g2,fg,_⟩:=l4.o.1;clear fq fg;have hq4:w.heap.size+4<=gq:=by have:=l6.o.1;have:=HS.o;omega
    have hr4:w.heap.size+4<=M.heap.size:=by have:=g8.o.2.2;omega
    have g3:Hid (Up w w4):=HF.o _ x5.o
    cases s
    ·go_wp2_with fail
     go_region
     all_goals
      go_wp2
      refine Jj ?_ rfl ⟨_,_,_,_,rfl,⟨((((((g8.o.2.1.setCell _ _ ?_).setCell _ _ ?_).setCell _ _ ?_).setCell _ _ ?_).setCell _ _ ?_).setCell _ _ ?_).drew.mono ?_,((((((l4.o.2.setCell _ _ ?_).setCell _ _ ?_).setCell _ _ ?_).setCell _ _ ?_).setCell _ _ ?_).setCell _ _ ?_).drew.mono ?_⟩,Mn t _ _ _ _ O.o.1 O.o.2,((((((g3.o.setCell ?_ _).setCell ?_ _).setCell ?_ _).setCell ?_ _).setCell ?_ _).setCell ?_ _).drew⟩
      all_goals first
       | (simp[results,results129,go_sem,r0,r1,r2,t0,t1,t2];done)
       | (simp;omega)
       | omega
    ·go_wp2_with fail
     refine (Md _ _ _ _ _ _).mono ?_;rintro e w5 ⟨rfl,j0⟩;rw[W8.o];have j6:=x5.up j0;have h0:Hid (BoxV gq w5 z0 zn za zl zc/\N5 (w.heap.size+4) w5 (.agg #[.int .i64 z0,.bool zn,.slice za zl zc]) (sg (true != t) (val Q))/\gq<M.heap.size):=⟨g8.o.1.below g8.o.1.lt j0,g8.o.2.1.below j0,g8.o.2.2⟩;have h7:Hid (BoxV M.heap.size w5 y0 b7 ya yl yc/\N5 (w.heap.size+4) w5 (.agg #[.int .i64 y0,.bool b7,.slice ya yl yc]) (sg false (val U))):=⟨l4.o.1.below l4.o.1.lt j0,l4.o.2.below j0⟩;have g3:Hid (Up w w5):=HF.o _ j6.o;clear j0 a0 a1 a2 b0 b1 b2 r0 r1 r2 t0 t1 t2 n5 k8 j5 m8 l7 k7 q0 q1 q2 g0 g1 g2;obtain⟨a0,a1,a2,b0,b1,b2,r0,r1,r2,t0,t1,t2,f⟩:=e0.o _ j6.o;have n5:=f 2 (by omega) 0;have k8:=f 2 (by omega) 1;have j5:=f 2 (by omega) 2;have m8:=f 3 (by omega) 0;have l7:=f 3 (by omega) 1;have k7:=f 3 (by omega) 2;clear f;obtain⟨_,q0,q1,q2,fq,_⟩:=h0.o.1;obtain⟨_,g0,g1,g2,fg,_⟩:=h7.o.1;have n4:=fg 0;have l0:=fg 1;have l3:=fg 2;have o8:=fq 0;have p8:=fq 1;have o4:=fq 2;clear fq fg
     by_cases hU:val U=0
     ·have zz:decide (val U=0)=true:=Jb hU;have M8:Hid (Ny (sg true (val a)) (sg t (val b)) (sg (true != t) (val Q)) (sg false (val U))):=by
       have h:=O.o;rw[hU] at h ⊢;exact Cg t _ _ _ h.1 h.2
      rw[zz];clear hU
      go_wp2_with fail
      go_region
      all_goals
       go_wp2
       refine Jj ?_ rfl ⟨_,_,_,_,rfl,⟨((((((h0.o.2.1.setCell _ _ ?_).setCell _ _ ?_).setCell _ _ ?_).setCell _ _ ?_).setCell _ _ ?_).setCell _ _ ?_).drew.mono ?_,((((((h7.o.2.setCell _ _ ?_).setCell _ _ ?_).setCell _ _ ?_).setCell _ _ ?_).setCell _ _ ?_).setCell _ _ ?_).drew.mono ?_⟩,M8.o,((((((g3.o.setCell ?_ _).setCell ?_ _).setCell ?_ _).setCell ?_ _).setCell ?_ _).setCell ?_ _).drew⟩
       all_goals first
        | (simp[results,results129,go_sem,r0,r1,r2,t0,t1,t2];done)
        | (simp;omega)
        | omega
     ·have zz:decide (val U=0)=false:=Jg hU;rw[zz];have B2:Hid (0<val U):=Yp hU;clear hU
      go_wp2_with fail
      refine (Ev B _ nb b _ (H7.o _ j6.o) (by have:=j6.o.size;have:=HS.o;have:=Z.o;omega)).mono ?_;rintro e w6 ⟨v6,rfl,t6,y2⟩;have T0:=Hd t6;have W7:=Hd y2;obtain⟨p6,c6,e6,_⟩:=id t6;subst e6;clear t6 y2
      go_wp2_with fail
      refine (Pc B false _ b w6 w6 T0.o (Jh _ _)).mono ?_;rintro e w7 ⟨zs,rfl,b8,L6,_⟩;have HMS:=Hd b8;have s3:=W7.up L6;obtain⟨x0,s4,xa,xl,xc,l9⟩:=b8.shape;subst l9;clear b8 L6;obtain⟨w8,p4⟩:=O1 (w7.alloc (.cells #[.int .i64 x0,.bool s4,.slice xa xl xc] 123));have X0:=Ec p4;have j7:Up w7 w8:=by rw[<-p4];exact Oy _ _
      have i8:Up w5 w8:=s3.o.trans (j7.mono s3.o.size);have L1:=j6.up i8;have d7:Hid (BoxV gq w8 z0 zn za zl zc/\N5 (w.heap.size+4) w8 (.agg #[.int .i64 z0,.bool zn,.slice za zl zc]) (sg (true != t) (val Q))/\gq<M.heap.size):=⟨h0.o.1.below h0.o.1.lt i8,h0.o.2.1.below i8,h0.o.2.2⟩;have k0:Hid (BoxV M.heap.size w8 y0 b7 ya yl yc/\N5 (w.heap.size+4) w8 (.agg #[.int .i64 y0,.bool b7,.slice ya yl yc]) (sg false (val U))/\M.heap.size<w7.heap.size):=⟨h7.o.1.below h7.o.1.lt i8,h7.o.2.below i8,Jz h7.o.1.lt s3.o.size⟩;have z8:Hid (BoxV w7.heap.size w8 x0 s4 xa xl xc/\Nu B w8 (.agg #[.int .i64 x0,.bool s4,.slice xa xl xc]) false (Oe b)):=⟨by rw[<-p4];exact H6 _ _ _ _ _ _ _,HMS.o.below j7⟩;clear p4 j7 i8 a0 a1 a2 b0 b1 b2 r0 r1 r2 t0 t1 t2 n5 k8 j5 m8 l7 k7 q0 q1 q2 g0 g1 g2 n4 l0 l3 o8 p8 o4;obtain⟨_,g0,g1,g2,fg,_⟩:=k0.o.1;obtain⟨_,s0,s1,s2,fs,_⟩:=z8.o.1;have n4:=fg 0;have l0:=fg 1;have l3:=fg 2;clear fs fg
      go_upto_region 14 with fail
      rw[X0.o]
      go_wp2_with fail
      obtain⟨nr,tr,t7,x4⟩:=k0.o.2.1;have L2:val tr=val U:=by cases nr<;>simp[sg] at x4<;>omega
      have hlr:tr.length<=b.length:=Ru tr b t7.2.1 D0.o (by rw[L2];exact O.o.2);refine (Mq B _ _ false nr (Oe b) tr _ (by have:=L1.o.size;have:=HS.o;have:=Z.o;omega) z8.o.2 (t7.mono (by have:=Z.o;omega)) (by have:=Ku b;have:=d5.o.2.1;omega) (by have:=d5.o.2.1;omega)).mono ?_;rintro e w9 ⟨z9,rfl,o7,h9⟩;have HN9:Hid (N5 w8.heap.size w9 z9 (sg false (val b - val U:Nat))):=by
       have e:sg false (val (Oe b)) - sg nr (val tr)=sg false (val b - val U:Nat):=by rw[x4,O3];have:=O.o.2;simp[sg];omega
       rw[e] at o7;exact o7
      have o0:Hid (BoxV M.heap.size w9 y0 b7 ya yl yc):=k0.o.1.below k0.o.1.lt h9;have K0:Hid (BoxV gq w9 z0 zn za zl zc/\N5 (w.heap.size+4) w9 (.agg #[.int .i64 z0,.bool zn,.slice za zl zc]) (sg (true != t) (val Q))):=⟨d7.o.1.below d7.o.1.lt h9,d7.o.2.1.below h9⟩;have y7:=L1.up h9;have e7:Hid (M.heap.size<w8.heap.size):=k0.o.1.lt;have y5:Hid (w8.heap.size<=w9.heap.size):=h9.size;obtain⟨n0,nn,np,nl,nc,W3⟩:=o7.shape;subst W3;clear t7 x4 L2 hlr o7 h9 g0 g1 g2 s0 s1 s2 n4 l0 l3;obtain⟨_,g0,g1,g2,fg,_⟩:=o0.o;have n4:=fg 0;have l0:=fg 1;have l3:=fg 2;clear fg;obtain⟨d4,b4⟩:=O1 (((w9.setCell ⟨M.heap.size,0,none⟩ (.int .i64 n0)).setCell ⟨M.heap.size,1,none⟩ (.bool nn)).setCell ⟨M.heap.size,2,none⟩ (.slice np nl nc));have K6:=Ec b4;have j8:Kq M.heap.size M.heap.size w9 d4:=by rw[<-b4];exact Kq.three _ _ _ _ _
      have e3:Hid (BoxV M.heap.size d4 n0 nn np nl nc/\N5 w8.heap.size d4 (.agg #[.int .i64 n0,.bool nn,.slice np nl nc]) (sg false (val b - val U:Nat))):=by
       rw[<-b4];exact⟨o0.o.put _ _ _ _ _,((HN9.o.setCell _ _ e7.o).setCell _ _ e7.o).setCell _ _ e7.o⟩
      have m7:Hid (BoxV gq d4 z0 zn za zl zc/\N5 (w.heap.size+4) d4 (.agg #[.int .i64 z0,.bool zn,.slice za zl zc]) (sg (true != t) (val Q))):=⟨K0.o.1.other (by have:=d7.o.2.2;omega) j8,K0.o.2.keeps o0.o.n o0.o.n j8⟩;have q7:Hid (Up w d4):=by
       rw[<-b4];exact (((HF.o _ y7.o).setCell (by show w.heap.size<=M.heap.size;omega) _).setCell (by show w.heap.size<=M.heap.size;omega) _).setCell (by show w.heap.size<=M.heap.size;omega) _
      have q4:Hid (BoxQ w.heap.size d4 x xn pa la ca y yn pb lb cb/\w8.heap.size<=d4.heap.size):=by
       refine⟨?_,by rw[<-b4];simpa using y5.o⟩;rw[<-b4];exact (((e0.o _ y7.o).far _ (by show w.heap.size+4<=M.heap.size;omega) _).far _ (by show w.heap.size+4<=M.heap.size;omega) _).far _ (by show w.heap.size+4<=M.heap.size;omega) _
      clear b4 j8
      go_upto_region 15 with fail
      rw[K6.o];clear g0 g1 g2 n4 l0 l3;obtain⟨a0,a1,a2,b0,b1,b2,r0,r1,r2,t0,t1,t2,f⟩:=q4.o.1;clear f
      go_wp2_with fail
      refine (Er _ _ _ _ _ _).mono ?_;rintro e j ⟨rfl,q5⟩;rw[y9.o];have Y:Up d4 j:=by rw[q5];exact Oy _ _
      have A:Hid (BoxV gq j z0 zn za zl zc/\N5 (w.heap.size+4) j (.agg #[.int .i64 z0,.bool zn,.slice za zl zc]) (sg (true != t) (val Q))):=⟨m7.o.1.below m7.o.1.lt Y,m7.o.2.below Y⟩;have c8:Hid (BoxV M.heap.size j n0 nn np nl nc/\N5 w8.heap.size j (.agg #[.int .i64 n0,.bool nn,.slice np nl nc]) (sg false (val b - val U:Nat))):=⟨e3.o.1.below e3.o.1.lt Y,e3.o.2.below Y⟩;have b9:Hid (w.heap.size+4<=j.heap.size):=by have:=Y.size;have:=e3.o.1.lt;show w.heap.size+4<=j.heap.size;omega
      have b3:Hid (BoxQ w.heap.size j x xn pa la ca y yn pb lb cb/\Up w j):=⟨q4.o.1.below (by have:=e3.o.1.lt;omega) Y,q7.o.trans (Y.mono q7.o.size)⟩;have D2:Hid (val Q<=val a):=by
       have h:=O.o;have hp:1<=val b:=by omega
       have:val Q*1<=val Q*val b:=J8 _ hp
       show val Q<=val a
       omega
      clear q5 Y a0 a1 a2 b0 b1 b2 r0 r1 r2 t0 t1 t2;obtain⟨a0,a1,a2,b0,b1,b2,r0,r1,r2,t0,t1,t2,f⟩:=b3.o.1;obtain⟨_,q0,q1,q2,fq,_⟩:=A.o.1;have o8:=fq 0;have p8:=fq 1;have o4:=fq 2;clear f fq
      cases t
      ·go_wp2_with fail
       go_region_with (first
        | (go_at_call 125;refine (In 1 _ (by omega) (by omega)).mono ?_
           rintro e K ⟨z1,rfl,⟨n1,o1,f9,n2,l1⟩,b5⟩;have a8:Up j K:=(Jh _ j).drew.trans (b5.mono Of);obtain⟨nq,tq,g6,g5⟩:=A.o.2;have l8:val tq=val Q:=by cases nq<;>simp[sg] at g5<;>omega
           have m6:tq.length<=a.length:=Qr tq a g6.2.1 q6.o (by rw[l8];exact D2.o);obtain⟨i0,i1,i2,i3,i4,l2⟩:=f9.shape;subst l2;have d:Hid (Nu j.heap.size K (.agg #[.int .i64 i0,.bool i1,.slice i2 i3 i4]) n1 o1/\sg n1 (val o1)=1/\o1.length<=3/\Up j K/\Nu (w.heap.size+4) j (.agg #[.int .i64 z0,.bool zn,.slice za zl zc]) nq tq/\tq.length<=a.length):=⟨f9,n2,l1,a8,g6,m6⟩;have x1:=Hd g5;obtain⟨_,P1,X3,W9,_,_⟩:=A.o.1.below A.o.1.lt a8;clear f9 n2 l1 b5 a8 g6 g5 l8 m6)
        | (go_at_call 142;refine (Mq B _ _ nq n1 tq o1 _ (by have:=d.o.2.2.2.1.size;have:=b9.o;have:=Z.o;omega) ((d.o.2.2.2.2.1.below d.o.2.2.2.1).mono (by have:=Z.o;omega)) (d.o.1.mono (by have:=b9.o;have:=Z.o;omega)) (by have:=d5.o.1;have:=d.o.2.2.2.2.2;omega) (by have:=d.o.2.2.1;omega)).mono ?_
           rintro e J ⟨zq,rfl,a7,f5⟩;have G:Up j J:=d.o.2.2.2.1.trans (f5.mono d.o.2.2.2.1.size);have x2:Hid (N5 K.heap.size J zq (sg true (val Q+1))):=by
            rw[x1.o,d.o.2.1] at a7;have e:sg (true != false) (val Q) - 1=sg true (val Q+1):=by simp[sg]<;>omega
            rw[e] at a7;exact a7
           have I:Hid (BoxV gq J z0 zn za zl zc/\gq<K.heap.size):=⟨A.o.1.below A.o.1.lt G,Jz A.o.1.lt d.o.2.2.2.1.size⟩;have d8:Hid (BoxV M.heap.size J n0 nn np nl nc/\N5 w8.heap.size J (.agg #[.int .i64 n0,.bool nn,.slice np nl nc]) (sg false (val b - val U:Nat))):=⟨c8.o.1.below c8.o.1.lt G,c8.o.2.below G⟩;have d9:Hid (BoxQ w.heap.size J x xn pa la ca y yn pb lb cb/\Up w J):=⟨b3.o.1.below (by have:=b9.o;omega) G,b3.o.2.trans (G.mono b3.o.2.size)⟩;obtain⟨m0,mn,mp,ml,mc,r7⟩:=a7.shape;subst r7;obtain⟨_,v0,v1,v2,fv,_⟩:=I.o.1;have s5:=fv 0;have s6:=fv 1;have x6:=fv 2;clear a7 f5 G fv))
       all_goals
        try simp only[Yz,Ys,Ym,Act.put,Ja,Jd,Je]
        clear a0 a1 a2 b0 b1 b2 r0 r1 r2 t0 t1 t2 q0 q1 q2 o8 p8 o4 v0 v1 v2 s5 s6 x6;obtain⟨V,E⟩:=O1 (((J.setCell ⟨gq,0,none⟩ (.int .i64 m0)).setCell ⟨gq,1,none⟩ (.bool mn)).setCell ⟨gq,2,none⟩ (.slice mp ml mc));have k9:=Ec E;have g4:w.heap.size<=gq:=by omega
        have f8:gq<w8.heap.size:=by have:=e7.o;have:=d7.o.2.2;omega
        have e4:Hid (BoxV gq V m0 mn mp ml mc/\N5 K.heap.size V (.agg #[.int .i64 m0,.bool mn,.slice mp ml mc]) (sg true (val Q+1))):=by
         rw[<-E];exact⟨I.o.1.put _ _ _ _ _,((x2.o.setCell _ _ I.o.2).setCell _ _ I.o.2).setCell _ _ I.o.2⟩
        have e9:Hid (BoxV M.heap.size V n0 nn np nl nc/\N5 w8.heap.size V (.agg #[.int .i64 n0,.bool nn,.slice np nl nc]) (sg false (val b - val U:Nat))):=by
         rw[<-E];exact⟨d8.o.1.other (by have:=d7.o.2.2;omega) (Kq.three _ _ _ _ _),((d8.o.2.setCell _ _ f8).setCell _ _ f8).setCell _ _ f8⟩
        have j9:Hid (BoxQ w.heap.size V x xn pa la ca y yn pb lb cb):=by
         rw[<-E];exact ((d9.o.1.far _ (by show w.heap.size+4<=gq;omega) _).far _ (by show w.heap.size+4<=gq;omega) _).far _ (by show w.heap.size+4<=gq;omega) _
        have g3:Hid (Up w V):=by
         rw[<-E];exact ((d9.o.2.setCell g4 _).setCell g4 _).setCell g4 _
        have r9:Hid (Ny (sg true (val a)) (sg false (val b)) (sg true (val Q+1)) (sg false (val b - val U:Nat))):=Pr false _ _ _ _ _ O.o.1 (by have:=O.o.2;omega) B2.o;have b5:w.heap.size+4<=K.heap.size:=by have:=I.o.2;omega
        have j7:w.heap.size+4<=w8.heap.size:=by omega
        clear E
        go_upto_region 18 with fail
        rw[k9.o];obtain⟨_,_,_,_,_,_,r0,r1,r2,t0,t1,t2,f⟩:=j9.o;have n5:=f 2 (by omega) 0;have k8:=f 2 (by omega) 1;have j5:=f 2 (by omega) 2;have m8:=f 3 (by omega) 0;have l7:=f 3 (by omega) 1;have k7:=f 3 (by omega) 2;clear f;obtain⟨_,q0,q1,q2,fq,_⟩:=e4.o.1;obtain⟨_,g0,g1,g2,fg,_⟩:=e9.o.1;clear fq fg
        go_wp2_with fail
        go_region
        all_goals
         go_wp2
         refine Jj ?_ rfl ⟨_,_,_,_,rfl,⟨((((((e4.o.2.setCell _ _ ?_).setCell _ _ ?_).setCell _ _ ?_).setCell _ _ ?_).setCell _ _ ?_).setCell _ _ ?_).drew.mono ?_,((((((e9.o.2.setCell _ _ ?_).setCell _ _ ?_).setCell _ _ ?_).setCell _ _ ?_).setCell _ _ ?_).setCell _ _ ?_).drew.mono ?_⟩,r9.o,((((((g3.o.setCell ?_ _).setCell ?_ _).setCell ?_ _).setCell ?_ _).setCell ?_ _).setCell ?_ _).drew⟩
         all_goals first
          | (simp[results,results129,go_sem,r0,r1,r2,t0,t1,t2];done)
          | (simp;omega)
          | omega
      ·go_wp2_with fail
       go_region_with (first
        | (go_at_call 125;refine (In 1 _ (by omega) (by omega)).mono ?_
           rintro e K ⟨z1,rfl,⟨n1,o1,f9,n2,l1⟩,b5⟩;have a8:Up j K:=(Jh _ j).drew.trans (b5.mono Of);obtain⟨nq,tq,g6,g5⟩:=A.o.2;have l8:val tq=val Q:=by cases nq<;>simp[sg] at g5<;>omega
           have m6:tq.length<=a.length:=Qr tq a g6.2.1 q6.o (by rw[l8];exact D2.o);obtain⟨i0,i1,i2,i3,i4,l2⟩:=f9.shape;subst l2;have d:Hid (Nu j.heap.size K (.agg #[.int .i64 i0,.bool i1,.slice i2 i3 i4]) n1 o1/\sg n1 (val o1)=1/\o1.length<=3/\Up j K/\Nu (w.heap.size+4) j (.agg #[.int .i64 z0,.bool zn,.slice za zl zc]) nq tq/\tq.length<=a.length):=⟨f9,n2,l1,a8,g6,m6⟩;have x1:=Hd g5;obtain⟨_,P1,X3,W9,_,_⟩:=A.o.1.below A.o.1.lt a8;clear f9 n2 l1 b5 a8 g6 g5 l8 m6)
        | (go_at_call 143;refine (Mf B _ _ nq n1 tq o1 _ (by have:=d.o.2.2.2.1.size;have:=b9.o;have:=Z.o;omega) ((d.o.2.2.2.2.1.below d.o.2.2.2.1).mono (by have:=Z.o;omega)) (d.o.1.mono (by have:=b9.o;have:=Z.o;omega)) (by have:=d5.o.1;have:=d.o.2.2.2.2.2;omega) (by have:=d.o.2.2.1;omega)).mono ?_
           rintro e J ⟨zq,rfl,a7,f5⟩;have G:Up j J:=d.o.2.2.2.1.trans (f5.mono d.o.2.2.2.1.size);have x2:Hid (N5 K.heap.size J zq (sg false (val Q+1))):=by
            rw[x1.o,d.o.2.1] at a7;have e:sg (true != true) (val Q)+1=sg false (val Q+1):=by simp[sg]<;>omega
            rw[e] at a7;exact a7
           have I:Hid (BoxV gq J z0 zn za zl zc/\gq<K.heap.size):=⟨A.o.1.below A.o.1.lt G,Jz A.o.1.lt d.o.2.2.2.1.size⟩;have d8:Hid (BoxV M.heap.size J n0 nn np nl nc/\N5 w8.heap.size J (.agg #[.int .i64 n0,.bool nn,.slice np nl nc]) (sg false (val b - val U:Nat))):=⟨c8.o.1.below c8.o.1.lt G,c8.o.2.below G⟩;have d9:Hid (BoxQ w.heap.size J x xn pa la ca y yn pb lb cb/\Up w J):=⟨b3.o.1.below (by have:=b9.o;omega) G,b3.o.2.trans (G.mono b3.o.2.size)⟩;obtain⟨m0,mn,mp,ml,mc,r7⟩:=a7.shape;subst r7;obtain⟨_,v0,v1,v2,fv,_⟩:=I.o.1;have s5:=fv 0;have s6:=fv 1;have x6:=fv 2;clear a7 f5 G fv))
       all_goals
        try simp only[Yz,Ys,Ym,Act.put,Ja,Jd,Je]
        clear a0 a1 a2 b0 b1 b2 r0 r1 r2 t0 t1 t2 q0 q1 q2 o8 p8 o4 v0 v1 v2 s5 s6 x6;obtain⟨V,E⟩:=O1 (((J.setCell ⟨gq,0,none⟩ (.int .i64 m0)).setCell ⟨gq,1,none⟩ (.bool mn)).setCell ⟨gq,2,none⟩ (.slice mp ml mc));have k9:=Ec E;have g4:w.heap.size<=gq:=by omega
        have f8:gq<w8.heap.size:=by have:=e7.o;have:=d7.o.2.2;omega
        have e4:Hid (BoxV gq V m0 mn mp ml mc/\N5 K.heap.size V (.agg #[.int .i64 m0,.bool mn,.slice mp ml mc]) (sg false (val Q+1))):=by
         rw[<-E];exact⟨I.o.1.put _ _ _ _ _,((x2.o.setCell _ _ I.o.2).setCell _ _ I.o.2).setCell _ _ I.o.2⟩
        have e9:Hid (BoxV M.heap.size V n0 nn np nl nc/\N5 w8.heap.size V (.agg #[.int .i64 n0,.bool nn,.slice np nl nc]) (sg false (val b - val U:Nat))):=by
         rw[<-E];exact⟨d8.o.1.other (by have:=d7.o.2.2;omega) (Kq.three _ _ _ _ _),((d8.o.2.setCell _ _ f8).setCell _ _ f8).setCell _ _ f8⟩
        have j9:Hid (BoxQ w.heap.size V x xn pa la ca y yn pb lb cb):=by
         rw[<-E];exact ((d9.o.1.far _ (by show w.heap.size+4<=gq;omega) _).far _ (by show w.heap.size+4<=gq;omega) _).far _ (by show w.heap.size+4<=gq;omega) _
        have g3:Hid (Up w V):=by
         rw[<-E];exact ((d9.o.2.setCell g4 _).setCell g4 _).setCell g4 _
        have r9:Hid (Ny (sg true (val a)) (sg true (val b)) (sg false (val Q+1)) (sg false (val b - val U:Nat))):=Pr true _ _ _ _ _ O.o.1 (by have:=O.o.2;omega) B2.o;have b5:w.heap.size+4<=K.heap.size:=by have:=I.o.2;omega
        have j7:w.heap.size+4<=w8.heap.size:=by omega
        clear E
        go_upto_region 18 with fail
        rw[k9.o];obtain⟨_,_,_,_,_,_,r0,r1,r2,t0,t1,t2,f⟩:=j9.o;have n5:=f 2 (by omega) 0;have k8:=f 2 (by omega) 1;have j5:=f 2 (by omega) 2;have m8:=f 3 (by omega) 0;have l7:=f 3 (by omega) 1;have k7:=f 3 (by omega) 2;clear f;obtain⟨_,q0,q1,q2,fq,_⟩:=e4.o.1;obtain⟨_,g0,g1,g2,fg,_⟩:=e9.o.1;clear fq fg
        go_wp2_with fail
        go_region
        all_goals
         go_wp2
         refine Jj ?_ rfl ⟨_,_,_,_,rfl,⟨((((((e4.o.2.setCell _ _ ?_).setCell _ _ ?_).setCell _ _ ?_).setCell _ _ ?_).setCell _ _ ?_).setCell _ _ ?_).drew.mono ?_,((((((e9.o.2.setCell _ _ ?_).setCell _ _ ?_).setCell _ _ ?_).setCell _ _ ?_).setCell _ _ ?_).setCell _ _ ?_).drew.mono ?_⟩,r9.o,((((((g3.o.setCell ?_ _).setCell ?_ _).setCell ?_ _).setCell ?_ _).setCell ?_ _).setCell ?_ _).drew⟩
         all_goals first
          | (simp[results,results129,go_sem,r0,r1,r2,t0,t1,t2];done)
          | (simp;omega)
          | omega
end Go.Proofs.YtipgjenolpofpaaGreatDoor.Q
