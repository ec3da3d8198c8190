import Derived.Test.YtipgjenolpofpaaGreatDoorP13
import Derived.Test.YtipgjenolpofpaaGreatDoorP12
import Derived.Laws.Strings3
import Derived.Lay
import Derived.ChangeVars
set_option maxRecDepth 100000
set_option maxHeartbeats 2000000
namespace Go.Proofs.YtipgjenolpofpaaGreatDoor.Q
open Go.ChangeShapes Go.WideShapes Go.ChangeAt Go.RowKit Go.Proofs.Tryz
theorem ED (B:Nat)(za zb:Value)(na nb:Bool)(a b:List Nat)(w:World)(hBw:B<=w.heap.size)(hza:Nu B w za na a)(hzb:Nu B w zb nb b)(hla:a.length<=100000)(hlb:b.length<=100000)(hne:b≠[]) :
 Calls prog 129 #[za,zb] w fun e w'=>∃ z1 z2 q r,e=.returned (.tuple #[z1,z2])/\(N5 w.heap.size w' z1 q/\N5 w.heap.size w' z2 r)/\Ny (sg na (val a)) (sg nb (val b)) q r/\Up w w':=by
 have j:=hza.1;have A:=hzb.1;have d:=hzb.2.1;obtain⟨x,xn,pa,la,U,rfl,fa,O⟩:=hza.form2;obtain⟨y,M,pb,lb,Y,rfl,V,Z⟩:=hzb.form2
 by_cases J:la=0/\lb=0
 ·have G:=O J.1;have E:=Z J.2;rw[G.2,E.2];have K:=Ss na a j G.1;have I:=Ss nb b A E.1;exact Ti _ _ w K.1 K.2 I.1 I.2 (fun h=>hne ((Id nb b d).1 h))
 have hz:((la:Int)==0)=false∨(((la:Int)==0)=true/\((lb:Int)==0)=false):=by
  by_cases h:la=0
  ·exact .inr ⟨by rw[Yc];omega,by rw[Jc];omega⟩
  exact .inl (by rw[Jc];omega)
 have h:=GF B x y xn M pa la U pb lb Y na nb a b w hBw hz hza hzb _ _ fa V hla hlb hne;rw[Hj,Hj] at h;exact h
theorem FE (t:List Nat)(N:Nat)(ht:isTrim t)(h:val t<1000000000 ^ N):t.length<=N:=by
 by_cases hn:t=[]
 ·rw[hn];exact Jy _
 have d:=Xe t ht hn;have h4:=(Nat.pow_lt_pow_iff_right (show 1<1000000000 by decide)).1 (Nat.lt_of_le_of_lt d h);omega
theorem QA (X Y R:Nat)(q:Int)(h:(X:Int)=q*Y+R)(hr:R<Y):Nat.gcd Y R=Nat.gcd X Y:=by
 have d:(X:Int) % Y=R:=by
  rw[h,Int.add_comm,Int.add_mul_emod_self_right];exact Int.emod_eq_of_lt (Uu _) (Int.ofNat_lt.2 hr)
 have j:X % Y=R:=by exact_mod_cast d
 rw[<-j,Uz X Y,Nat.gcd_rec Y X,Uz]
def DC (B P d:Nat)(w0:World)(gx gy k:Nat)(wr:World):Prop:=
 ∃ (X:Nat) (x0:Int) (xn:Bool) (xp:Option Addr) (xl xc:Nat) (y0:Int) (yn:Bool) (yp:Option Addr) (yl yc:Nat),(BoxV gx wr x0 xn xp xl xc/\BoxV gy wr y0 yn yp yl yc/\BoxV (w0.heap.size+2) wr 0 false none 0 0) /\
  (N5 B wr (.agg #[.int .i64 x0,.bool xn,.slice xp xl xc]) (X:Nat)/\N5 B wr (.agg #[.int .i64 y0,.bool yn,.slice yp yl yc]) (k:Nat))/\(X<P/\k<P)/\Nat.gcd X k=d/\Up w0 wr
theorem Cw {B:Nat}{w:World}{z:Value}{X:Nat}(N:Nat)(h:N5 B w z (X:Nat))(hX:X<1000000000 ^ N):∃ neg t,Nu B w z neg t/\sg neg (val t)=(X:Nat)/\val t=X/\t.length<=N:=by
 obtain⟨neg,t,d,j⟩:=h;have A:val t=X:=by have:=congrArg Int.natAbs j;rw[Fj] at this;simpa using this
 exact⟨neg,t,d,j,A,FE t N d.2.1 (by omega)⟩
theorem CP {N:Nat}{w W:World}(h:Below N w W)(g:Nat)(hg:N<=g)(u0 u1 u2:Value):Below N w (((W.setCell ⟨g,0,none⟩ u0).setCell ⟨g,1,none⟩ u1).setCell ⟨g,2,none⟩ u2):=
 ((h.setCell (p:=⟨g,0,none⟩) hg u0).setCell (p:=⟨g,1,none⟩) hg u1).setCell (p:=⟨g,2,none⟩) hg u2
theorem KU (B:Nat)(za zb:Value)(na nb:Bool)(a b:List Nat)(N:Nat)(w:World)(hBw:B<=w.heap.size)(hza:Nu B w za na a)(hzb:Nu B w zb nb b)(hla:a.length<=N)(hlb:b.length<=N)(hN:N<=100000) :
 Calls prog 110 #[za,zb] w fun e w'=>∃ z,e=.returned z/\N5 B w' z (E8 (sg na (val a)) (sg nb (val b)))/\Up w w':=by
 obtain⟨a0,an,ap,al,ac,rfl⟩:=hza.shape;obtain⟨b0,bn,bp,bl,bc,rfl⟩:=hzb.shape;obtain⟨d,hd⟩:=O1 (Nat.gcd (val a) (val b));have HD:=Ec hd;have n6:E8 (sg na (val a)) (sg nb (val b))=(d:Int):=by unfold E8 Int.gcd;rw[Fj,Fj,hd]
 rw[n6];obtain⟨P,hP⟩:=O1 (1000000000 ^ N);have HP:=Ec hP;have p7:Hid (val a<P/\val b<P):=by
  have h1:=Jz (Gu a hza.1) (Yu (show 0<1000000000 by decide) hla);have h2:=Jz (Gu b hzb.1) (Yu (show 0<1000000000 by decide) hlb);rw[hP] at h1 h2;exact⟨h1,h2⟩
 have w7:=Ec hza;have u8:=Ec hzb;have d6:=Ec hBw;clear hza hzb hd n6 hP hBw;obtain⟨W0,I⟩:=O1 (((w.alloc (.cells #[.int .i64 a0,.bool an,.slice ap al ac] 123)).alloc (.cells #[.int .i64 b0,.bool bn,.slice bp bl bc] 123)).alloc (.cells #[.int .i64 0,.bool false,.slice none 0 0] 123));have u6:=Ec I;have o3:W0.heap.size=w.heap.size+3:=by rw[<-I];simp
 have g5:=Ec o3;have d0:Hid (Up w W0):=by
  unfold Hid
  rw[<-I];exact Om (Om (Oy _ _) _) _
 have g0:Hid (∀ W,Up W0 W->BoxV w.heap.size W a0 an ap al ac/\BoxV (w.heap.size+1) W b0 bn bp bl bc/\BoxV (w.heap.size+2) W 0 false none 0 0):=fun W hW=>by
  have h1:BoxV w.heap.size W0 a0 an ap al ac:=by rw[<-I];exact ((H6 w _ _ _ _ _ _).alloc _).alloc _
  have h2:BoxV (w.heap.size+1) W0 b0 bn bp bl bc:=by rw[<-I];exact (Hm _ _ (by simp) _ _ _ _ _ _).alloc _
  have h3:BoxV (w.heap.size+2) W0 0 false none 0 0:=by rw[<-I];exact Hm _ _ (by simp) _ _ _ _ _ _
  exact⟨h1.below h1.lt hW,h2.below h2.lt hW,h3.below h3.lt hW⟩
 clear I o3
 go_enter func110,ntmps110
 go_upto_region 1 with fail
 rw[u6.o];obtain⟨⟨_,q0,q1,q2,_,_⟩,_⟩:=g0.o W0 (Jh _ _)
 go_wp2_with fail
 refine (Ev B _ na a _ (w7.o.below d0.o) (by have:=d6.o;have:=g5.o;omega)).mono ?_;rintro e w1 ⟨v1,rfl,n9,l5⟩;have l6:=Ec n9;have n3:=Ec l5;clear n9 l5
 go_wp2_with fail
 refine (Nc B false v1 a _ l6.o).mono ?_;rintro e w2 ⟨z1,rfl,k9,h0⟩;have f5:Nu B w2 z1 false (Oe a):=k9 _ _ (l6.o.below h0);have o4:=Ec (n3.o.trans (h0.mono n3.o.size));obtain⟨x0,xn,xp,xl,xc,rfl⟩:=f5.shape;obtain⟨W2,b9⟩:=O1 (w2.alloc (.cells #[.int .i64 x0,.bool xn,.slice xp xl xc] 123));have s6:=Ec b9;have c8:Up w2 W2:=by rw[<-b9];exact Oy _ _
 have o6:W2.heap.size=w2.heap.size+1:=by rw[<-b9];simp
 have u2:=Ec o6;have g7:Hid (BoxV w2.heap.size W2 x0 xn xp xl xc):=by unfold Hid;rw[<-b9];exact H6 w2 _ _ _ _ _ _
 have n2:Hid (Nu B W2 (.agg #[.int .i64 x0,.bool xn,.slice xp xl xc]) false (Oe a)):=f5.below c8;have j:=o4.up c8;obtain⟨_,⟨_,r0,r1,r2,_,_⟩,_⟩:=g0.o W2 j.o;clear k9 h0 b9 c8 o6 f5 q0 q1 q2
 go_upto_region 2 with fail
 rw[s6.o]
 go_wp2_with fail
 refine (Ev B _ nb b _ (u8.o.below (d0.o.trans (j.o.mono d0.o.size))) (by have:=d6.o;have:=g5.o;have:=j.o.size;omega)).mono ?_;rintro e w3 ⟨v2,rfl,m5,m7⟩;have i8:=Ec m5;have j2:=Ec m7;clear m5 m7
 go_wp2_with fail
 refine (Nc B false v2 b _ i8.o).mono ?_;rintro e w4 ⟨z2,rfl,n5,e8⟩;have g8:Nu B w4 z2 false (Oe b):=n5 _ _ (i8.o.below e8);have o9:=Ec (j2.o.trans (e8.mono j2.o.size));obtain⟨Y,V,U,yl,O,rfl⟩:=g8.shape;obtain⟨W4,d9⟩:=O1 (w4.alloc (.cells #[.int .i64 Y,.bool V,.slice U yl O] 123));have w8:=Ec d9;have c6:Up w4 W4:=by rw[<-d9];exact Oy _ _
 have l2:Hid (BoxV w4.heap.size W4 Y V U yl O):=by unfold Hid;rw[<-d9];exact H6 w4 _ _ _ _ _ _
 have o5:Hid (Nu B W4 (.agg #[.int .i64 Y,.bool V,.slice U yl O]) false (Oe b)):=g8.below c6;have E:=o9.up c6;have m6:Hid (W2.heap.size<=w4.heap.size):=o9.o.size;clear n5 e8 d9 c6 g8 r0 r1 r2
 go_wp2
 rw[w8.o];have L5:w2.heap.size<w4.heap.size:=by have:=u2.o;have:=m6.o;omega
 have L1:w.heap.size+2<w2.heap.size:=by have:=o4.o.size;have:=g5.o;omega
 have j6:=Ec (g7.o.below g7.o.lt E.o);have e6:=Ec (n2.o.below E.o);have l0:=Ec (g0.o W4 (j.o.trans (E.o.mono j.o.size))).2.2;have e1:=Ec (d0.o.trans ((j.o.trans (E.o.mono j.o.size)).mono d0.o.size));generalize L2:w2.heap.size=G at *;generalize H4:w4.heap.size=J at *
 go_loopg [] (val b) (DC B P d w G J)
 case atStart=>exact⟨val a,x0,xn,xp,xl,xc,Y,V,U,yl,O,⟨j6.o,l2.o,l0.o⟩,⟨⟨false,_,e6.o,by rw[O3];rfl⟩,⟨false,_,o5.o,by rw[O3];rfl⟩⟩,p7.o,HD.o,e1.o⟩
 case round=>
  clear j6 l2 l0 e6 o5 e1 E m6 g7 n2 j;obtain⟨X,x0,xn,xp,xl,xc,Y,V,U,yl,O,⟨hX,hY,hR⟩,⟨g1,g4⟩,⟨d5,d8⟩,hg,hB⟩:=hrel;rw[<-HP.o] at d5 d8;obtain⟨nx,tx,l7,l4,q7,l8⟩:=Cw N g1 d5;obtain⟨ny,ty,g6,n0,g9,j0⟩:=Cw N g4 d8;have f8:=D4 g6;rw[g9] at f8;have t6:=Ec f8;have r5:Hid (∀ W,Up wr W->Nu B W (.agg #[.int .i64 x0,.bool xn,.slice xp xl xc]) nx tx):=fun W hW=>l7.below hW;have u1:Hid (∀ W,Up wr W->Nu B W (.agg #[.int .i64 Y,.bool V,.slice U yl O]) ny ty):=fun W hW=>g6.below hW;have M:Hid ((sg nx (val tx)=(X:Nat)/\sg ny (val ty)=(gk:Nat))/\(tx.length<=N/\ty.length<=N)/\val ty=gk/\X<1000000000 ^ N/\gk<1000000000 ^ N):=⟨⟨l4,n0⟩,⟨l8,j0⟩,g9,d5,d8⟩;have v8:=Hd g4;have x5:=Hd g1;have j3:=Ec hg;have a8:=Ec hB;have K:Hid (∀ W,Up wr W->BoxV G W x0 xn xp xl xc/\BoxV J W Y V U yl O/\BoxV (w.heap.size+2) W 0 false none 0 0):=fun W hW=>⟨hX.below hX.lt hW,hY.below hY.lt hW,hR.below hR.lt hW⟩;have q0:=hY.c0;have q1:=hY.c1;have q2:=hY.c2;clear l7 g6 l4 n0 q7 g9 l8 j0 d5 d8 g4 g1 hg hB hX hY hR f8
  go_wp2_with fail
  refine (Md _ _ _ _ _ _).mono ?_;rintro e w5 ⟨rfl,g3⟩;rw[t6.o];have A:=Ec g3;obtain⟨⟨_,s0,w9,x1,af,_⟩,⟨_,s2,t8,s7,bf,_⟩,⟨_,q9,q6,r4,rf,_⟩⟩:=K.o w5 g3;clear g3 q0 q1 q2
  by_cases o0:gk=0
  ·have f0:=rf 0;have f1:=rf 1;have f2:=rf 2;have p0:Hid (X=d):=by
    have:=j3.o;rw[o0,Nat.gcd_zero_right] at this;exact this
   clear af bf rf
   go_wp2
   have n1:=x5.o.below A.o;rw[p0.o] at n1;have e9:=(K.o w5 A.o).2.2;have b8:=e9.put x0 xn xp xl xc;have v6:=n1.keeps e9.n e9.n (Kq.three w5 (w.heap.size+2) (.int .i64 x0) (.bool xn) (.slice xp xl xc));have s8:=CP (a8.o.trans (A.o.mono a8.o.size)) (w.heap.size+2) (by omega) (.int .i64 x0) (.bool xn) (.slice xp xl xc);have k0:=b8.c0;have k1:=b8.c1;have k2:=b8.c2;have e2:w.heap.size+1+1=w.heap.size+2:=rfl;rw[e2];generalize ((w5.setCell ⟨w.heap.size+2,0,none⟩ (.int .i64 x0)).setCell ⟨w.heap.size+2,1,none⟩ (.bool xn)).setCell ⟨w.heap.size+2,2,none⟩ (.slice xp xl xc)=WE at *;refine Jj (v:=.agg #[.int .i64 x0,.bool xn,.slice xp xl xc]) ?_ rfl ⟨_,rfl,v6,s8⟩;simp[results,results110,go_sem,k0,k1,k2]
  ·go_wp2_with fail
   refine (ED B _ _ nx ny tx ty _ (by have:=d6.o;have:=a8.o.size;have:=A.o.size;omega) (r5.o _ A.o) (u1.o _ A.o) (by have:=M.o.2.1;omega) (by have:=M.o.2.1;omega) (fun h=>o0 (by have:=M.o.2.2.1;rw[h] at this;simpa[val] using this.symm))).mono ?_;rintro e w6 ⟨z1,z2,q,r,rfl,⟨l3,g2⟩,l1,d2⟩;rw[M.o.1.1,M.o.1.2] at l1;obtain⟨m0,mn,mp,ml,mc,rfl⟩:=l3.shape;obtain⟨u0,un,up,ul,uc,rfl⟩:=g2.shape;obtain⟨m9,j1,j7⟩:=l1;obtain⟨R,rfl⟩:=Zn j1;have j5:R<gk:=by simpa using j7
   have o7:Hid (R<gk/\Nat.gcd gk R=d):=⟨j5,(QA X gk R q m9 j5).trans j3.o⟩;obtain⟨W6,d4⟩:=O1 ((w6.alloc (.cells #[.int .i64 m0,.bool mn,.slice mp ml mc] 123)).alloc (.cells #[.int .i64 u0,.bool un,.slice up ul uc] 123));have e7:Up w6 W6:=by rw[<-d4];exact Om (Oy _ _) _
   have hU:BoxV (w6.heap.size+1) W6 u0 un up ul uc:=by rw[<-d4];exact Hm _ _ (by simp) _ _ _ _ _ _
   have d7:Up wr W6:=A.o.trans ((d2.trans (e7.mono d2.size)).mono A.o.size);have j8:N5 B W6 (.agg #[.int .i64 u0,.bool un,.slice up ul uc]) (R:Nat):=(g2.below e7).mono (by have:=d6.o;have:=a8.o.size;have:=A.o.size;omega);have l9:=v8.o.below d7;obtain⟨Z,o1,n8⟩:=K.o W6 d7;have y5:J<w6.heap.size:=by
    have h1:=(K.o w5 A.o).2.1.lt;have h2:=d2.size;omega
   have x4:=Ec d4;have i6:Hid (DC B P d w G J R ((((((W6.setCell ⟨G,0,none⟩ (.int .i64 Y)).setCell ⟨G,1,none⟩ (.bool V)).setCell ⟨G,2,none⟩ (.slice U yl O)).setCell ⟨J,0,none⟩ (.int .i64 u0)).setCell ⟨J,1,none⟩ (.bool un)).setCell ⟨J,2,none⟩ (.slice up ul uc))):=by
    have k7:=Kq.three W6 G (.int .i64 Y) (.bool V) (.slice U yl O);have r8:=Z.put Y V U yl O;have d1:=o1.other (show J≠G by omega) k7;have x2:=n8.other (show w.heap.size+2≠G by omega) k7;have j4:=l9.keeps Z.n Z.n k7;have m8:=j8.keeps Z.n Z.n k7;have q8:=CP (a8.o.trans (d7.mono a8.o.size)) G (by omega) (.int .i64 Y) (.bool V) (.slice U yl O);generalize ((W6.setCell ⟨G,0,none⟩ (.int .i64 Y)).setCell ⟨G,1,none⟩ (.bool V)).setCell ⟨G,2,none⟩ (.slice U yl O)=W7 at *;have k8:=Kq.three W7 J (.int .i64 u0) (.bool un) (.slice up ul uc);have q4:=r8.other (show G≠J by omega) k8;have r3:=d1.put u0 un up ul uc;have u9:=x2.other (show w.heap.size+2≠J by omega) k8;have o8:=j4.keeps d1.n d1.n k8;have n4:=m8.keeps d1.n d1.n k8;have u7:=CP q8 J (by omega) (.int .i64 u0) (.bool un) (.slice up ul uc);have i7:=M.o.2.2.2.2;rw[HP.o] at i7;exact⟨gk,Y,V,U,yl,O,u0,un,up,ul,uc,⟨q4,r3,u9⟩,⟨o8,n4⟩,⟨i7,by omega⟩,o7.o.2,u7⟩
   obtain⟨_,M6,D1,L3,xf,_⟩:=Z;obtain⟨_,K6,H2,y6,yf,_⟩:=o1;obtain⟨y8,M4,M2,L7,_,_⟩:=hU;have D2:=xf 0;have z6:=xf 1;have F2:=xf 2;have D0:=yf 0;have H7:=yf 1;have M8:=yf 2;have L6:G≠J:=by omega
   have y7:G≠w6.heap.size+1:=by omega
   have y4:J≠w6.heap.size+1:=by omega
   clear s0 w9 x1 s2 t8 s7 q9 q6 r4 af bf rf xf yf l3 g2 m9 j1 j7 d2 e7 d7 j8 l9 n8 d4
   go_upto_region 5 with fail
   rw[x4.o]
   go_wp2
   go_roundg R
   case measure=>exact o7.o.1
   case rel=>exact i6.o
theorem DE {B:Nat}{w:World}{g0:Int}{gn:Bool}{ga:Option Addr}{gl gc:Nat}{G:Int}(h:N5 B w (.agg #[.int .i64 g0,.bool gn,.slice ga gl gc]) G):(((gl:Int)==0)&&(g0==1))=decide (G=1):=by
 obtain⟨neg,t,⟨M,j,E⟩,I⟩:=h
 rcases E with⟨J,v,e,⟨p,c,rfl,_⟩⟩|⟨J,e⟩
 ·simp only[Value.agg.injEq,Array.mk.injEq,List.cons.injEq,Value.slice.injEq,and_true] at e;have hl:gl=t.length:=e.2.2.2.1;have A:t≠[]:=by rintro rfl;simp at J
  have h3:=Xe t j A;have h4:1000000000 ^ 2<=1000000000 ^ (t.length - 1):=Yu (by decide) (by omega);have h5:(1000000000:Nat) ^ 2=1000000000000000000:=by decide
  have d:G≠1:=by
   rw[<-I]
   cases neg<;>simp[sg]<;>omega
  have E:((gl:Int)==0)=false:=by rw[Jc];omega
  rw[E,Jg d];rfl
 simp only[Value.agg.injEq,Array.mk.injEq,List.cons.injEq,Value.slice.injEq,Value.int.injEq,and_true,true_and] at e;have K:g0=sg neg (val t):=e.1;have hl:gl=0:=e.2.2.2.1;subst hl K;rw[I]
 by_cases d:G=1
 ·subst d;rfl
 have:(G==1)=false:=by rw[Jc];exact d
 rw[this,Jg d];rfl
theorem XL (q:ByteArray)(h:0<q.size):((q[0].toNat:Int)==45)=isNeg q:=by
 unfold isNeg;have e:(q.extract 0 1).toList=[q[0]]:=by
  rw[Jl,Y9,Zo]
  show (q.data.toList.drop 0).take (1 - 0)=[q[0]]
  have hl:0<q.data.toList.length:=by simpa using h
  cases j:q.data.toList with
  | nil=>rw[j] at hl;simp at hl
  | cons c l=>
    have:q[0]=c:=by
     have d:q.data.toList[0]? = some q[0]:=by rw[Jf hl];rfl
     rw[j] at d
     simpa using d.symm
    rw[this];rfl
 rw[e]
 by_cases hc:q[0]=45
 ·rw[hc];rfl
 have d:((q[0].toNat:Int)==45)=false:=by
  rw[Jc];intro E;exact hc (UInt8.toNat_inj.1 (by have e3:(45:UInt8).toNat=45:=rfl;omega))
 have A:([q[0]]==[45])=false:=by simp[hc]
 rw[d,A]
theorem CW (a:ByteArray)(c:UInt8):(a.toList==[c])=decide (a=strB [c]):=by
 have:(strB [c]).toList=[c]:=by rw[Jl];rfl
 have h:=toList_inj (a:=a) (b:=strB [c]);rw[this] at h;exact h
theorem specIsRat_any (s:ByteArray)(w:World)(hs:s.size<=maxLen) :
 Calls prog 91 #[.string s] w fun e w'=>∃ b,e=.returned (.bool b)/\Xo s b/\Up w w':=by
 obtain⟨k,hk⟩:=isCut_ex s;have HK:=Hd hk;clear hk
 cases k with
 | none=>
   go_enter func91,ntmps91
   go_wp2_with fail
   refine (Qu s none _ hs HK.o).mono ?_;rintro e w' ⟨rfl,b8⟩;subst b8;have e1:X4 none = -1:=rfl;rw[e1]
   go_wp2_with fail
   refine (isInt_spec s _ hs).mono ?_;rintro e w2 ⟨rfl,b5⟩;subst b5;obtain⟨b,hb⟩:=O1 (isIntB s);have HB:=Hd hb;rw[hb];clear hb
   go_wp2
   go_ret
   refine⟨_,rfl,⟨none,HK.o,?_⟩,Jh _ _⟩;constructor
   ·intro e;exact⟨numT s,1,HB.o.trans e,rfl,rfl⟩
   ·rintro⟨x,y,h,_⟩;rw[<-HB.o];exact h
 | some i=>
   have hi:=Fp HK.o;have e4:s.extract 0 i=cutP s (some i):=rfl;have d3:s.extract (i+1) s.size=cutQ s (some i):=rfl;obtain⟨p,hp⟩:=O1 (cutP s (some i));obtain⟨q,hq⟩:=O1 (cutQ s (some i));have d:Hid (cutP s (some i)=p/\cutQ s (some i)=q):=⟨hp,hq⟩;rw[hp] at e4;rw[hq] at d3;have e5:p.size<=maxLen:=by rw[<-e4,Yn];omega
   have d7:q.size<=maxLen:=by rw[<-d3,Yn];omega
   have d8:Hid (p.size<=maxLen/\q.size<=maxLen):=⟨e5,d7⟩;unfold maxLen at hs;clear hp hq e5 d7
   go_enter func91,ntmps91
   go_wp2_with fail
   refine (Qu s (some i) _ (by unfold maxLen;exact hs) HK.o).mono ?_;rintro e w' ⟨rfl,b8⟩;subst b8;have e1:X4 (some i)=(i:Int):=rfl;rw[e1];have j:Hid ((¬ ∃ x y,RatV s (some i) x y)->Xo s false):=fun h=>⟨some i,HK.o,⟨(fun e=>by cases e),fun hx=>(h hx).elim⟩⟩
   go_wp2_with fail
   refine (isInt_spec p _ d8.o.1).mono ?_;rintro e w2 ⟨rfl,b5⟩;subst b5
   cases M:isIntB p
   ·have J:=Hd M;clear M;have I:Hid (Xo s false):=j.o (fun ⟨x,y,h⟩=>by
     have A:=h.1.1;rw[d.o.1,J.o] at A
     cases A)
    go_wp2
    go_ret
    exact⟨false,rfl,I.o,Jh _ _⟩
   have J:=Hd M;clear M
   go_wp2_with fail
   refine (isInt_spec q _ d8.o.2).mono ?_;rintro e w3 ⟨rfl,g9⟩;subst g9
   cases U:isIntB q
   ·have G:=Hd U;clear U;have I:Hid (Xo s false):=j.o (fun ⟨x,y,h⟩=>by
     have A:=h.1.2;rw[d.o.2,G.o] at A
     cases A)
    go_wp2
    go_ret
    exact⟨false,rfl,I.o,Jh _ _⟩
   have G:=Hd U;clear U
   cases f8:(p.toList==[48])
   case true=>
    have a7:=Hd f8;have I:Hid (Xo s false):=j.o (fun ⟨x,y,h⟩=>by
     have A:=h.2.1.2.1;rw[d.o.1] at A;exact A (of_decide_eq_true ((CW p 48).symm.trans a7.o)))
    go_wp2
    go_ret
    exact⟨false,rfl,I.o,Jh _ _⟩
   case false=>
   have a7:=Hd f8
   cases e6:(q.toList==[48])
   case true=>
    have b6:=Hd e6;have I:Hid (Xo s false):=j.o (fun ⟨x,y,h⟩=>by
     have A:=h.2.1.1;rw[d.o.2,of_decide_eq_true ((CW q 48).symm.trans b6.o)] at A;exact A Ae)
    go_wp2
    go_ret
    exact⟨false,rfl,I.o,Jh _ _⟩
   case false=>
   have b6:=Hd e6
   cases d6:(q.toList==[49])
   case true=>
    have b3:=Hd d6;have I:Hid (Xo s false):=j.o (fun ⟨x,y,h⟩=>by
     have A:=h.2.1.2.2.1;rw[d.o.2] at A;exact A (of_decide_eq_true ((CW q 49).symm.trans b3.o)))
    go_wp2
    go_ret
    exact⟨false,rfl,I.o,Jh _ _⟩
   case false=>
   have b3:=Hd d6;have h0:0<q.size:=Yp fun h=>Rq q G.o (ByteArray.ext (by
    have:q.data.size=0:=h;rw[Array.eq_empty_of_size_eq_zero this];rfl))
   have e9:=XL q h0
   cases E:isNeg q
   case true=>
    have Z:=Hd E;rw[E] at e9;have I:Hid (Xo s false):=j.o (fun ⟨x,y,h⟩=>by
     have A:=h.2.1.2.2.2.1;rw[d.o.2,Z.o] at A
     cases A)
    go_wp2
    go_ret
    exact⟨false,rfl,I.o,Jh _ _⟩
   case false=>
   have Z:=Hd E;rw[E] at e9;clear E;have e2:Hid ((lim p).length<=100000/\(lim q).length<=100000):=⟨by have:=I1 p J.o;omega,by have:=I1 q G.o;omega⟩;obtain⟨w0,d4⟩:∃ w0:World,w0=w3:=⟨_,rfl⟩;have k8:=Hd d4;clear d4
   go_wp2_with fail
   refine (Iz p _ J.o).mono ?_;rintro e w4 ⟨z1,rfl,d5,d0⟩;have h9:=Hd d5;have f9:=Hd d0;clear d5 d0
   go_wp2_with fail
   refine (Iz q _ G.o).mono ?_;rintro e w5 ⟨z2,rfl,e8,b7⟩;have i7:Hid (Nu w3.heap.size w5 z2 (isNeg q) (lim q)):=e8.mono f9.o.size;have d9:Hid (Nu w3.heap.size w5 z1 (isNeg p) (lim p)):=h9.o.below b7;have c8:=f9.up b7;clear e8 b7
   go_wp2_with fail
   refine (KU _ z1 z2 _ _ _ _ 100000 _ c8.o.size d9.o i7.o e2.o.1 e2.o.2 Of).mono ?_;rintro e w6 ⟨z3,rfl,b4,c6⟩;obtain⟨g0,gn,ga,gl,gc,rfl⟩:=b4.shape;have Y:=Hd (DE b4);have h8:=c8.up c6;obtain⟨W7,K⟩:=O1 (w6.alloc (.cells #[.int .i64 g0,.bool gn,.slice ga gl gc] 123));have h6:=Hd K;have g1:Up w6 W7:=by rw[<-K];exact Oy _ _
   have O:Bx W7 w6.heap.size [.int .i64 g0,.bool gn,.slice ga gl gc]:=by rw[<-K];exact Ox w6 _ _
   have g7:=h8.up g1;have i6:Hid (∀ W,Up W7 W->Bx W w6.heap.size [.int .i64 g0,.bool gn,.slice ga gl gc]):=fun W hW=>O.below O.lt hW;obtain⟨k0,k1,k2⟩:=O.k3;have V:Hid (∀ r,decide (E8 (sg (isNeg p) (val (lim p))) (sg (isNeg q) (val (lim q)))=1)=r->Xo s r):=fun r hr=>by
    refine⟨some i,HK.o,?_⟩;rw[<-hr,Yg];have hg:E8 (sg (isNeg p) (val (lim p))) (sg (isNeg q) (val (lim q)))=((Int.gcd (numT p) (numT q):Nat):Int):=rfl;rw[hg];constructor
    ·intro A;refine⟨numT p,numT q,?_⟩
     show (isIntB (cutP s (some i))=true/\isIntB (cutQ s (some i))=true)/\_
     rw[d.o.1,d.o.2];refine⟨⟨J.o,G.o⟩,⟨?_,?_,?_,Z.o,by omega⟩,rfl,rfl⟩
     ·intro h2;have h3:=Wu q (strB [48]) G.o (by kernel_rfl) (by rw[h2,Ae]);have h4:=(CW q 48).symm.trans b6.o;exact (of_decide_eq_false h4) h3
     ·exact of_decide_eq_false ((CW p 48).symm.trans a7.o)
     ·exact of_decide_eq_false ((CW q 49).symm.trans b3.o)
    ·rintro⟨x,y,_,⟨_,_,_,_,h5⟩,_⟩;rw[d.o.1,d.o.2] at h5;rw[h5];rfl
   clear b4 c6 K g1 O
   go_upto_region 10 with fail
   rw[h6.o];refine (U5 g0 gn ga gl gc W7).mono ?_;rintro e w8 ⟨rfl,e3⟩;have a8:Up W7 w8:=by rw[e3];exact Oy _ _
   have f5:=g7.up a8;have d2:=i6.o w8 a8;have j0:=d2.cell 0;simp only[Jo] at j0;clear e3 a8 d2 k0 k1 k2
   by_cases hz:gl=0
   ·have z:((gl:Int)==0)=true:=by rw[Yc];omega
    have HE:Hid ((g0==1)=decide (E8 (sg (isNeg p) (val (lim p))) (sg (isNeg q) (val (lim q)))=1)):=by
     have h:=Y.o;rw[z] at h;exact h
    rw[z]
    go_wp2
    go_ret
    exact⟨_,rfl,V.o _ HE.o.symm,f5.o⟩
   ·have z:((gl:Int)==0)=false:=by rw[Jc];omega
    have HE:Hid (decide (E8 (sg (isNeg p) (val (lim p))) (sg (isNeg q) (val (lim q)))=1)=false):=by
     have h:=Y.o;rw[z] at h;exact h.symm
    rw[z]
    go_wp2
    go_ret
    exact⟨_,rfl,V.o _ HE.o,f5.o⟩
end Go.Proofs.YtipgjenolpofpaaGreatDoor.Q
namespace Go.Proofs.YtipgjenolpofpaaGreatDoor.Q
open Go.ChangeShapes Go.WideShapes Go.ChangeAt Go.RowKit
def YP (s u:ByteArray):Prop:=∃ k,IsCut s k/\((∃ x y q r,RatV s k x y/\Ny x y q r/\Ef q u)∨((¬ ∃ x y,RatV s k x y)/\u=strB []))
theorem Tt {s:ByteArray}{k:Option Nat}{x y x' y':Int}(h:RatV s k x y)(h':RatV s k x' y'):x=x'/\y=y':=by
 cases k with
 | none=>exact⟨h.2.1.trans h'.2.1.symm,h.2.2.trans h'.2.2.symm⟩
 | some i=>exact⟨h.2.2.1.trans h'.2.2.1.symm,h.2.2.2.trans h'.2.2.2.symm⟩
theorem YP.eq {s u v:ByteArray}(h:YP s u)(h':YP s v):u=v:=by
 obtain⟨k,J,h⟩:=h;obtain⟨m,I,h'⟩:=h';obtain rfl:=isCut_unique J I
 rcases h with⟨x,y,q,r,A,G,h3⟩|⟨A,G⟩<;>rcases h' with⟨M,K,U,O,d,j,E⟩|⟨d,j⟩
 ·obtain⟨rfl,rfl⟩:=Tt A d;obtain⟨rfl,_⟩:=Pi G j;exact h3.eq E
 ·exact absurd ⟨x,y,A⟩ d
 ·exact absurd ⟨M,K,d⟩ A
 rw[G,j]
end Go.Proofs.YtipgjenolpofpaaGreatDoor.Q
namespace Go.Proofs.YtipgjenolpofpaaGreatDoor.Q
open Go.ChangeShapes Go.WideShapes Go.ChangeAt Go.RowKit Go.Proofs.Tryz
def IsQN (B:Nat)(w:World)(z:Value)(x y:Int):Prop:=∃ (p0:Int) (pn:Bool) (pa:Option Addr) (pl pc:Nat) (q0:Int) (qn:Bool) (qa:Option Addr) (ql qc:Nat),z=.agg #[.int .i64 p0,.bool pn,.slice pa pl pc,.int .i64 q0,.bool qn,.slice qa ql qc] /\
 Hi B w (.agg #[.int .i64 p0,.bool pn,.slice pa pl pc]) x 1000/\Hi B w (.agg #[.int .i64 q0,.bool qn,.slice qa ql qc]) y 1000
theorem Hi.keeps {B:Nat}{w W:World}{z:Value}{x:Int}{n:Nat}{g h:Nat}(hl:Hi B w z x n)(n1:Ej w g)(n2:Ej w h)(k:Kq g h w W):Hi B W z x n:=by
 obtain⟨neg,t,⟨A,d,j⟩,G⟩:=hl;refine⟨neg,t,⟨A,d,?_⟩,G⟩
 rcases j with⟨I,v,J,E⟩|j
 ·exact .inl ⟨I,v,J,E.keeps n1 n2 k⟩
 exact .inr j
theorem Hi.mono' {B B':Nat}{w:World}{z:Value}{x:Int}{n n':Nat}(h:Hi B w z x n)(hb:B'<=B)(hn:n<=n'):Hi B' w z x n':=by
 obtain⟨neg,t,d,j,h3⟩:=h;exact⟨neg,t,d.mono hb,j,by omega⟩
theorem Hi.shape' {B:Nat}{w:World}{z:Value}{x:Int}{n:Nat}(h:Hi B w z x n):∃ (z0:Int) (zn:Bool) (za:Option Addr) (zl zc:Nat),z=.agg #[.int .i64 z0,.bool zn,.slice za zl zc]:=by
 obtain⟨neg,t,d,_⟩:=h;exact d.shape
def W6 (W:World)(g:Nat)(u0 u1 u2 u3 u4 u5:Value):World:=(((((W.setCell ⟨g,0,none⟩ u0).setCell ⟨g,1,none⟩ u1).setCell ⟨g,2,none⟩ u2).setCell ⟨g,3,none⟩ u3).setCell ⟨g,4,none⟩ u4).setCell ⟨g,5,none⟩ u5
theorem ZS (W:World)(g:Nat)(u0 u1 u2 u3 u4 u5:Value):Kq g g W (W6 W g u0 u1 u2 u3 u4 u5):=
 Kq.setCell (Kq.setCell (Kq.setCell (Kq.setCell (Kq.setCell (Kq.setCell (Kq.refl g g W) ⟨g,0,none⟩ u0 (Or.inl rfl)) ⟨g,1,none⟩ u1 (Or.inl rfl)) ⟨g,2,none⟩ u2 (Or.inl rfl)) ⟨g,3,none⟩ u3 (Or.inl rfl)) ⟨g,4,none⟩ u4 (Or.inl rfl)) ⟨g,5,none⟩ u5 (Or.inl rfl)
theorem CS {N:Nat}{w W:World}(h:Below N w W)(g:Nat)(hg:N<=g)(u0 u1 u2 u3 u4 u5:Value):Below N w (W6 W g u0 u1 u2 u3 u4 u5):=
 (((((h.setCell (p:=⟨g,0,none⟩) hg u0).setCell (p:=⟨g,1,none⟩) hg u1).setCell (p:=⟨g,2,none⟩) hg u2).setCell (p:=⟨g,3,none⟩) hg u3).setCell (p:=⟨g,4,none⟩) hg u4).setCell (p:=⟨g,5,none⟩) hg u5
theorem Bx.put6 {W:World}{g:Nat}{a b c d e f:Value}(h:Bx W g [a,b,c,d,e,f])(u0 u1 u2 u3 u4 u5:Value):Bx (W6 W g u0 u1 u2 u3 u4 u5) g [u0,u1,u2,u3,u4,u5]:=(((((h.set 0 u0).set 1 u1).set 2 u2).set 3 u3).set 4 u4).set 5 u5
theorem KJ (B:Nat)(a0:Int)(an:Bool)(aa:Option Addr)(al ac:Nat)(x:Int)(w:World)(hBw:B<=w.heap.size)(h:Hi B w (.agg #[.int .i64 a0,.bool an,.slice aa al ac]) x 1000) :
 Calls prog 108 #[.agg #[.int .i64 a0,.bool an,.slice aa al ac]] w fun e w'=>∃ z,e=.returned z/\IsQN B w' z x 1/\Up w w':=by
 have HN:=Hd h;have b6:=Hd hBw;clear h hBw;obtain⟨V,d⟩:=O1 ((w.alloc (.cells #[.int .i64 a0,.bool an,.slice aa al ac] 123)).alloc (.cells #[.int .i64 0,.bool false,.slice none 0 0,.int .i64 0,.bool false,.slice none 0 0] 125));have b9:=Hd d;have j:Hid (Up w V):=by
  unfold Hid
  rw[<-d];exact Om (Oy _ _) _
 have M:Bx V w.heap.size [.int .i64 a0,.bool an,.slice aa al ac]:=by rw[<-d];exact (Ox w _ _).alloc _
 have Y:Bx V (w.heap.size+1) [.int .i64 0,.bool false,.slice none 0 0,.int .i64 0,.bool false,.slice none 0 0]:=by
  rw[<-d];have h:=Ox (w.alloc (.cells #[.int .i64 a0,.bool an,.slice aa al ac] 123)) [.int .i64 0,.bool false,.slice none 0 0,.int .i64 0,.bool false,.slice none 0 0] 125;rw[Ji] at h;exact h
 have HX:Hid (∀ W,Up V W->Bx W w.heap.size [.int .i64 a0,.bool an,.slice aa al ac]/\Bx W (w.heap.size+1) [.int .i64 0,.bool false,.slice none 0 0,.int .i64 0,.bool false,.slice none 0 0]):=fun W hW=>⟨M.below M.lt hW,Y.below Y.lt hW⟩;clear d;obtain⟨k0,k1,k2⟩:=M.k3;clear M Y
 go_enter func108,ntmps108
 go_upto_region 1 with fail
 rw[b9.o]
 go_region_with (first
  | (go_at_call 125
     refine (In 1 _ (by decide) (by decide)).mono ?_;rintro e E ⟨z,rfl,hz,a8⟩;have U:Hid (Up V E):=(Jh _ V).drew.trans a8;obtain⟨A,G,O,K,I,rfl⟩:=hz.shape';have HZ:Hid (Hi V.heap.size E (.agg #[.int .i64 A,.bool G,.slice O K I]) 1 3):=hz;obtain⟨b3,Z⟩:=HX.o E U.o;obtain⟨j0,j1,j2⟩:=b3.k3;obtain⟨r0,r1,r2,r3,r4,r5⟩:=Z.k6;obtain⟨f0,f1,f2,f3,f4,f5⟩:=Z.f6;clear hz a8 b3 Z))
 all_goals
  try simp only[Yz,Ys,Ym,Act.put,Ja,Jd,Je]
  go_wp2
  have a7:=(HX.o E U.o).2;have J:Ej E (w.heap.size+1):=Gs a7 (by simp);have hk:=ZS E (w.heap.size+1) (.int .i64 a0) (.bool an) (.slice aa al ac) (.int .i64 A) (.bool G) (.slice O K I);have b4:=(HN.o.below (j.o.trans (U.o.mono j.o.size))).keeps J J hk;have b7:=(HZ.o.mono' (B':=B) (n':=1000) (by have:=b6.o;have:=j.o.size;omega) (by omega)).keeps J J hk;have b8:=CS (j.o.trans (U.o.mono j.o.size)) (w.heap.size+1) (Y1 _) (.int .i64 a0) (.bool an) (.slice aa al ac) (.int .i64 A) (.bool G) (.slice O K I);have hZ:=a7.put6 (.int .i64 a0) (.bool an) (.slice aa al ac) (.int .i64 A) (.bool G) (.slice O K I);have b5:(((((E.setCell ⟨w.heap.size+1,0,none⟩ (.int .i64 a0)).setCell ⟨w.heap.size+1,1,none⟩ (.bool an)).setCell ⟨w.heap.size+1,2,none⟩ (.slice aa al ac)).setCell ⟨w.heap.size+1,3,none⟩ (.int .i64 A)).setCell ⟨w.heap.size+1,4,none⟩ (.bool G)).setCell ⟨w.heap.size+1,5,none⟩ (.slice O K I)=W6 E (w.heap.size+1) (.int .i64 a0) (.bool an) (.slice aa al ac) (.int .i64 A) (.bool G) (.slice O K I):=rfl;rw[b5];generalize W6 E (w.heap.size+1) (.int .i64 a0) (.bool an) (.slice aa al ac) (.int .i64 A) (.bool G) (.slice O K I)=W9 at *;obtain⟨m0,m1,m2,m3,m4,m5⟩:=hZ.k6;refine Jj (v:=.agg #[.int .i64 a0,.bool an,.slice aa al ac,.int .i64 A,.bool G,.slice O K I]) ?_ rfl ⟨_,rfl,⟨a0,an,aa,al,ac,A,G,O,K,I,rfl,b4,b7⟩,b8⟩;simp[results,results108,go_sem,m0,m1,m2,m3,m4,m5]
end Go.Proofs.YtipgjenolpofpaaGreatDoor.Q
namespace Go.Proofs.YtipgjenolpofpaaGreatDoor.Q
open Go.ChangeShapes Go.WideShapes Go.ChangeAt Go.RowKit
def Tr (x y:Int)(u:ByteArray):Prop:=
 if y=1 then Ef x u else ∃ p q,Ef x p/\Ef y q/\u=if p.size=0∨q.size=0 then ⟨#[]⟩ else p++⟨#[47]⟩++q
def B5 (s t u:ByteArray):Prop:=if isIntB s=true/\isIntB t=true/\numT t≠0 then ∃ p q,Pu (numT s) (numT t) p q/\Tr p q u else u=⟨#[]⟩
theorem Tr.eq {x y:Int}{u v:ByteArray}(h:Tr x y u)(h':Tr x y v):u=v:=by
 unfold Tr at h h'
 split at h
 ·rename_i hc;rw[if_pos hc] at h';exact h.eq h'
 rename_i hc;rw[if_neg hc] at h';obtain⟨p,q,E,A,rfl⟩:=h;obtain⟨G,I,j,d,rfl⟩:=h';rw[E.eq j,A.eq d]
theorem B5.eq {s t u v:ByteArray}(h:B5 s t u)(h':B5 s t v):u=v:=by
 unfold B5 at h h'
 split at h
 ·rename_i hc;rw[if_pos hc] at h';obtain⟨p,q,E,A⟩:=h;obtain⟨G,I,j,d⟩:=h';obtain⟨rfl,rfl⟩:=Rt E j;exact A.eq d
 rename_i hc;rw[if_neg hc] at h';rw[h,h']
theorem VT {B:Nat}{w:World}{z0:Int}{zn:Bool}{za:Option Addr}{zl zc:Nat}{neg:Bool}{t:List Nat}(hz:Nu B w (.agg #[.int .i64 z0,.bool zn,.slice za zl zc]) neg t):(zl=0/\t.length<=2)∨(zl=t.length/\2<t.length/\zl<=maxLen):=by
 obtain⟨_,_,h3⟩:=hz
 rcases h3 with⟨h3,v,e,p,c,rfl,hl,d,_⟩|⟨h3,e⟩
 ·simp at e;exact .inr ⟨e.2.2.2.1,h3,by omega⟩
 simp at e;exact .inl ⟨e.2.2.2.1,h3⟩
theorem IsQN.below {B:Nat}{w w':World}{z:Value}{x y:Int}(h:IsQN B w z x y)(hb:Up w w'):IsQN B w' z x y:=by
 obtain⟨I,G,O,d,J,j,K,E,M,A,e,U,V⟩:=h;exact⟨I,G,O,d,J,j,K,E,M,A,e,U.below hb,V.below hb⟩
theorem UX (t:List Nat):digC t<=9*t.length+1:=by
 have:=Mj t;unfold digC;split<;>omega
end Go.Proofs.YtipgjenolpofpaaGreatDoor.Q
namespace Go.Proofs.YtipgjenolpofpaaGreatDoor.Q
open Go.ChangeShapes Go.WideShapes Go.ChangeAt Go.RowKit Go.Proofs.Tryz
theorem l2Fits_30 (B:Nat)(p0:Int)(pn:Bool)(pa:Option Addr)(pl pc:Nat)(q0:Int)(qn:Bool)(qa:Option Addr)(ql qc:Nat)(n1 n2:Bool)(t1 t2:List Nat)(w:World)(hBw:B<=w.heap.size)
 (hz1:Nu B w (.agg #[.int .i64 p0,.bool pn,.slice pa pl pc]) n1 t1) (hz2:Nu B w (.agg #[.int .i64 q0,.bool qn,.slice qa ql qc]) n2 t2) (h1:t1.length<=600) (h2:t2.length<=600) :
 Calls prog 89 #[.agg #[.int .i64 p0,.bool pn,.slice pa pl pc,.int .i64 q0,.bool qn,.slice qa ql qc],.int .i64 30] w fun e w'=>e=.returned (.bool (decide (digC t1<=30/\digC t2<=30)))/\Up w w':=by
 have d3:=VT hz1;have c8:=VT hz2;have e5:=Hd hz1;have e2:=Hd hz2;have b9:=Hd hBw;clear hz1 hz2 hBw;obtain⟨W0,O⟩:=O1 (w.alloc (.cells #[.int .i64 p0,.bool pn,.slice pa pl pc,.int .i64 q0,.bool qn,.slice qa ql qc] 125));have e3:=Hd O;have h:Hid (Up w W0):=by unfold Hid;rw[<-O];exact Oy _ _
 have V:Bx W0 w.heap.size [.int .i64 p0,.bool pn,.slice pa pl pc,.int .i64 q0,.bool qn,.slice qa ql qc]:=by rw[<-O];exact Ox w _ _
 have HX:Hid (∀ W,Up W0 W->Bx W w.heap.size [.int .i64 p0,.bool pn,.slice pa pl pc,.int .i64 q0,.bool qn,.slice qa ql qc]):=fun W hW=>V.below V.lt hW;obtain⟨k0,k1,k2⟩:=V.k3;clear O V;have Z:Hid (digC t1<=9*t1.length+1):=UX t1;have b3:Hid (digC t2<=9*t2.length+1):=UX t2;obtain⟨d1,U⟩:∃ d,digC t1=d:=⟨_,rfl⟩;obtain⟨d2,E⟩:∃ d,digC t2=d:=⟨_,rfl⟩;have d9:=Hd U;have e4:=Hd E;rw[U] at Z;rw[E] at b3;rw[U,E];have b1:d1<=6000:=by have:=Z.o;omega
 have b2:d2<=6000:=by have:=b3.o;omega
 have HL:=Hd (And.intro d3 c8);clear d3 c8 U E
 -- what stands behind the question whether both are small
 have rest:∀ W1,Up W0 W1->Hid (Calls prog 106 #[.agg #[.int .i64 p0,.bool pn,.slice pa pl pc]] W1 (fun e w'=>e=.returned (.int .i64 (d1:Nat))/\Up W1 w')):=fun W1 hW1=>by
  show Calls _ _ _ _ _
  refine (Pv B _ n1 t1 W1 (e5.o.below (h.o.trans (hW1.mono h.o.size))) (by have:=b9.o;have:=h.o.size;have:=hW1.size;omega) h1).mono ?_;rintro e w' ⟨rfl,hb⟩;exact⟨by rw[d9.o],hb⟩
 have I:∀ W1,Up W0 W1->Hid (Calls prog 106 #[.agg #[.int .i64 q0,.bool qn,.slice qa ql qc]] W1 (fun e w'=>e=.returned (.int .i64 (d2:Nat))/\Up W1 w')):=fun W1 hW1=>by
  show Calls _ _ _ _ _
  refine (Pv B _ n2 t2 W1 (e2.o.below (h.o.trans (hW1.mono h.o.size))) (by have:=b9.o;have:=h.o.size;have:=hW1.size;omega) h2).mono ?_;rintro e w' ⟨rfl,hb⟩;exact⟨by rw[e4.o],hb⟩
 have Y:=Hd rest;have K:=Hd I;clear rest I
 go_enter func89,ntmps89
 go_upto_region 1 with fail
 rw[e3.o]
 go_wp2_with fail
 refine (U5 p0 pn pa pl pc W0).mono ?_;rintro e w1 ⟨rfl,d5⟩;have b4:Up W0 w1:=by rw[d5];exact Oy _ _
 have M:=Hd b4;have G:=HX.o w1 b4;clear d5 b4 k0 k1 k2;obtain⟨k0,k1,k2,k3,k4,k5⟩:=G.k6;clear G
 by_cases a8:pl=0
 ·have z:((pl:Int)==0)=true:=by rw[Yc];omega
  have d8:=Hd a8;rw[z];clear z a8
  go_wp2_with fail
  refine (U5 q0 qn qa ql qc w1).mono ?_;rintro e w2 ⟨rfl,d6⟩;have d4:Up w1 w2:=by rw[d6];exact Oy _ _
  have j:=Hd (M.o.trans (d4.mono M.o.size));have G:=HX.o w2 j.o;clear d6 d4 k0 k1 k2 k3 k4 k5;obtain⟨k0,k1,k2,k3,k4,k5⟩:=G.k6;clear G
  by_cases d0:ql=0
  ·have z:((ql:Int)==0)=true:=by rw[Yc];omega
   have HE:Hid (true=decide (d1<=30/\d2<=30)):=by
    unfold Hid
    have:=HL.o;have:=d8.o;have:=Z.o;have:=b3.o;rw[eq_comm,Js];omega
   have A:=Hd (h.o.trans (j.o.mono h.o.size));rw[z];clear z d0
   go_wp2
   go_ret
   exact⟨Oz HE.o,A.o⟩
  have z:((ql:Int)==0)=false:=by rw[Jc];omega
  rw[z];clear z d0
  go_wp2_with fail
  refine (Y.o w2 j.o).o.mono ?_;rintro e w3 ⟨rfl,hb⟩;have J:=Hd (j.o.trans (hb.mono j.o.size));have G:=HX.o w3 J.o;clear hb k0 k1 k2 k3 k4 k5;have k3:=G.cell 3;have k4:=G.cell 4;have k5:=G.cell 5;simp only[Jo,Jr] at k3 k4 k5;clear G
  by_cases hd:d1<=30
  ·have z1:decide ((d1:Int)<=30)=true:=dT (by omega)
   go_wp2_with fail
   refine (K.o w3 J.o).o.mono ?_;rintro e w4 ⟨rfl,hb⟩;have A:=Hd (h.o.trans ((J.o.trans (hb.mono J.o.size)).mono h.o.size));clear hb k3 k4 k5
   by_cases E:d2<=30
   ·have z2:decide ((d2:Int)<=30)=true:=dT (by omega)
    go_wp2
    go_ret
    exact⟨Oz (by simp[hd,E]),A.o⟩
   have z2:decide ((d2:Int)<=30)=false:=dF (by omega)
   go_wp2
   go_ret
   exact⟨Oz (by simp[E]),A.o⟩
  have z1:decide ((d1:Int)<=30)=false:=dF (by omega)
  have A:=Hd (h.o.trans (J.o.mono h.o.size))
  go_wp2
  go_ret
  exact⟨Oz (by simp[hd]),A.o⟩
 have z:((pl:Int)==0)=false:=by rw[Jc];omega
 rw[z];clear z a8
 go_wp2_with fail
 refine (Y.o w1 M.o).o.mono ?_;rintro e w2 ⟨rfl,hb⟩;have j:=Hd (M.o.trans (hb.mono M.o.size));have G:=HX.o w2 j.o;clear hb k0 k1 k2 k3 k4 k5;have k3:=G.cell 3;have k4:=G.cell 4;have k5:=G.cell 5;simp only[Jo,Jr] at k3 k4 k5;clear G
 by_cases hd:d1<=30
 ·have z1:decide ((d1:Int)<=30)=true:=dT (by omega)
  go_wp2_with fail
  refine (K.o w2 j.o).o.mono ?_;rintro e w3 ⟨rfl,hb⟩;have A:=Hd (h.o.trans ((j.o.trans (hb.mono j.o.size)).mono h.o.size));clear hb k3 k4 k5
  by_cases E:d2<=30
  ·have z2:decide ((d2:Int)<=30)=true:=dT (by omega)
   go_wp2
   go_ret
   exact⟨Oz (by simp[hd,E]),A.o⟩
  have z2:decide ((d2:Int)<=30)=false:=dF (by omega)
  go_wp2
  go_ret
  exact⟨Oz (by simp[E]),A.o⟩
 have z1:decide ((d1:Int)<=30)=false:=dF (by omega)
 have A:=Hd (h.o.trans (j.o.mono h.o.size))
 go_wp2
 go_ret
 exact⟨Oz (by simp[hd]),A.o⟩
theorem P0 (B:Nat)(w:World)(z:Value)(p:ByteArray)(hp:isIntB p=true)(h:Nu B w z (isNeg p) (lim p)):Hi B w z (numT p) 1000:=
 ⟨_,_,h,rfl,by have:=I1 p hp;omega⟩
theorem l2Read_any (s:ByteArray)(k:Option Nat)(x y:Int)(w:World)(hs:s.size<=maxLen)(hk:IsCut s k)(hV:RatV s k x y) :
 Calls prog 90 #[.string s] w fun e w'=>∃ z,e=.returned z/\IsQN w.heap.size w' z x y/\Up w w':=by
 have HK:=Hd hk;have HV:=Hd hV;clear hk hV;obtain⟨W0,b8⟩:=O1 (w.alloc (.cells #[.int .i64 0,.bool false,.slice none 0 0,.int .i64 0,.bool false,.slice none 0 0] 125));have e0:=Hd b8;have Y:Hid (Up w W0):=by unfold Hid;rw[<-b8];exact Oy _ _
 have d4:Bx W0 w.heap.size [.int .i64 0,.bool false,.slice none 0 0,.int .i64 0,.bool false,.slice none 0 0]:=by rw[<-b8];exact Ox w _ _
 have HX:Hid (∀ W,Up W0 W->Bx W w.heap.size [.int .i64 0,.bool false,.slice none 0 0,.int .i64 0,.bool false,.slice none 0 0]):=fun W hW=>d4.below d4.lt hW;clear b8 d4
 cases k with
 | none=>
   go_enter func90,ntmps90
   go_wp2_with fail
   rw[e0.o];refine (Qu s none _ hs HK.o).mono ?_;rintro e w1 ⟨rfl,d5⟩;subst d5;have e1:X4 none = -1:=rfl;rw[e1]
   go_wp2_with fail
   refine (Iz s _ HV.o.1).mono ?_;rintro e w2 ⟨z1,rfl,b6,b7⟩;have a8:=P0 _ _ _ s HV.o.1 b6;obtain⟨a0,an,aa,al,ac,rfl⟩:=a8.shape';have d0:=Hd a8;have Z:=Hd b7;clear b6 a8 b7
   go_wp2_with fail
   refine (KJ _ a0 an aa al ac (numT s) _ Z.o.size d0.o).mono ?_;rintro e E ⟨z,rfl,hq,b3⟩;obtain⟨j,U,V,I,A,h,G,O,M,J,rfl,hP,hQ⟩:=hq;have a7:=Hd (Z.o.trans (b3.mono Z.o.size));have b4:Hid (Hi w.heap.size E (.agg #[.int .i64 j,.bool U,.slice V I A]) x 1000/\Hi w.heap.size E (.agg #[.int .i64 h,.bool G,.slice O M J]) y 1000):=by
    rw[HV.o.2.1,HV.o.2.2];exact⟨hP.mono' Y.o.size Of,hQ.mono' Y.o.size Of⟩
   have d:=HX.o E a7.o;obtain⟨r0,r1,r2,r3,r4,r5⟩:=d.k6;obtain⟨f0,f1,f2,f3,f4,f5⟩:=d.f6;clear hP hQ b3 d
   go_wp2
   have d:=HX.o E a7.o;have K:Ej E w.heap.size:=Gs d (by simp);have hk:=ZS E w.heap.size (.int .i64 j) (.bool U) (.slice V I A) (.int .i64 h) (.bool G) (.slice O M J);have b9:=b4.o.1.keeps K K hk;have d1:=b4.o.2.keeps K K hk;have d3:=CS (Y.o.trans (a7.o.mono Y.o.size)) w.heap.size Of (.int .i64 j) (.bool U) (.slice V I A) (.int .i64 h) (.bool G) (.slice O M J);have hZ:=d.put6 (.int .i64 j) (.bool U) (.slice V I A) (.int .i64 h) (.bool G) (.slice O M J);have c8:(((((E.setCell ⟨w.heap.size,0,none⟩ (.int .i64 j)).setCell ⟨w.heap.size,1,none⟩ (.bool U)).setCell ⟨w.heap.size,2,none⟩ (.slice V I A)).setCell ⟨w.heap.size,3,none⟩ (.int .i64 h)).setCell ⟨w.heap.size,4,none⟩ (.bool G)).setCell ⟨w.heap.size,5,none⟩ (.slice O M J)=W6 E w.heap.size (.int .i64 j) (.bool U) (.slice V I A) (.int .i64 h) (.bool G) (.slice O M J):=rfl;rw[c8];generalize W6 E w.heap.size (.int .i64 j) (.bool U) (.slice V I A) (.int .i64 h) (.bool G) (.slice O M J)=W9 at *;obtain⟨m0,m1,m2,m3,m4,m5⟩:=hZ.k6;refine Jj (v:=.agg #[.int .i64 j,.bool U,.slice V I A,.int .i64 h,.bool G,.slice O M J]) ?_ rfl ⟨_,rfl,⟨j,U,V,I,A,h,G,O,M,J,rfl,b9,d1⟩,d3⟩;simp[results,results90,go_sem,m0,m1,m2,m3,m4,m5]
 | some i=>
   have hi:=Fp HK.o;have c1:(0:Int)<=(i:Int):=by omega
   have c2:(i:Int)<=(s.size:Int):=by omega
   have c3:(0:Int)<=(i:Int)+1:=by omega
   have c4:(i:Int)+1<=(s.size:Int):=by omega
   have e8:s.extract 0 i=cutP s (some i):=rfl;have d6:s.extract (i+1) s.size=cutQ s (some i):=rfl;obtain⟨p,hp⟩:=O1 (cutP s (some i));obtain⟨q,hq⟩:=O1 (cutQ s (some i));have b4:Hid (cutP s (some i)=p/\cutQ s (some i)=q):=⟨hp,hq⟩;rw[hp] at e8;rw[hq] at d6;have b5:Hid ((isIntB p=true/\isIntB q=true)/\x=numT p/\y=numT q):=by
    obtain⟨h1,_,h2,h3⟩:=HV.o;rw[hp,hq] at h1;rw[hp] at h2;rw[hq] at h3;exact⟨h1,h2,h3⟩
   unfold maxLen at hs;clear hp hq;have g9:IntKind.i64.wrap ((i:Int)+1)=(i:Int)+1:=Km _ (by omega) (by omega);have h9:∀ W,(Instr.slice 9 (.string s) (some (.int .i64 ((i:Int)+1))) none none).run prog W=.ok (.string q) W:=fun W=>by
    rw[run_slice_string_from_if W 9 s .i64 _ underlying9,if_pos ⟨c3,c4⟩,show ((i:Int)+1).toNat=i+1 by omega,d6]
   go_enter func90,ntmps90
   go_wp2_with fail
   rw[e0.o];refine (Qu s (some i) _ (by unfold maxLen;exact hs) HK.o).mono ?_;rintro e w1 ⟨rfl,d5⟩;subst d5;have e1:X4 (some i)=(i:Int):=rfl;rw[e1]
   go_wp2_with fail
   go_region_with (first
    | (go_at_call_of 109 (Value.string p)
       refine (Iz p _ b5.o.1.1).mono ?_;rintro e w2 ⟨z1,rfl,b6,b7⟩;have a8:=P0 _ _ _ p b5.o.1.1 b6;obtain⟨j,U,V,I,A,rfl⟩:=a8.shape';have d0:=Hd a8;have Z:Hid (Up w1 w2):=(Jh _ w1).drew.trans b7;clear b6 a8 b7)
    | (go_at_call_of 109 (Value.string q)
       refine (Iz q _ b5.o.1.2).mono ?_;rintro e E ⟨z2,rfl,d8,b3⟩;have d2:=P0 _ _ _ q b5.o.1.2 d8;obtain⟨h,G,O,M,J,rfl⟩:=d2.shape';have b4:Hid (Hi w.heap.size E (.agg #[.int .i64 j,.bool U,.slice V I A]) x 1000/\Hi w.heap.size E (.agg #[.int .i64 h,.bool G,.slice O M J]) y 1000):=by
        rw[b5.o.2.1,b5.o.2.2];exact⟨(d0.o.below b3).mono' Y.o.size Of,d2.mono' (Yk Y.o.size Z.o.size) Of⟩
       have a7:=Hd (Z.o.trans (b3.mono Z.o.size));have d:=HX.o E a7.o;obtain⟨r0,r1,r2,r3,r4,r5⟩:=d.k6;obtain⟨f0,f1,f2,f3,f4,f5⟩:=d.f6;clear d8 d2 b3 d))
   all_goals
    try simp only[Yz,Ys,Ym,Act.put,Ja,Jd,Je]
    go_wp2
    have d:=HX.o E a7.o;have K:Ej E w.heap.size:=Gs d (by simp);have hk:=ZS E w.heap.size (.int .i64 j) (.bool U) (.slice V I A) (.int .i64 h) (.bool G) (.slice O M J);have b9:=b4.o.1.keeps K K hk;have d1:=b4.o.2.keeps K K hk;have d3:=CS (Y.o.trans (a7.o.mono Y.o.size)) w.heap.size Of (.int .i64 j) (.bool U) (.slice V I A) (.int .i64 h) (.bool G) (.slice O M J);have hZ:=d.put6 (.int .i64 j) (.bool U) (.slice V I A) (.int .i64 h) (.bool G) (.slice O M J);have c8:(((((E.setCell ⟨w.heap.size,0,none⟩ (.int .i64 j)).setCell ⟨w.heap.size,1,none⟩ (.bool U)).setCell ⟨w.heap.size,2,none⟩ (.slice V I A)).setCell ⟨w.heap.size,3,none⟩ (.int .i64 h)).setCell ⟨w.heap.size,4,none⟩ (.bool G)).setCell ⟨w.heap.size,5,none⟩ (.slice O M J)=W6 E w.heap.size (.int .i64 j) (.bool U) (.slice V I A) (.int .i64 h) (.bool G) (.slice O M J):=rfl;rw[c8];generalize W6 E w.heap.size (.int .i64 j) (.bool U) (.slice V I A) (.int .i64 h) (.bool G) (.slice O M J)=W9 at *;obtain⟨m0,m1,m2,m3,m4,m5⟩:=hZ.k6;refine Jj (v:=.agg #[.int .i64 j,.bool U,.slice V I A,.int .i64 h,.bool G,.slice O M J]) ?_ rfl ⟨_,rfl,⟨j,U,V,I,A,h,G,O,M,J,rfl,b9,d1⟩,d3⟩;simp[results,results90,go_sem,m0,m1,m2,m3,m4,m5]
theorem FC:prog.globalNamed "loop.example/g00007/impl.limbTens" = some 4:=by kernel_rfl
theorem FQ:(prog.globals[4]?).map (·.type)=some 246:=by kernel_rfl
def Fr:List Int:=[100000000,10000000,1000000,100000,10000,1000,100,10,1]
theorem RO (j:Nat)(h:j<9):Fr.getD j 0=(tens j:Nat):=by
 match j,h with
 | 0,_|1,_|2,_|3,_|4,_|5,_|6,_|7,_|8,_=>rfl
theorem lt_of_laid {W:World}{n0:String}{d0:DataW Unit}{L:List (String×DataW Unit)}(h:laidMet prog ((n0,d0)::("loop.example/g00007/impl.limbTens",Rows.laid_loop_example_g00007_impl_limbTens)::L) W):LT W:=by
 obtain⟨ps,⟨g0,t0,U,f0,p0,q0,_,_,_,_,⟨g,t,cs,E,p,q,A,O,M,K,_,_⟩,_⟩,_⟩:=h;obtain rfl:=Option.some.inj (FC.symm.trans A);obtain rfl:=Option.some.inj (FQ.symm.trans O);obtain⟨xs,m,_,ex,_,hl,j⟩:=DataW.trod_array underlying246 K;have c5:prog.cellsOf 154=1:=by kernel_rfl
 intro r G;have I:=j r G;rw[c5,Zz,Jf (by omega)] at I;obtain⟨z,e1,V,_⟩:=DataW.trod_int underlying154 I;have J:Fr.length=9:=rfl;have Z:(xs.map (·.1))=Fr.map fun n=>.lit (.int .u32 n):=(DataW.agg.inj (Prod.mk.inj ex).1).symm;have d:(xs.map (·.1))[r]? = (Fr.map fun n=>(DataW.lit (.int .u32 n):DataW Unit))[r]? := by rw[Z]
 rw[Y2,Y2,Jf (by omega:r<xs.length),Jf (by omega:r<Fr.length),V] at d;have hz:z=Fr.getD r 0:=by
  simp only[Option.map_some,Option.some.injEq,DataW.lit.injEq,Lit.int.injEq,true_and] at d;rw[d,List.getD,Jf (by omega:r<Fr.length)];rfl
 rw[Ud A M r,<-RO r G,<-hz];have:cs.toList[r]? = some (.int .u32 z):=by
  have Y:((cs.toList.drop r).take 1)[0]? = some (.int .u32 z):=by rw[e1];rfl
  simpa using Y
 simpa using this
open Go.ChangeShapes Go.WideShapes Go.ChangeAt Go.RowKit Go.Deep Go.Proofs.Tryz
theorem CF:prog.globalNamed "loop.example/g00007/impl.noSteps" = some 2:=by kernel_rfl
theorem DW:(prog.globals[2]?).map (·.type)=some 232:=by kernel_rfl
theorem CN:prog.cellsOf 232=4:=by kernel_rfl
theorem FI:prog.cellsOf 230=2:=by kernel_rfl
theorem LU:prog.cellsOf 2=1:=by kernel_rfl
theorem Di {H:Type}{enc:TypeId×Value->H}{w:World}{base:Nat}{spare:Nat->Bool}{held:Bool}{fuel:Nat}{cs:List Value}{a c:Int}{x:DataW H×List MemPlace}
 (h:DataW.trod enc prog w base spare held fuel 230 cs=some x) (hx:x.1=.agg [.lit (.int .i64 a),.lit (.int .i64 c)]):cs=[.int .i64 a,.int .i64 c]:=by
 obtain⟨xs,m,_,rfl,hl,hn,d⟩:=DataW.trod_array underlying230 h;rw[FI] at hl;have E:=d 0 (by decide);have A:=d 1 (by decide);rw[LU] at E A
 match xs,hn with
 | [y0,y1],_=>
   obtain⟨J,i0,G,_⟩:=DataW.trod_int underlying2 (show DataW.trod _ prog w base spare held m 2 _=some y0 from E);obtain⟨K,j,I,_⟩:=DataW.trod_int underlying2 (show DataW.trod _ prog w base spare held m 2 _=some y1 from A);subst G I;simp only[Vy,Ua,DataW.agg.injEq,List.cons.injEq,DataW.lit.injEq,Lit.int.injEq,true_and,and_true] at hx;obtain⟨rfl,rfl⟩:=hx
   match cs,hl with
   | [c0,c1],_=>
     simp at i0 j;rw[i0,j]
theorem ns_of_laid {W:World}{L:List (String×DataW Unit)}(h:laidMet prog (("loop.example/g00007/impl.noSteps",Rows.laid_loop_example_g00007_impl_noSteps)::L) W):NS W:=by
 obtain⟨ps,⟨g0,t0,I,f0,A,Z,j,M,K,E,_,_⟩,_⟩:=h;obtain rfl:=Option.some.inj (CF.symm.trans j);obtain rfl:=Option.some.inj (DW.symm.trans M);have d:=Ud j K;obtain⟨y0,y1,n,U,hl,V,Y⟩:=trod_struct2 underlying232 E;rw[CN] at hl;obtain⟨l⟩:=I;simp only[Rows.laid_loop_example_g00007_impl_noSteps,Prod.mk.injEq,DataW.agg.injEq,List.cons.injEq,and_true] at U;obtain⟨⟨J,O⟩,_⟩:=U;have A:=Di V J.symm;have G:=Di Y O.symm;rw[FI] at A G
 match l,hl with
 | [c0,c1,c2,c3],_=>
   simp at A G;obtain⟨rfl,rfl⟩:=A;obtain⟨rfl,rfl⟩:=G;exact⟨d 0,d 1,d 2,d 3⟩
end Go.Proofs.YtipgjenolpofpaaGreatDoor.Q
