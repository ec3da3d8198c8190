import Derived.Test.YtipgjenolpofpaaGreatDoorP13
import Derived.Test.YtipgjenolpofpaaGreatDoorP12
import Derived.Laws.Strings3
import Derived.Lay
import Derived.ChangeVars
set_option maxRecDepth 100000
set_option maxHeartbeats 2000000
namespace Go.Proofs.YtipgjenolpofpaaGreatDoor.Q
open ChangeShapes WideShapes ChangeAt RowKit Proofs.Tryz
theorem ER (B:Nat)(za zb:Value)(na nb:Bool)(a b:List Nat)(w:World)(hBw:B<=w.heap.size)(hza:Nz B w za na a)(hzb:Nz B w zb nb b)(hla:a.length<=100000)(hlb:b.length<=100000)(hne:b≠[]) :
 Calls prog 129 #[za,zb] w fun e w'=>∃ z1 z2 q r,e=.returned (.tuple #[z1,z2])/\(N5 w.heap.size w' z1 q/\N5 w.heap.size w' z2 r)/\No (sg na (val a)) (sg nb (val b)) q r/\Up w w':=by
 have d:=hza.1;have j:=hzb.1;have A:=hzb.2.1;obtain⟨x,xn,pa,la,M,rfl,U,Y⟩:=hza.form2;obtain⟨y,yn,pb,lb,O,rfl,V,Z⟩:=hzb.form2
 by_cases I:la=0/\lb=0
 ·have E:=Y I.1;have G:=Z I.2;rw[E.2,G.2];have J:=Wy na a d E.1;have K:=Wy nb b j G.1;exact Tk _ _ w J.1 J.2 K.1 K.2 (fun h=>hne ((Id nb b A).1 h))
 have hz:((la:Int)==0)=false∨(((la:Int)==0)=true/\((lb:Int)==0)=false):=by
  by_cases h:la=0
  ·exact .inr ⟨by rw[Yc];omega,by rw[Jc];omega⟩
  exact .inl (by rw[Jc];omega)
 have h:=EP B x y xn yn pa la M pb lb O na nb a b w hBw hz hza hzb _ _ U V hla hlb hne;rw[Io,Io] at h;exact h
theorem FQ (t:List Nat)(N:Nat)(ht:isTrim t)(h:val t<1000000000 ^ N):t.length<=N:=by
 by_cases hn:t=[]
 ·rw[hn];exact Jy _
 have d:=Xd t ht hn;have h4:=(Nat.pow_lt_pow_iff_right (show 1<1000000000 by decide)).1 (Nat.lt_of_le_of_lt d h);omega
theorem IS (X Y R:Nat)(q:Int)(h:(X:Int)=q*Y+R)(hr:R<Y):Nat.gcd Y R=Nat.gcd X Y:=by
 have d:(X:Int) % Y=R:=by
  rw[h,Int.add_comm,Int.add_mul_emod_self_right];exact Int.emod_eq_of_lt (Ut _) (Int.ofNat_lt.2 hr)
 have j:X % Y=R:=by exact_mod_cast d
 rw[<-j,Uy X Y,Nat.gcd_rec Y X,Uy]
def DQ (B P d:Nat)(w0:World)(gx gy k:Nat)(wr:World):Prop:=
 ∃ (X:Nat) (x0:Int) (xn:Bool) (xp:Option Addr) (xl xc:Nat) (y0:Int) (yn:Bool) (yp:Option Addr) (yl yc:Nat),(BoxV gx wr x0 xn xp xl xc/\BoxV gy wr y0 yn yp yl yc/\BoxV (w0.heap.size+2) wr 0 false none 0 0) /\
  (N5 B wr (.agg #[.int .i64 x0,.bool xn,.slice xp xl xc]) (X:Nat)/\N5 B wr (.agg #[.int .i64 y0,.bool yn,.slice yp yl yc]) (k:Nat))/\(X<P/\k<P)/\Nat.gcd X k=d/\Up w0 wr
theorem C7 {B:Nat}{w:World}{z:Value}{X:Nat}(N:Nat)(h:N5 B w z (X:Nat))(hX:X<1000000000 ^ N):∃ neg t,Nz B w z neg t/\sg neg (val t)=(X:Nat)/\val t=X/\t.length<=N:=by
 obtain⟨neg,t,j,d⟩:=h;have A:val t=X:=by have:=congrArg Int.natAbs d;rw[F0] at this;simpa using this
 exact⟨neg,t,j,d,A,FQ t N j.2.1 (by omega)⟩
theorem CQ {N:Nat}{w W:World}(h:Below N w W)(g:Nat)(hg:N<=g)(u0 u1 u2:Value):Below N w (((W.setCell ⟨g,0,none⟩ u0).setCell ⟨g,1,none⟩ u1).setCell ⟨g,2,none⟩ u2):=
 ((h.setCell (p:=⟨g,0,none⟩) hg u0).setCell (p:=⟨g,1,none⟩) hg u1).setCell (p:=⟨g,2,none⟩) hg u2
theorem ED (B:Nat)(za zb:Value)(na nb:Bool)(a b:List Nat)(N:Nat)(w:World)(hBw:B<=w.heap.size)(hza:Nz B w za na a)(hzb:Nz B w zb nb b)(hla:a.length<=N)(hlb:b.length<=N)(hN:N<=100000) :
 Calls prog 110 #[za,zb] w fun e w'=>∃ z,e=.returned z/\N5 B w' z (E8 (sg na (val a)) (sg nb (val b)))/\Up w w':=by
 obtain⟨a0,an,ap,al,ac,rfl⟩:=hza.shape;obtain⟨b0,bn,bp,bl,bc,rfl⟩:=hzb.shape;obtain⟨d,hd⟩:=O1 (Nat.gcd (val a) (val b));have HD:=Ec hd;have n4:E8 (sg na (val a)) (sg nb (val b))=(d:Int):=by unfold E8 Int.gcd;rw[F0,F0,hd]
 rw[n4];obtain⟨P,hP⟩:=O1 (1000000000 ^ N);have HP:=Ec hP;have q3:Hid (val a<P/\val b<P):=by
  have h1:=Jz (Gu a hza.1) (Yx (show 0<1000000000 by decide) hla);have h2:=Jz (Gu b hzb.1) (Yx (show 0<1000000000 by decide) hlb);rw[hP] at h1 h2;exact⟨h1,h2⟩
 have q8:=Ec hza;have q9:=Ec hzb;have d2:=Ec hBw;clear hza hzb hd n4 hP hBw;obtain⟨W0,I⟩:=O1 (((w.alloc (.cells #[.int .i64 a0,.bool an,.slice ap al ac] 123)).alloc (.cells #[.int .i64 b0,.bool bn,.slice bp bl bc] 123)).alloc (.cells #[.int .i64 0,.bool false,.slice none 0 0] 123));have q4:=Ec I;have n9:W0.heap.size=w.heap.size+3:=by rw[<-I];simp
 have e8:=Ec n9;have b8:Hid (Up w W0):=by
  unfold Hid
  rw[<-I];exact Om (Om (Oy _ _) _) _
 have e7:Hid (∀ W,Up W0 W->BoxV w.heap.size W a0 an ap al ac/\BoxV (w.heap.size+1) W b0 bn bp bl bc/\BoxV (w.heap.size+2) W 0 false none 0 0):=fun W hW=>by
  have h1:BoxV w.heap.size W0 a0 an ap al ac:=by rw[<-I];exact ((Ht w _ _ _ _ _ _).alloc _).alloc _
  have h2:BoxV (w.heap.size+1) W0 b0 bn bp bl bc:=by rw[<-I];exact (Hp _ _ (by simp) _ _ _ _ _ _).alloc _
  have h3:BoxV (w.heap.size+2) W0 0 false none 0 0:=by rw[<-I];exact Hp _ _ (by simp) _ _ _ _ _ _
  exact⟨h1.bl h1.lt hW,h2.bl h2.lt hW,h3.bl h3.lt hW⟩
 clear I n9
 go_in
 go_upto_region 1 with fail
 rw[q4.o];obtain⟨⟨_,q0,q1,q2,_,_⟩,_⟩:=e7.o W0 (Jh _ _)
 go_wp2_with fail
 refine (Ez B _ na a _ (q8.o.bl b8.o) (by have:=d2.o;have:=e8.o;omega)).mono ?_;rintro e w1 ⟨v1,rfl,o3,m8⟩;have j7:=Ec o3;have i6:=Ec m8;clear o3 m8
 go_wp2_with fail
 refine (Np B false v1 a _ j7.o).mono ?_;rintro e w2 ⟨z1,rfl,o5,g2⟩;have g0:Nz B w2 z1 false (Oe a):=o5 _ _ (j7.o.bl g2);have i7:=Ec (i6.o.trans (g2.mono i6.o.size));obtain⟨x0,xn,xp,xl,xc,rfl⟩:=g0.shape;obtain⟨W2,c8⟩:=O1 (w2.alloc (.cells #[.int .i64 x0,.bool xn,.slice xp xl xc] 123));have q5:=Ec c8;have b9:Up w2 W2:=by rw[<-c8];exact Oy _ _
 have o0:W2.heap.size=w2.heap.size+1:=by rw[<-c8];simp
 have p9:=Ec o0;have e9:Hid (BoxV w2.heap.size W2 x0 xn xp xl xc):=by unfold Hid;rw[<-c8];exact Ht w2 _ _ _ _ _ _
 have l0:Hid (Nz B W2 (.agg #[.int .i64 x0,.bool xn,.slice xp xl xc]) false (Oe a)):=g0.bl b9;have j:=i7.up b9;obtain⟨_,⟨_,r0,r1,r2,_,_⟩,_⟩:=e7.o W2 j.o;clear o5 g2 c8 b9 o0 g0 q0 q1 q2
 go_upto_region 2 with fail
 rw[q5.o]
 go_wp2_with fail
 refine (Ez B _ nb b _ (q9.o.bl (b8.o.trans (j.o.mono b8.o.size))) (by have:=d2.o;have:=e8.o;have:=j.o.size;omega)).mono ?_;rintro e w3 ⟨v2,rfl,o4,m9⟩;have j8:=Ec o4;have i8:=Ec m9;clear o4 m9
 go_wp2_with fail
 refine (Np B false v2 b _ j8.o).mono ?_;rintro e w4 ⟨z2,rfl,o6,g3⟩;have g1:Nz B w4 z2 false (Oe b):=o6 _ _ (j8.o.bl g3);have j0:=Ec (i8.o.trans (g3.mono i8.o.size));obtain⟨V,yn,yp,Z,Y,rfl⟩:=g1.shape;obtain⟨W4,d4⟩:=O1 (w4.alloc (.cells #[.int .i64 V,.bool yn,.slice yp Z Y] 123));have q6:=Ec d4;have c6:Up w4 W4:=by rw[<-d4];exact Oy _ _
 have k9:Hid (BoxV w4.heap.size W4 V yn yp Z Y):=by unfold Hid;rw[<-d4];exact Ht w4 _ _ _ _ _ _
 have l1:Hid (Nz B W4 (.agg #[.int .i64 V,.bool yn,.slice yp Z Y]) false (Oe b)):=g1.bl c6;have E:=j0.up c6;have j6:Hid (W2.heap.size<=w4.heap.size):=j0.o.size;clear o6 g3 d4 c6 g1 r0 r1 r2
 go_wp2
 rw[q6.o];have D1:w2.heap.size<w4.heap.size:=by have:=p9.o;have:=j6.o;omega
 have B2:w.heap.size+2<w2.heap.size:=by have:=i7.o.size;have:=e8.o;omega
 have j9:=Ec (e9.o.bl e9.o.lt E.o);have e1:=Ec (l0.o.bl E.o);have j4:=Ec (e7.o W4 (j.o.trans (E.o.mono j.o.size))).2.2;have e0:=Ec (b8.o.trans ((j.o.trans (E.o.mono j.o.size)).mono b8.o.size));generalize D2:w2.heap.size=G at *;generalize F2:w4.heap.size=K at *
 go_loopg [] (val b) (DQ B P d w G K)
 case atStart=>exact⟨val a,x0,xn,xp,xl,xc,V,yn,yp,Z,Y,⟨j9.o,k9.o,j4.o⟩,⟨⟨false,_,e1.o,by rw[O3];rfl⟩,⟨false,_,l1.o,by rw[O3];rfl⟩⟩,q3.o,HD.o,e0.o⟩
 clear j9 k9 j4 e1 l1 e0 E j6 e9 l0 j;obtain⟨X,x0,xn,xp,xl,xc,V,yn,yp,Z,Y,⟨hX,hY,hR⟩,⟨g6,g7⟩,⟨d6,d8⟩,hg,hB⟩:=hrel;rw[<-HP.o] at d6 d8;obtain⟨nx,tx,o7,o1,v8,n6⟩:=C7 N g6 d6;obtain⟨ny,ty,h0,o2,g8,n7⟩:=C7 N g7 d8;have g9:=D4 h0;rw[g8] at g9;have r3:=Ec g9;have r4:Hid (∀ W,Up wr W->Nz B W (.agg #[.int .i64 x0,.bool xn,.slice xp xl xc]) nx tx):=fun W hW=>o7.bl hW;have r5:Hid (∀ W,Up wr W->Nz B W (.agg #[.int .i64 V,.bool yn,.slice yp Z Y]) ny ty):=fun W hW=>h0.bl hW;have O:Hid ((sg nx (val tx)=(X:Nat)/\sg ny (val ty)=(gk:Nat))/\(tx.length<=N/\ty.length<=N)/\val ty=gk/\X<1000000000 ^ N/\gk<1000000000 ^ N):=⟨⟨o1,o2⟩,⟨n6,n7⟩,g8,d6,d8⟩;have p8:=Hd g7;have p7:=Hd g6;have j3:=Ec hg;have M:=Ec hB;have J:Hid (∀ W,Up wr W->BoxV G W x0 xn xp xl xc/\BoxV K W V yn yp Z Y/\BoxV (w.heap.size+2) W 0 false none 0 0):=fun W hW=>⟨hX.bl hX.lt hW,hY.bl hY.lt hW,hR.bl hR.lt hW⟩;have q0:=hY.c0;have q1:=hY.c1;have q2:=hY.c2;clear o7 h0 o1 o2 v8 g8 n6 n7 d6 d8 g7 g6 hg hB hX hY hR g9
 go_wp2_with fail
 refine (Mf _ _ _ _ _ _).mono ?_;rintro e w5 ⟨rfl,g4⟩;rw[r3.o];have A:=Ec g4;obtain⟨⟨_,r6,r7,r8,af,_⟩,⟨_,s3,s4,s5,bf,_⟩,⟨_,x3,x4,x5,rf,_⟩⟩:=J.o w5 g4;clear g4 q0 q1 q2
 by_cases n5:gk=0
 ·have f0:=rf 0;have f1:=rf 1;have f2:=rf 2;have j1:Hid (X=d):=by
   have:=j3.o;rw[n5,Nat.gcd_zero_right] at this;exact this
  clear af bf rf
  go_wp2
  have l2:=p7.o.bl A.o;rw[j1.o] at l2;have f9:=(J.o w5 A.o).2.2;have d1:=f9.put x0 xn xp xl xc;have t7:=l2.keeps f9.n f9.n (Kq.three w5 (w.heap.size+2) (.int .i64 x0) (.bool xn) (.slice xp xl xc));have t6:=CQ (M.o.trans (A.o.mono M.o.size)) (w.heap.size+2) (by omega) (.int .i64 x0) (.bool xn) (.slice xp xl xc);have k0:=d1.c0;have k1:=d1.c1;have k2:=d1.c2;have e2:w.heap.size+1+1=w.heap.size+2:=rfl;rw[e2];generalize ((w5.setCell ⟨w.heap.size+2,0,none⟩ (.int .i64 x0)).setCell ⟨w.heap.size+2,1,none⟩ (.bool xn)).setCell ⟨w.heap.size+2,2,none⟩ (.slice xp xl xc)=WE at *;refine Jj (v:=.agg #[.int .i64 x0,.bool xn,.slice xp xl xc]) ?_ rfl ⟨_,rfl,t7,t6⟩;simp[results,results110,go_sem,k0,k1,k2]
 go_wp2_with fail
 refine (ER B _ _ nx ny tx ty _ (by have:=d2.o;have:=M.o.size;have:=A.o.size;omega) (r4.o _ A.o) (r5.o _ A.o) (by have:=O.o.2.1;omega) (by have:=O.o.2.1;omega) (fun h=>n5 (by have:=O.o.2.2.1;rw[h] at this;simpa[val] using this.symm))).mono ?_;rintro e w6 ⟨z1,z2,q,r,rfl,⟨n8,g5⟩,n3,d7⟩;rw[O.o.1.1,O.o.1.2] at n3;obtain⟨m0,mn,mp,ml,mc,rfl⟩:=n8.shape;obtain⟨u0,un,up,ul,uc,rfl⟩:=g5.shape;obtain⟨n0,n1,n2⟩:=n3;obtain⟨R,rfl⟩:=Zn n1;have m6:R<gk:=by simpa using n2
 have j5:Hid (R<gk/\Nat.gcd gk R=d):=⟨m6,(IS X gk R q n0 m6).trans j3.o⟩;obtain⟨W6,d5⟩:=O1 ((w6.alloc (.cells #[.int .i64 m0,.bool mn,.slice mp ml mc] 123)).alloc (.cells #[.int .i64 u0,.bool un,.slice up ul uc] 123));have f8:Up w6 W6:=by rw[<-d5];exact Om (Oy _ _) _
 have hU:BoxV (w6.heap.size+1) W6 u0 un up ul uc:=by rw[<-d5];exact Hp _ _ (by simp) _ _ _ _ _ _
 have d3:Up wr W6:=A.o.trans ((d7.trans (f8.mono d7.size)).mono A.o.size);have l3:N5 B W6 (.agg #[.int .i64 u0,.bool un,.slice up ul uc]) (R:Nat):=(g5.bl f8).mono (by have:=d2.o;have:=M.o.size;have:=A.o.size;omega);have l6:=p8.o.bl d3;obtain⟨U,m7,m5⟩:=J.o W6 d3;have D0:K<w6.heap.size:=by
  have h1:=(J.o w5 A.o).2.1.lt;have h2:=d7.size;omega
 have q7:=Ec d5;have j2:Hid (DQ B P d w G K R ((((((W6.setCell ⟨G,0,none⟩ (.int .i64 V)).setCell ⟨G,1,none⟩ (.bool yn)).setCell ⟨G,2,none⟩ (.slice yp Z Y)).setCell ⟨K,0,none⟩ (.int .i64 u0)).setCell ⟨K,1,none⟩ (.bool un)).setCell ⟨K,2,none⟩ (.slice up ul uc))):=by
  have k7:=Kq.three W6 G (.int .i64 V) (.bool yn) (.slice yp Z Y);have u8:=U.put V yn yp Z Y;have d0:=m7.other (show K≠G by omega) k7;have u2:=m5.other (show w.heap.size+2≠G by omega) k7;have l7:=l6.keeps U.n U.n k7;have l4:=l3.keeps U.n U.n k7;have s8:=CQ (M.o.trans (d3.mono M.o.size)) G (by omega) (.int .i64 V) (.bool yn) (.slice yp Z Y);generalize ((W6.setCell ⟨G,0,none⟩ (.int .i64 V)).setCell ⟨G,1,none⟩ (.bool yn)).setCell ⟨G,2,none⟩ (.slice yp Z Y)=W7 at *;have k8:=Kq.three W7 K (.int .i64 u0) (.bool un) (.slice up ul uc);have u9:=u8.other (show G≠K by omega) k8;have v6:=d0.put u0 un up ul uc;have u6:=u2.other (show w.heap.size+2≠K by omega) k8;have l8:=l7.keeps d0.n d0.n k8;have l5:=l4.keeps d0.n d0.n k8;have s9:=CQ s8 K (by omega) (.int .i64 u0) (.bool un) (.slice up ul uc);have l9:=O.o.2.2.2.2;rw[HP.o] at l9;exact⟨gk,V,yn,yp,Z,Y,u0,un,up,ul,uc,⟨u9,v6,u6⟩,⟨l8,l5⟩,⟨l9,by omega⟩,j5.o.2,s9⟩
 obtain⟨_,L7,M1,M2,xf,_⟩:=U;obtain⟨_,M4,M6,M8,yf,_⟩:=m7;obtain⟨H0,L2,L3,L5,_,_⟩:=hU;have y6:=xf 0;have y7:=xf 1;have y8:=xf 2;have y9:=yf 0;have z6:=yf 1;have z7:=yf 2;have K0:G≠K:=by omega
 have K6:G≠w6.heap.size+1:=by omega
 have L1:K≠w6.heap.size+1:=by omega
 clear r6 r7 r8 s3 s4 s5 x3 x4 x5 af bf rf xf yf n8 g5 n0 n1 n2 d7 f8 d3 l3 l6 m5 d5
 go_upto_region 5 with fail
 rw[q7.o]
 go_wp2
 go_roundg R
 case measure=>exact j5.o.1
 exact j2.o
theorem PR {B:Nat}{w:World}{g0:Int}{gn:Bool}{ga:Option Addr}{gl gc:Nat}{G:Int}(h:N5 B w (.agg #[.int .i64 g0,.bool gn,.slice ga gl gc]) G):(((gl:Int)==0)&&(g0==1))=decide (G=1):=by
 obtain⟨neg,t,⟨M,A,E⟩,J⟩:=h
 rcases E with⟨I,v,e,⟨p,c,rfl,_⟩⟩|⟨I,e⟩
 ·simp only[Value.agg.injEq,Array.mk.injEq,List.cons.injEq,Value.slice.injEq,and_true] at e;have hl:gl=t.length:=e.2.2.2.1;have j:t≠[]:=by rintro rfl;simp at I
  have h3:=Xd t A j;have h4:1000000000 ^ 2<=1000000000 ^ (t.length - 1):=Yx (by decide) (by omega);have h5:(1000000000:Nat) ^ 2=1000000000000000000:=by decide
  have d:G≠1:=by
   rw[<-J]
   cases neg<;>simp[sg]<;>omega
  have E:((gl:Int)==0)=false:=by rw[Jc];omega
  rw[E,Jg d];rfl
 simp only[Value.agg.injEq,Array.mk.injEq,List.cons.injEq,Value.slice.injEq,Value.int.injEq,and_true,true_and] at e;have K:g0=sg neg (val t):=e.1;have hl:gl=0:=e.2.2.2.1;subst hl K;rw[J]
 by_cases d:G=1
 ·subst d;rfl
 have:(G==1)=false:=by rw[Jc];exact d
 rw[this,Jg d];rfl
theorem XZ (q:ByteArray)(h:0<q.size):((q[0].toNat:Int)==45)=isNeg q:=by
 unfold isNeg;have e:(q.extract 0 1).toList=[q[0]]:=by
  rw[Jl,Y9,Zo]
  show (q.data.toList.drop 0).take (1 - 0)=[q[0]]
  have hl:0<q.data.toList.length:=by simpa using h
  cases j:q.data.toList with
  | nil=>rw[j] at hl;simp at hl
  | cons c l=>
    have:q[0]=c:=by
     have d:q.data.toList[0]? = some q[0]:=by rw[Jf hl];rfl
     rw[j] at d
     simpa using d.symm
    rw[this];rfl
 rw[e]
 by_cases hc:q[0]=45
 ·rw[hc];rfl
 have d:((q[0].toNat:Int)==45)=false:=by
  rw[Jc];intro E;exact hc (UInt8.toNat_inj.1 (by have e3:(45:UInt8).toNat=45:=rfl;omega))
 have A:([q[0]]==[45])=false:=by simp[hc]
 rw[d,A]
theorem FO (a:ByteArray)(c:UInt8):(a.toList==[c])=decide (a=strB [c]):=by
 have:(strB [c]).toList=[c]:=by rw[Jl];rfl
 have h:=toList_inj (a:=a) (b:=strB [c]);rw[this] at h;exact h
theorem specIsRat_any (s:ByteArray)(w:World)(hs:s.size<=maxLen) :
 Calls prog 91 #[.string s] w fun e w'=>∃ b,e=.returned (.bool b)/\I8 s b/\Up w w':=by
 obtain⟨k,hk⟩:=isCut_ex s;have HK:=Hd hk;clear hk
 cases k with
 | none=>
   go_in
   go_wp2_with fail
   refine (Qx s none _ hs HK.o).mono ?_;rintro e w' ⟨rfl,b7⟩;subst b7;have e1:Xs none = -1:=rfl;rw[e1]
   go_wp2_with fail
   refine (isInt_spec s _ hs).mono ?_;rintro e w2 ⟨rfl,b8⟩;subst b8;obtain⟨b,hb⟩:=O1 (isIntB s);have HB:=Hd hb;rw[hb];clear hb
   go_wp2
   go_ret
   refine⟨_,rfl,⟨none,HK.o,?_⟩,Jh _ _⟩;constructor
   ·intro e;exact⟨numT s,1,HB.o.trans e,rfl,rfl⟩
   rintro⟨x,y,h,_⟩;rw[<-HB.o];exact h
 | some i=>
   have hi:=C1 HK.o;have e0:s.extract 0 i=cutP s (some i):=rfl;have e2:s.extract (i+1) s.size=cutQ s (some i):=rfl;obtain⟨p,hp⟩:=O1 (cutP s (some i));obtain⟨q,hq⟩:=O1 (cutQ s (some i));have d:Hid (cutP s (some i)=p/\cutQ s (some i)=q):=⟨hp,hq⟩;rw[hp] at e0;rw[hq] at e2;have e4:p.size<=maxLen:=by rw[<-e0,Ym];omega
   have e7:q.size<=maxLen:=by rw[<-e2,Ym];omega
   have d2:Hid (p.size<=maxLen/\q.size<=maxLen):=⟨e4,e7⟩;unfold maxLen at hs;clear hp hq e4 e7
   go_in
   go_wp2_with fail
   refine (Qx s (some i) _ (by unfold maxLen;exact hs) HK.o).mono ?_;rintro e w' ⟨rfl,b7⟩;subst b7;have e1:Xs (some i)=(i:Int):=rfl;rw[e1];have j:Hid ((¬ ∃ x y,RatV s (some i) x y)->I8 s false):=fun h=>⟨some i,HK.o,⟨(fun e=>by cases e),fun hx=>(h hx).elim⟩⟩
   go_wp2_with fail
   refine (isInt_spec p _ d2.o.1).mono ?_;rintro e w2 ⟨rfl,b8⟩;subst b8
   cases O:isIntB p
   ·have J:=Hd O;clear O;have I:Hid (I8 s false):=j.o (fun ⟨x,y,h⟩=>by
     have A:=h.1.1;rw[d.o.1,J.o] at A
     cases A)
    go_wp2
    go_ret
    exact⟨false,rfl,I.o,Jh _ _⟩
   have J:=Hd O;clear O
   go_wp2_with fail
   refine (isInt_spec q _ d2.o.2).mono ?_;rintro e w3 ⟨rfl,i6⟩;subst i6
   cases U:isIntB q
   ·have G:=Hd U;clear U;have I:Hid (I8 s false):=j.o (fun ⟨x,y,h⟩=>by
     have A:=h.1.2;rw[d.o.2,G.o] at A
     cases A)
    go_wp2
    go_ret
    exact⟨false,rfl,I.o,Jh _ _⟩
   have G:=Hd U;clear U
   cases e3:(p.toList==[48])
   case true=>
    have a7:=Hd e3;have I:Hid (I8 s false):=j.o (fun ⟨x,y,h⟩=>by
     have A:=h.2.1.2.1;rw[d.o.1] at A;exact A (of_decide_eq_true ((FO p 48).symm.trans a7.o)))
    go_wp2
    go_ret
    exact⟨false,rfl,I.o,Jh _ _⟩
   case false=>
   have a7:=Hd e3
   cases e5:(q.toList==[48])
   case true=>
    have a8:=Hd e5;have I:Hid (I8 s false):=j.o (fun ⟨x,y,h⟩=>by
     have A:=h.2.1.1;rw[d.o.2,of_decide_eq_true ((FO q 48).symm.trans a8.o)] at A;exact A B9)
    go_wp2
    go_ret
    exact⟨false,rfl,I.o,Jh _ _⟩
   case false=>
   have a8:=Hd e5
   cases e6:(q.toList==[49])
   case true=>
    have b3:=Hd e6;have I:Hid (I8 s false):=j.o (fun ⟨x,y,h⟩=>by
     have A:=h.2.1.2.2.1;rw[d.o.2] at A;exact A (of_decide_eq_true ((FO q 49).symm.trans b3.o)))
    go_wp2
    go_ret
    exact⟨false,rfl,I.o,Jh _ _⟩
   case false=>
   have b3:=Hd e6;have i1:0<q.size:=Yp fun h=>Ph q G.o (ByteArray.ext (by
    have:q.data.size=0:=h;rw[Array.eq_empty_of_size_eq_zero this];rfl))
   have d6:=XZ q i1
   cases E:isNeg q
   case true=>
    have Z:=Hd E;rw[E] at d6;have I:Hid (I8 s false):=j.o (fun ⟨x,y,h⟩=>by
     have A:=h.2.1.2.2.2.1;rw[d.o.2,Z.o] at A
     cases A)
    go_wp2
    go_ret
    exact⟨false,rfl,I.o,Jh _ _⟩
   case false=>
   have Z:=Hd E;rw[E] at d6;clear E;have d1:Hid ((lim p).length<=100000/\(lim q).length<=100000):=⟨by have:=I0 p J.o;omega,by have:=I0 q G.o;omega⟩;obtain⟨w0,e8⟩:∃ w0:World,w0=w3:=⟨_,rfl⟩;have j5:=Hd e8;clear e8
   go_wp2_with fail
   refine (H6 p _ J.o).mono ?_;rintro e w4 ⟨z1,rfl,f8,d7⟩;have h0:=Hd f8;have c6:=Hd d7;clear f8 d7
   go_wp2_with fail
   refine (H6 q _ G.o).mono ?_;rintro e w5 ⟨z2,rfl,f9,b4⟩;have h6:Hid (Nz w3.heap.size w5 z2 (isNeg q) (lim q)):=f9.mono c6.o.size;have d3:Hid (Nz w3.heap.size w5 z1 (isNeg p) (lim p)):=h0.o.bl b4;have c8:=c6.up b4;clear f9 b4
   go_wp2_with fail
   refine (ED _ z1 z2 _ _ _ _ 100000 _ c8.o.size d3.o h6.o d1.o.1 d1.o.2 Of).mono ?_;rintro e w6 ⟨z3,rfl,b6,d8⟩;obtain⟨g0,gn,ga,gl,gc,rfl⟩:=b6.shape;have V:=Hd (PR b6);have g5:=c8.up d8;obtain⟨W7,K⟩:=O1 (w6.alloc (.cells #[.int .i64 g0,.bool gn,.slice ga gl gc] 123));have g9:=Hd K;have d9:Up w6 W7:=by rw[<-K];exact Oy _ _
   have M:Bx W7 w6.heap.size [.int .i64 g0,.bool gn,.slice ga gl gc]:=by rw[<-K];exact Oi w6 _ _
   have g6:=g5.up d9;have g8:Hid (∀ W,Up W7 W->Bx W w6.heap.size [.int .i64 g0,.bool gn,.slice ga gl gc]):=fun W hW=>M.bl M.lt hW;obtain⟨k0,k1,k2⟩:=M.k3;have Y:Hid (∀ r,decide (E8 (sg (isNeg p) (val (lim p))) (sg (isNeg q) (val (lim q)))=1)=r->I8 s r):=fun r hr=>by
    refine⟨some i,HK.o,?_⟩;rw[<-hr,Yg];have hg:E8 (sg (isNeg p) (val (lim p))) (sg (isNeg q) (val (lim q)))=((Int.gcd (numT p) (numT q):Nat):Int):=rfl;rw[hg];constructor
    ·intro A;refine⟨numT p,numT q,?_⟩
     show (isIntB (cutP s (some i))=true/\isIntB (cutQ s (some i))=true)/\_
     rw[d.o.1,d.o.2];refine⟨⟨J.o,G.o⟩,⟨?_,?_,?_,Z.o,by omega⟩,rfl,rfl⟩
     ·intro h2;have h3:=Tf q (strB [48]) G.o (by kernel_rfl) (by rw[h2,B9]);have h4:=(FO q 48).symm.trans a8.o;exact (of_decide_eq_false h4) h3
     ·exact of_decide_eq_false ((FO p 48).symm.trans a7.o)
     exact of_decide_eq_false ((FO q 49).symm.trans b3.o)
    rintro⟨x,y,_,⟨_,_,_,_,h5⟩,_⟩;rw[d.o.1,d.o.2] at h5;rw[h5];rfl
   clear b6 d8 K d9 M
   go_upto_region 10 with fail
   rw[g9.o];refine (U6 g0 gn ga gl gc W7).mono ?_;rintro e w8 ⟨rfl,e9⟩;have b5:Up W7 w8:=by rw[e9];exact Oy _ _
   have d0:=g6.up b5;have f5:=g8.o w8 b5;have j0:=f5.cell 0;simp only[Jo] at j0;clear e9 b5 f5 k0 k1 k2
   by_cases hz:gl=0
   ·have z:((gl:Int)==0)=true:=by rw[Yc];omega
    have HE:Hid ((g0==1)=decide (E8 (sg (isNeg p) (val (lim p))) (sg (isNeg q) (val (lim q)))=1)):=by
     have h:=V.o;rw[z] at h;exact h
    rw[z]
    go_wp2
    go_ret
    exact⟨_,rfl,Y.o _ HE.o.symm,d0.o⟩
   have z:((gl:Int)==0)=false:=by rw[Jc];omega
   have HE:Hid (decide (E8 (sg (isNeg p) (val (lim p))) (sg (isNeg q) (val (lim q)))=1)=false):=by
    have h:=V.o;rw[z] at h;exact h.symm
   rw[z]
   go_wp2
   go_ret
   exact⟨_,rfl,Y.o _ HE.o,d0.o⟩
end Go.Proofs.YtipgjenolpofpaaGreatDoor.Q
namespace Go.Proofs.YtipgjenolpofpaaGreatDoor.Q
open ChangeShapes WideShapes ChangeAt RowKit
def Wp (s u:ByteArray):Prop:=∃ k,IsCut s k/\((∃ x y q r,RatV s k x y/\No x y q r/\Ef q u)∨((¬ ∃ x y,RatV s k x y)/\u=strB []))
theorem Tj {s:ByteArray}{k:Option Nat}{x y x' y':Int}(h:RatV s k x y)(h':RatV s k x' y'):x=x'/\y=y':=by
 cases k with
 | none=>exact⟨h.2.1.trans h'.2.1.symm,h.2.2.trans h'.2.2.symm⟩
 | some i=>exact⟨h.2.2.1.trans h'.2.2.1.symm,h.2.2.2.trans h'.2.2.2.symm⟩
theorem Wp.eq {s u v:ByteArray}(h:Wp s u)(h':Wp s v):u=v:=by
 obtain⟨k,I,h⟩:=h;obtain⟨m,J,h'⟩:=h';obtain rfl:=isCut_unique I J
 rcases h with⟨x,y,q,r,A,E,h3⟩|⟨A,E⟩<;>rcases h' with⟨K,M,O,U,d,j,G⟩|⟨d,j⟩
 ·obtain⟨rfl,rfl⟩:=Tj A d;obtain⟨rfl,_⟩:=R2 E j;exact h3.eq G
 ·exact absurd ⟨x,y,A⟩ d
 ·exact absurd ⟨K,M,d⟩ A
 rw[E,j]
end Go.Proofs.YtipgjenolpofpaaGreatDoor.Q
namespace Go.Proofs.YtipgjenolpofpaaGreatDoor.Q
open ChangeShapes WideShapes ChangeAt RowKit Proofs.Tryz
def IsQN (B:Nat)(w:World)(z:Value)(x y:Int):Prop:=∃ (p0:Int) (pn:Bool) (pa:Option Addr) (pl pc:Nat) (q0:Int) (qn:Bool) (qa:Option Addr) (ql qc:Nat),z=.agg #[.int .i64 p0,.bool pn,.slice pa pl pc,.int .i64 q0,.bool qn,.slice qa ql qc] /\
 Hi B w (.agg #[.int .i64 p0,.bool pn,.slice pa pl pc]) x 1000/\Hi B w (.agg #[.int .i64 q0,.bool qn,.slice qa ql qc]) y 1000
theorem Hi.keeps {B:Nat}{w W:World}{z:Value}{x:Int}{n:Nat}{g h:Nat}(hl:Hi B w z x n)(n1:Ew w g)(n2:Ew w h)(k:Kq g h w W):Hi B W z x n:=by
 obtain⟨neg,t,⟨d,j,A⟩,J⟩:=hl;refine⟨neg,t,⟨d,j,?_⟩,J⟩
 rcases A with⟨E,v,I,G⟩|A
 ·exact .inl ⟨E,v,I,G.keeps n1 n2 k⟩
 exact .inr A
theorem Hi.mono' {B B':Nat}{w:World}{z:Value}{x:Int}{n n':Nat}(h:Hi B w z x n)(hb:B'<=B)(hn:n<=n'):Hi B' w z x n':=by
 obtain⟨neg,t,d,j,h3⟩:=h;exact⟨neg,t,d.mono hb,j,by omega⟩
theorem Hi.shape' {B:Nat}{w:World}{z:Value}{x:Int}{n:Nat}(h:Hi B w z x n):∃ (z0:Int) (zn:Bool) (za:Option Addr) (zl zc:Nat),z=.agg #[.int .i64 z0,.bool zn,.slice za zl zc]:=by
 obtain⟨neg,t,d,_⟩:=h;exact d.shape
def W6 (W:World)(g:Nat)(u0 u1 u2 u3 u4 u5:Value):World:=(((((W.setCell ⟨g,0,none⟩ u0).setCell ⟨g,1,none⟩ u1).setCell ⟨g,2,none⟩ u2).setCell ⟨g,3,none⟩ u3).setCell ⟨g,4,none⟩ u4).setCell ⟨g,5,none⟩ u5
theorem YO (W:World)(g:Nat)(u0 u1 u2 u3 u4 u5:Value):Kq g g W (W6 W g u0 u1 u2 u3 u4 u5):=
 Kq.setCell (Kq.setCell (Kq.setCell (Kq.setCell (Kq.setCell (Kq.setCell (Kq.refl g g W) ⟨g,0,none⟩ u0 (Or.inl rfl)) ⟨g,1,none⟩ u1 (Or.inl rfl)) ⟨g,2,none⟩ u2 (Or.inl rfl)) ⟨g,3,none⟩ u3 (Or.inl rfl)) ⟨g,4,none⟩ u4 (Or.inl rfl)) ⟨g,5,none⟩ u5 (Or.inl rfl)
theorem CR {N:Nat}{w W:World}(h:Below N w W)(g:Nat)(hg:N<=g)(u0 u1 u2 u3 u4 u5:Value):Below N w (W6 W g u0 u1 u2 u3 u4 u5):=
 (((((h.setCell (p:=⟨g,0,none⟩) hg u0).setCell (p:=⟨g,1,none⟩) hg u1).setCell (p:=⟨g,2,none⟩) hg u2).setCell (p:=⟨g,3,none⟩) hg u3).setCell (p:=⟨g,4,none⟩) hg u4).setCell (p:=⟨g,5,none⟩) hg u5
theorem Bx.put6 {W:World}{g:Nat}{a b c d e f:Value}(h:Bx W g [a,b,c,d,e,f])(u0 u1 u2 u3 u4 u5:Value):Bx (W6 W g u0 u1 u2 u3 u4 u5) g [u0,u1,u2,u3,u4,u5]:=(((((h.set 0 u0).set 1 u1).set 2 u2).set 3 u3).set 4 u4).set 5 u5
theorem EC (B:Nat)(a0:Int)(an:Bool)(aa:Option Addr)(al ac:Nat)(x:Int)(w:World)(hBw:B<=w.heap.size)(h:Hi B w (.agg #[.int .i64 a0,.bool an,.slice aa al ac]) x 1000) :
 Calls prog 108 #[.agg #[.int .i64 a0,.bool an,.slice aa al ac]] w fun e w'=>∃ z,e=.returned z/\IsQN B w' z x 1/\Up w w':=by
 have HN:=Hd h;have b4:=Hd hBw;clear h hBw;obtain⟨V,j⟩:=O1 ((w.alloc (.cells #[.int .i64 a0,.bool an,.slice aa al ac] 123)).alloc (.cells #[.int .i64 0,.bool false,.slice none 0 0,.int .i64 0,.bool false,.slice none 0 0] 125));have b5:=Hd j;have d:Hid (Up w V):=by
  unfold Hid
  rw[<-j];exact Om (Oy _ _) _
 have G:Bx V w.heap.size [.int .i64 a0,.bool an,.slice aa al ac]:=by rw[<-j];exact (Oi w _ _).alloc _
 have Y:Bx V (w.heap.size+1) [.int .i64 0,.bool false,.slice none 0 0,.int .i64 0,.bool false,.slice none 0 0]:=by
  rw[<-j];have h:=Oi (w.alloc (.cells #[.int .i64 a0,.bool an,.slice aa al ac] 123)) [.int .i64 0,.bool false,.slice none 0 0,.int .i64 0,.bool false,.slice none 0 0] 125;rw[Ji] at h;exact h
 have HX:Hid (∀ W,Up V W->Bx W w.heap.size [.int .i64 a0,.bool an,.slice aa al ac]/\Bx W (w.heap.size+1) [.int .i64 0,.bool false,.slice none 0 0,.int .i64 0,.bool false,.slice none 0 0]):=fun W hW=>⟨G.bl G.lt hW,Y.bl Y.lt hW⟩;clear j;obtain⟨k0,k1,k2⟩:=G.k3;clear G Y
 go_in
 go_upto_region 1 with fail
 rw[b5.o]
 go_region_with (first
  | (go_at_call 125
     refine (Ii 1 _ (by decide) (by decide)).mono ?_;rintro e U ⟨z,rfl,hz,a7⟩;have A:Hid (Up V U):=(Jh _ V).drew.trans a7;obtain⟨I,O,J,M,K,rfl⟩:=hz.shape';have HZ:Hid (Hi V.heap.size U (.agg #[.int .i64 I,.bool O,.slice J M K]) 1 3):=hz;obtain⟨b3,Z⟩:=HX.o U A.o;obtain⟨j0,j1,j2⟩:=b3.k3;obtain⟨r0,r1,r2,r3,r4,r5⟩:=Z.k6;obtain⟨f0,f1,f2,f3,f4,f5⟩:=Z.f6;clear hz a7 b3 Z))
 all_goals
  try simp only[Yz,Ys,Yn,Act.put,Ja,Jd,Je]
  go_wp2
  have a8:=(HX.o U A.o).2;have E:Ew U (w.heap.size+1):=Gm a8 (by simp);have hk:=YO U (w.heap.size+1) (.int .i64 a0) (.bool an) (.slice aa al ac) (.int .i64 I) (.bool O) (.slice J M K);have b7:=(HN.o.bl (d.o.trans (A.o.mono d.o.size))).keeps E E hk;have b8:=(HZ.o.mono' (B':=B) (n':=1000) (by have:=b4.o;have:=d.o.size;omega) (by omega)).keeps E E hk;have b6:=CR (d.o.trans (A.o.mono d.o.size)) (w.heap.size+1) (Y2 _) (.int .i64 a0) (.bool an) (.slice aa al ac) (.int .i64 I) (.bool O) (.slice J M K);have hZ:=a8.put6 (.int .i64 a0) (.bool an) (.slice aa al ac) (.int .i64 I) (.bool O) (.slice J M K);have b9:(((((U.setCell ⟨w.heap.size+1,0,none⟩ (.int .i64 a0)).setCell ⟨w.heap.size+1,1,none⟩ (.bool an)).setCell ⟨w.heap.size+1,2,none⟩ (.slice aa al ac)).setCell ⟨w.heap.size+1,3,none⟩ (.int .i64 I)).setCell ⟨w.heap.size+1,4,none⟩ (.bool O)).setCell ⟨w.heap.size+1,5,none⟩ (.slice J M K)=W6 U (w.heap.size+1) (.int .i64 a0) (.bool an) (.slice aa al ac) (.int .i64 I) (.bool O) (.slice J M K):=rfl;rw[b9];generalize W6 U (w.heap.size+1) (.int .i64 a0) (.bool an) (.slice aa al ac) (.int .i64 I) (.bool O) (.slice J M K)=W9 at *;obtain⟨m0,m1,m2,m3,m4,m5⟩:=hZ.k6;refine Jj (v:=.agg #[.int .i64 a0,.bool an,.slice aa al ac,.int .i64 I,.bool O,.slice J M K]) ?_ rfl ⟨_,rfl,⟨a0,an,aa,al,ac,I,O,J,M,K,rfl,b7,b8⟩,b6⟩;simp[results,results108,go_sem,m0,m1,m2,m3,m4,m5]
end Go.Proofs.YtipgjenolpofpaaGreatDoor.Q
namespace Go.Proofs.YtipgjenolpofpaaGreatDoor.Q
open ChangeShapes WideShapes ChangeAt RowKit
def As (x y:Int)(u:ByteArray):Prop:=
 if y=1 then Ef x u else ∃ p q,Ef x p/\Ef y q/\u=if p.size=0∨q.size=0 then ⟨#[]⟩ else p++⟨#[47]⟩++q
def Bg (s t u:ByteArray):Prop:=if isIntB s=true/\isIntB t=true/\numT t≠0 then ∃ p q,Rq (numT s) (numT t) p q/\As p q u else u=⟨#[]⟩
theorem As.eq {x y:Int}{u v:ByteArray}(h:As x y u)(h':As x y v):u=v:=by
 unfold As at h h'
 split at h
 ·rename_i hc;rw[if_pos hc] at h';exact h.eq h'
 rename_i hc;rw[if_neg hc] at h';obtain⟨p,q,A,E,rfl⟩:=h;obtain⟨G,I,d,j,rfl⟩:=h';rw[A.eq d,E.eq j]
theorem Bg.eq {s t u v:ByteArray}(h:Bg s t u)(h':Bg s t v):u=v:=by
 unfold Bg at h h'
 split at h
 ·rename_i hc;rw[if_pos hc] at h';obtain⟨p,q,A,E⟩:=h;obtain⟨G,I,d,j⟩:=h';obtain⟨rfl,rfl⟩:=R3 A d;exact E.eq j
 rename_i hc;rw[if_neg hc] at h';rw[h,h']
theorem UR {B:Nat}{w:World}{z0:Int}{zn:Bool}{za:Option Addr}{zl zc:Nat}{neg:Bool}{t:List Nat}(hz:Nz B w (.agg #[.int .i64 z0,.bool zn,.slice za zl zc]) neg t):(zl=0/\t.length<=2)∨(zl=t.length/\2<t.length/\zl<=maxLen):=by
 obtain⟨_,_,h3⟩:=hz
 rcases h3 with⟨h3,v,e,p,c,rfl,hl,d,_⟩|⟨h3,e⟩
 ·simp at e;exact .inr ⟨e.2.2.2.1,h3,by omega⟩
 simp at e;exact .inl ⟨e.2.2.2.1,h3⟩
theorem IsQN.bl {B:Nat}{w w':World}{z:Value}{x y:Int}(h:IsQN B w z x y)(hb:Up w w'):IsQN B w' z x y:=by
 obtain⟨A,J,E,I,G,K,V,M,U,O,e,d,j⟩:=h;exact⟨A,J,E,I,G,K,V,M,U,O,e,d.bl hb,j.bl hb⟩
theorem UE (t:List Nat):digC t<=9*t.length+1:=by
 have:=M9 t;unfold digC;split<;>omega
end Go.Proofs.YtipgjenolpofpaaGreatDoor.Q
namespace Go.Proofs.YtipgjenolpofpaaGreatDoor.Q
open ChangeShapes WideShapes ChangeAt RowKit Proofs.Tryz
theorem l2Fits_30 (B:Nat)(p0:Int)(pn:Bool)(pa:Option Addr)(pl pc:Nat)(q0:Int)(qn:Bool)(qa:Option Addr)(ql qc:Nat)(n1 n2:Bool)(t1 t2:List Nat)(w:World)(hBw:B<=w.heap.size)
 (hz1:Nz B w (.agg #[.int .i64 p0,.bool pn,.slice pa pl pc]) n1 t1) (hz2:Nz B w (.agg #[.int .i64 q0,.bool qn,.slice qa ql qc]) n2 t2) (h1:t1.length<=600) (h2:t2.length<=600) :
 Calls prog 89 #[.agg #[.int .i64 p0,.bool pn,.slice pa pl pc,.int .i64 q0,.bool qn,.slice qa ql qc],.int .i64 30] w fun e w'=>e=.returned (.bool (decide (digC t1<=30/\digC t2<=30)))/\Up w w':=by
 have c8:=UR hz1;have d0:=UR hz2;have e2:=Hd hz1;have e3:=Hd hz2;have b8:=Hd hBw;clear hz1 hz2 hBw;obtain⟨W0,O⟩:=O1 (w.alloc (.cells #[.int .i64 p0,.bool pn,.slice pa pl pc,.int .i64 q0,.bool qn,.slice qa ql qc] 125));have e1:=Hd O;have h:Hid (Up w W0):=by unfold Hid;rw[<-O];exact Oy _ _
 have V:Bx W0 w.heap.size [.int .i64 p0,.bool pn,.slice pa pl pc,.int .i64 q0,.bool qn,.slice qa ql qc]:=by rw[<-O];exact Oi w _ _
 have HX:Hid (∀ W,Up W0 W->Bx W w.heap.size [.int .i64 p0,.bool pn,.slice pa pl pc,.int .i64 q0,.bool qn,.slice qa ql qc]):=fun W hW=>V.bl V.lt hW;obtain⟨k0,k1,k2⟩:=V.k3;clear O V;have Z:Hid (digC t1<=9*t1.length+1):=UE t1;have a7:Hid (digC t2<=9*t2.length+1):=UE t2;obtain⟨d1,U⟩:∃ d,digC t1=d:=⟨_,rfl⟩;obtain⟨d2,E⟩:∃ d,digC t2=d:=⟨_,rfl⟩;have d8:=Hd U;have d9:=Hd E;rw[U] at Z;rw[E] at a7;rw[U,E];have b1:d1<=6000:=by have:=Z.o;omega
 have b2:d2<=6000:=by have:=a7.o;omega
 have HL:=Hd (And.intro c8 d0);clear c8 d0 U E
 have rest:∀ W1,Up W0 W1->Hid (Calls prog 106 #[.agg #[.int .i64 p0,.bool pn,.slice pa pl pc]] W1 (fun e w'=>e=.returned (.int .i64 (d1:Nat))/\Up W1 w')):=fun W1 hW1=>by
  show Calls _ _ _ _ _
  refine (R5 B _ n1 t1 W1 (e2.o.bl (h.o.trans (hW1.mono h.o.size))) (by have:=b8.o;have:=h.o.size;have:=hW1.size;omega) h1).mono ?_;rintro e w' ⟨rfl,hb⟩;exact⟨by rw[d8.o],hb⟩
 have M:∀ W1,Up W0 W1->Hid (Calls prog 106 #[.agg #[.int .i64 q0,.bool qn,.slice qa ql qc]] W1 (fun e w'=>e=.returned (.int .i64 (d2:Nat))/\Up W1 w')):=fun W1 hW1=>by
  show Calls _ _ _ _ _
  refine (R5 B _ n2 t2 W1 (e3.o.bl (h.o.trans (hW1.mono h.o.size))) (by have:=b8.o;have:=h.o.size;have:=hW1.size;omega) h2).mono ?_;rintro e w' ⟨rfl,hb⟩;exact⟨by rw[d9.o],hb⟩
 have Y:=Hd rest;have K:=Hd M;clear rest M
 go_in
 go_upto_region 1 with fail
 rw[e1.o]
 go_wp2_with fail
 refine (U6 p0 pn pa pl pc W0).mono ?_;rintro e w1 ⟨rfl,d4⟩;have b3:Up W0 w1:=by rw[d4];exact Oy _ _
 have I:=Hd b3;have G:=HX.o w1 b3;clear d4 b3 k0 k1 k2;obtain⟨k0,k1,k2,k3,k4,k5⟩:=G.k6;clear G
 by_cases b4:pl=0
 ·have z:((pl:Int)==0)=true:=by rw[Yc];omega
  have e0:=Hd b4;rw[z];clear z b4
  go_wp2_with fail
  refine (U6 q0 qn qa ql qc w1).mono ?_;rintro e w2 ⟨rfl,d5⟩;have b9:Up w1 w2:=by rw[d5];exact Oy _ _
  have A:=Hd (I.o.trans (b9.mono I.o.size));have G:=HX.o w2 A.o;clear d5 b9 k0 k1 k2 k3 k4 k5;obtain⟨k0,k1,k2,k3,k4,k5⟩:=G.k6;clear G
  by_cases d3:ql=0
  ·have z:((ql:Int)==0)=true:=by rw[Yc];omega
   have HE:Hid (true=decide (d1<=30/\d2<=30)):=by
    unfold Hid
    have:=HL.o;have:=e0.o;have:=Z.o;have:=a7.o;rw[eq_comm,Js];omega
   have j:=Hd (h.o.trans (A.o.mono h.o.size));rw[z];clear z d3
   go_wp2
   go_ret
   exact⟨Oz HE.o,j.o⟩
  have z:((ql:Int)==0)=false:=by rw[Jc];omega
  rw[z];clear z d3
  go_wp2_with fail
  refine (Y.o w2 A.o).o.mono ?_;rintro e w3 ⟨rfl,hb⟩;have J:=Hd (A.o.trans (hb.mono A.o.size));have G:=HX.o w3 J.o;clear hb k0 k1 k2 k3 k4 k5;have k3:=G.cell 3;have k4:=G.cell 4;have k5:=G.cell 5;simp only[Jo,Jr] at k3 k4 k5;clear G
  by_cases hd:d1<=30
  ·have z1:decide ((d1:Int)<=30)=true:=dT (by omega)
   go_wp2_with fail
   refine (K.o w3 J.o).o.mono ?_;rintro e w4 ⟨rfl,hb⟩;have j:=Hd (h.o.trans ((J.o.trans (hb.mono J.o.size)).mono h.o.size));clear hb k3 k4 k5
   by_cases E:d2<=30
   ·have z2:decide ((d2:Int)<=30)=true:=dT (by omega)
    go_wp2
    go_ret
    exact⟨Oz (by simp[hd,E]),j.o⟩
   have z2:decide ((d2:Int)<=30)=false:=dF (by omega)
   go_wp2
   go_ret
   exact⟨Oz (by simp[E]),j.o⟩
  have z1:decide ((d1:Int)<=30)=false:=dF (by omega)
  have j:=Hd (h.o.trans (J.o.mono h.o.size))
  go_wp2
  go_ret
  exact⟨Oz (by simp[hd]),j.o⟩
 have z:((pl:Int)==0)=false:=by rw[Jc];omega
 rw[z];clear z b4
 go_wp2_with fail
 refine (Y.o w1 I.o).o.mono ?_;rintro e w2 ⟨rfl,hb⟩;have A:=Hd (I.o.trans (hb.mono I.o.size));have G:=HX.o w2 A.o;clear hb k0 k1 k2 k3 k4 k5;have k3:=G.cell 3;have k4:=G.cell 4;have k5:=G.cell 5;simp only[Jo,Jr] at k3 k4 k5;clear G
 by_cases hd:d1<=30
 ·have z1:decide ((d1:Int)<=30)=true:=dT (by omega)
  go_wp2_with fail
  refine (K.o w2 A.o).o.mono ?_;rintro e w3 ⟨rfl,hb⟩;have j:=Hd (h.o.trans ((A.o.trans (hb.mono A.o.size)).mono h.o.size));clear hb k3 k4 k5
  by_cases E:d2<=30
  ·have z2:decide ((d2:Int)<=30)=true:=dT (by omega)
   go_wp2
   go_ret
   exact⟨Oz (by simp[hd,E]),j.o⟩
  have z2:decide ((d2:Int)<=30)=false:=dF (by omega)
  go_wp2
  go_ret
  exact⟨Oz (by simp[E]),j.o⟩
 have z1:decide ((d1:Int)<=30)=false:=dF (by omega)
 have j:=Hd (h.o.trans (A.o.mono h.o.size))
 go_wp2
 go_ret
 exact⟨Oz (by simp[hd]),j.o⟩
theorem Pt (B:Nat)(w:World)(z:Value)(p:ByteArray)(hp:isIntB p=true)(h:Nz B w z (isNeg p) (lim p)):Hi B w z (numT p) 1000:=
 ⟨_,_,h,rfl,by have:=I0 p hp;omega⟩
theorem l2Read_any (s:ByteArray)(k:Option Nat)(x y:Int)(w:World)(hs:s.size<=maxLen)(hk:IsCut s k)(hV:RatV s k x y) :
 Calls prog 90 #[.string s] w fun e w'=>∃ z,e=.returned z/\IsQN w.heap.size w' z x y/\Up w w':=by
 have HK:=Hd hk;have HV:=Hd hV;clear hk hV;obtain⟨W0,b8⟩:=O1 (w.alloc (.cells #[.int .i64 0,.bool false,.slice none 0 0,.int .i64 0,.bool false,.slice none 0 0] 125));have d7:=Hd b8;have Y:Hid (Up w W0):=by unfold Hid;rw[<-b8];exact Oy _ _
 have d5:Bx W0 w.heap.size [.int .i64 0,.bool false,.slice none 0 0,.int .i64 0,.bool false,.slice none 0 0]:=by rw[<-b8];exact Oi w _ _
 have HX:Hid (∀ W,Up W0 W->Bx W w.heap.size [.int .i64 0,.bool false,.slice none 0 0,.int .i64 0,.bool false,.slice none 0 0]):=fun W hW=>d5.bl d5.lt hW;clear b8 d5
 cases k with
 | none=>
   go_in
   go_wp2_with fail
   rw[d7.o];refine (Qx s none _ hs HK.o).mono ?_;rintro e w1 ⟨rfl,d4⟩;subst d4;have e1:Xs none = -1:=rfl;rw[e1]
   go_wp2_with fail
   refine (H6 s _ HV.o.1).mono ?_;rintro e w2 ⟨z1,rfl,b7,b6⟩;have a8:=Pt _ _ _ s HV.o.1 b7;obtain⟨a0,an,aa,al,ac,rfl⟩:=a8.shape';have b9:=Hd a8;have Z:=Hd b6;clear b7 a8 b6
   go_wp2_with fail
   refine (EC _ a0 an aa al ac (numT s) _ Z.o.size b9.o).mono ?_;rintro e V ⟨z,rfl,hq,b5⟩;obtain⟨j,I,A,G,E,J,U,K,O,M,rfl,hP,hQ⟩:=hq;have a7:=Hd (Z.o.trans (b5.mono Z.o.size));have b4:Hid (Hi w.heap.size V (.agg #[.int .i64 j,.bool I,.slice A G E]) x 1000/\Hi w.heap.size V (.agg #[.int .i64 J,.bool U,.slice K O M]) y 1000):=by
    rw[HV.o.2.1,HV.o.2.2];exact⟨hP.mono' Y.o.size Of,hQ.mono' Y.o.size Of⟩
   have d:=HX.o V a7.o;obtain⟨r0,r1,r2,r3,r4,r5⟩:=d.k6;obtain⟨f0,f1,f2,f3,f4,f5⟩:=d.f6;clear hP hQ b5 d
   go_wp2
   have d:=HX.o V a7.o;have h:Ew V w.heap.size:=Gm d (by simp);have hk:=YO V w.heap.size (.int .i64 j) (.bool I) (.slice A G E) (.int .i64 J) (.bool U) (.slice K O M);have c8:=b4.o.1.keeps h h hk;have d0:=b4.o.2.keeps h h hk;have c6:=CR (Y.o.trans (a7.o.mono Y.o.size)) w.heap.size Of (.int .i64 j) (.bool I) (.slice A G E) (.int .i64 J) (.bool U) (.slice K O M);have hZ:=d.put6 (.int .i64 j) (.bool I) (.slice A G E) (.int .i64 J) (.bool U) (.slice K O M);have d1:(((((V.setCell ⟨w.heap.size,0,none⟩ (.int .i64 j)).setCell ⟨w.heap.size,1,none⟩ (.bool I)).setCell ⟨w.heap.size,2,none⟩ (.slice A G E)).setCell ⟨w.heap.size,3,none⟩ (.int .i64 J)).setCell ⟨w.heap.size,4,none⟩ (.bool U)).setCell ⟨w.heap.size,5,none⟩ (.slice K O M)=W6 V w.heap.size (.int .i64 j) (.bool I) (.slice A G E) (.int .i64 J) (.bool U) (.slice K O M):=rfl;rw[d1];generalize W6 V w.heap.size (.int .i64 j) (.bool I) (.slice A G E) (.int .i64 J) (.bool U) (.slice K O M)=W9 at *;obtain⟨m0,m1,m2,m3,m4,m5⟩:=hZ.k6;refine Jj (v:=.agg #[.int .i64 j,.bool I,.slice A G E,.int .i64 J,.bool U,.slice K O M]) ?_ rfl ⟨_,rfl,⟨j,I,A,G,E,J,U,K,O,M,rfl,c8,d0⟩,c6⟩;simp[results,results90,go_sem,m0,m1,m2,m3,m4,m5]
 | some i=>
   have hi:=C1 HK.o;have c1:(0:Int)<=(i:Int):=by omega
   have c2:(i:Int)<=(s.size:Int):=by omega
   have c3:(0:Int)<=(i:Int)+1:=by omega
   have c4:(i:Int)+1<=(s.size:Int):=by omega
   have e7:s.extract 0 i=cutP s (some i):=rfl;have d8:s.extract (i+1) s.size=cutQ s (some i):=rfl;obtain⟨p,hp⟩:=O1 (cutP s (some i));obtain⟨q,hq⟩:=O1 (cutQ s (some i));have b4:Hid (cutP s (some i)=p/\cutQ s (some i)=q):=⟨hp,hq⟩;rw[hp] at e7;rw[hq] at d8;have b3:Hid ((isIntB p=true/\isIntB q=true)/\x=numT p/\y=numT q):=by
    obtain⟨h1,_,h2,h3⟩:=HV.o;rw[hp,hq] at h1;rw[hp] at h2;rw[hq] at h3;exact⟨h1,h2,h3⟩
   unfold maxLen at hs;clear hp hq;have h0:IntKind.i64.wrap ((i:Int)+1)=(i:Int)+1:=Kb _ (by omega) (by omega);have g9:∀ W,(Instr.slice 9 (.string s) (some (.int .i64 ((i:Int)+1))) none none).run prog W=.ok (.string q) W:=fun W=>by
    rw[run_slice_string_from_if W 9 s .i64 _ underlying9,if_pos ⟨c3,c4⟩,show ((i:Int)+1).toNat=i+1 by omega,d8]
   go_in
   go_wp2_with fail
   rw[d7.o];refine (Qx s (some i) _ (by unfold maxLen;exact hs) HK.o).mono ?_;rintro e w1 ⟨rfl,d4⟩;subst d4;have e1:Xs (some i)=(i:Int):=rfl;rw[e1]
   go_wp2
   go_region_with (first
    | (go_at_call_of 109 (Value.string p)
       refine (H6 p _ b3.o.1.1).mono ?_;rintro e w2 ⟨z1,rfl,b7,b6⟩;have a8:=Pt _ _ _ p b3.o.1.1 b7;obtain⟨j,I,A,G,E,rfl⟩:=a8.shape';have b9:=Hd a8;have Z:Hid (Up w1 w2):=(Jh _ w1).drew.trans b6;clear b7 a8 b6)
    | (go_at_call_of 109 (Value.string q)
       refine (H6 q _ b3.o.1.2).mono ?_;rintro e V ⟨z2,rfl,e0,b5⟩;have d2:=Pt _ _ _ q b3.o.1.2 e0;obtain⟨J,U,K,O,M,rfl⟩:=d2.shape';have b4:Hid (Hi w.heap.size V (.agg #[.int .i64 j,.bool I,.slice A G E]) x 1000/\Hi w.heap.size V (.agg #[.int .i64 J,.bool U,.slice K O M]) y 1000):=by
        rw[b3.o.2.1,b3.o.2.2];exact⟨(b9.o.bl b5).mono' Y.o.size Of,d2.mono' (Yk Y.o.size Z.o.size) Of⟩
       have a7:=Hd (Z.o.trans (b5.mono Z.o.size));have d:=HX.o V a7.o;obtain⟨r0,r1,r2,r3,r4,r5⟩:=d.k6;obtain⟨f0,f1,f2,f3,f4,f5⟩:=d.f6;clear e0 d2 b5 d))
   all_goals
    try simp only[Yz,Ys,Yn,Act.put,Ja,Jd,Je]
    go_wp2
    have d:=HX.o V a7.o;have h:Ew V w.heap.size:=Gm d (by simp);have hk:=YO V w.heap.size (.int .i64 j) (.bool I) (.slice A G E) (.int .i64 J) (.bool U) (.slice K O M);have c8:=b4.o.1.keeps h h hk;have d0:=b4.o.2.keeps h h hk;have c6:=CR (Y.o.trans (a7.o.mono Y.o.size)) w.heap.size Of (.int .i64 j) (.bool I) (.slice A G E) (.int .i64 J) (.bool U) (.slice K O M);have hZ:=d.put6 (.int .i64 j) (.bool I) (.slice A G E) (.int .i64 J) (.bool U) (.slice K O M);have d1:(((((V.setCell ⟨w.heap.size,0,none⟩ (.int .i64 j)).setCell ⟨w.heap.size,1,none⟩ (.bool I)).setCell ⟨w.heap.size,2,none⟩ (.slice A G E)).setCell ⟨w.heap.size,3,none⟩ (.int .i64 J)).setCell ⟨w.heap.size,4,none⟩ (.bool U)).setCell ⟨w.heap.size,5,none⟩ (.slice K O M)=W6 V w.heap.size (.int .i64 j) (.bool I) (.slice A G E) (.int .i64 J) (.bool U) (.slice K O M):=rfl;rw[d1];generalize W6 V w.heap.size (.int .i64 j) (.bool I) (.slice A G E) (.int .i64 J) (.bool U) (.slice K O M)=W9 at *;obtain⟨m0,m1,m2,m3,m4,m5⟩:=hZ.k6;refine Jj (v:=.agg #[.int .i64 j,.bool I,.slice A G E,.int .i64 J,.bool U,.slice K O M]) ?_ rfl ⟨_,rfl,⟨j,I,A,G,E,J,U,K,O,M,rfl,c8,d0⟩,c6⟩;simp[results,results90,go_sem,m0,m1,m2,m3,m4,m5]
theorem FG:prog.globalNamed "loop.example/g00007/impl.limbTens" = some 4:=by kernel_rfl
theorem FC:(prog.globals[4]?).map (·.type)=some 246:=by kernel_rfl
def F8:List Int:=[100000000,10000000,1000000,100000,10000,1000,100,10,1]
theorem QW (j:Nat)(h:j<9):F8.getD j 0=(tens j:Nat):=by
 match j,h with
 | 0,_|1,_|2,_|3,_|4,_|5,_|6,_|7,_|8,_=>rfl
theorem lt_of_laid {W:World}{n0:String}{d0:DataW Unit}{L:List (String×DataW Unit)}(h:laidMet prog ((n0,d0)::("loop.example/g00007/impl.limbTens",Rows.laid_loop_example_g00007_impl_limbTens)::L) W):LT W:=by
 obtain⟨ps,⟨g0,t0,K,f0,p0,q0,_,_,_,_,⟨g,t,cs,A,p,q,G,Z,hv,Y,_,_⟩,_⟩,_⟩:=h;obtain rfl:=Option.some.inj (FG.symm.trans G);obtain rfl:=Option.some.inj (FC.symm.trans Z);obtain⟨xs,m,_,ex,_,hl,j⟩:=DataW.trod_array underlying246 Y;have c5:prog.cellsOf 154=1:=by kernel_rfl
 intro r J;have E:=j r J;rw[c5,Z0,Jf (by omega)] at E;obtain⟨z,M,O,_⟩:=DataW.trod_int underlying154 E;have I:F8.length=9:=rfl;have U:(xs.map (·.1))=F8.map fun n=>.lit (.int .u32 n):=(DataW.agg.inj (Prod.mk.inj ex).1).symm;have d:(xs.map (·.1))[r]? = (F8.map fun n=>(DataW.lit (.int .u32 n):DataW Unit))[r]? := by rw[U]
 rw[Y1,Y1,Jf (by omega:r<xs.length),Jf (by omega:r<F8.length),O] at d;have hz:z=F8.getD r 0:=by
  simp only[Option.map_some,Option.some.injEq,DataW.lit.injEq,Lit.int.injEq,true_and] at d;rw[d,List.getD,Jf (by omega:r<F8.length)];rfl
 rw[Ud G hv r,<-QW r J,<-hz];have:cs.toList[r]? = some (.int .u32 z):=by
  have V:((cs.toList.drop r).take 1)[0]? = some (.int .u32 z):=by rw[M];rfl
  simpa using V
 simpa using this
open ChangeShapes WideShapes ChangeAt RowKit Deep Proofs.Tryz
theorem CN:prog.globalNamed "loop.example/g00007/impl.noSteps" = some 2:=by kernel_rfl
theorem CM:(prog.globals[2]?).map (·.type)=some 232:=by kernel_rfl
theorem CV:prog.cellsOf 232=4:=by kernel_rfl
theorem FU:prog.cellsOf 230=2:=by kernel_rfl
theorem FJ:prog.cellsOf 2=1:=by kernel_rfl
theorem Dg {H:Type}{enc:TypeId×Value->H}{w:World}{base:Nat}{spare:Nat->Bool}{held:Bool}{fuel:Nat}{cs:List Value}{a c:Int}{x:DataW H×List MemPlace}
 (h:DataW.trod enc prog w base spare held fuel 230 cs=some x) (hx:x.1=.agg [.lit (.int .i64 a),.lit (.int .i64 c)]):cs=[.int .i64 a,.int .i64 c]:=by
 obtain⟨xs,m,_,rfl,hl,hn,d⟩:=DataW.trod_array underlying230 h;rw[FU] at hl;have j:=d 0 (by decide);have A:=d 1 (by decide);rw[FJ] at j A
 match xs,hn with
 | [y0,y1],_=>
   obtain⟨J,i0,G,_⟩:=DataW.trod_int underlying2 (show DataW.trod _ prog w base spare held m 2 _=some y0 from j);obtain⟨K,E,I,_⟩:=DataW.trod_int underlying2 (show DataW.trod _ prog w base spare held m 2 _=some y1 from A);subst G I;simp only[Vy,Ua,DataW.agg.injEq,List.cons.injEq,DataW.lit.injEq,Lit.int.injEq,true_and,and_true] at hx;obtain⟨rfl,rfl⟩:=hx
   match cs,hl with
   | [c0,c1],_=>
     simp at i0 E;rw[i0,E]
theorem ns_of_laid {W:World}{L:List (String×DataW Unit)}(h:laidMet prog (("loop.example/g00007/impl.noSteps",Rows.laid_loop_example_g00007_impl_noSteps)::L) W):NS W:=by
 obtain⟨ps,⟨Z,t0,E,f0,A,q0,j,I,J,G,_,_⟩,_⟩:=h;obtain rfl:=Option.some.inj (CN.symm.trans j);obtain rfl:=Option.some.inj (CM.symm.trans I);have d:=Ud j J;obtain⟨y0,y1,n,U,hl,V,Y⟩:=trod_struct2 underlying232 G;rw[CV] at hl;obtain⟨l⟩:=E;simp only[Rows.laid_loop_example_g00007_impl_noSteps,Prod.mk.injEq,DataW.agg.injEq,List.cons.injEq,and_true] at U;obtain⟨⟨K,M⟩,_⟩:=U;have A:=Dg V K.symm;have O:=Dg Y M.symm;rw[FU] at A O
 match l,hl with
 | [c0,c1,c2,c3],_=>
   simp at A O;obtain⟨rfl,rfl⟩:=A;obtain⟨rfl,rfl⟩:=O;exact⟨d 0,d 1,d 2,d 3⟩
end Go.Proofs.YtipgjenolpofpaaGreatDoor.Q
