import Derived.Test.YtdmdmgfjpomdbaaGreatDoorP13
import Derived.Test.YtdmdmgfjpomdbaaGreatDoorP12
import Derived.Laws.Strings3
import Derived.Lay
import Derived.ChangeVars
set_option maxRecDepth 100000
set_option maxHeartbeats 2000000
namespace Go.Proofs.YtdmdmgfjpomdbaaGreatDoor.Q
open ChangeShapes WideShapes ChangeAt RowKit Proofs.Tryz
variable {w:World}
theorem IL (B:Nat)(za zb:Value)(na nb:Bool)(a b:List Nat)(w:World)(hBw:B<=w.heap.size)(hza:Gy B w za na a)(hzb:Gy B w zb nb b)(hla:a.length<=100000)(hlb:b.length<=100000)(hne:b≠[]) :
 Calls prog 129 #[za,zb] w fun e w'=>∃ z1 z2 q r,e=.returned (.tuple #[z1,z2])/\(G0 w.heap.size w' z1 q/\G0 w.heap.size w' z2 r)/\Nw (sg na (val a)) (sg nb (val b)) q r/\Up w w':=by
 have d:=hza.1;have j:=hzb.1;have A:=hzb.2.1;obtain⟨x,xn,pa,la,M,rfl,fa,V⟩:=hza.form2;obtain⟨y,yn,pb,lb,O,rfl,U,Y⟩:=hzb.form2
 by_cases I:la=0/\lb=0
 ·have E:=V I.1;have G:=Y I.2;rw[E.2,G.2];have J:=ZK na a d E.1;have K:=ZK nb b j G.1;exact OJ _ _ w J.1 J.2 K.1 K.2 (fun h=>hne ((Xx nb b A).1 h))
 have Z:((la:Int)==0)=false∨(((la:Int)==0)=true/\((lb:Int)==0)=false):=by
  by_cases h:la=0
  ·exact .inr ⟨by rw[Yf];omega,by rw[Jb];omega⟩
  exact .inl (by rw[Jb];omega)
 have h:=IM B x y xn yn pa la M pb lb O na nb a b w hBw Z hza hzb _ _ fa U hla hlb hne;rw[I6,I6] at h;exact h
theorem AY (t:List Nat)(N:Nat)(ht:isTrim t)(h:val t<1000000000 ^ N):t.length<=N:=by
 by_cases hn:t=[]
 ·rw[hn];exact Jr _
 have d:=Ql t ht hn;have h4:=(Nat.pow_lt_pow_iff_right (show 1<1000000000 by decide)).1 (Nat.lt_of_le_of_lt d h);omega
theorem PV (X Y R:Nat)(q:Int)(h:(X:Int)=q*Y+R)(hr:R<Y):Nat.gcd Y R=Nat.gcd X Y:=by
 have d:(X:Int) % Y=R:=by
  rw[h,Int.add_comm,Int.add_mul_emod_self_right];exact Int.emod_eq_of_lt (Ux _) (Int.ofNat_lt.2 hr)
 have h2:X % Y=R:=by exact_mod_cast d
 rw[<-h2,U3 X Y,Nat.gcd_rec Y X,U3]
def LA (B P d:Nat)(w0:World)(gx gy k:Nat)(wr:World):Prop:=
 ∃ (X:Nat) (x0:Int) (xn:Bool) (xp:Option Addr) (xl xc:Nat) (y0:Int) (yn:Bool) (yp:Option Addr) (yl yc:Nat),(BoxV gx wr x0 xn xp xl xc/\BoxV gy wr y0 yn yp yl yc/\BoxV (w0.heap.size+2) wr 0 false none 0 0) /\
  (G0 B wr (.agg #[.int .i64 x0,.bool xn,.slice xp xl xc]) (X:Nat)/\G0 B wr (.agg #[.int .i64 y0,.bool yn,.slice yp yl yc]) (k:Nat))/\(X<P/\k<P)/\Nat.gcd X k=d/\Up w0 wr
theorem Lw {B:Nat}{z:Value}{X:Nat}(N:Nat)(h:G0 B w z (X:Nat))(hX:X<1000000000 ^ N):∃ neg t,Gy B w z neg t/\sg neg (val t)=(X:Nat)/\val t=X/\t.length<=N:=by
 obtain⟨neg,t,j,d⟩:=h;have A:val t=X:=by have:=congrArg Int.natAbs d;rw[M9] at this;simpa using this
 exact⟨neg,t,j,d,A,AY t N j.2.1 (by omega)⟩
theorem MA {N:Nat}{W:World}(h:Below N w W)(g:Nat)(hg:N<=g)(u0 u1 u2:Value):Below N w (((W.setCell ⟨g,0,none⟩ u0).setCell ⟨g,1,none⟩ u1).setCell ⟨g,2,none⟩ u2):=
 ((h.setCell (p:=⟨g,0,none⟩) hg u0).setCell (p:=⟨g,1,none⟩) hg u1).setCell (p:=⟨g,2,none⟩) hg u2
theorem IB (B:Nat)(za zb:Value)(na nb:Bool)(a b:List Nat)(N:Nat)(w:World)(hBw:B<=w.heap.size)(hza:Gy B w za na a)(hzb:Gy B w zb nb b)(hla:a.length<=N)(hlb:b.length<=N)(hN:N<=100000) :
 Calls prog 108 #[za,zb] w fun e w'=>∃ z,e=.returned z/\G0 B w' z (Ns (sg na (val a)) (sg nb (val b)))/\Up w w':=by
 obtain⟨a0,an,ap,al,ac,rfl⟩:=hza.shape;obtain⟨b0,bn,bp,bl,bc,rfl⟩:=hzb.shape;obtain⟨d,hd⟩:=Oa (Nat.gcd (val a) (val b));have HD:=E8 hd;have n1:Ns (sg na (val a)) (sg nb (val b))=(d:Int):=by unfold Ns Int.gcd;rw[M9,M9,hd]
 rw[n1];obtain⟨P,hP⟩:=Oa (1000000000 ^ N);have HP:=E8 hP;have p7:Hid (val a<P/\val b<P):=by
  have h1:=Jq (G6 a hza.1) (Y0 (show 0<1000000000 by decide) hla);have h2:=Jq (G6 b hzb.1) (Y0 (show 0<1000000000 by decide) hlb);rw[hP] at h1 h2;exact⟨h1,h2⟩
 have q5:=E8 hza;have q6:=E8 hzb;have d2:=E8 hBw;clear hza hzb hd n1 hP hBw;obtain⟨W0,I⟩:=Oa (((w.alloc (.cells #[.int .i64 a0,.bool an,.slice ap al ac] 119)).alloc (.cells #[.int .i64 b0,.bool bn,.slice bp bl bc] 119)).alloc (.cells #[.int .i64 0,.bool false,.slice none 0 0] 119));have p8:=E8 I;have n6:W0.heap.size=w.heap.size+3:=by rw[<-I];simp
 have e7:=E8 n6;have b8:Hid (Up w W0):=by
  unfold Hid
  rw[<-I];exact Ob (Ob (Oz _ _) _) _
 have e6:Hid (∀ W,Up W0 W->BoxV w.heap.size W a0 an ap al ac/\BoxV (w.heap.size+1) W b0 bn bp bl bc/\BoxV (w.heap.size+2) W 0 false none 0 0):=fun W hW=>by
  have h1:BoxV w.heap.size W0 a0 an ap al ac:=by rw[<-I];exact ((Ia w _ _ _ _ _ _).alloc _).alloc _
  have h2:BoxV (w.heap.size+1) W0 b0 bn bp bl bc:=by rw[<-I];exact (Ip _ _ (by simp) _ _ _ _ _ _).alloc _
  have h3:BoxV (w.heap.size+2) W0 0 false none 0 0:=by rw[<-I];exact Ip _ _ (by simp) _ _ _ _ _ _
  exact⟨h1.bl h1.lt hW,h2.bl h2.lt hW,h3.bl h3.lt hW⟩
 clear I n6
 go_in
 go_upto_region 1 with fail
 rw[p8.o];obtain⟨⟨_,q0,q1,q2,_,_⟩,_⟩:=e6.o W0 (Je _ _)
 go_wp2_with fail
 refine (El B _ na a _ (q5.o.bl b8.o) (by have:=d2.o;have:=e7.o;omega)).mono ?_;rintro e w1 ⟨v1,rfl,o0,m5⟩;have j4:=E8 o0;have h8:=E8 m5;clear o0 m5
 go_wp2_with fail
 refine (Gi B false v1 a _ j4.o).mono ?_;rintro e w2 ⟨z1,rfl,o2,hb2⟩;have g0:Gy B w2 z1 false (Og a):=o2 _ _ (j4.o.bl hb2);have h9:=E8 (h8.o.trans (hb2.mono h8.o.size));obtain⟨x0,xn,xp,xl,xc,rfl⟩:=g0.shape;obtain⟨W2,c8⟩:=Oa (w2.alloc (.cells #[.int .i64 x0,.bool xn,.slice xp xl xc] 119));have p9:=E8 c8;have b9:Up w2 W2:=by rw[<-c8];exact Oz _ _
 have n7:W2.heap.size=w2.heap.size+1:=by rw[<-c8];simp
 have p6:=E8 n7;have e8:Hid (BoxV w2.heap.size W2 x0 xn xp xl xc):=by unfold Hid;rw[<-c8];exact Ia w2 _ _ _ _ _ _
 have j8:Hid (Gy B W2 (.agg #[.int .i64 x0,.bool xn,.slice xp xl xc]) false (Og a)):=g0.bl b9;have j:=h9.up b9;obtain⟨_,⟨_,r0,r1,r2,_,_⟩,_⟩:=e6.o W2 j.o;clear o2 hb2 c8 b9 n7 g0 q0 q1 q2
 go_upto_region 2 with fail
 rw[p9.o]
 go_wp2_with fail
 refine (El B _ nb b _ (q6.o.bl (b8.o.trans (j.o.mono b8.o.size))) (by have:=d2.o;have:=e7.o;have:=j.o.size;omega)).mono ?_;rintro e w3 ⟨v2,rfl,o1,m6⟩;have j5:=E8 o1;have i1:=E8 m6;clear o1 m6
 go_wp2_with fail
 refine (Gi B false v2 b _ j5.o).mono ?_;rintro e w4 ⟨z2,rfl,o3,g2⟩;have g1:Gy B w4 z2 false (Og b):=o3 _ _ (j5.o.bl g2);have i6:=E8 (i1.o.trans (g2.mono i1.o.size));obtain⟨V,yn,yp,Z,Y,rfl⟩:=g1.shape;obtain⟨W4,d4⟩:=Oa (w4.alloc (.cells #[.int .i64 V,.bool yn,.slice yp Z Y] 119));have q3:=E8 d4;have c6:Up w4 W4:=by rw[<-d4];exact Oz _ _
 have j7:Hid (BoxV w4.heap.size W4 V yn yp Z Y):=by unfold Hid;rw[<-d4];exact Ia w4 _ _ _ _ _ _
 have j9:Hid (Gy B W4 (.agg #[.int .i64 V,.bool yn,.slice yp Z Y]) false (Og b)):=g1.bl c6;have E:=i6.up c6;have j3:Hid (W2.heap.size<=w4.heap.size):=i6.o.size;clear o3 g2 d4 c6 g1 r0 r1 r2
 go_wp2
 rw[q3.o];have z7:w2.heap.size<w4.heap.size:=by have:=p6.o;have:=j3.o;omega
 have y9:w.heap.size+2<w2.heap.size:=by have:=h9.o.size;have:=e7.o;omega
 have j6:=E8 (e8.o.bl e8.o.lt E.o);have e0:=E8 (j8.o.bl E.o);have j1:=E8 (e6.o W4 (j.o.trans (E.o.mono j.o.size))).2.2;have d9:=E8 (b8.o.trans ((j.o.trans (E.o.mono j.o.size)).mono b8.o.size));generalize z8:w2.heap.size=G at *;generalize A6:w4.heap.size=K at *
 go_loopg [] (val b) (LA B P d w G K)
 case atStart=>exact⟨val a,x0,xn,xp,xl,xc,V,yn,yp,Z,Y,⟨j6.o,j7.o,j1.o⟩,⟨⟨false,_,e0.o,by rw[O4];rfl⟩,⟨false,_,j9.o,by rw[O4];rfl⟩⟩,p7.o,HD.o,d9.o⟩
 clear j6 j7 j1 e0 j9 d9 E j3 e8 j8 j;obtain⟨X,x0,xn,xp,xl,xc,V,yn,yp,Z,Y,⟨hX,hY,hR⟩,⟨g4,g5⟩,⟨d6,d8⟩,hg,hB⟩:=hrel;rw[<-HP.o] at d6 d8;obtain⟨nx,tx,o4,n8,u9,n3⟩:=Lw N g4 d6;obtain⟨ny,ty,g8,n9,g6,n4⟩:=Lw N g5 d8;have g7:=Fh g8;rw[g6] at g7;have q7:=E8 g7;have q8:Hid (∀ W,Up wr W->Gy B W (.agg #[.int .i64 x0,.bool xn,.slice xp xl xc]) nx tx):=fun W hW=>o4.bl hW;have q9:Hid (∀ W,Up wr W->Gy B W (.agg #[.int .i64 V,.bool yn,.slice yp Z Y]) ny ty):=fun W hW=>g8.bl hW;have O:Hid ((sg nx (val tx)=(X:Nat)/\sg ny (val ty)=(gk:Nat))/\(tx.length<=N/\ty.length<=N)/\val ty=gk/\X<1000000000 ^ N/\gk<1000000000 ^ N):=⟨⟨n8,n9⟩,⟨n3,n4⟩,g6,d6,d8⟩;have p5:=Hd g5;have p4:=Hd g4;have j0:=E8 hg;have M:=E8 hB;have J:Hid (∀ W,Up wr W->BoxV G W x0 xn xp xl xc/\BoxV K W V yn yp Z Y/\BoxV (w.heap.size+2) W 0 false none 0 0):=fun W hW=>⟨hX.bl hX.lt hW,hY.bl hY.lt hW,hR.bl hR.lt hW⟩;have q0:=hY.c0;have q1:=hY.c1;have q2:=hY.c2;clear o4 g8 n8 n9 u9 g6 n3 n4 d6 d8 g5 g4 hg hB hX hY hR g7
 go_wp2_with fail
 refine (Aw _ _ _ _ _ _).mono ?_;rintro e w5 ⟨rfl,g3⟩;rw[q7.o];have A:=E8 g3;obtain⟨⟨_,r3,r4,r5,af,_⟩,⟨_,s0,s1,s2,bf,_⟩,⟨_,w9,x1,x2,rf,_⟩⟩:=J.o w5 g3;clear g3 q0 q1 q2
 by_cases n2:gk=0
 ·have f0:=rf 0;have f1:=rf 1;have f2:=rf 2;have i7:Hid (X=d):=by
   have:=j0.o;rw[n2,Nat.gcd_zero_right] at this;exact this
  clear af bf rf
  go_wp2
  have k9:=p4.o.bl A.o;rw[i7.o] at k9;have f9:=(J.o w5 A.o).2.2;have d1:=f9.put x0 xn xp xl xc;have s8:=k9.keeps f9.n f9.n (Ka.three w5 (w.heap.size+2) (.int .i64 x0) (.bool xn) (.slice xp xl xc));have s7:=MA (M.o.trans (A.o.mono M.o.size)) (w.heap.size+2) (by omega) (.int .i64 x0) (.bool xn) (.slice xp xl xc);have k0:=d1.c0;have k1:=d1.c1;have k2:=d1.c2;have e2:w.heap.size+1+1=w.heap.size+2:=rfl;rw[e2];generalize ((w5.setCell ⟨w.heap.size+2,0,none⟩ (.int .i64 x0)).setCell ⟨w.heap.size+2,1,none⟩ (.bool xn)).setCell ⟨w.heap.size+2,2,none⟩ (.slice xp xl xc)=WE at *;refine Jg (v:=.agg #[.int .i64 x0,.bool xn,.slice xp xl xc]) ?_ rfl ⟨_,rfl,s8,s7⟩;simp[results,results108,go_sem,k0,k1,k2]
 go_wp2_with fail
 refine (IL B _ _ nx ny tx ty _ (by have:=d2.o;have:=M.o.size;have:=A.o.size;omega) (q8.o _ A.o) (q9.o _ A.o) (by have:=O.o.2.1;omega) (by have:=O.o.2.1;omega) (fun h=>n2 (by have:=O.o.2.2.1;rw[h] at this;simpa[val] using this.symm))).mono ?_;rintro e w6 ⟨z1,z2,q,r,rfl,⟨n5,hn2⟩,n0,d7⟩;rw[O.o.1.1,O.o.1.2] at n0;obtain⟨m0,mn,mp,ml,mc,rfl⟩:=n5.shape;obtain⟨u0,un,up,ul,uc,rfl⟩:=hn2.shape;obtain⟨m7,m8,m9⟩:=n0;obtain⟨R,rfl⟩:=Zt m8;have l8:R<gk:=by simpa using m9
 have j2:Hid (R<gk/\Nat.gcd gk R=d):=⟨l8,(PV X gk R q m7 l8).trans j0.o⟩;obtain⟨W6,d5⟩:=Oa ((w6.alloc (.cells #[.int .i64 m0,.bool mn,.slice mp ml mc] 119)).alloc (.cells #[.int .i64 u0,.bool un,.slice up ul uc] 119));have f8:Up w6 W6:=by rw[<-d5];exact Ob (Oz _ _) _
 have hU:BoxV (w6.heap.size+1) W6 u0 un up ul uc:=by rw[<-d5];exact Ip _ _ (by simp) _ _ _ _ _ _
 have d3:Up wr W6:=A.o.trans ((d7.trans (f8.mono d7.size)).mono A.o.size);have l0:G0 B W6 (.agg #[.int .i64 u0,.bool un,.slice up ul uc]) (R:Nat):=(hn2.bl f8).mono (by have:=d2.o;have:=M.o.size;have:=A.o.size;omega);have l3:=p5.o.bl d3;obtain⟨U,l9,l7⟩:=J.o W6 d3;have z6:K<w6.heap.size:=by
  have h1:=(J.o w5 A.o).2.1.lt;have h2:=d7.size;omega
 have q4:=E8 d5;have i8:Hid (LA B P d w G K R ((((((W6.setCell ⟨G,0,none⟩ (.int .i64 V)).setCell ⟨G,1,none⟩ (.bool yn)).setCell ⟨G,2,none⟩ (.slice yp Z Y)).setCell ⟨K,0,none⟩ (.int .i64 u0)).setCell ⟨K,1,none⟩ (.bool un)).setCell ⟨K,2,none⟩ (.slice up ul uc))):=by
  have k7:=Ka.three W6 G (.int .i64 V) (.bool yn) (.slice yp Z Y);have u2:=U.put V yn yp Z Y;have d0:=l9.other (show K≠G by omega) k7;have t7:=l7.other (show w.heap.size+2≠G by omega) k7;have l4:=l3.keeps U.n U.n k7;have l1:=l0.keeps U.n U.n k7;have s5:=MA (M.o.trans (d3.mono M.o.size)) G (by omega) (.int .i64 V) (.bool yn) (.slice yp Z Y);generalize ((W6.setCell ⟨G,0,none⟩ (.int .i64 V)).setCell ⟨G,1,none⟩ (.bool yn)).setCell ⟨G,2,none⟩ (.slice yp Z Y)=W7 at *;have k8:=Ka.three W7 K (.int .i64 u0) (.bool un) (.slice up ul uc);have u6:=u2.other (show G≠K by omega) k8;have u7:=d0.put u0 un up ul uc;have t8:=t7.other (show w.heap.size+2≠K by omega) k8;have l5:=l4.keeps d0.n d0.n k8;have l2:=l1.keeps d0.n d0.n k8;have s6:=MA s5 K (by omega) (.int .i64 u0) (.bool un) (.slice up ul uc);have l6:=O.o.2.2.2.2;rw[HP.o] at l6;exact⟨gk,V,yn,yp,Z,Y,u0,un,up,ul,uc,⟨u6,u7,t8⟩,⟨l5,l2⟩,⟨l6,by omega⟩,j2.o.2,s6⟩
 obtain⟨_,H3,H4,H7,xf,_⟩:=U;obtain⟨_,K0,K6,L1,yf,_⟩:=l9;obtain⟨A9,F2,H0,H1,_,_⟩:=hU;have y2:=xf 0;have y3:=xf 1;have y4:=xf 2;have y5:=yf 0;have y6:=yf 1;have y7:=yf 2;have D2:G≠K:=by omega
 have E1:G≠w6.heap.size+1:=by omega
 have E2:K≠w6.heap.size+1:=by omega
 clear r3 r4 r5 s0 s1 s2 w9 x1 x2 af bf rf xf yf n5 hn2 m7 m8 m9 d7 f8 d3 l0 l3 l7 d5
 go_upto_region 5 with fail
 rw[q4.o]
 go_wp2
 go_roundg R
 case measure=>exact j2.o.1
 exact i8.o
theorem FA {B:Nat}{g0:Int}{gn:Bool}{ga:Option Addr}{gl gc:Nat}{G:Int}(h:G0 B w (.agg #[.int .i64 g0,.bool gn,.slice ga gl gc]) G):(((gl:Int)==0)&&(g0==1))=decide (G=1):=by
 obtain⟨neg,t,⟨K,A,E⟩,I⟩:=h
 rcases E with⟨h2,v,e,⟨p,c,rfl,_⟩⟩|⟨h2,e⟩
 ·simp only[Value.agg.injEq,Array.mk.injEq,List.cons.injEq,Value.slice.injEq,and_true] at e;have hl:gl=t.length:=e.2.2.2.1;have j:t≠[]:=by rintro rfl;simp at h2
  have h3:=Ql t A j;have h4:1000000000 ^ 2<=1000000000 ^ (t.length - 1):=Y0 (by decide) (by omega);have h5:(1000000000:Nat) ^ 2=1000000000000000000:=by decide
  have d:G≠1:=by
   rw[<-I]
   cases neg<;>simp[sg]<;>omega
  have E:((gl:Int)==0)=false:=by rw[Jb];omega
  rw[E,Jc d];rfl
 simp only[Value.agg.injEq,Array.mk.injEq,List.cons.injEq,Value.slice.injEq,Value.int.injEq,and_true,true_and] at e;have J:g0=sg neg (val t):=e.1;have hl:gl=0:=e.2.2.2.1;subst hl J;rw[I]
 by_cases d:G=1
 ·subst d;rfl
 have:(G==1)=false:=by rw[Jb];exact d
 rw[this,Jc d];rfl
theorem PH (q:ByteArray)(h:0<q.size):((q[0].toNat:Int)==45)=isNeg q:=by
 unfold isNeg;have e:(q.extract 0 1).toList=[q[0]]:=by
  rw[Jk,Zc,Zu]
  show (q.data.toList.drop 0).take (1 - 0)=[q[0]]
  have hl:0<q.data.toList.length:=by simpa using h
  cases j:q.data.toList with
  | nil=>rw[j] at hl;simp at hl
  | cons c l=>
    have:q[0]=c:=by
     have d:q.data.toList[0]? = some q[0]:=by rw[Jd hl];rfl
     rw[j] at d
     simpa using d.symm
    rw[this];rfl
 rw[e]
 by_cases hc:q[0]=45
 ·rw[hc];rfl
 have d:((q[0].toNat:Int)==45)=false:=by
  rw[Jb];intro e2;exact hc (UInt8.toNat_inj.1 (by have e3:(45:UInt8).toNat=45:=rfl;omega))
 have h2:([q[0]]==[45])=false:=by simp[hc]
 rw[d,h2]
theorem BX (a:ByteArray)(c:UInt8):(a.toList==[c])=decide (a=strB [c]):=by
 have:(strB [c]).toList=[c]:=by rw[Jk];rfl
 have h:=toList_inj (a:=a) (b:=strB [c]);rw[this] at h;exact h
theorem specIsRat_any (s:ByteArray)(w:World)(hs:s.size<=maxLen) :
 Calls prog 88 #[.string s] w fun e w'=>∃ b,e=.returned (.bool b)/\Qy s b/\Up w w':=by
 obtain⟨k,hk⟩:=isCut_ex s;have HK:=Hd hk;clear hk
 cases k with
 | none=>
   go_in
   go_wp2_with fail
   refine (Rl s none _ hs HK.o).mono ?_;rintro e w' ⟨rfl,b7⟩;subst b7;have e1:Q4 none = -1:=rfl;rw[e1]
   go_wp2_with fail
   refine (isInt_spec s _ hs).mono ?_;rintro e w2 ⟨rfl,b8⟩;subst b8;obtain⟨b,hb⟩:=Oa (isIntB s);have HB:=Hd hb;rw[hb];clear hb
   go_wp2
   go_ret
   refine⟨_,rfl,⟨none,HK.o,?_⟩,Je _ _⟩;constructor
   ·intro e;exact⟨numT s,1,HB.o.trans e,rfl,rfl⟩
   rintro⟨x,y,h,_⟩;rw[<-HB.o];exact h
 | some i=>
   have hi:=Lc HK.o;have e0:s.extract 0 i=cutP s (some i):=rfl;have e3:s.extract (i+1) s.size=cutQ s (some i):=rfl;obtain⟨p,hp⟩:=Oa (cutP s (some i));obtain⟨q,hq⟩:=Oa (cutQ s (some i));have d:Hid (cutP s (some i)=p/\cutQ s (some i)=q):=⟨hp,hq⟩;rw[hp] at e0;rw[hq] at e3;have e5:p.size<=maxLen:=by rw[<-e0,Yo];omega
   have e8:q.size<=maxLen:=by rw[<-e3,Yo];omega
   have d2:Hid (p.size<=maxLen/\q.size<=maxLen):=⟨e5,e8⟩;unfold maxLen at hs;clear hp hq e5 e8
   go_in
   go_wp2_with fail
   refine (Rl s (some i) _ (by unfold maxLen;exact hs) HK.o).mono ?_;rintro e w' ⟨rfl,b7⟩;subst b7;have e1:Q4 (some i)=(i:Int):=rfl;rw[e1];have j:Hid ((¬ ∃ x y,RatV s (some i) x y)->Qy s false):=fun h=>⟨some i,HK.o,⟨(fun e=>by cases e),fun hx=>(h hx).elim⟩⟩
   go_wp2_with fail
   refine (isInt_spec p _ d2.o.1).mono ?_;rintro e w2 ⟨rfl,b8⟩;subst b8
   cases O:isIntB p
   ·have J:=Hd O;clear O;have I:Hid (Qy s false):=j.o (fun ⟨x,y,h⟩=>by
     have A:=h.1.1;rw[d.o.1,J.o] at A
     cases A)
    go_wp2
    go_ret
    exact⟨false,rfl,I.o,Je _ _⟩
   have J:=Hd O;clear O
   go_wp2_with fail
   refine (isInt_spec q _ d2.o.2).mono ?_;rintro e w3 ⟨rfl,i8⟩;subst i8
   cases U:isIntB q
   ·have G:=Hd U;clear U;have I:Hid (Qy s false):=j.o (fun ⟨x,y,h⟩=>by
     have A:=h.1.2;rw[d.o.2,G.o] at A
     cases A)
    go_wp2
    go_ret
    exact⟨false,rfl,I.o,Je _ _⟩
   have G:=Hd U;clear U
   cases e4:(p.toList==[48])
   case true=>
    have a7:=Hd e4;have I:Hid (Qy s false):=j.o (fun ⟨x,y,h⟩=>by
     have A:=h.2.1.2.1;rw[d.o.1] at A;exact A (of_decide_eq_true ((BX p 48).symm.trans a7.o)))
    go_wp2
    go_ret
    exact⟨false,rfl,I.o,Je _ _⟩
   case false=>
   have a7:=Hd e4
   cases e6:(q.toList==[48])
   case true=>
    have a8:=Hd e6;have I:Hid (Qy s false):=j.o (fun ⟨x,y,h⟩=>by
     have A:=h.2.1.1;rw[d.o.2,of_decide_eq_true ((BX q 48).symm.trans a8.o)] at A;exact A Ty)
    go_wp2
    go_ret
    exact⟨false,rfl,I.o,Je _ _⟩
   case false=>
   have a8:=Hd e6
   cases e7:(q.toList==[49])
   case true=>
    have b3:=Hd e7;have I:Hid (Qy s false):=j.o (fun ⟨x,y,h⟩=>by
     have A:=h.2.1.2.2.1;rw[d.o.2] at A;exact A (of_decide_eq_true ((BX q 49).symm.trans b3.o)))
    go_wp2
    go_ret
    exact⟨false,rfl,I.o,Je _ _⟩
   case false=>
   have b3:=Hd e7;have i7:0<q.size:=Ys fun h=>Dp q G.o (ByteArray.ext (by
    have:q.data.size=0:=h;rw[Array.eq_empty_of_size_eq_zero this];rfl))
   have d6:=PH q i7
   cases E:isNeg q
   case true=>
    have Z:=Hd E;rw[E] at d6;have I:Hid (Qy s false):=j.o (fun ⟨x,y,h⟩=>by
     have A:=h.2.1.2.2.2.1;rw[d.o.2,Z.o] at A
     cases A)
    go_wp2
    go_ret
    exact⟨false,rfl,I.o,Je _ _⟩
   case false=>
   have Z:=Hd E;rw[E] at d6;clear E;have d1:Hid ((lim p).length<=100000/\(lim q).length<=100000):=⟨by have:=Xw p J.o;omega,by have:=Xw q G.o;omega⟩;obtain⟨w0,e9⟩:∃ w0:World,w0=w3:=⟨_,rfl⟩;have j7:=Hd e9;clear e9
   go_wp2_with fail
   refine (I0 p _ J.o).mono ?_;rintro e w4 ⟨z1,rfl,g1,d7⟩;have h7:=Hd g1;have c6:=Hd d7;clear g1 d7
   go_wp2_with fail
   refine (I0 q _ G.o).mono ?_;rintro e w5 ⟨z2,rfl,g2,b4⟩;have h8:Hid (Gy w3.heap.size w5 z2 (isNeg q) (lim q)):=g2.mono c6.o.size;have d3:Hid (Gy w3.heap.size w5 z1 (isNeg p) (lim p)):=h7.o.bl b4;have c8:=c6.up b4;clear g2 b4
   go_wp2_with fail
   refine (IB _ z1 z2 _ _ _ _ 100000 _ c8.o.size d3.o h8.o d1.o.1 d1.o.2 leR).mono ?_;rintro e w6 ⟨z3,rfl,b6,d8⟩;obtain⟨g0,gn,ga,gl,gc,rfl⟩:=b6.shape;have V:=Hd (FA b6);have g7:=c8.up d8;obtain⟨W7,K⟩:=Oa (w6.alloc (.cells #[.int .i64 g0,.bool gn,.slice ga gl gc] 119));have h6:=Hd K;have d9:Up w6 W7:=by rw[<-K];exact Oz _ _
   have M:Bx W7 w6.heap.size [.int .i64 g0,.bool gn,.slice ga gl gc]:=by rw[<-K];exact Oi w6 _ _
   have g8:=g7.up d9;have h0:Hid (∀ W,Up W7 W->Bx W w6.heap.size [.int .i64 g0,.bool gn,.slice ga gl gc]):=fun W hW=>M.bl M.lt hW;obtain⟨k0,k1,k2⟩:=M.k3;have Y:Hid (∀ r,decide (Ns (sg (isNeg p) (val (lim p))) (sg (isNeg q) (val (lim q)))=1)=r->Qy s r):=fun r hr=>by
    refine⟨some i,HK.o,?_⟩;rw[<-hr,Yi];have hg:Ns (sg (isNeg p) (val (lim p))) (sg (isNeg q) (val (lim q)))=((Int.gcd (numT p) (numT q):Nat):Int):=rfl;rw[hg];constructor
    ·intro A;refine⟨numT p,numT q,?_⟩
     show (isIntB (cutP s (some i))=true/\isIntB (cutQ s (some i))=true)/\_
     rw[d.o.1,d.o.2];refine⟨⟨J.o,G.o⟩,⟨?_,?_,?_,Z.o,by omega⟩,rfl,rfl⟩
     ·intro h2;have h3:=YX q (strB [48]) G.o (by kernel_rfl) (by rw[h2,Ty]);have h4:=(BX q 48).symm.trans a8.o;exact (of_decide_eq_false h4) h3
     ·exact of_decide_eq_false ((BX p 48).symm.trans a7.o)
     exact of_decide_eq_false ((BX q 49).symm.trans b3.o)
    rintro⟨x,y,_,⟨_,_,_,_,h5⟩,_⟩;rw[d.o.1,d.o.2] at h5;rw[h5];rfl
   clear b6 d8 K d9 M
   go_upto_region 10 with fail
   rw[h6.o];refine (Ki g0 gn ga gl gc W7).mono ?_;rintro e w8 ⟨rfl,f8⟩;have b5:Up W7 w8:=by rw[f8];exact Oz _ _
   have d0:=g8.up b5;have f9:=h0.o w8 b5;have j0:=f9.cell 0;simp only[Jm] at j0;clear f8 b5 f9 k0 k1 k2
   by_cases hz:gl=0
   ·have z:((gl:Int)==0)=true:=by rw[Yf];omega
    have HE:Hid ((g0==1)=decide (Ns (sg (isNeg p) (val (lim p))) (sg (isNeg q) (val (lim q)))=1)):=by
     have h:=V.o;rw[z] at h;exact h
    rw[z]
    go_wp2
    go_ret
    exact⟨_,rfl,Y.o _ HE.o.symm,d0.o⟩
   have z:((gl:Int)==0)=false:=by rw[Jb];omega
   have HE:Hid (decide (Ns (sg (isNeg p) (val (lim p))) (sg (isNeg q) (val (lim q)))=1)=false):=by
    have h:=V.o;rw[z] at h;exact h.symm
   rw[z]
   go_wp2
   go_ret
   exact⟨_,rfl,Y.o _ HE.o,d0.o⟩
end Go.Proofs.YtdmdmgfjpomdbaaGreatDoor.Q
namespace Go.Proofs.YtdmdmgfjpomdbaaGreatDoor.Q
open ChangeShapes WideShapes ChangeAt RowKit
def ZL (s u:ByteArray):Prop:=∃ k,IsCut s k/\((∃ x y q r,RatV s k x y/\Nw x y q r/\No q u)∨((¬ ∃ x y,RatV s k x y)/\u=strB []))
theorem YM {s:ByteArray}{k:Option Nat}{x y x' y':Int}(h:RatV s k x y)(h':RatV s k x' y'):x=x'/\y=y':=by
 cases k with
 | none=>exact⟨h.2.1.trans h'.2.1.symm,h.2.2.trans h'.2.2.symm⟩
 | some i=>exact⟨h.2.2.1.trans h'.2.2.1.symm,h.2.2.2.trans h'.2.2.2.symm⟩
theorem ZL.eq {s u v:ByteArray}(h:ZL s u)(h':ZL s v):u=v:=by
 obtain⟨k,G,h⟩:=h;obtain⟨m,I,h'⟩:=h';obtain rfl:=isCut_unique G I
 rcases h with⟨x,y,q,r,A,h2,h3⟩|⟨A,h2⟩<;>rcases h' with⟨J,K,M,O,d,j,E⟩|⟨d,j⟩
 ·obtain⟨rfl,rfl⟩:=YM A d;obtain⟨rfl,_⟩:=P8 h2 j;exact h3.eq E
 ·exact absurd ⟨x,y,A⟩ d
 ·exact absurd ⟨J,K,d⟩ A
 rw[h2,j]
end Go.Proofs.YtdmdmgfjpomdbaaGreatDoor.Q
namespace Go.Proofs.YtdmdmgfjpomdbaaGreatDoor.Q
open ChangeShapes WideShapes ChangeAt RowKit Proofs.Tryz
variable {B n:Nat}{W w:World}
def IsQN (B:Nat)(w:World)(z:Value)(x y:Int):Prop:=∃ (p0:Int) (pn:Bool) (pa:Option Addr) (pl pc:Nat) (q0:Int) (qn:Bool) (qa:Option Addr) (ql qc:Nat),z=.agg #[.int .i64 p0,.bool pn,.slice pa pl pc,.int .i64 q0,.bool qn,.slice qa ql qc] /\
 Ih B w (.agg #[.int .i64 p0,.bool pn,.slice pa pl pc]) x 1000/\Ih B w (.agg #[.int .i64 q0,.bool qn,.slice qa ql qc]) y 1000
theorem Ih.keeps {z:Value}{x:Int}{g h:Nat}(hl:Ih B w z x n)(n1:Nh w g)(n2:Nh w h)(k:Ka g h w W):Ih B W z x n:=by
 obtain⟨neg,t,⟨d,j,A⟩,I⟩:=hl;refine⟨neg,t,⟨d,j,?_⟩,I⟩
 rcases A with⟨h2,v,G,E⟩|A
 ·exact .inl ⟨h2,v,G,E.keeps n1 n2 k⟩
 exact .inr A
theorem Ih.mono' {B':Nat}{z:Value}{x:Int}{n':Nat}(h:Ih B w z x n)(hb:B'<=B)(hn:n<=n'):Ih B' w z x n':=by
 obtain⟨neg,t,d,h2,h3⟩:=h;exact⟨neg,t,d.mono hb,h2,by omega⟩
theorem Ih.shape' {z:Value}{x:Int}(h:Ih B w z x n):∃ (z0:Int) (zn:Bool) (za:Option Addr) (zl zc:Nat),z=.agg #[.int .i64 z0,.bool zn,.slice za zl zc]:=by
 obtain⟨neg,t,d,_⟩:=h;exact d.shape
def W6 (W:World)(g:Nat)(u0 u1 u2 u3 u4 u5:Value):World:=(((((W.setCell ⟨g,0,none⟩ u0).setCell ⟨g,1,none⟩ u1).setCell ⟨g,2,none⟩ u2).setCell ⟨g,3,none⟩ u3).setCell ⟨g,4,none⟩ u4).setCell ⟨g,5,none⟩ u5
theorem UN (W:World)(g:Nat)(u0 u1 u2 u3 u4 u5:Value):Ka g g W (W6 W g u0 u1 u2 u3 u4 u5):=
 Ka.setCell (Ka.setCell (Ka.setCell (Ka.setCell (Ka.setCell (Ka.setCell (Ka.refl g g W) ⟨g,0,none⟩ u0 (Or.inl rfl)) ⟨g,1,none⟩ u1 (Or.inl rfl)) ⟨g,2,none⟩ u2 (Or.inl rfl)) ⟨g,3,none⟩ u3 (Or.inl rfl)) ⟨g,4,none⟩ u4 (Or.inl rfl)) ⟨g,5,none⟩ u5 (Or.inl rfl)
theorem MS {N:Nat}(h:Below N w W)(g:Nat)(hg:N<=g)(u0 u1 u2 u3 u4 u5:Value):Below N w (W6 W g u0 u1 u2 u3 u4 u5):=
 (((((h.setCell (p:=⟨g,0,none⟩) hg u0).setCell (p:=⟨g,1,none⟩) hg u1).setCell (p:=⟨g,2,none⟩) hg u2).setCell (p:=⟨g,3,none⟩) hg u3).setCell (p:=⟨g,4,none⟩) hg u4).setCell (p:=⟨g,5,none⟩) hg u5
theorem Bx.put6 {g:Nat}{a b c d e f:Value}(h:Bx W g [a,b,c,d,e,f])(u0 u1 u2 u3 u4 u5:Value):Bx (W6 W g u0 u1 u2 u3 u4 u5) g [u0,u1,u2,u3,u4,u5]:=(((((h.set 0 u0).set 1 u1).set 2 u2).set 3 u3).set 4 u4).set 5 u5
theorem IA (B:Nat)(a0:Int)(an:Bool)(aa:Option Addr)(al ac:Nat)(x:Int)(w:World)(hBw:B<=w.heap.size)(h:Ih B w (.agg #[.int .i64 a0,.bool an,.slice aa al ac]) x 1000) :
 Calls prog 106 #[.agg #[.int .i64 a0,.bool an,.slice aa al ac]] w fun e w'=>∃ z,e=.returned z/\IsQN B w' z x 1/\Up w w':=by
 have HN:=Hd h;have b4:=Hd hBw;clear h hBw;obtain⟨V,j⟩:=Oa ((w.alloc (.cells #[.int .i64 a0,.bool an,.slice aa al ac] 119)).alloc (.cells #[.int .i64 0,.bool false,.slice none 0 0,.int .i64 0,.bool false,.slice none 0 0] 121));have b5:=Hd j;have d:Hid (Up w V):=by
  unfold Hid
  rw[<-j];exact Ob (Oz _ _) _
 have G:Bx V w.heap.size [.int .i64 a0,.bool an,.slice aa al ac]:=by rw[<-j];exact (Oi w _ _).alloc _
 have Y:Bx V (w.heap.size+1) [.int .i64 0,.bool false,.slice none 0 0,.int .i64 0,.bool false,.slice none 0 0]:=by
  rw[<-j];have h:=Oi (w.alloc (.cells #[.int .i64 a0,.bool an,.slice aa al ac] 119)) [.int .i64 0,.bool false,.slice none 0 0,.int .i64 0,.bool false,.slice none 0 0] 121;rw[Jf] at h;exact h
 have HX:Hid (∀ W,Up V W->Bx W w.heap.size [.int .i64 a0,.bool an,.slice aa al ac]/\Bx W (w.heap.size+1) [.int .i64 0,.bool false,.slice none 0 0,.int .i64 0,.bool false,.slice none 0 0]):=fun W hW=>⟨G.bl G.lt hW,Y.bl Y.lt hW⟩;clear j;obtain⟨k0,k1,k2⟩:=G.k3;clear G Y
 go_in
 go_upto_region 1 with fail
 rw[b5.o]
 go_region_with (first
  | (go_at_call 125
     refine (Xk 1 _ (by decide) (by decide)).mono ?_;rintro e U ⟨z,rfl,hz,a7⟩;have A:Hid (Up V U):=(Je _ V).drew.trans a7;obtain⟨I,O,J,M,K,rfl⟩:=hz.shape';have HZ:Hid (Ih V.heap.size U (.agg #[.int .i64 I,.bool O,.slice J M K]) 1 3):=hz;obtain⟨b3,Z⟩:=HX.o U A.o;obtain⟨j0,j1,j2⟩:=b3.k3;obtain⟨r0,r1,r2,r3,r4,r5⟩:=Z.k6;obtain⟨f0,f1,f2,f3,f4,f5⟩:=Z.f6;clear hz a7 b3 Z))
 all_goals
  try simp only[Y3,Yv,Yp,Act.put,Jp,Jz,J0]
  go_wp2
  have a8:=(HX.o U A.o).2;have E:Nh U (w.heap.size+1):=Hh a8 (by simp);have hk:=UN U (w.heap.size+1) (.int .i64 a0) (.bool an) (.slice aa al ac) (.int .i64 I) (.bool O) (.slice J M K);have b7:=(HN.o.bl (d.o.trans (A.o.mono d.o.size))).keeps E E hk;have b8:=(HZ.o.mono' (B':=B) (n':=1000) (by have:=b4.o;have:=d.o.size;omega) (by omega)).keeps E E hk;have b6:=MS (d.o.trans (A.o.mono d.o.size)) (w.heap.size+1) (Y4 _) (.int .i64 a0) (.bool an) (.slice aa al ac) (.int .i64 I) (.bool O) (.slice J M K);have hZ:=a8.put6 (.int .i64 a0) (.bool an) (.slice aa al ac) (.int .i64 I) (.bool O) (.slice J M K);have b9:(((((U.setCell ⟨w.heap.size+1,0,none⟩ (.int .i64 a0)).setCell ⟨w.heap.size+1,1,none⟩ (.bool an)).setCell ⟨w.heap.size+1,2,none⟩ (.slice aa al ac)).setCell ⟨w.heap.size+1,3,none⟩ (.int .i64 I)).setCell ⟨w.heap.size+1,4,none⟩ (.bool O)).setCell ⟨w.heap.size+1,5,none⟩ (.slice J M K)=W6 U (w.heap.size+1) (.int .i64 a0) (.bool an) (.slice aa al ac) (.int .i64 I) (.bool O) (.slice J M K):=rfl;rw[b9];generalize W6 U (w.heap.size+1) (.int .i64 a0) (.bool an) (.slice aa al ac) (.int .i64 I) (.bool O) (.slice J M K)=W9 at *;obtain⟨m0,m1,m2,m3,m4,m5⟩:=hZ.k6;refine Jg (v:=.agg #[.int .i64 a0,.bool an,.slice aa al ac,.int .i64 I,.bool O,.slice J M K]) ?_ rfl ⟨_,rfl,⟨a0,an,aa,al,ac,I,O,J,M,K,rfl,b7,b8⟩,b6⟩;simp[results,results106,go_sem,m0,m1,m2,m3,m4,m5]
end Go.Proofs.YtdmdmgfjpomdbaaGreatDoor.Q
namespace Go.Proofs.YtdmdmgfjpomdbaaGreatDoor.Q
open ChangeShapes WideShapes ChangeAt RowKit
def T2 (x y:Int)(u:ByteArray):Prop:=
 if y=1 then No x u else ∃ p q,No x p/\No y q/\u=if p.size=0∨q.size=0 then ⟨#[]⟩ else p++⟨#[47]⟩++q
def Sr (s t u:ByteArray):Prop:=if isIntB s=true/\isIntB t=true/\numT t≠0 then ∃ p q,Pc (numT s) (numT t) p q/\T2 p q u else u=⟨#[]⟩
theorem T2.eq {x y:Int}{u v:ByteArray}(h:T2 x y u)(h':T2 x y v):u=v:=by
 unfold T2 at h h'
 split at h
 ·rename_i hc;rw[if_pos hc] at h';exact h.eq h'
 rename_i hc;rw[if_neg hc] at h';obtain⟨p,q,A,h2,rfl⟩:=h;obtain⟨E,G,d,j,rfl⟩:=h';rw[A.eq d,h2.eq j]
theorem Sr.eq {s t u v:ByteArray}(h:Sr s t u)(h':Sr s t v):u=v:=by
 unfold Sr at h h'
 split at h
 ·rename_i hc;rw[if_pos hc] at h';obtain⟨p,q,A,h2⟩:=h;obtain⟨E,G,d,j⟩:=h';obtain⟨rfl,rfl⟩:=P9 A d;exact h2.eq j
 rename_i hc;rw[if_neg hc] at h';rw[h,h']
theorem NX {B:Nat}{w:World}{z0:Int}{zn:Bool}{za:Option Addr}{zl zc:Nat}{neg:Bool}{t:List Nat}(hz:Gy B w (.agg #[.int .i64 z0,.bool zn,.slice za zl zc]) neg t):(zl=0/\t.length<=2)∨(zl=t.length/\2<t.length/\zl<=maxLen):=by
 obtain⟨_,_,h3⟩:=hz
 rcases h3 with⟨h3,v,e,p,c,rfl,hl,d,_⟩|⟨h3,e⟩
 ·simp at e;exact .inr ⟨e.2.2.2.1,h3,by omega⟩
 simp at e;exact .inl ⟨e.2.2.2.1,h3⟩
theorem IsQN.bl {B:Nat}{w w':World}{z:Value}{x y:Int}(h:IsQN B w z x y)(hb:Up w w'):IsQN B w' z x y:=by
 obtain⟨j,I,A,G,E,J,U,K,O,M,e,d,h2⟩:=h;exact⟨j,I,A,G,E,J,U,K,O,M,e,d.bl hb,h2.bl hb⟩
theorem NE (t:List Nat):digC t<=9*t.length+1:=by
 have:=Su t;unfold digC;split<;>omega
end Go.Proofs.YtdmdmgfjpomdbaaGreatDoor.Q
namespace Go.Proofs.YtdmdmgfjpomdbaaGreatDoor.Q
open ChangeShapes WideShapes ChangeAt RowKit Proofs.Tryz
theorem l2Fits_30 (B:Nat)(p0:Int)(pn:Bool)(pa:Option Addr)(pl pc:Nat)(q0:Int)(qn:Bool)(qa:Option Addr)(ql qc:Nat)(n1 n2:Bool)(t1 t2:List Nat)(w:World)(hBw:B<=w.heap.size)
 (hz1:Gy B w (.agg #[.int .i64 p0,.bool pn,.slice pa pl pc]) n1 t1) (hz2:Gy B w (.agg #[.int .i64 q0,.bool qn,.slice qa ql qc]) n2 t2) (h1:t1.length<=600) (h2:t2.length<=600) :
 Calls prog 86 #[.agg #[.int .i64 p0,.bool pn,.slice pa pl pc,.int .i64 q0,.bool qn,.slice qa ql qc],.int .i64 30] w fun e w'=>e=.returned (.bool (decide (digC t1<=30/\digC t2<=30)))/\Up w w':=by
 have b9:=NX hz1;have c6:=NX hz2;have e0:=Hd hz1;have e1:=Hd hz2;have b7:=Hd hBw;clear hz1 hz2 hBw;obtain⟨W0,O⟩:=Oa (w.alloc (.cells #[.int .i64 p0,.bool pn,.slice pa pl pc,.int .i64 q0,.bool qn,.slice qa ql qc] 121));have d9:=Hd O;have h:Hid (Up w W0):=by unfold Hid;rw[<-O];exact Oz _ _
 have V:Bx W0 w.heap.size [.int .i64 p0,.bool pn,.slice pa pl pc,.int .i64 q0,.bool qn,.slice qa ql qc]:=by rw[<-O];exact Oi w _ _
 have HX:Hid (∀ W,Up W0 W->Bx W w.heap.size [.int .i64 p0,.bool pn,.slice pa pl pc,.int .i64 q0,.bool qn,.slice qa ql qc]):=fun W hW=>V.bl V.lt hW;obtain⟨k0,k1,k2⟩:=V.k3;clear O V;have Z:Hid (digC t1<=9*t1.length+1):=NE t1;have a7:Hid (digC t2<=9*t2.length+1):=NE t2;obtain⟨d1,U⟩:∃ d,digC t1=d:=⟨_,rfl⟩;obtain⟨d2,E⟩:∃ d,digC t2=d:=⟨_,rfl⟩;have d6:=Hd U;have d7:=Hd E;rw[U] at Z;rw[E] at a7;rw[U,E];have b1:d1<=6000:=by have:=Z.o;omega
 have b2:d2<=6000:=by have:=a7.o;omega
 have HL:=Hd (And.intro b9 c6);clear b9 c6 U E
 have rest:∀ W1,Up W0 W1->Hid (Calls prog 104 #[.agg #[.int .i64 p0,.bool pn,.slice pa pl pc]] W1 (fun e w'=>e=.returned (.int .i64 (d1:Nat))/\Up W1 w')):=fun W1 hW1=>by
  show Calls _ _ _ _ _
  refine (Dy B _ n1 t1 W1 (e0.o.bl (h.o.trans (hW1.mono h.o.size))) (by have:=b7.o;have:=h.o.size;have:=hW1.size;omega) h1).mono ?_;rintro e w' ⟨rfl,hb⟩;exact⟨by rw[d6.o],hb⟩
 have M:∀ W1,Up W0 W1->Hid (Calls prog 104 #[.agg #[.int .i64 q0,.bool qn,.slice qa ql qc]] W1 (fun e w'=>e=.returned (.int .i64 (d2:Nat))/\Up W1 w')):=fun W1 hW1=>by
  show Calls _ _ _ _ _
  refine (Dy B _ n2 t2 W1 (e1.o.bl (h.o.trans (hW1.mono h.o.size))) (by have:=b7.o;have:=h.o.size;have:=hW1.size;omega) h2).mono ?_;rintro e w' ⟨rfl,hb⟩;exact⟨by rw[d7.o],hb⟩
 have Y:=Hd rest;have K:=Hd M;clear rest M
 go_in
 go_upto_region 1 with fail
 rw[d9.o]
 go_wp2_with fail
 refine (Ki p0 pn pa pl pc W0).mono ?_;rintro e w1 ⟨rfl,d0⟩;have b3:Up W0 w1:=by rw[d0];exact Oz _ _
 have I:=Hd b3;have G:=HX.o w1 b3;clear d0 b3 k0 k1 k2;obtain⟨k0,k1,k2,k3,k4,k5⟩:=G.k6;clear G
 by_cases b4:pl=0
 ·have z:((pl:Int)==0)=true:=by rw[Yf];omega
  have d8:=Hd b4;rw[z];clear z b4
  go_wp2_with fail
  refine (Ki q0 qn qa ql qc w1).mono ?_;rintro e w2 ⟨rfl,d3⟩;have hb2:Up w1 w2:=by rw[d3];exact Oz _ _
  have A:=Hd (I.o.trans (hb2.mono I.o.size));have G:=HX.o w2 A.o;clear d3 hb2 k0 k1 k2 k3 k4 k5;obtain⟨k0,k1,k2,k3,k4,k5⟩:=G.k6;clear G
  by_cases c8:ql=0
  ·have z:((ql:Int)==0)=true:=by rw[Yf];omega
   have HE:Hid (true=decide (d1<=30/\d2<=30)):=by
    unfold Hid
    have:=HL.o;have:=d8.o;have:=Z.o;have:=a7.o;rw[eq_comm,Ju];omega
   have j:=Hd (h.o.trans (A.o.mono h.o.size));rw[z];clear z c8
   go_wp2
   go_ret
   exact⟨Oy HE.o,j.o⟩
  have z:((ql:Int)==0)=false:=by rw[Jb];omega
  rw[z];clear z c8
  go_wp2_with fail
  refine (Y.o w2 A.o).o.mono ?_;rintro e w3 ⟨rfl,hb⟩;have J:=Hd (A.o.trans (hb.mono A.o.size));have G:=HX.o w3 J.o;clear hb k0 k1 k2 k3 k4 k5;have k3:=G.cell 3;have k4:=G.cell 4;have k5:=G.cell 5;simp only[Jm,Js] at k3 k4 k5;clear G
  by_cases hd:d1<=30
  ·have z1:decide ((d1:Int)<=30)=true:=dT (by omega)
   go_wp2_with fail
   refine (K.o w3 J.o).o.mono ?_;rintro e w4 ⟨rfl,hb⟩;have j:=Hd (h.o.trans ((J.o.trans (hb.mono J.o.size)).mono h.o.size));clear hb k3 k4 k5
   by_cases E:d2<=30
   ·have z2:decide ((d2:Int)<=30)=true:=dT (by omega)
    go_wp2
    go_ret
    exact⟨Oy (by simp[hd,E]),j.o⟩
   have z2:decide ((d2:Int)<=30)=false:=dF (by omega)
   go_wp2
   go_ret
   exact⟨Oy (by simp[E]),j.o⟩
  have z1:decide ((d1:Int)<=30)=false:=dF (by omega)
  have j:=Hd (h.o.trans (J.o.mono h.o.size))
  go_wp2
  go_ret
  exact⟨Oy (by simp[hd]),j.o⟩
 have z:((pl:Int)==0)=false:=by rw[Jb];omega
 rw[z];clear z b4
 go_wp2_with fail
 refine (Y.o w1 I.o).o.mono ?_;rintro e w2 ⟨rfl,hb⟩;have A:=Hd (I.o.trans (hb.mono I.o.size));have G:=HX.o w2 A.o;clear hb k0 k1 k2 k3 k4 k5;have k3:=G.cell 3;have k4:=G.cell 4;have k5:=G.cell 5;simp only[Jm,Js] at k3 k4 k5;clear G
 by_cases hd:d1<=30
 ·have z1:decide ((d1:Int)<=30)=true:=dT (by omega)
  go_wp2_with fail
  refine (K.o w2 A.o).o.mono ?_;rintro e w3 ⟨rfl,hb⟩;have j:=Hd (h.o.trans ((A.o.trans (hb.mono A.o.size)).mono h.o.size));clear hb k3 k4 k5
  by_cases E:d2<=30
  ·have z2:decide ((d2:Int)<=30)=true:=dT (by omega)
   go_wp2
   go_ret
   exact⟨Oy (by simp[hd,E]),j.o⟩
  have z2:decide ((d2:Int)<=30)=false:=dF (by omega)
  go_wp2
  go_ret
  exact⟨Oy (by simp[E]),j.o⟩
 have z1:decide ((d1:Int)<=30)=false:=dF (by omega)
 have j:=Hd (h.o.trans (A.o.mono h.o.size))
 go_wp2
 go_ret
 exact⟨Oy (by simp[hd]),j.o⟩
theorem D7 (B:Nat)(w:World)(z:Value)(p:ByteArray)(hp:isIntB p=true)(h:Gy B w z (isNeg p) (lim p)):Ih B w z (numT p) 1000:=
 ⟨_,_,h,rfl,by have:=Xw p hp;omega⟩
theorem l2Read_any (s:ByteArray)(k:Option Nat)(x y:Int)(w:World)(hs:s.size<=maxLen)(hk:IsCut s k)(hV:RatV s k x y) :
 Calls prog 87 #[.string s] w fun e w'=>∃ z,e=.returned z/\IsQN w.heap.size w' z x y/\Up w w':=by
 have HK:=Hd hk;have HV:=Hd hV;clear hk hV;obtain⟨W0,b7⟩:=Oa (w.alloc (.cells #[.int .i64 0,.bool false,.slice none 0 0,.int .i64 0,.bool false,.slice none 0 0] 121));have d5:=Hd b7;have Y:Hid (Up w W0):=by unfold Hid;rw[<-b7];exact Oz _ _
 have d3:Bx W0 w.heap.size [.int .i64 0,.bool false,.slice none 0 0,.int .i64 0,.bool false,.slice none 0 0]:=by rw[<-b7];exact Oi w _ _
 have HX:Hid (∀ W,Up W0 W->Bx W w.heap.size [.int .i64 0,.bool false,.slice none 0 0,.int .i64 0,.bool false,.slice none 0 0]):=fun W hW=>d3.bl d3.lt hW;clear b7 d3
 cases k with
 | none=>
   go_in
   go_wp2_with fail
   rw[d5.o];refine (Rl s none _ hs HK.o).mono ?_;rintro e w1 ⟨rfl,d2⟩;subst d2;have e1:Q4 none = -1:=rfl;rw[e1]
   go_wp2_with fail
   refine (I0 s _ HV.o.1).mono ?_;rintro e w2 ⟨z1,rfl,b6,hb2⟩;have a8:=D7 _ _ _ s HV.o.1 b6;obtain⟨a0,an,aa,al,ac,rfl⟩:=a8.shape';have b8:=Hd a8;have Z:=Hd hb2;clear b6 a8 hb2
   go_wp2_with fail
   refine (IA _ a0 an aa al ac (numT s) _ Z.o.size b8.o).mono ?_;rintro e V ⟨z,rfl,hq,b5⟩;obtain⟨j,I,A,G,E,J,U,K,O,M,rfl,hP,hQ⟩:=hq;have a7:=Hd (Z.o.trans (b5.mono Z.o.size));have b4:Hid (Ih w.heap.size V (.agg #[.int .i64 j,.bool I,.slice A G E]) x 1000/\Ih w.heap.size V (.agg #[.int .i64 J,.bool U,.slice K O M]) y 1000):=by
    rw[HV.o.2.1,HV.o.2.2];exact⟨hP.mono' Y.o.size leR,hQ.mono' Y.o.size leR⟩
   have d:=HX.o V a7.o;obtain⟨r0,r1,r2,r3,r4,r5⟩:=d.k6;obtain⟨f0,f1,f2,f3,f4,f5⟩:=d.f6;clear hP hQ b5 d
   go_wp2
   have d:=HX.o V a7.o;have h:Nh V w.heap.size:=Hh d (by simp);have hk:=UN V w.heap.size (.int .i64 j) (.bool I) (.slice A G E) (.int .i64 J) (.bool U) (.slice K O M);have c6:=b4.o.1.keeps h h hk;have c8:=b4.o.2.keeps h h hk;have b9:=MS (Y.o.trans (a7.o.mono Y.o.size)) w.heap.size leR (.int .i64 j) (.bool I) (.slice A G E) (.int .i64 J) (.bool U) (.slice K O M);have hZ:=d.put6 (.int .i64 j) (.bool I) (.slice A G E) (.int .i64 J) (.bool U) (.slice K O M);have d0:(((((V.setCell ⟨w.heap.size,0,none⟩ (.int .i64 j)).setCell ⟨w.heap.size,1,none⟩ (.bool I)).setCell ⟨w.heap.size,2,none⟩ (.slice A G E)).setCell ⟨w.heap.size,3,none⟩ (.int .i64 J)).setCell ⟨w.heap.size,4,none⟩ (.bool U)).setCell ⟨w.heap.size,5,none⟩ (.slice K O M)=W6 V w.heap.size (.int .i64 j) (.bool I) (.slice A G E) (.int .i64 J) (.bool U) (.slice K O M):=rfl;rw[d0];generalize W6 V w.heap.size (.int .i64 j) (.bool I) (.slice A G E) (.int .i64 J) (.bool U) (.slice K O M)=W9 at *;obtain⟨m0,m1,m2,m3,m4,m5⟩:=hZ.k6;refine Jg (v:=.agg #[.int .i64 j,.bool I,.slice A G E,.int .i64 J,.bool U,.slice K O M]) ?_ rfl ⟨_,rfl,⟨j,I,A,G,E,J,U,K,O,M,rfl,c6,c8⟩,b9⟩;simp[results,results87,go_sem,m0,m1,m2,m3,m4,m5]
 | some i=>
   have hi:=Lc HK.o;have c1:(0:Int)<=(i:Int):=by omega
   have c2:(i:Int)<=(s.size:Int):=by omega
   have c3:(0:Int)<=(i:Int)+1:=by omega
   have c4:(i:Int)+1<=(s.size:Int):=by omega
   have e6:s.extract 0 i=cutP s (some i):=rfl;have d6:s.extract (i+1) s.size=cutQ s (some i):=rfl;obtain⟨p,hp⟩:=Oa (cutP s (some i));obtain⟨q,hq⟩:=Oa (cutQ s (some i));have b4:Hid (cutP s (some i)=p/\cutQ s (some i)=q):=⟨hp,hq⟩;rw[hp] at e6;rw[hq] at d6;have b3:Hid ((isIntB p=true/\isIntB q=true)/\x=numT p/\y=numT q):=by
    obtain⟨h1,_,h2,h3⟩:=HV.o;rw[hp,hq] at h1;rw[hp] at h2;rw[hq] at h3;exact⟨h1,h2,h3⟩
   unfold maxLen at hs;clear hp hq;have g6:IntKind.i64.wrap ((i:Int)+1)=(i:Int)+1:=K7 _ (by omega) (by omega);have g5:∀ W,(Instr.slice 9 (.string s) (some (.int .i64 ((i:Int)+1))) none none).run prog W=.ok (.string q) W:=fun W=>by
    rw[run_slice_string_from_if W 9 s .i64 _ underlying9,if_pos ⟨c3,c4⟩,show ((i:Int)+1).toNat=i+1 by omega,d6]
   go_in
   go_wp2_with fail
   rw[d5.o];refine (Rl s (some i) _ (by unfold maxLen;exact hs) HK.o).mono ?_;rintro e w1 ⟨rfl,d2⟩;subst d2;have e1:Q4 (some i)=(i:Int):=rfl;rw[e1]
   go_wp2
   go_region_with (first
    | (go_at_call_of 107 (Value.string p)
       refine (I0 p _ b3.o.1.1).mono ?_;rintro e w2 ⟨z1,rfl,b6,hb2⟩;have a8:=D7 _ _ _ p b3.o.1.1 b6;obtain⟨j,I,A,G,E,rfl⟩:=a8.shape';have b8:=Hd a8;have Z:Hid (Up w1 w2):=(Je _ w1).drew.trans hb2;clear b6 a8 hb2)
    | (go_at_call_of 107 (Value.string q)
       refine (I0 q _ b3.o.1.2).mono ?_;rintro e V ⟨z2,rfl,d8,b5⟩;have hn2:=D7 _ _ _ q b3.o.1.2 d8;obtain⟨J,U,K,O,M,rfl⟩:=hn2.shape';have b4:Hid (Ih w.heap.size V (.agg #[.int .i64 j,.bool I,.slice A G E]) x 1000/\Ih w.heap.size V (.agg #[.int .i64 J,.bool U,.slice K O M]) y 1000):=by
        rw[b3.o.2.1,b3.o.2.2];exact⟨(b8.o.bl b5).mono' Y.o.size leR,hn2.mono' (Yc Y.o.size Z.o.size) leR⟩
       have a7:=Hd (Z.o.trans (b5.mono Z.o.size));have d:=HX.o V a7.o;obtain⟨r0,r1,r2,r3,r4,r5⟩:=d.k6;obtain⟨f0,f1,f2,f3,f4,f5⟩:=d.f6;clear d8 hn2 b5 d))
   all_goals
    try simp only[Y3,Yv,Yp,Act.put,Jp,Jz,J0]
    go_wp2
    have d:=HX.o V a7.o;have h:Nh V w.heap.size:=Hh d (by simp);have hk:=UN V w.heap.size (.int .i64 j) (.bool I) (.slice A G E) (.int .i64 J) (.bool U) (.slice K O M);have c6:=b4.o.1.keeps h h hk;have c8:=b4.o.2.keeps h h hk;have b9:=MS (Y.o.trans (a7.o.mono Y.o.size)) w.heap.size leR (.int .i64 j) (.bool I) (.slice A G E) (.int .i64 J) (.bool U) (.slice K O M);have hZ:=d.put6 (.int .i64 j) (.bool I) (.slice A G E) (.int .i64 J) (.bool U) (.slice K O M);have d0:(((((V.setCell ⟨w.heap.size,0,none⟩ (.int .i64 j)).setCell ⟨w.heap.size,1,none⟩ (.bool I)).setCell ⟨w.heap.size,2,none⟩ (.slice A G E)).setCell ⟨w.heap.size,3,none⟩ (.int .i64 J)).setCell ⟨w.heap.size,4,none⟩ (.bool U)).setCell ⟨w.heap.size,5,none⟩ (.slice K O M)=W6 V w.heap.size (.int .i64 j) (.bool I) (.slice A G E) (.int .i64 J) (.bool U) (.slice K O M):=rfl;rw[d0];generalize W6 V w.heap.size (.int .i64 j) (.bool I) (.slice A G E) (.int .i64 J) (.bool U) (.slice K O M)=W9 at *;obtain⟨m0,m1,m2,m3,m4,m5⟩:=hZ.k6;refine Jg (v:=.agg #[.int .i64 j,.bool I,.slice A G E,.int .i64 J,.bool U,.slice K O M]) ?_ rfl ⟨_,rfl,⟨j,I,A,G,E,J,U,K,O,M,rfl,c6,c8⟩,b9⟩;simp[results,results87,go_sem,m0,m1,m2,m3,m4,m5]
theorem BS:prog.globalNamed "loop.example/g00007/impl.limbTens" = some 8:=by kernel_rfl
theorem AU:(prog.globals[8]?).map (·.type)=some 256:=by kernel_rfl
def Bn:List Int:=[100000000,10000000,1000000,100000,10000,1000,100,10,1]
theorem CE (j:Nat)(h:j<9):Bn.getD j 0=(tens j:Nat):=by
 match j,h with
 | 0,_|1,_|2,_|3,_|4,_|5,_|6,_|7,_|8,_=>rfl
theorem lt_of_laid {W:World}{n0:String}{d0:DataW Unit}{L:List (String×DataW Unit)}(h:laidMet prog ((n0,d0)::("loop.example/g00007/impl.limbTens",Rows.laid_loop_example_g00007_impl_limbTens)::L) W):LT W:=by
 obtain⟨ps,⟨g0,t0,K,f0,p0,q0,_,_,_,_,⟨g,t,cs,A,p,q,G,Y,Z,V,_,_⟩,_⟩,_⟩:=h;obtain rfl:=Option.some.inj (BS.symm.trans G);obtain rfl:=Option.some.inj (AU.symm.trans Y);obtain⟨xs,m,_,ex,_,hl,j⟩:=DataW.trod_array underlying256 V;have c5:prog.cellsOf 149=1:=by kernel_rfl
 intro r J;have E:=j r J;rw[c5,Z8,Jd (by omega)] at E;obtain⟨z,M,e2,_⟩:=DataW.trod_int underlying149 E;have I:Bn.length=9:=rfl;have O:(xs.map (·.1))=Bn.map fun n=>.lit (.int .u32 n):=(DataW.agg.inj (Prod.mk.inj ex).1).symm;have d:(xs.map (·.1))[r]? = (Bn.map fun n=>(DataW.lit (.int .u32 n):DataW Unit))[r]? := by rw[O]
 rw[Y6,Y6,Jd (by omega:r<xs.length),Jd (by omega:r<Bn.length),e2] at d;have hz:z=Bn.getD r 0:=by
  simp only[Option.map_some,Option.some.injEq,DataW.lit.injEq,Lit.int.injEq,true_and] at d;rw[d,List.getD,Jd (by omega:r<Bn.length)];rfl
 rw[Uk G Z r,<-CE r J,<-hz];have:cs.toList[r]? = some (.int .u32 z):=by
  have U:((cs.toList.drop r).take 1)[0]? = some (.int .u32 z):=by rw[M];rfl
  simpa using U
 simpa using this
open ChangeShapes WideShapes ChangeAt RowKit Deep Proofs.Tryz
theorem MC:prog.globalNamed "loop.example/g00007/impl.noSteps" = some 2:=by kernel_rfl
theorem BV:(prog.globals[2]?).map (·.type)=some 222:=by kernel_rfl
theorem MQ:prog.cellsOf 222=4:=by kernel_rfl
theorem BL:prog.cellsOf 220=2:=by kernel_rfl
theorem AP:prog.cellsOf 2=1:=by kernel_rfl
theorem Cb {H:Type}{enc:TypeId×Value->H}{w:World}{base:Nat}{spare:Nat->Bool}{held:Bool}{fuel:Nat}{cs:List Value}{a c:Int}{x:DataW H×List MemPlace}
 (h:DataW.trod enc prog w base spare held fuel 220 cs=some x) (hx:x.1=.agg [.lit (.int .i64 a),.lit (.int .i64 c)]):cs=[.int .i64 a,.int .i64 c]:=by
 obtain⟨xs,m,_,rfl,hl,hn,d⟩:=DataW.trod_array underlying220 h;rw[BL] at hl;have j:=d 0 (by decide);have A:=d 1 (by decide);rw[AP] at j A
 match xs,hn with
 | [y0,y1],_=>
   obtain⟨J,i0,G,_⟩:=DataW.trod_int underlying2 (show DataW.trod _ prog w base spare held m 2 _=some y0 from j);obtain⟨K,E,I,_⟩:=DataW.trod_int underlying2 (show DataW.trod _ prog w base spare held m 2 _=some y1 from A);subst G I;simp only[Vh,Vt,DataW.agg.injEq,List.cons.injEq,DataW.lit.injEq,Lit.int.injEq,true_and,and_true] at hx;obtain⟨rfl,rfl⟩:=hx
   match cs,hl with
   | [c0,c1],_=>
     simp at i0 E;rw[i0,E]
theorem ns_of_laid {W:World}{L:List (String×DataW Unit)}(h:laidMet prog (("loop.example/g00007/impl.noSteps",Rows.laid_loop_example_g00007_impl_noSteps)::L) W):NS W:=by
 obtain⟨ps,⟨Z,t0,E,f0,A,q0,j,I,J,G,_,_⟩,_⟩:=h;obtain rfl:=Option.some.inj (MC.symm.trans j);obtain rfl:=Option.some.inj (BV.symm.trans I);have d:=Uk j J;obtain⟨y0,y1,n,U,hl,V,Y⟩:=trod_struct2 underlying222 G;rw[MQ] at hl;obtain⟨l⟩:=E;simp only[Rows.laid_loop_example_g00007_impl_noSteps,Prod.mk.injEq,DataW.agg.injEq,List.cons.injEq,and_true] at U;obtain⟨⟨K,M⟩,_⟩:=U;have A:=Cb V K.symm;have O:=Cb Y M.symm;rw[BL] at A O
 match l,hl with
 | [c0,c1,c2,c3],_=>
   simp at A O;obtain⟨rfl,rfl⟩:=A;obtain⟨rfl,rfl⟩:=O;exact⟨d 0,d 1,d 2,d 3⟩
end Go.Proofs.YtdmdmgfjpomdbaaGreatDoor.Q
