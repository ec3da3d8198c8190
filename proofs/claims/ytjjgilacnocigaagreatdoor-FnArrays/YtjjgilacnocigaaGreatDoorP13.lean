import Derived.Test.YtjjgilacnocigaaGreatDoorP12
import Derived.Lib.IndexLaws
import Derived.Lib.Bytealg
set_option maxRecDepth 100000
set_option maxHeartbeats 2000000
namespace Go.Proofs.YtjjgilacnocigaaGreatDoor.Q
open ChangeShapes WideShapes ChangeAt RowKit Proofs.Tryz
theorem WJ (t:List Nat)(N:Nat)(ht:Oq t)(h:val t<1000000000 ^ N):t.length<=N:=by
 by_cases hn:t=[]
 ·rw[hn];exact J7 _
 have d:=Xs t ht hn;have h4:=(Nat.pow_lt_pow_iff_right (show 1<1000000000 by decide)).1 (Oj d h);omega
theorem DS (X Y R:Nat)(q:Int)(h:(X:Int)=q*Y+R)(hr:R<Y):Nat.gcd Y R=Nat.gcd X Y:=by
 have d:(X:Int) % Y=R:=by
  rw[h,Int.add_comm,Int.add_mul_emod_self_right];exact Int.emod_eq_of_lt (Uv _) (Int.ofNat_lt.2 hr)
 have j:X % Y=R:=by exact_mod_cast d
 rw[<-j,Om X Y,Nat.gcd_rec Y X,Om]
def AI (B P d:Nat)(w0:World)(gx gy k:Nat)(wr:World):Prop:=
 ∃ (X:Nat) (x0:Int) (xn:Bool) (xp:Option Addr) (xl xc:Nat) (y0:Int) (yn:Bool) (yp:Option Addr) (yl yc:Nat),(BoxV gx wr x0 xn xp xl xc/\BoxV gy wr y0 yn yp yl yc/\BoxV (w0.heap.size+2) wr 0 false none 0 0) /\
  (Nb B wr (.agg #[.int .i64 x0,.bool xn,.slice xp xl xc]) (X:Nat)/\Nb B wr (.agg #[.int .i64 y0,.bool yn,.slice yp yl yc]) (k:Nat))/\(X<P/\k<P)/\Nat.gcd X k=d/\Up w0 wr
theorem Be {B:Nat}{w:World}{z:Value}{X:Nat}(N:Nat)(h:Nb B w z (X:Nat))(hX:X<1000000000 ^ N):∃ neg t,Ej B w z neg t/\sg neg (val t)=(X:Nat)/\val t=X/\t.length<=N:=by
 obtain⟨neg,t,j,d⟩:=h;have D:val t=X:=by have:=congrArg Int.natAbs d;rw[Ih] at this;simpa using this
 exact⟨neg,t,j,d,D,WJ t N j.2.1 (by omega)⟩
theorem TD {N:Nat}{w W:World}(h:Below N w W)(g:Nat)(hg:N<=g)(u0 u1 u2:Value):Below N w (((W.setCell ⟨g,0,none⟩ u0).setCell ⟨g,1,none⟩ u1).setCell ⟨g,2,none⟩ u2):=
 ((h.setCell (p:=⟨g,0,none⟩) hg u0).setCell (p:=⟨g,1,none⟩) hg u1).setCell (p:=⟨g,2,none⟩) hg u2
theorem C9 (B:Nat)(za zb:Value)(na nb:Bool)(a b:List Nat)(N:Nat)(w:World)(hBw:B<=w.heap.size)(hza:Ej B w za na a)(hzb:Ej B w zb nb b)(hla:a.length<=N)(hlb:b.length<=N)(hN:N<=100000) :
 Calls prog 104 #[za,zb] w fun e w'=>∃ z,e=.returned z/\Nb B w' z (No (sg na (val a)) (sg nb (val b)))/\Up w w':=by
 obtain⟨a0,an,ap,al,ac,rfl⟩:=hza.shape;obtain⟨b0,bn,bp,bl,bc,rfl⟩:=hzb.shape;obtain⟨d,hd⟩:=O2 (Nat.gcd (val a) (val b));have HD:=Em hd;have m9:No (sg na (val a)) (sg nb (val b))=(d:Int):=by unfold No Int.gcd;rw[Ih,Ih,hd]
 rw[m9];obtain⟨P,hP⟩:=O2 (1000000000 ^ N);have HP:=Em hP;have p4:Hid (val a<P/\val b<P):=by
  have h1:=Js (G4 a hza.1) (J3 (show 0<1000000000 by decide) hla);have h2:=Js (G4 b hzb.1) (J3 (show 0<1000000000 by decide) hlb);rw[hP] at h1 h2;exact⟨h1,h2⟩
 have p9:=Em hza;have q6:=Em hzb;have c7:=Em hBw;clear hza hzb hd m9 hP hBw;obtain⟨W0,G⟩:=O2 (((w.alloc (.cells #[.int .i64 a0,.bool an,.slice ap al ac] 72)).alloc (.cells #[.int .i64 b0,.bool bn,.slice bp bl bc] 72)).alloc (.cells #[.int .i64 0,.bool false,.slice none 0 0] 72));have p5:=Em G;have n4:W0.heap.size=w.heap.size+3:=by rw[<-G];simp
 have e5:=Em n4;have b5:Hid (Up w W0):=by
  unfold Hid
  rw[<-G];exact Ou (Ou (Oo _ _) _) _
 have e4:Hid (∀ W,Up W0 W->BoxV w.heap.size W a0 an ap al ac/\BoxV (w.heap.size+1) W b0 bn bp bl bc/\BoxV (w.heap.size+2) W 0 false none 0 0):=fun W hW=>by
  have h1:BoxV w.heap.size W0 a0 an ap al ac:=by rw[<-G];exact ((I4 w _ _ _ _ _ _).alloc _).alloc _
  have h2:BoxV (w.heap.size+1) W0 b0 bn bp bl bc:=by rw[<-G];exact (It _ _ (by simp) _ _ _ _ _ _).alloc _
  have h3:BoxV (w.heap.size+2) W0 0 false none 0 0:=by rw[<-G];exact It _ _ (by simp) _ _ _ _ _ _
  exact⟨h1.bl h1.lt hW,h2.bl h2.lt hW,h3.bl h3.lt hW⟩
 clear G n4
 go_in
 go_upto_region 1 with fail
 rw[p5.o];obtain⟨⟨_,q0,q1,q2,_,_⟩,_⟩:=e4.o W0 (Jj _ _)
 go_wp2_with fail
 refine (Kc B _ na a _ (p9.o.bl b5.o) (by have:=c7.o;have:=e5.o;omega)).mono ?_;rintro e w1 ⟨v1,rfl,n8,l8⟩;have j3:=Em n8;have h7:=Em l8;clear n8 l8
 go_wp2_with fail
 refine (Nt B false v1 a _ j3.o).mono ?_;rintro e w2 ⟨z1,rfl,o0,f8⟩;have f5:Ej B w2 z1 false (Ov a):=o0 _ _ (j3.o.bl f8);have h8:=Em (h7.o.trans (f8.mono h7.o.size));obtain⟨x0,xn,xp,xl,xc,rfl⟩:=f5.shape;obtain⟨W2,b8⟩:=O2 (w2.alloc (.cells #[.int .i64 x0,.bool xn,.slice xp xl xc] 72));have p6:=Em b8;have b6:Up w2 W2:=by rw[<-b8];exact Oo _ _
 have n5:W2.heap.size=w2.heap.size+1:=by rw[<-b8];simp
 have p3:=Em n5;have e6:Hid (BoxV w2.heap.size W2 x0 xn xp xl xc):=by unfold Hid;rw[<-b8];exact I4 w2 _ _ _ _ _ _
 have j7:Hid (Ej B W2 (.agg #[.int .i64 x0,.bool xn,.slice xp xl xc]) false (Ov a)):=f5.bl b6;have j:=h8.up b6;obtain⟨_,⟨_,r0,r1,r2,_,_⟩,_⟩:=e4.o W2 j.o;clear o0 f8 b8 b6 n5 f5 q0 q1 q2
 go_upto_region 2 with fail
 rw[p6.o]
 go_wp2_with fail
 refine (Kc B _ nb b _ (q6.o.bl (b5.o.trans (j.o.mono b5.o.size))) (by have:=c7.o;have:=e5.o;have:=j.o.size;omega)).mono ?_;rintro e w3 ⟨v2,rfl,n9,l9⟩;have j4:=Em n9;have h9:=Em l9;clear n9 l9
 go_wp2_with fail
 refine (Nt B false v2 b _ j4.o).mono ?_;rintro e w4 ⟨z2,rfl,o1,f9⟩;have f7:Ej B w4 z2 false (Ov b):=o1 _ _ (j4.o.bl f9);have i1:=Em (h9.o.trans (f9.mono h9.o.size));obtain⟨T,Y,Z,V,U,rfl⟩:=f7.shape;obtain⟨W4,d0⟩:=O2 (w4.alloc (.cells #[.int .i64 T,.bool Y,.slice Z V U] 72));have p7:=Em d0;have b7:Up w4 W4:=by rw[<-d0];exact Oo _ _
 have j6:Hid (BoxV w4.heap.size W4 T Y Z V U):=by unfold Hid;rw[<-d0];exact I4 w4 _ _ _ _ _ _
 have j8:Hid (Ej B W4 (.agg #[.int .i64 T,.bool Y,.slice Z V U]) false (Ov b)):=f7.bl b7;have E:=i1.up b7;have j2:Hid (W2.heap.size<=w4.heap.size):=i1.o.size;clear o1 f9 d0 b7 f7 r0 r1 r2
 go_wp2
 rw[p7.o];have y6:w2.heap.size<w4.heap.size:=by have:=p3.o;have:=j2.o;omega
 have y4:w.heap.size+2<w2.heap.size:=by have:=h8.o.size;have:=e5.o;omega
 have j5:=Em (e6.o.bl e6.o.lt E.o);have d7:=Em (j7.o.bl E.o);have j0:=Em (e4.o W4 (j.o.trans (E.o.mono j.o.size))).2.2;have d6:=Em (b5.o.trans ((j.o.trans (E.o.mono j.o.size)).mono b5.o.size));generalize y7:w2.heap.size=F at *;generalize y8:w4.heap.size=I at *
 go_loopg [] (val b) (AI B P d w F I)
 case atStart=>exact⟨val a,x0,xn,xp,xl,xc,T,Y,Z,V,U,⟨j5.o,j6.o,j0.o⟩,⟨⟨false,_,d7.o,by rw[O9];rfl⟩,⟨false,_,j8.o,by rw[O9];rfl⟩⟩,p4.o,HD.o,d6.o⟩
 clear j5 j6 j0 d7 j8 d6 E j2 e6 j7 j;obtain⟨X,x0,xn,xp,xl,xc,T,Y,Z,V,U,⟨hX,hY,hR⟩,⟨g2,g3⟩,⟨d2,d4⟩,hg,hB⟩:=hrel;rw[<-HP.o] at d2 d4;obtain⟨nx,tx,o2,n6,u7,n1⟩:=Be N g2 d2;obtain⟨ny,ty,g6,n7,g4,n2⟩:=Be N g3 d4;have g5:=Li g6;rw[g4] at g5;have q7:=Em g5;have q8:Hid (∀ W,Up wr W->Ej B W (.agg #[.int .i64 x0,.bool xn,.slice xp xl xc]) nx tx):=fun W hW=>o2.bl hW;have q9:Hid (∀ W,Up wr W->Ej B W (.agg #[.int .i64 T,.bool Y,.slice Z V U]) ny ty):=fun W hW=>g6.bl hW;have K:Hid ((sg nx (val tx)=(X:Nat)/\sg ny (val ty)=(gk:Nat))/\(tx.length<=N/\ty.length<=N)/\val ty=gk/\X<1000000000 ^ N/\gk<1000000000 ^ N):=⟨⟨n6,n7⟩,⟨n1,n2⟩,g4,d2,d4⟩;have p2:=Hd g3;have p1:=Hd g2;have i8:=Em hg;have J:=Em hB;have H:Hid (∀ W,Up wr W->BoxV F W x0 xn xp xl xc/\BoxV I W T Y Z V U/\BoxV (w.heap.size+2) W 0 false none 0 0):=fun W hW=>⟨hX.bl hX.lt hW,hY.bl hY.lt hW,hR.bl hR.lt hW⟩;have q0:=hY.c0;have q1:=hY.c1;have q2:=hY.c2;clear o2 g6 n6 n7 u7 g4 n1 n2 d2 d4 g3 g2 hg hB hX hY hR g5
 go_wp2_with fail
 refine (Sa _ _ _ _ _ _).mono ?_;rintro e w5 ⟨rfl,g0⟩;rw[q7.o];have D:=Em g0;obtain⟨⟨_,r3,r4,r5,af,_⟩,⟨_,s0,s1,s2,bf,_⟩,⟨_,v6,v7,v8,rf,_⟩⟩:=H.o w5 g0;clear g0 q0 q1 q2
 by_cases n0:gk=0
 ·have f0:=rf 0;have f1:=rf 1;have f2:=rf 2;have i6:Hid (X=d):=by
   have:=i8.o;rw[n0,Nat.gcd_zero_right] at this;exact this
  clear af bf rf
  go_wp2
  have j9:=p1.o.bl D.o;rw[i6.o] at j9;have e9:=(H.o w5 D.o).2.2;have c6:=e9.put x0 xn xp xl xc;have s7:=j9.keeps e9.n e9.n (K0.three w5 (w.heap.size+2) (.int .i64 x0) (.bool xn) (.slice xp xl xc));have s6:=TD (J.o.trans (D.o.mono J.o.size)) (w.heap.size+2) (by omega) (.int .i64 x0) (.bool xn) (.slice xp xl xc);have k0:=c6.c0;have k1:=c6.c1;have k2:=c6.c2;have e2:w.heap.size+1+1=w.heap.size+2:=rfl;rw[e2];generalize ((w5.setCell ⟨w.heap.size+2,0,none⟩ (.int .i64 x0)).setCell ⟨w.heap.size+2,1,none⟩ (.bool xn)).setCell ⟨w.heap.size+2,2,none⟩ (.slice xp xl xc)=WE at *;refine Jh (v:=.agg #[.int .i64 x0,.bool xn,.slice xp xl xc]) ?_ rfl ⟨_,rfl,s7,s6⟩;simp[results,results104,go_sem,k0,k1,k2]
 go_wp2_with fail
 refine (Qz B _ _ nx ny tx ty _ (by have:=c7.o;have:=J.o.size;have:=D.o.size;omega) (q8.o _ D.o) (q9.o _ D.o) (by have:=K.o.2.1;omega) (by have:=K.o.2.1;omega) (fun h=>n0 (by have:=K.o.2.2.1;rw[h] at this;simpa[val] using this.symm))).mono ?_;rintro e w6 ⟨z1,z2,q,r,rfl,⟨n3,g1⟩,m8,d3⟩;rw[K.o.1.1,K.o.1.2] at m8;obtain⟨m0,mn,mp,ml,mc,rfl⟩:=n3.shape;obtain⟨u0,un,up,ul,uc,rfl⟩:=g1.shape;obtain⟨m5,m6,m7⟩:=m8;obtain⟨R,rfl⟩:=V5 m6;have l6:R<gk:=by simpa using m7
 have j1:Hid (R<gk/\Nat.gcd gk R=d):=⟨l6,(DS X gk R q m5 l6).trans i8.o⟩;obtain⟨W6,d1⟩:=O2 ((w6.alloc (.cells #[.int .i64 m0,.bool mn,.slice mp ml mc] 72)).alloc (.cells #[.int .i64 u0,.bool un,.slice up ul uc] 72));have e8:Up w6 W6:=by rw[<-d1];exact Ou (Oo _ _) _
 have hU:BoxV (w6.heap.size+1) W6 u0 un up ul uc:=by rw[<-d1];exact It _ _ (by simp) _ _ _ _ _ _
 have c8:Up wr W6:=D.o.trans ((d3.trans (e8.mono d3.size)).mono D.o.size);have k5:Nb B W6 (.agg #[.int .i64 u0,.bool un,.slice up ul uc]) (R:Nat):=(g1.bl e8).mono (by have:=c7.o;have:=J.o.size;have:=D.o.size;omega);have l1:=p2.o.bl c8;obtain⟨O,l7,l5⟩:=H.o W6 c8;have y5:I<w6.heap.size:=by
  have h1:=(H.o w5 D.o).2.1.lt;have h2:=d3.size;omega
 have p8:=Em d1;have i7:Hid (AI B P d w F I R ((((((W6.setCell ⟨F,0,none⟩ (.int .i64 T)).setCell ⟨F,1,none⟩ (.bool Y)).setCell ⟨F,2,none⟩ (.slice Z V U)).setCell ⟨I,0,none⟩ (.int .i64 u0)).setCell ⟨I,1,none⟩ (.bool un)).setCell ⟨I,2,none⟩ (.slice up ul uc))):=by
  have k7:=K0.three W6 F (.int .i64 T) (.bool Y) (.slice Z V U);have u1:=O.put T Y Z V U;have b9:=l7.other (show I≠F by omega) k7;have t6:=l5.other (show w.heap.size+2≠F by omega) k7;have l2:=l1.keeps O.n O.n k7;have k9:=k5.keeps O.n O.n k7;have s4:=TD (J.o.trans (c8.mono J.o.size)) F (by omega) (.int .i64 T) (.bool Y) (.slice Z V U);generalize ((W6.setCell ⟨F,0,none⟩ (.int .i64 T)).setCell ⟨F,1,none⟩ (.bool Y)).setCell ⟨F,2,none⟩ (.slice Z V U)=W7 at *;have k8:=K0.three W7 I (.int .i64 u0) (.bool un) (.slice up ul uc);have u2:=u1.other (show F≠I by omega) k8;have u5:=b9.put u0 un up ul uc;have t7:=t6.other (show w.heap.size+2≠I by omega) k8;have l3:=l2.keeps b9.n b9.n k8;have l0:=k9.keeps b9.n b9.n k8;have s5:=TD s4 I (by omega) (.int .i64 u0) (.bool un) (.slice up ul uc);have l4:=K.o.2.2.2.2;rw[HP.o] at l4;exact⟨gk,T,Y,Z,V,U,u0,un,up,ul,uc,⟨u2,u5,t7⟩,⟨l3,l0⟩,⟨l4,by omega⟩,j1.o.2,s5⟩
 obtain⟨_,H2,H3,H4,xf,_⟩:=O;obtain⟨_,H5,H6,K3,yf,_⟩:=l7;obtain⟨y9,E2,F2,H0,_,_⟩:=hU;have x6:=xf 0;have x7:=xf 1;have x8:=xf 2;have x9:=yf 0;have y1:=yf 1;have y2:=yf 2;have D1:F≠I:=by omega
 have D2:F≠w6.heap.size+1:=by omega
 have E1:I≠w6.heap.size+1:=by omega
 clear r3 r4 r5 s0 s1 s2 v6 v7 v8 af bf rf xf yf n3 g1 m5 m6 m7 d3 e8 c8 k5 l1 l5 d1
 go_upto_region 5 with fail
 rw[p8.o]
 go_wp2
 go_roundg R
 case measure=>exact j1.o.1
 exact i7.o
end Go.Proofs.YtjjgilacnocigaaGreatDoor.Q
namespace Go.Proofs.YtjjgilacnocigaaGreatDoor.Q
open RowKit
variable {x y:Int}
theorem QN (g:List UInt8)(hg:∀ c∈g,D5 c)(j:Nat)(hj:j<g.length):N7 g / 10 ^ (g.length - 1 - j) % 10=g[j].toNat - 48:=by
 induction hn:g.length generalizing g j with
 | zero=>omega
 | succ n ih=>
   obtain⟨f,c,rfl⟩:∃ f c,g=f++[c]:=⟨g.dropLast,g.getLast (by intro h;rw[h] at hj;simp at hj),(Zu _).symm⟩;have H:D5 c:=hg c (by simp);unfold D5 at H;have D:f.length=n:=by simpa using hn
   rw[Cr]
   by_cases I:j<n
   ·have E:n+1 - 1 - j=(n - 1 - j)+1:=by omega
    have G:(N7 f*10+(c.toNat - 48)) / 10 ^ (n - 1 - j+1)=N7 f / 10 ^ (n - 1 - j):=by
     rw[Ju,Yy (10 ^ (n - 1 - j)) 10,<-Vf,show (N7 f*10+(c.toNat - 48)) / 10=N7 f by omega]
    rw[E,G];have:=ih f (fun x hx=>hg x (by simp[hx])) j (by omega) D;rw[this]
    congr 2
    rw[Vy (by omega)]
   have d:j=n:=by simp at hj;omega
   subst d;simp only[Vm,V9,Nat.pow_zero,Nat.div_one];have F:(f++[c])[j]=c:=by rw[Vx (by omega)];simp[D]
   rw[F];omega
theorem DG (g:List UInt8)(hg:∀ c∈g,D5 c)(h9:g.length=9):Ot (Gl (N7 g) 9)=g:=by
 apply List.ext_getElem
 ·simp[Ot,Gl,h9]
 intro j F d;have E:=QN g hg j d;have D:=hg g[j] (Yl _);unfold D5 at D;simp only[Ot,Gl,Vo,List.getElem_range];unfold dg tens;rw[show 8 - j=g.length - 1 - j by omega,E];apply UInt8.toNat_inj.1;rw[UInt8.toNat_ofNat_of_lt' (by show _<256;omega)];omega
theorem QH (k:Nat)(d:List UInt8):N7 (List.replicate k 48++d)=N7 d:=by
 induction k with
 | zero=>simp
 | succ k ih=>
   rw[Oe,Yf]
   show N7 (48::(List.replicate k 48++d))=N7 d
   rw[<-ih];simp[N7]
def padD (d:List UInt8):List UInt8:=List.replicate (9*X8 d.length - d.length) 48++d
theorem Ly (d:List UInt8):(padD d).length=9*X8 d.length:=by
 unfold padD X8;simp;omega
theorem FZ (d:List UInt8)(hd:∀ c∈d,D5 c):∀ c∈padD d,D5 c:=by
 intro c j;unfold padD at j
 rcases J5.1 j with h|h
 ·rw[Yu h];exact⟨by decide,by decide⟩
 exact hd c h
theorem IK (d:List UInt8)(i:Nat)(hi:i<X8 d.length):chunk d i=N7 (((padD d).take (9*X8 d.length - 9*i)).drop (9*X8 d.length - 9*i - 9)):=by
 unfold chunk padD;have H:9*X8 d.length - d.length<=8/\d.length<=9*X8 d.length:=by unfold X8;omega
 generalize G:9*X8 d.length - d.length=z at *;have j:9*X8 d.length - 9*i=z+(d.length - 9*i):=by omega
 have D:(List.replicate z (48:UInt8)++d).take (z+(d.length - 9*i))=List.replicate z 48++d.take (d.length - 9*i):=by rw[List.take_append,Zd,Nat.add_sub_cancel_left,Jf (by rw[Zd];omega)]
 rw[j,D]
 by_cases F:9<=d.length - 9*i
 ·have E:(List.replicate z (48:UInt8)++d.take (d.length - 9*i)).drop (z+(d.length - 9*i) - 9)=(d.take (d.length - 9*i)).drop (d.length - 9*i - 9):=by rw[List.drop_append,Zd,Z0 (by rw[Zd];omega),Zv,show z+(d.length - 9*i) - 9 - z=d.length - 9*i - 9 by omega]
  rw[E]
 rw[show z+(d.length - 9*i) - 9=0 by omega,Y9,QH,show d.length - 9*i - 9=0 by omega,Y9]
theorem EP (d:List UInt8)(hd:∀ c∈d,D5 c):Ot (Hi (Eo d))=padD d:=by
 have key:∀ k,k<=X8 d.length->Ot (Hi ((List.range k).map (chunk d)))=(padD d).drop (9*X8 d.length - 9*k):=by
  intro k
  induction k with
  | zero=>intro _;rw[Z0 (by rw[Ly];omega)];rfl
  | succ k ih=>
    intro E;have e:Ot (Hi ((List.range (k+1)).map (chunk d)))=Ot (Gl (chunk d k) 9)++Ot (Hi ((List.range k).map (chunk d))):=by
     simp[Hi,Ot,List.range_succ]
    rw[e,ih (by omega),IK d k (by omega)];have hl:(((padD d).take (9*X8 d.length - 9*k)).drop (9*X8 d.length - 9*k - 9)).length=9:=by
     rw[Jr,Jm,Ly];omega
    rw[DG _ (fun c hc=>FZ d hd c (Ya (Yp hc))) hl];rw[show 9*X8 d.length - 9*(k+1)=9*X8 d.length - 9*k - 9 by omega];generalize padD d=p;have D:9*X8 d.length - 9*k - 9<=9*X8 d.length - 9*k:=by omega
    generalize 9*X8 d.length - 9*k - 9=a at *;generalize 9*X8 d.length - 9*k=b at *
    conv=>rhs;rw[<-J9 b p]
    rw[List.drop_append]
    by_cases j:b<=p.length
    ·rw[Jm,Vd j,show a - b=0 by omega,Y9]
    have:(p.drop b)=[]:=Z0 (by omega);rw[this];simp
 have h:=key (X8 d.length) O1;rw[show 9*X8 d.length - 9*X8 d.length=0 by omega,Y9] at h;exact h
theorem F3 (k:Nat)(l:List UInt8):Nj (List.replicate k 48++l)=Nj l:=by
 unfold Nj
 induction k with
 | zero=>simp
 | succ k ih=>rw[Oe,Yf,Um];simp[ih]
theorem Lm (l:List Nat):textD (l++[0])=textD l:=by
 unfold textD Hi Ot;have e:(Gl 0 9).map UInt8.ofNat=List.replicate 9 48:=by decide
 simp only[V8,U8,List.reverse_nil,Zv,Yf,V6,Zc,e];exact F3 9 _
theorem UO (l:List Nat):textD (Ov l)=textD l:=by
 generalize hn:l.length=n
 induction n generalizing l with
 | zero=>rw[Jo hn];rfl
 | succ n ih=>
   obtain⟨f,x,rfl⟩:∃ f x,l=f++[x]:=⟨l.dropLast,l.getLast (by intro h;rw[h] at hn;simp at hn),(Zu _).symm⟩
   by_cases d:x=0
   ·subst d;rw[Gw,Lm];exact ih f (by simpa using hn)
   rw[Np _ _ d]
theorem Wp (d:List UInt8)(hd:∀ c∈d,D5 c)(h0:d.head? ≠ some 48):textD (Ov (Eo d))=d:=by
 rw[UO];unfold textD;rw[EP d hd];unfold padD;rw[F3];unfold Nj
 cases d with
 | nil=>rfl
 | cons c l=>
   rw[Um];have:¬ c=48:=fun e=>h0 (by rw[e];rfl);simp[this]
theorem UW (x k:Nat):Gl x (k+1)=Gl x k++[dg x k]:=by simp[Gl,List.range_succ]
theorem CS (x m:Nat)(hx:x<1000000000)(hm:m<=9):N7 (Ot (Gl x m))=x / 10 ^ (9 - m):=by
 induction m with
 | zero=>simp[Gl,Ot,N7];omega
 | succ m ih=>
   rw[UW,Ot,Zc]
   show N7 (Ot (Gl x m)++[UInt8.ofNat (dg x m)])=_
   rw[Cr,ih (by omega)];have d:dg x m<58:=by unfold dg;omega
   rw[UInt8.toNat_ofNat_of_lt' (by show _<256;omega)];unfold dg tens;have e:9 - m=(8 - m)+1:=by omega
   rw[e,Ju,<-Vf,show 9 - (m+1)=8 - m by omega];omega
theorem EX (a b:List UInt8):N7 (a++b)=N7 a*10 ^ b.length+N7 b:=by
 have key:∀ (b:List UInt8) (k:Nat),b.foldl (fun a c=>a*10+(c.toNat - 48)) k=k*10 ^ b.length+N7 b:=by
  intro b
  induction b with
  | nil=>intro k;simp[N7]
  | cons c b ih=>
    intro k;have d:N7 (c::b)=(c.toNat - 48)*10 ^ b.length+N7 b:=by
     unfold N7;rw[Vu,ih];simp only[Ui,Y3];rfl
    rw[Vu,ih,d,J8,Ju,Zq,U1,Y5,Yy 10]
 unfold N7;rw[List.foldl_append,key];rfl
theorem CT (l:List Nat)(hl:Kx l):N7 (Ot (Hi l))=val l:=by
 induction l with
 | nil=>rfl
 | cons x l ih=>
   have e:Ot (Hi (x::l))=Ot (Hi l)++Ot (Gl x 9):=by simp[Hi,Ot]
   rw[e,EX,ih (fun y hy=>hl y (by simp[hy])),CS x 9 (hl x (by simp)) O1];have:(Ot (Gl x 9)).length=9:=by simp[Ot,Gl]
   rw[this];simp only[val];omega
theorem QG (l:List UInt8):N7 (Nj l)=N7 l:=by
 induction l with
 | nil=>rfl
 | cons c l ih=>
   unfold Nj at *;rw[Um]
   by_cases h:c=48
   ·subst h;simp only[beq_self_eq_true,if_true];rw[ih];simp[N7]
   simp[h]
theorem Fn (l:List Nat)(hl:Kx l):N7 (textD l)=val l:=by
 unfold textD;rw[QG,CT l hl]
theorem RD (l:List Nat):∀ c∈textD l,D5 c:=by
 intro c F;unfold textD Nj at F;have d:=(List.dropWhile_sublist (fun x:UInt8=>x==48)).subset F;unfold Ot at d;rw[Z5] at d;obtain⟨x,D,rfl⟩:=d;unfold Hi at D;rw[List.mem_flatMap] at D;obtain⟨y,_,E⟩:=D;unfold Gl at E;rw[Z5] at E;obtain⟨j,_,rfl⟩:=E;have G:48<=dg y j/\dg y j<=57:=by unfold dg;omega
 unfold D5;rw[UInt8.toNat_ofNat_of_lt' (by show _<256;omega)];exact G
theorem NI (l:List Nat):(textD l).head? ≠ some 48:=by
 unfold textD Nj;generalize Ot (Hi l)=b
 induction b with
 | nil=>simp
 | cons c b ih=>
   rw[Um]
   by_cases h:c=48
   ·subst h;simpa using ih
   simp[h]
theorem Iv {a b:List UInt8}(h:Kq a=Kq b):a=b:=by
 have:=congrArg (fun x=>x.data.toList) h
 simpa[Kq] using this
theorem Ca {u:ByteArray}(hx:Ec x u)(hy:Ec y u)(hu:u≠Kq []):x=y:=by
 obtain⟨n,l,F,t1,K,r1⟩:=hx;obtain⟨m,k,G,t2,O,r2⟩:=hy;have I:∀ (n:Bool) (l:List Nat),l≠[]->Ko n l=n:=fun n l h=>by
  unfold Ko;have:0<l.length:=Zz.2 h;simp[this]
 have shape:∀ (n:Bool) (l:List Nat),Kx l->Oq l->l≠[]->u=Cb (Ko n l) l->(u=Kq (45::textD l)/\n=true)∨(u=Kq (textD l)/\n=false):=by
  intro n l Y Z hl j;rw[I n l hl] at j;unfold Cb at j;rw[if_neg (fun h=>hl (Jo h))] at j;unfold Le at j
  split at j
  ·exact absurd j hu
  cases n
  ·exact .inr ⟨by simpa using j,rfl⟩
  exact .inl ⟨by simpa using j,rfl⟩
 have J:∀ l:List Nat,Kx l->Oq l->l≠[]->∃ c r,textD l=c::r/\c≠48/\D5 c:=by
  intro l Y Z hl;have h1:=Gp l Z hl;have U:=Fn l Y
  cases h3:textD l with
  | nil=>rw[h3] at U;simp[N7] at U;omega
  | cons c r=>exact⟨c,r,rfl,fun e=>NI l (by rw[h3,e];rfl),RD l c (by rw[h3];simp)⟩
 by_cases hl:l=[]
 ·by_cases E:k=[]
  ·subst hl E;rw[<-K,<-O]
   cases n<;>cases m<;>simp[sg,val]
  exfalso
  subst hl;have d:u=Kq [48]:=r1;obtain⟨c,r,h3,h4,h5⟩:=J k G t2 E
  rcases shape m k G t2 E r2 with⟨h,_⟩|⟨h,_⟩
  ·have:=Iv (d.symm.trans h);simp at this
  have:=Iv (d.symm.trans h);rw[h3] at this;simp at this;exact h4 this.1.symm
 by_cases E:k=[]
 ·exfalso
  subst E;have d:u=Kq [48]:=r2;obtain⟨c,r,h3,h4,h5⟩:=J l F t1 hl
  rcases shape n l F t1 hl r1 with⟨h,_⟩|⟨h,_⟩
  ·have:=Iv (d.symm.trans h);simp at this
  have:=Iv (d.symm.trans h);rw[h3] at this;simp at this;exact h4 this.1.symm
 obtain⟨c,r,h3,h4,h5⟩:=J l F t1 hl;obtain⟨c',r',T,a6,D⟩:=J k G t2 E;have V:∀ {a b:List Nat},Kx a->Kx b->textD a=textD b->val a=val b:=fun oa ob h=>by rw[<-Fn _ oa,<-Fn _ ob,h]
 rcases shape n l F t1 hl r1 with⟨h,rfl⟩|⟨h,rfl⟩<;>rcases shape m k G t2 E r2 with⟨H,rfl⟩|⟨H,rfl⟩
 ·have:=Iv (h.symm.trans H);simp at this;rw[<-K,<-O,V F G this]
 ·have:=Iv (h.symm.trans H);rw[T] at this;simp at this;unfold D5 at D;rw[<-this.1] at D;exact absurd D.1 (by decide)
 ·have:=Iv (h.symm.trans H);rw[h3] at this;simp at this;unfold D5 at h5;rw[this.1] at h5;exact absurd h5.1 (by decide)
 have:=Iv (h.symm.trans H);rw[<-K,<-O,V F G this]
theorem CM (s:ByteArray)(h:Ki s=true):s=Kq (45::(dgs s).data.toList):=by
 have D:dgs s=s.extract 1 s.size:=by unfold dgs;rw[if_pos h]
 unfold Ki at h;have d:(s.extract 0 1).toList=[45]:=by simpa using h
 rw[D];apply ByteArray.ext;rw[Je] at d;have j:s.data.toList.take 1=[45]:=by simpa[ByteArray.data_extract,Array.toList_extract,List.extract] using d
 have h3:(s.extract 1 s.size).data.toList=s.data.toList.drop 1:=by
  rw[Y6,Zf]
  show (s.data.toList.drop 1).take (s.size - 1)=_
  exact Jf (by rw[Jr];exact O1)
 rw[h3]
 show s.data=(45::s.data.toList.drop 1).toArray
 have h4:s.data.toList=45::s.data.toList.drop 1:=by
  conv=>lhs;rw[<-J9 1 s.data.toList,j]
  rfl
 rw[<-h4]
theorem FU (s:ByteArray)(h:Ki s=false):s=Kq (dgs s).data.toList:=by
 have d:dgs s=s:=by unfold dgs;rw[h];rfl
 rw[d];rfl
theorem Nk (s:ByteArray)(h:Ow s=true):Ec (K9 s) s:=by
 have O:=h;unfold Ow at h;simp only[Yd,Ud,Y7,Bool.not_eq_true',Jy,Zt] at h;obtain⟨⟨⟨T,U⟩,h3⟩,h4⟩:=h;have d:∀ c∈(dgs s).data.toList,D5 c:=fun c hc=>by have:=h3 c hc;unfold Ey at this;simpa[D5] using this
 have E:Kx (Rf s):=Ed _ (IE _ d);refine⟨Ki s,Rf s,E,O8 _,rfl,?_⟩
 by_cases h5:(dgs s).data.toList.head? = some 48
 ·have G:s.toList=[48]:=by
   rcases h4 with h|h
   ·exact absurd h5 h
   simpa using h
  have K:s=Kq [48]:=by
   rw[Je] at G;apply ByteArray.ext
   show s.data=[48].toArray
   rw[<-G]
  rw[K];have hl:Rf (Kq [48])=[]:=by kernel_rfl
  rw[hl];rfl
 have J:=Wp (dgs s).data.toList d h5;have H:(dgs s).data.toList.length=(dgs s).size:=by simp
 have j:Rf s≠[]:=fun e=>by
  have:textD (Rf s)=(dgs s).data.toList:=J;rw[e] at this;have V:(dgs s).data.toList.length=0:=by rw[<-this];rfl
  omega
 have D:Ko (Ki s) (Rf s)=Ki s:=by
  unfold Ko;have:0<(Rf s).length:=Zz.2 j;simp[this]
 rw[D];unfold Cb;rw[if_neg (fun e=>j (Jo e))];unfold Le;have F:textD (Rf s)=(dgs s).data.toList:=J;rw[F,if_neg (by omega)]
 cases I:Ki s
 ·exact FU s I
 exact CM s I
theorem Cs (s:ByteArray)(h:Ow s=true):s≠Kq []:=by
 rintro rfl;have:Ow (Kq [])=false:=by kernel_rfl
 rw[this] at h;cases h
theorem H9 (s t:ByteArray)(hs:Ow s=true)(ht:Ow t=true)(h:K9 s=K9 t):s=t:=(Nk s hs).eq (h ▸ Nk t ht)
def N9 (x y n d:Int):Prop:=∃ c:Int,c≠0/\x=n*c/\y=d*c/\0<d/\c.natAbs=Int.gcd x y
theorem Cg {n d n' d':Int}(h:N9 x y n d)(h':N9 x y n' d'):n=n'/\d=d':=by
 obtain⟨c,c0,I,H,p,g⟩:=h;obtain⟨j,E,F,D,O,J⟩:=h';have G:c=j:=by
  have ha:c.natAbs=j.natAbs:=by rw[g,J]
  rcases Int.natAbs_eq_natAbs_iff.1 ha with h|h
  ·exact h
  exfalso
  subst h;have:d * -j=d'*j:=H.symm.trans D;have K:(d+d')*j=0:=by grind
  rcases Int.mul_eq_zero.1 K with h3|h3
  ·omega
  exact E h3
 subst G;exact⟨U9 c0 (I.symm.trans F),U9 c0 (H.symm.trans D)⟩
theorem Qy (hy:0<y)(h:Int.gcd x y=1):N9 x y x y:=⟨1,by decide,by simp,by simp,hy,by rw[h];rfl⟩
theorem Mo:K9 (Kq [49])=1:=by kernel_rfl
theorem Wy:K9 (Kq [48])=0:=by kernel_rfl
theorem ML:Ow (Kq [49])=true:=by kernel_rfl
theorem CA (s:ByteArray)(h:0<K9 s):Ki s=false:=by
 unfold K9 at h
 cases d:Ki s
 ·rfl
 rw[d] at h;simp[sg] at h;omega
theorem ZA (s:ByteArray)(h:Ki s=false):0<=K9 s:=by
 unfold K9;rw[h];simp[sg]
theorem FQ (p q:ByteArray)(n d:Int)(hp:Ow p=true)(hq:Ow q=true)(h0:K9 q≠0)(hl:N9 (K9 p) (K9 q) n d) :
 (d≠1/\Ec n p/\Ec d q)↔(p≠Kq [48]/\q≠Kq [49]/\Ki q=false/\Int.gcd (K9 p) (K9 q)=1):=by
 constructor
 ·rintro⟨F,D,h3⟩;have G:=Ca D (Nk p hp) (Cs p hp);have H:=Ca h3 (Nk q hq) (Cs q hq);subst G H;obtain⟨c,c0,J,k2,k3,k4⟩:=hl;have I:c=1:=by
   have:K9 q*1=K9 q*c:=by rw[Int.mul_one];exact k2
   exact (Int.eq_of_mul_eq_mul_left h0 this).symm
  subst I;have E:Int.gcd (K9 p) (K9 q)=1:=by rw[<-k4];rfl
  refine⟨?_,?_,CA q k3,E⟩
  ·rintro rfl;rw[Wy] at E;have:(K9 q).natAbs=1:=by simpa using E
   omega
  rintro rfl;exact F Mo
 rintro⟨F,D,h3,h4⟩;have j:0<K9 q:=by have:=ZA q h3;omega
 obtain⟨rfl,rfl⟩:=Cg hl (Qy j h4);exact⟨fun e=>D (H9 q (Kq [49]) hq ML (by rw[Mo];exact e)),Nk p hp,Nk q hq⟩
theorem Sk (x c q r:Int)(_hc:c≠0)(h:Nf x c q r)(hd:c∣x):x=q*c:=by
 obtain⟨d,G,h3⟩:=h;obtain⟨k,D⟩:=hd;have j:r=c*(k - q):=by rw[Int.mul_sub,<-D,d,Int.mul_comm c q];omega
 have F:k - q=0:=by
  apply Classical.byContradiction;intro E;have h4:c.natAbs<=r.natAbs:=by rw[j,Oa];exact Nat.le_mul_of_pos_right _ (by omega)
  omega
 rw[j,F,Int.mul_zero] at d;omega
theorem Du (x y c n r d r':Int)(hy:y≠0)(hc:c=if y<0 then -No x y else No x y)(h1:Nf x c n r)(h2:Nf y c d r'):N9 x y n d:=by
 have G:0<Int.gcd x y:=Uz _ hy;have j:c.natAbs=Int.gcd x y:=by rw[hc];unfold No;split<;>omega
 have c0:c≠0:=by omega
 have E:c∣x:=by rw[<-Int.natAbs_dvd,j];exact Int.gcd_dvd_left x y
 have F:c∣y:=by rw[<-Int.natAbs_dvd,j];exact Int.gcd_dvd_right x y
 have ex:=Sk x c n r c0 h1 E;have ey:=Sk y c d r' c0 h2 F;refine⟨c,c0,ex,ey,?_,j⟩
 by_cases hn:y<0
 ·have D:c<0:=by rw[hc,if_pos hn];unfold No;omega
  apply Classical.byContradiction;intro h;have:0<=d*c:=Int.mul_nonneg_of_nonpos_of_nonpos (by omega) (by omega);omega
 have D:0<c:=by rw[hc,if_neg hn];unfold No;omega
 apply Classical.byContradiction;intro h;have:d*c<=0:=Int.mul_nonpos_of_nonpos_of_nonneg (by omega) (by omega);omega
end Go.Proofs.YtjjgilacnocigaaGreatDoor.Q
namespace Go.Proofs.YtjjgilacnocigaaGreatDoor.Q
open ChangeShapes WideShapes ChangeAt RowKit Proofs.Tryz
variable {B N g n:Nat}{W w:World}{s:ByteArray}{v z:Value}{x:Int}
theorem X6 (h:Below N w W)(g:Nat)(hg:N<=g)(u0 u1 u2:Value):Below N w (((W.setCell ⟨g,0,none⟩ u0).setCell ⟨g,1,none⟩ u1).setCell ⟨g,2,none⟩ u2):=
 ((h.setCell (p:=⟨g,0,none⟩) hg u0).setCell (p:=⟨g,1,none⟩) hg u1).setCell (p:=⟨g,2,none⟩) hg u2
def Nq (s:ByteArray)(k:Option Nat):Prop:=
 match k with
 | none=>∀ j:Nat,s.data.toList[j]? ≠ some 47
 | some i=>s.data.toList[i]? = some 47/\∀ j:Nat,j<i->s.data.toList[j]? ≠ some 47
def Rq (k:Option Nat):Int:=match k with|none => -1|some i=>(i:Int)
theorem E3 {k m:Option Nat}(h:Nq s k)(h':Nq s m):k=m:=by
 match k,m,h,h' with
 | none,none,_,_=>rfl
 | none,some i,h,h'=>exact absurd h'.1 (h i)
 | some i,none,h,h'=>exact absurd h.1 (h' i)
 | some i,some j,h,h'=>
   rcases Nat.lt_trichotomy i j with hl|hl|hl
   ·exact absurd h.1 (h'.2 i hl)
   ·rw[hl]
   exact absurd h'.1 (h.2 j hl)
theorem M9 (s:ByteArray):∃ k,Nq s k:=by
 have d:=Lib.indexByte_ge s.data.toList 47
 by_cases h:Lib.indexByte s.data.toList 47 = -1
 ·exact⟨none,fun j=>Lib.indexByte_none h j⟩
 obtain⟨o,D⟩:=V5 (show 0<=Lib.indexByte s.data.toList 47 by omega);exact⟨some o,Lib.indexByte_some D⟩
theorem YM {k:Option Nat}(h:Nq s k):Lib.indexByte s.data.toList 47=Rq k:=by
 have E:=Lib.indexByte_ge s.data.toList 47
 by_cases d:Lib.indexByte s.data.toList 47 = -1
 ·have:k=none:=E3 h (show Nq s none from fun j=>Lib.indexByte_none d j);rw[this,d];rfl
 obtain⟨o,D⟩:=V5 (show 0<=Lib.indexByte s.data.toList 47 by omega);have:k=some o:=E3 h (show Nq s (some o) from Lib.indexByte_some D);rw[this,D];rfl
theorem Bo {i:Nat}(h:Nq s (some i)):i<s.size:=by
 have:=h.1;rw[Y8] at this;obtain⟨hl,_⟩:=this
 simpa using hl
theorem Hw (s:ByteArray)(c:Int)(w:World) :
 Calls prog 203 #[.string s,.int .u8 c] w fun e w'=>e=.returned (.int .i64 (Lib.indexByte s.data.toList c.toNat.toUInt8))/\w'=w:=by
 go_in
 go_wp2
 rw[run_callFunc_extern func230 (by kernel_rfl) (by kernel_rfl) (by kernel_rfl) (e:=Extern.BytealgIndexByte.indexByte) (by kernel_rfl),Lib.run_indexByteString];simp only[Result.andThen];rw[Oper.upon_value]
 go_wp2
 go_ret
 exact⟨rfl,rfl⟩
theorem F5 (s:ByteArray)(k:Option Nat)(w:World)(h:Nq s k) :
 Calls prog 165 #[.string s,.string ⟨#[47]⟩] w fun e w'=>e=.returned (.int .i64 (Rq k))/\w'=w:=by
 have G:=YM h;have I:=Hd G;clear G
 cases hq:([47]==s.toList)
 ·go_in
  go_wp2_with fail
  refine (Hw s _ _).mono ?_;rintro e w' ⟨rfl,D⟩;subst D;have J:Lib.indexByte s.data.toList (Int.toNat ((((⟨#[47]⟩:ByteArray)[0]'(by decide)).toNat:Nat):Int)).toUInt8=Rq k:=I.o;rw[J]
  go_wp2
  go_ret
  exact⟨rfl,rfl⟩
 have H:Rq k=0:=by
  have F:s.toList=[47]:=(by simpa using hq:[47]=s.toList).symm;rw[Je] at F;have:k=some 0:=E3 h (show Nq s (some 0) from ⟨by rw[F];rfl,fun j hj=>by omega⟩);rw[this];rfl
 have E:=Hid.o (p:=Rq k=0) H;clear H;have d:Hid (Rq k=0):=E;clear E
 go_in
 go_wp2
 go_ret
 exact⟨by rw[d.o];rfl,rfl⟩
def Il (s:ByteArray)(k:Option Nat):ByteArray:=match k with|none=>s|some i=>s.extract 0 i
def Hp (s:ByteArray)(k:Option Nat):ByteArray:=match k with|none=>⟨#[]⟩|some i=>s.extract (i+1) s.size
theorem DZ (s:ByteArray)(k:Option Nat)(w:World)(hs:s.size<=maxLen)(h:Nq s k) :
 Calls prog 126 #[.string s,.string ⟨#[47]⟩] w fun e w'=>e=.returned (.tuple #[.string (Il s k),.string (Hp s k),.bool k.isSome])/\Up w w':=by
 have H:=Hid.o (p:=Nq s k) h;have j:Hid (Nq s k):=H;clear H h;unfold maxLen at hs
 cases k with
 | none=>
   go_in
   go_wp2_with fail
   refine (F5 s none _ j.o).mono ?_;rintro e w' ⟨rfl,d⟩;subst d;have D:Rq none = -1:=rfl;rw[D]
   go_wp2
   go_ret3
   exact⟨rfl,Jj _ _⟩
 | some i=>
   have E:=Bo j.o
   go_in
   go_wp2_with fail
   refine (F5 s (some i) _ j.o).mono ?_;rintro e w' ⟨rfl,d⟩;subst d;have D:Rq (some i)=(i:Int):=rfl;rw[D]
   go_wp2
   go_region
   go_wp2
   go_ret3
   exact⟨rfl,(Jj _ _).drew⟩
theorem MG (s:ByteArray)(k:Option Nat)(w:World)(hs:s.size<=maxLen)(h:Nq s k) :
 Calls prog 81 #[.string s,.string ⟨#[47]⟩] w fun e w'=>e=.returned (.tuple #[.string (Il s k),.string (Hp s k),.bool k.isSome])/\Up w w':=by
 have D:=Hd h;clear h
 go_in
 go_wp2_with fail
 refine (DZ s k _ hs D.o).mono ?_;rintro e w' ⟨rfl,d⟩;have j:=Hd d;clear d
 go_wp2
 go_ret3
 exact⟨rfl,j.o⟩
theorem OM (s:ByteArray)(k:Option Nat)(w:World)(hs:s.size<=maxLen)(h:Nq s k) :
 Calls prog 84 #[.string s] w fun e w'=>e=.returned (.agg #[.string (Il s k),.bool k.isSome,.string (Hp s k)])/\Up w w':=by
 have Y:=Hd h;obtain⟨p,U⟩:=O2 (Il s k);obtain⟨q,V⟩:=O2 (Hp s k);obtain⟨b,j⟩:=O2 k.isSome;have J:Hid (Il s k=p/\Hp s k=q/\k.isSome=b):=⟨U,V,j⟩;rw[U,V,j];clear h U V j;obtain⟨O,d⟩:=O2 (w.alloc (.cells #[.string ⟨#[]⟩,.bool false,.string ⟨#[]⟩] 135));have K:=Hd d;have E:Bx O w.heap.size [.string ⟨#[]⟩,.bool false,.string ⟨#[]⟩]:=by rw[<-d];exact Ox w _ _
 have F:Hid (Up w O):=by unfold Hid;rw[<-d];exact Oo _ _
 have H:Hid (∀ W,Up O W->Bx W w.heap.size [.string ⟨#[]⟩,.bool false,.string ⟨#[]⟩]):=fun W hW=>E.bl E.lt hW;clear d E
 go_in
 go_wp2_with fail
 rw[K.o];refine (MG s k _ hs Y.o).mono ?_;rintro e I ⟨rfl,D⟩;rw[J.o.1,J.o.2.1,J.o.2.2];have G:=Hd D;have j:=H.o I D;obtain⟨k0,k1,k2⟩:=j.k3;obtain⟨r0,r1,r2⟩:=j.f3;clear D j
 go_wp2
 have T:=H.o I G.o;have hZ:Bx (((I.setCell ⟨w.heap.size,0,none⟩ (.string p)).setCell ⟨w.heap.size,1,none⟩ (.bool b)).setCell ⟨w.heap.size,2,none⟩ (.string q)) w.heap.size [.string p,.bool b,.string q]:=((T.set 0 _).set 1 _).set 2 _;have Z:=X6 (F.o.trans (G.o.mono F.o.size)) w.heap.size O1 (.string p) (.bool b) (.string q);generalize ((I.setCell ⟨w.heap.size,0,none⟩ (.string p)).setCell ⟨w.heap.size,1,none⟩ (.bool b)).setCell ⟨w.heap.size,2,none⟩ (.string q)=WE at *;obtain⟨m0,m1,m2⟩:=hZ.k3;refine Jh (v:=.agg #[.string p,.bool b,.string q]) ?_ rfl ⟨rfl,Z⟩;simp[results,results84,go_sem,m0,m1,m2]
theorem Pz (s:ByteArray)(k:Option Nat)(w:World)(hs:s.size<=maxLen)(h:Nq s k) :
 Calls prog 103 #[.string s] w fun e w'=>e=.returned (.int .i64 (Rq k))/\w'=w:=by
 have J:=Hd h;clear h;unfold maxLen at hs
 go_in
 go_wp2
 go_loop [3] (fun iv=>∃ i:Nat,i<=s.size/\iv=.int .i64 (i:Nat)/\∀ j:Nat,j<i->s.data.toList[j]? ≠ some 47) (fun iv=>s.size - (intOf iv).toNat)
 case atStart=>exact⟨0,J7 _,rfl,fun j hj=>by omega⟩
 obtain⟨i,O,rfl,E⟩:=hrel;have d:=Hd E;clear E
 by_cases hl:i<s.size
 ·have F:s.data.toList[i]? = some s[i]:=by
   rw[Jl (by simpa using hl)];rfl
  by_cases D:s[i]=47
  ·have G:Hid (Rq k=(i:Int)):=by
    have:k=some i:=E3 J.o (show Nq s (some i) from ⟨by rw[F,D],d.o⟩)
    show Rq k=(i:Int)
    rw[this];rfl
   have K:(s[i].toNat:Int)=47:=by rw[D];rfl
   have z:((s[i].toNat:Int)==47)=true:=by rw[Jw];exact K
   clear F D K
   go_wp2
   go_ret
   exact⟨Kw G.o.symm,rfl⟩
  have H:Hid (∀ j:Nat,j<i+1->s.data.toList[j]? ≠ some 47):=fun j hj=>by
   by_cases I:j=i
   ·subst I;rw[F];exact fun e=>D (Option.some.inj e)
   exact d.o j (by omega)
  have z:((s[i].toNat:Int)==47)=false:=by
   rw[Jd];intro e;exact D (UInt8.toNat_inj.1 (by have e2:(47:UInt8).toNat=47:=rfl;omega))
  clear F D
  go_wp2
  go_round
  case rel=>exact⟨i+1,by omega,by go_num,H.o⟩
  simp[intOf];omega
 have G:Hid (Rq k = -1):=by
  have:k=none:=E3 J.o (show Nq s none from fun j=>by
   by_cases hj:j<i
   ·exact d.o j hj
   rw[Yv (by simp;omega)];simp)
  show Rq k = -1
  rw[this];rfl
 go_wp2
 go_ret
 exact⟨Kw G.o.symm,rfl⟩
theorem Ep {l:List Value}(h:Bx W g l)(hl:∀ v∈l,∀ x,v≠.int .u32 x):Kh W g:=fun i x=>by
 rw[h.cell i]
 intro e
 exact hl _ (Ug e) x rfl
theorem Kn.put2 {l:List Nat}(h:Kn B W v l)(n:Kh W g)(u0 u1:Value):Kn B ((W.setCell ⟨g,0,none⟩ u0).setCell ⟨g,1,none⟩ u1) v l:=
 h.keeps n n (K0.setCell (K0.setCell (K0.refl g g W) ⟨g,0,none⟩ u0 (Or.inl rfl)) ⟨g,1,none⟩ u1 (Or.inl rfl))
theorem NO (h:Below N w W)(g:Nat)(hg:N<=g)(u0 u1:Value):Below N w ((W.setCell ⟨g,0,none⟩ u0).setCell ⟨g,1,none⟩ u1):=
 (h.setCell (p:=⟨g,0,none⟩) hg u0).setCell (p:=⟨g,1,none⟩) hg u1
theorem Re (n:Nat)(w:World)(hn:n<18446744073709551616) :
 Calls prog 130 #[.int .u64 (n:Nat)] w fun e w'=>∃ z,e=.returned z/\N8 w.heap.size w' z (n:Nat) 3/\Up w w':=by
 obtain⟨K,d⟩:=O2 (w.alloc (.cells #[.bool false,.slice none 0 0] 85));have a6:=Hd d;have F:Bx K w.heap.size [.bool false,.slice none 0 0]:=by rw[<-d];exact Ox w _ _
 have j:Hid (Up w K):=by unfold Hid;rw[<-d];exact Oo _ _
 have I:Hid (∀ W,Up K W->Bx W w.heap.size [.bool false,.slice none 0 0]):=fun W hW=>F.bl F.lt hW;clear d F
 go_in
 go_wp2_with fail
 rw[a6.o];refine (Q5 n _ hn).mono ?_;rintro e w1 ⟨v,t,rfl,hv,ht,V,U,O⟩;have HV:=Hd hv;have H:=Hd O;have Z:Hid (Oq t/\val t=n/\t.length<=3):=⟨ht,V,U⟩;obtain⟨pv,cv,b5,_⟩:=hv;subst b5;clear ht V U O
 go_wp2_with fail
 refine (K4 K.heap.size false _ t _ HV.o).mono ?_;rintro e Y ⟨v',rfl,hcut,E⟩;have J:Hid (Kn K.heap.size Y v' t):=by
  have h:=hcut _ _ (HV.o.bl E);rw[P1 t Z.o.1] at h;exact h
 have D:=Hd (H.o.trans (E.mono H.o.size));have e1:Ko false (Ov t)=false:=by unfold Ko;rfl
 rw[e1];have hb:=I.o Y D.o;obtain⟨k0,k1⟩:=hb.k2;obtain⟨r0,r1⟩:=hb.f2;obtain⟨G,c2,b4,_⟩:=J.o;subst b4;clear hcut E hb e1
 go_wp2
 have T:=I.o Y D.o;have b3:=Ep T (by simp);have a7:=(J.o.mono j.o.size).put2 b3 (.bool false) (.slice G t.length c2);have hZ:Bx ((Y.setCell ⟨w.heap.size,0,none⟩ (.bool false)).setCell ⟨w.heap.size,1,none⟩ (.slice G t.length c2)) w.heap.size [.bool false,.slice G t.length c2]:=(T.set 0 _).set 1 _;have hE:=NO (j.o.trans (D.o.mono j.o.size)) w.heap.size O1 (.bool false) (.slice G t.length c2);generalize (Y.setCell ⟨w.heap.size,0,none⟩ (.bool false)).setCell ⟨w.heap.size,1,none⟩ (.slice G t.length c2)=WE at *;obtain⟨m0,m1⟩:=hZ.k2;refine Jh (v:=.agg #[.bool false,.slice G t.length c2]) ?_ rfl ⟨_,rfl,⟨false,_,t,by unfold Ko;rfl,a7,Z.o.1,by rw[Z.o.2.1];rfl,Z.o.2.2⟩,hE⟩;simp[results,results130,go_sem,m0,m1]
def Ip (B:Nat)(w:World)(z:Value)(x y:Int)(n:Nat):Prop:=∃ s1 v1 s2 v2,z=.agg #[.bool s1,v1,.bool s2,v2]/\N8 B w (.agg #[.bool s1,v1]) x n/\N8 B w (.agg #[.bool s2,v2]) y n
theorem Ip.bl {w':World}{y:Int}(h:Ip B w z x y n)(hb:Up w w'):Ip B w' z x y n:=by
 obtain⟨D,F,E,v2,e,d,j⟩:=h;exact⟨D,F,E,v2,e,d.bl hb,j.bl hb⟩
theorem N8.parts {s:Bool}(h:N8 B w (.agg #[.bool s,v]) x n):∃ neg t,s=Ko neg t/\Kn B w v t/\Oq t/\sg neg (val t)=x/\t.length<=n:=by
 obtain⟨neg,D,t,e,d,j,h3,h4⟩:=h;simp only[Value.agg.injEq,Array.mk.injEq,List.cons.injEq,Value.bool.injEq,and_true] at e;obtain⟨rfl,rfl⟩:=e;exact⟨neg,t,rfl,d,j,h3,h4⟩
theorem QX (x y:Int):(Nc x y==0)=decide (x=y):=by
 unfold Nc
 split
 ·rename_i h;have:x≠y:=by omega
  simp[this]
 split
 ·rename_i h;have:x≠y:=by omega
  simp[this]
 rename_i h1 h2;have:x=y:=by omega
 simp[this]
theorem ZO (B:Nat)(z:Value)(x y:Int)(n:Nat)(w:World)(hBw:B<=w.heap.size)(h:Ip B w z x y n)(hSP:SP w) :
 Calls prog 134 #[z] w fun e w'=>e=.returned (.bool (decide (y=1)))/\Up w w':=by
 obtain⟨s1,v1,s2,v2,rfl,h1,h2⟩:=h;obtain⟨n1,t1,rfl,b7,_,_,_⟩:=h1.parts;obtain⟨Y,t2,rfl,J,Z,e2,_⟩:=h2.parts;have a8:=Hd J;have b4:=Hd hSP;have a7:=Hd hBw;have HT:Hid (Oq t2/\sg Y (val t2)=y):=⟨Z,e2⟩;obtain⟨p1,c1,rfl,_,_,o1,_⟩:=b7;obtain⟨p2,c2,rfl,_,_,o2,_⟩:=J;have HO:Hid (Kx t2):=o2;clear hSP hBw Z e2 h1 h2 o1 o2;obtain⟨F,E⟩:=O2 (w.alloc (.cells #[.bool (Ko n1 t1),.slice p1 t1.length c1,.bool (Ko Y t2),.slice p2 t2.length c2] 89));have b5:=Hd E;have G:Bx F w.heap.size [.bool (Ko n1 t1),.slice p1 t1.length c1,.bool (Ko Y t2),.slice p2 t2.length c2]:=by rw[<-E];exact Ox w _ _
 have d:Hid (Up w F):=by unfold Hid;rw[<-E];exact Oo _ _
 have I:Hid (∀ W,Up F W->Bx W w.heap.size [.bool (Ko n1 t1),.slice p1 t1.length c1,.bool (Ko Y t2),.slice p2 t2.length c2]):=fun W hW=>G.bl G.lt hW;clear E G
 go_in
 go_upto_region 1 with fail
 rw[b5.o];have j:=I.o F (Jj _ _);obtain⟨k0,k1,k2,k3⟩:=j.k4;clear j
 go_region_with (first
  | (go_at_call 130
     refine (Re 1 _ (by decide)).mono ?_;rintro e w1 ⟨z,rfl,hz,K⟩;have D:Hid (Up F w1):=(Jj _ F).drew.trans K;obtain⟨nz,vz,H,rfl,T,U,V,_⟩:=hz;have HZ:Hid (Kn F.heap.size w1 vz H/\Oq H/\sg nz (val H)=1):=⟨T,U,V⟩;obtain⟨pz,cz,rfl,_,_,oz,_⟩:=T;have b3:Hid (Kx H):=oz;have j:=I.o w1 D.o;have j2:=j.cell 2;have j3:=j.cell 3;simp only[J6,Yk] at j2 j3;clear U V K oz j)
  | (go_at_call 95
     refine (Fw B _ _ _ _ t2 H _ (a8.o.bl (d.o.trans (D.o.mono d.o.size))) (HZ.o.1.mono (by have:=a7.o;have:=d.o.size;omega)) (b4.o.bl (d.o.trans (D.o.mono d.o.size)))).mono ?_;rintro e w2 ⟨rfl,O⟩;have a6:Hid (Up w w2):=d.o.trans ((D.o.trans (O.mono D.o.size)).mono d.o.size);rw[Ri Y nz t2 H HO.o b3.o HT.o.1 HZ.o.2.1,HT.o.2,HZ.o.2.2];clear O))
 all_goals
  try simp only[Yg,Yb,J0,Act.put,Ja,Jb,Jc]
  go_wp2
  go_ret
  exact⟨O7 (QX y 1),a6.o⟩
theorem N8.put2 (h:N8 B W z x n)(no:Kh W g)(u0 u1:Value):N8 B ((W.setCell ⟨g,0,none⟩ u0).setCell ⟨g,1,none⟩ u1) z x n:=by
 obtain⟨neg,v,t,e,d,j,h3,h4⟩:=h;exact⟨neg,v,t,e,d.put2 no u0 u1,j,h3,h4⟩
theorem Kn.put4 {l:List Nat}(h:Kn B W v l)(n:Kh W g)(u0 u1 u2 u3:Value):Kn B ((((W.setCell ⟨g,0,none⟩ u0).setCell ⟨g,1,none⟩ u1).setCell ⟨g,2,none⟩ u2).setCell ⟨g,3,none⟩ u3) v l:=
 h.keeps n n (K0.setCell (K0.setCell (K0.setCell (K0.setCell (K0.refl g g W) ⟨g,0,none⟩ u0 (Or.inl rfl)) ⟨g,1,none⟩ u1 (Or.inl rfl)) ⟨g,2,none⟩ u2 (Or.inl rfl)) ⟨g,3,none⟩ u3 (Or.inl rfl))
theorem N8.put4 (h:N8 B W z x n)(no:Kh W g)(u0 u1 u2 u3:Value):N8 B ((((W.setCell ⟨g,0,none⟩ u0).setCell ⟨g,1,none⟩ u1).setCell ⟨g,2,none⟩ u2).setCell ⟨g,3,none⟩ u3) z x n:=by
 obtain⟨neg,v,t,e,d,j,h3,h4⟩:=h;exact⟨neg,v,t,e,d.put4 no u0 u1 u2 u3,j,h3,h4⟩
theorem RK (h:Below N w W)(g:Nat)(hg:N<=g)(u0 u1 u2 u3:Value):Below N w ((((W.setCell ⟨g,0,none⟩ u0).setCell ⟨g,1,none⟩ u1).setCell ⟨g,2,none⟩ u2).setCell ⟨g,3,none⟩ u3):=
 (NO h g hg u0 u1).setCell (p:=⟨g,2,none⟩) hg u2 |>.setCell (p:=⟨g,3,none⟩) hg u3
theorem Bx.put2 {a b:Value}(h:Bx W g [a,b])(u0 u1:Value):Bx ((W.setCell ⟨g,0,none⟩ u0).setCell ⟨g,1,none⟩ u1) g [u0,u1]:=(h.set 0 u0).set 1 u1
theorem Bx.off2 {l:List Value}(h:Bx W g l){k:Nat}(hk:k≠g)(u0 u1:Value):Bx ((W.setCell ⟨k,0,none⟩ u0).setCell ⟨k,1,none⟩ u1) g l:=(h.other ⟨k,0,none⟩ hk u0).other ⟨k,1,none⟩ hk u1
structure BxM (h hc:Nat)(W:World)(s1:Bool)(v1:Value)(s2:Bool)(v2:Value)(s3:Bool)(v3:Value):Prop where
 a:Bx W h [.bool s1,v1]
 b:Bx W (h+1) [.bool s2,v2]
 r:Bx W (h+1+1) [.bool false,.slice none 0 0,.bool false,.slice none 0 0]
 c:Bx W hc [.bool s3,v3]
theorem BxM.bl {h hc:Nat}{W':World}{s1 s2 s3:Bool}{v1 v2 v3:Value}(m:BxM h hc W s1 v1 s2 v2 s3 v3)(hN:h+3<=N)(hc':hc<N)(hb:Below N W W'):BxM h hc W' s1 v1 s2 v2 s3 v3:=
 ⟨m.a.bl (by omega) hb,m.b.bl (by omega) hb,m.r.bl (by omega) hb,m.c.bl hc' hb⟩
theorem BxM.cells {h hc:Nat}{s1 s2 s3:Bool}{v1 v2 v3:Value}(m:BxM h hc W s1 v1 s2 v2 s3 v3) :
 (W.cell? ⟨h,0,none⟩=some (.bool s1)/\W.cell? ⟨h,1,none⟩=some v1/\∀ i,W.frozen? ⟨h,i,none⟩=false)/\(W.cell? ⟨h+1,0,none⟩=some (.bool s2)/\W.cell? ⟨h+1,1,none⟩=some v2/\∀ i,W.frozen? ⟨h+1,i,none⟩=false) /\
 (W.cell? ⟨hc,0,none⟩=some (.bool s3)/\W.cell? ⟨hc,1,none⟩=some v3/\∀ i,W.frozen? ⟨hc,i,none⟩=false):=
 ⟨⟨m.a.cell 0,m.a.cell 1,m.a.frozen⟩,⟨m.b.cell 0,m.b.cell 1,m.b.frozen⟩,⟨m.c.cell 0,m.c.cell 1,m.c.frozen⟩⟩
theorem Bt {s:Bool}{p:Option Addr}{l c:Nat}(h:Bx W g [.bool s,.slice p l c]):Kh W g:=Ep h (by simp)
theorem BR (neg:Bool)(t:List Nat)(y:Int)(ht:Oq t)(h:sg neg (val t)=y):Ko neg t=decide (y<0):=by
 unfold Ko
 by_cases hl:t=[]
 ·subst hl;have:y=0:=by rw[<-h];cases neg<;>simp[sg,val]
  subst this;simp
 have j:=Gp t ht hl;have d:0<t.length:=Zz.2 hl
 cases neg
 ·have:¬ y<0:=by rw[<-h];simp[sg]
  simp[this]
 have:y<0:=by rw[<-h];simp[sg];omega
 simp[this,d]
theorem Fu (B:Nat)(za zb:Value)(x y:Int)(n:Nat)(w:World)(hBw:B<=w.heap.size)(ha:N8 B w za x n)(hb:N8 B w zb y n)(hy:y≠0)(hn:n<=80000)(hSP:SP w)(hNS:NS w) :
 Calls prog 88 #[za,zb] w fun e w'=>∃ z p q,e=.returned z/\Ip B w' z p q (n+3)/\N9 x y p q/\Up w w':=by
 obtain⟨s1,p1,l1,c1,rfl⟩:=ha.shape;obtain⟨s2,p2,l2,c2,rfl⟩:=hb.shape;have n3:s2=decide (y<0):=by
  obtain⟨neg,t,e,_,ht,hv,_⟩:=hb.parts;rw[e];exact BR neg t y ht hv
 have m5:=Hd n3;clear n3;have HA:=Hd ha;have HB:=Hd hb;have e8:=Hd hSP;have o4:=Hd hNS;have d8:=Hd hBw;have HC:Hid (∀ c,c=(if y<0 then -No x y else No x y)->c≠0):=fun c e=>by
  have hg:0<Int.gcd x y:=Uz _ hy;rw[e];unfold No;split<;>omega
 have f8:Hid (∀ c q r d r',c=(if y<0 then -No x y else No x y)->Nf x c q r->Nf y c d r'->N9 x y q d):=fun c q r d r' e h1 h2=>Du x y c q r d r' hy e h1 h2;clear ha hb hSP hNS hBw;obtain⟨W0,b7⟩:=O2 (((w.alloc (.cells #[.bool s1,.slice p1 l1 c1] 85)).alloc (.cells #[.bool s2,.slice p2 l2 c2] 85)).alloc (.cells #[.bool false,.slice none 0 0,.bool false,.slice none 0 0] 89));have o5:=Hd b7;have n2:W0.heap.size=w.heap.size+3:=by rw[<-b7];simp
 have l9:=Hd n2;have e7:Hid (Up w W0):=by
  unfold Hid
  rw[<-b7];exact Ou (Ou (Oo _ _) _) _
 have n4:Bx W0 w.heap.size [.bool s1,.slice p1 l1 c1]:=by rw[<-b7];exact ((Ox w _ _).alloc _).alloc _
 have n5:Bx W0 (w.heap.size+1) [.bool s2,.slice p2 l2 c2]:=by
  rw[<-b7];have h:=Ox (w.alloc (.cells #[.bool s1,.slice p1 l1 c1] 85)) [.bool s2,.slice p2 l2 c2] 85;rw[J4] at h;exact h.alloc _
 have n6:Bx W0 (w.heap.size+1+1) [.bool false,.slice none 0 0,.bool false,.slice none 0 0]:=by
  rw[<-b7];have h:=Ox ((w.alloc (.cells #[.bool s1,.slice p1 l1 c1] 85)).alloc (.cells #[.bool s2,.slice p2 l2 c2] 85)) [.bool false,.slice none 0 0,.bool false,.slice none 0 0] 89;rw[J4,J4] at h;exact h
 have HX:Hid (Bx W0 w.heap.size [.bool s1,.slice p1 l1 c1]/\Bx W0 (w.heap.size+1) [.bool s2,.slice p2 l2 c2]/\Bx W0 (w.heap.size+1+1) [.bool false,.slice none 0 0,.bool false,.slice none 0 0]):=⟨n4,n5,n6⟩;clear b7 n2 n4 n5 n6
 go_in
 go_wp2_with fail
 rw[o5.o];refine (Ds B _ _ x y n _ (by have:=d8.o;have:=l9.o;omega) (HA.o.bl e7.o) (HB.o.bl e7.o) (by omega) (o4.o.bl e7.o)).mono ?_;rintro e O ⟨z,rfl,hz,f7⟩;obtain⟨s3,p3,l3,c3,rfl⟩:=hz.shape;obtain⟨W1,f5⟩:=O2 (O.alloc (.cells #[.bool s3,.slice p3 l3 c3] 85));have m6:=Hd f5;have e2:Up O W1:=by rw[<-f5];exact Oo _ _
 have j3:Bx W1 O.heap.size [.bool s3,.slice p3 l3 c3]:=by rw[<-f5];exact Ox O _ _
 have b4:Up W0 W1:=f7.trans (e2.mono f7.size);have HM:Hid (BxM w.heap.size O.heap.size W1 s1 (.slice p1 l1 c1) s2 (.slice p2 l2 c2) s3 (.slice p3 l3 c3)):=⟨HX.o.1.bl HX.o.1.lt b4,HX.o.2.1.bl HX.o.2.1.lt b4,HX.o.2.2.bl HX.o.2.2.lt b4,j3⟩;have HZ:Hid (N8 B W1 (.agg #[.bool s3,.slice p3 l3 c3]) (No x y) n):=hz.bl e2;have b5:=e7.up b4;have u0:w.heap.size+3<=O.heap.size:=by have:=l9.o;have:=f7.size;omega
 have t8:O.heap.size<W1.heap.size:=j3.lt;clear hz f7 f5 e2 j3 b4
 cases s2
 case' _=>
  have b6:Hid (No x y=if y<0 then -No x y else No x y):=by
   have h:¬ y<0:=by simpa using m5.o
   show No x y=if y<0 then -No x y else No x y
   rw[if_neg h]
  have k0:=HM.o.b.cell 0;simp only[J6] at k0
  go_upto_region 2 with fail
  rw[m6.o];clear k0;have m1:=HM.o.cells;obtain⟨⟨a0,a1,af⟩,⟨b0,b1,bf⟩,⟨q0,q1,qf⟩⟩:=m1
  go_upto_region 5 with fail
  go_wp2_with fail
  refine (Ht B _ _ x (No x y) n n _ (by have:=d8.o;have:=b5.o.size;omega) (HA.o.bl b5.o) HZ.o (HC.o _ b6.o) (by omega) (by omega) (e8.o.bl b5.o)).mono ?_;rintro e w5 ⟨z1,z2,qn,qr,rfl,b8,e4,V,a6⟩;obtain⟨j,E,D,c5,rfl⟩:=b8.shape;obtain⟨s6,p6,l6,c6,rfl⟩:=e4.shape;have h6:=Hd V;have F:=Hd (HM.o.bl (N:=W1.heap.size) (by omega) (by omega) a6);have i7:=Hd b8;have g9:=Hd (HZ.o.bl a6);have d7:=Hd (b5.o.trans (a6.mono b5.o.size));have q7:O.heap.size<w5.heap.size:=F.o.c.lt;clear b8 e4 V a6 a0 a1 af b0 b1 bf q0 q1 qf;obtain⟨⟨a0,a1,af⟩,⟨b0,b1,bf⟩,⟨q0,q1,qf⟩⟩:=F.o.cells;have j0:=af 0;have j1:=af 1;clear af bf qf;have a8:=Bt F.o.a;obtain⟨W6,G⟩:=O2 ((w5.setCell ⟨w.heap.size,0,none⟩ (.bool j)).setCell ⟨w.heap.size,1,none⟩ (.slice E D c5));have i6:=Hd G;have i8:Hid (N8 B W6 (.agg #[.bool j,.slice E D c5]) qn (n+2)):=by have h:=i7.o.put2 a8 (.bool j) (.slice E D c5);rw[G] at h;exact h
  have h0:Hid (N8 B W6 (.agg #[.bool s3,.slice p3 l3 c3]) (No x y) n):=by have h:=g9.o.put2 a8 (.bool j) (.slice E D c5);rw[G] at h;exact h
  have h7:Hid (N8 B W6 (.agg #[.bool false,.slice p2 l2 c2]) y n):=by have h:=(HB.o.bl d7.o).put2 a8 (.bool j) (.slice E D c5);rw[G] at h;exact h
  have Z:Hid (Up w W6):=by have h:=NO d7.o w.heap.size O1 (.bool j) (.slice E D c5);rw[G] at h;exact h
  have d9:Hid (BxM w.heap.size O.heap.size W6 j (.slice E D c5) false (.slice p2 l2 c2) s3 (.slice p3 l3 c3)):=by
   have h1:=F.o.a.put2 (.bool j) (.slice E D c5);have h2:=F.o.b.off2 (k:=w.heap.size) (by omega) (.bool j) (.slice E D c5);have h3:=F.o.r.off2 (k:=w.heap.size) (by omega) (.bool j) (.slice E D c5);have h4:=F.o.c.off2 (k:=w.heap.size) (by omega) (.bool j) (.slice E D c5);rw[G] at h1 h2 h3 h4;exact⟨h1,h2,h3,h4⟩
  have q8:O.heap.size<W6.heap.size:=d9.o.c.lt;clear G a8
  go_upto_region 6 with fail
  go_wp2_with fail
  rw[i6.o];refine (Ht B _ _ y (No x y) n n _ (by have:=d8.o;have:=Z.o.size;omega) h7.o h0.o (HC.o _ b6.o) (by omega) (by omega) (e8.o.bl Z.o)).mono ?_;rintro e w7 ⟨z3,z4,dn,dr,rfl,b9,b3,V,a7⟩;obtain⟨H,K,J,I,rfl⟩:=b9.shape;obtain⟨s8,p8,l8,c8,rfl⟩:=b3.shape;have k9:=Hd (f8.o _ _ _ _ _ b6.o h6.o V);have T:=Hd (d9.o.bl (N:=W6.heap.size) (by omega) (by omega) a7);have i1:=Hd (i8.o.bl a7);have h8:=Hd b9;have g8:=Hd (Z.o.trans (a7.mono Z.o.size));clear b9 b3 V a7 a0 a1 b0 b1 q0 q1 j0 j1;have d1:=Bt T.o.b;obtain⟨W8,U⟩:=O2 ((w7.setCell ⟨w.heap.size+1,0,none⟩ (.bool H)).setCell ⟨w.heap.size+1,1,none⟩ (.slice K J I));have m7:=Hd U;have l0:Hid (N8 B W8 (.agg #[.bool j,.slice E D c5]) qn (n+2)):=by have h:=i1.o.put2 d1 (.bool H) (.slice K J I);rw[U] at h;exact h
  have k8:Hid (N8 B W8 (.agg #[.bool H,.slice K J I]) dn (n+2)):=by have h:=h8.o.put2 d1 (.bool H) (.slice K J I);rw[U] at h;exact h
  have k5:Hid (Up w W8):=by have h:=NO g8.o (w.heap.size+1) (Ze _) (.bool H) (.slice K J I);rw[U] at h;exact h
  have d0:Hid (BxM w.heap.size O.heap.size W8 j (.slice E D c5) H (.slice K J I) s3 (.slice p3 l3 c3)):=by
   have h1:=T.o.a.off2 (k:=w.heap.size+1) (by omega) (.bool H) (.slice K J I);have h2:=T.o.b.put2 (.bool H) (.slice K J I);have h3:=T.o.r.off2 (k:=w.heap.size+1) (by omega) (.bool H) (.slice K J I);have h4:=T.o.c.off2 (k:=w.heap.size+1) (by omega) (.bool H) (.slice K J I);rw[U] at h1 h2 h3 h4;exact⟨h1,h2,h3,h4⟩
 rotate_left
 case' _=>
  have b6:Hid (-No x y=if y<0 then -No x y else No x y):=by
   have h:y<0:=by simpa using m5.o
   show -No x y=if y<0 then -No x y else No x y
   rw[if_pos h]
  have k0:=HM.o.b.cell 0;simp only[J6] at k0;obtain⟨_,_,⟨q0,q1,_⟩⟩:=HM.o.cells
  go_upto_region 2 with fail
  rw[m6.o]
  go_wp2_with fail
  refine (ZL B _ _ n _ HZ.o).mono ?_;rintro e w2 ⟨z4,rfl,b3,j2⟩;obtain⟨s4,p4,l4,c4,rfl⟩:=b3.shape;have Y:=HM.o.bl (N:=W1.heap.size) (by omega) (by omega) j2;have n0:=Bt Y.c;obtain⟨W2,e3⟩:=O2 ((w2.setCell ⟨O.heap.size,0,none⟩ (.bool s4)).setCell ⟨O.heap.size,1,none⟩ (.slice p4 l4 c4));have o6:=Hd e3;have m8:Hid (N8 B W2 (.agg #[.bool s4,.slice p4 l4 c4]) (-No x y) n):=by have h:=b3.put2 n0 (.bool s4) (.slice p4 l4 c4);rw[e3] at h;exact h
  have d6:Hid (Up w W2):=by have h:=NO (b5.o.trans (j2.mono b5.o.size)) O.heap.size (by omega) (.bool s4) (.slice p4 l4 c4);rw[e3] at h;exact h
  have h9:Hid (BxM w.heap.size O.heap.size W2 s1 (.slice p1 l1 c1) true (.slice p2 l2 c2) s4 (.slice p4 l4 c4)):=by
   have h1:=Y.a.off2 (k:=O.heap.size) (by omega) (.bool s4) (.slice p4 l4 c4);have h2:=Y.b.off2 (k:=O.heap.size) (by omega) (.bool s4) (.slice p4 l4 c4);have h3:=Y.r.off2 (k:=O.heap.size) (by omega) (.bool s4) (.slice p4 l4 c4);have h4:=Y.c.put2 (.bool s4) (.slice p4 l4 c4);rw[e3] at h1 h2 h3 h4;exact⟨h1,h2,h3,h4⟩
  have r5:O.heap.size<W2.heap.size:=h9.o.c.lt;have k7:Hid (w2.frozen? ⟨O.heap.size,0,none⟩=false/\w2.frozen? ⟨O.heap.size,1,none⟩=false/\w2.cell? ⟨O.heap.size,0,none⟩=some (.bool s3)/\w2.cell? ⟨O.heap.size,1,none⟩=some (.slice p3 l3 c3)):=⟨Y.c.frozen 0,Y.c.frozen 1,Y.c.cell 0,Y.c.cell 1⟩;obtain⟨g0,g1,g2,g3⟩:=k7.o;clear b3 j2 Y n0 e3 k0 q0 q1 k7
  go_upto_region 4 with fail
  rw[o6.o];clear g0 g1 g2 g3;have m1:=h9.o.cells;obtain⟨⟨a0,a1,af⟩,⟨b0,b1,bf⟩,⟨q0,q1,qf⟩⟩:=m1
  go_upto_region 5 with fail
  go_wp2_with fail
  refine (Ht B _ _ x (-No x y) n n _ (by have:=d8.o;have:=d6.o.size;omega) (HA.o.bl d6.o) m8.o (HC.o _ b6.o) (by omega) (by omega) (e8.o.bl d6.o)).mono ?_;rintro e w5 ⟨z1,z2,qn,qr,rfl,b8,e4,V,a6⟩;obtain⟨j,E,D,c5,rfl⟩:=b8.shape;obtain⟨s6,p6,l6,c6,rfl⟩:=e4.shape;have h6:=Hd V;have F:=Hd (h9.o.bl (N:=W2.heap.size) (by omega) (by omega) a6);have i7:=Hd b8;have g9:=Hd (m8.o.bl a6);have d7:=Hd (d6.o.trans (a6.mono d6.o.size));have q7:O.heap.size<w5.heap.size:=F.o.c.lt;clear b8 e4 V a6 a0 a1 af b0 b1 bf q0 q1 qf;obtain⟨⟨a0,a1,af⟩,⟨b0,b1,bf⟩,⟨q0,q1,qf⟩⟩:=F.o.cells;have j0:=af 0;have j1:=af 1;clear af bf qf;have a8:=Bt F.o.a;obtain⟨W6,G⟩:=O2 ((w5.setCell ⟨w.heap.size,0,none⟩ (.bool j)).setCell ⟨w.heap.size,1,none⟩ (.slice E D c5));have i6:=Hd G;have i8:Hid (N8 B W6 (.agg #[.bool j,.slice E D c5]) qn (n+2)):=by have h:=i7.o.put2 a8 (.bool j) (.slice E D c5);rw[G] at h;exact h
  have h0:Hid (N8 B W6 (.agg #[.bool s4,.slice p4 l4 c4]) (-No x y) n):=by have h:=g9.o.put2 a8 (.bool j) (.slice E D c5);rw[G] at h;exact h
  have h7:Hid (N8 B W6 (.agg #[.bool true,.slice p2 l2 c2]) y n):=by have h:=(HB.o.bl d7.o).put2 a8 (.bool j) (.slice E D c5);rw[G] at h;exact h
  have Z:Hid (Up w W6):=by have h:=NO d7.o w.heap.size O1 (.bool j) (.slice E D c5);rw[G] at h;exact h
  have d9:Hid (BxM w.heap.size O.heap.size W6 j (.slice E D c5) true (.slice p2 l2 c2) s4 (.slice p4 l4 c4)):=by
   have h1:=F.o.a.put2 (.bool j) (.slice E D c5);have h2:=F.o.b.off2 (k:=w.heap.size) (by omega) (.bool j) (.slice E D c5);have h3:=F.o.r.off2 (k:=w.heap.size) (by omega) (.bool j) (.slice E D c5);have h4:=F.o.c.off2 (k:=w.heap.size) (by omega) (.bool j) (.slice E D c5);rw[G] at h1 h2 h3 h4;exact⟨h1,h2,h3,h4⟩
  have q8:O.heap.size<W6.heap.size:=d9.o.c.lt;clear G a8
  go_upto_region 6 with fail
  go_wp2_with fail
  rw[i6.o];refine (Ht B _ _ y (-No x y) n n _ (by have:=d8.o;have:=Z.o.size;omega) h7.o h0.o (HC.o _ b6.o) (by omega) (by omega) (e8.o.bl Z.o)).mono ?_;rintro e w7 ⟨z3,z4,dn,dr,rfl,b9,b3,V,a7⟩;obtain⟨H,K,J,I,rfl⟩:=b9.shape;obtain⟨s8,p8,l8,c8,rfl⟩:=b3.shape;have k9:=Hd (f8.o _ _ _ _ _ b6.o h6.o V);have T:=Hd (d9.o.bl (N:=W6.heap.size) (by omega) (by omega) a7);have i1:=Hd (i8.o.bl a7);have h8:=Hd b9;have g8:=Hd (Z.o.trans (a7.mono Z.o.size));clear b9 b3 V a7 a0 a1 b0 b1 q0 q1 j0 j1;have d1:=Bt T.o.b;obtain⟨W8,U⟩:=O2 ((w7.setCell ⟨w.heap.size+1,0,none⟩ (.bool H)).setCell ⟨w.heap.size+1,1,none⟩ (.slice K J I));have m7:=Hd U;have l0:Hid (N8 B W8 (.agg #[.bool j,.slice E D c5]) qn (n+2)):=by have h:=i1.o.put2 d1 (.bool H) (.slice K J I);rw[U] at h;exact h
  have k8:Hid (N8 B W8 (.agg #[.bool H,.slice K J I]) dn (n+2)):=by have h:=h8.o.put2 d1 (.bool H) (.slice K J I);rw[U] at h;exact h
  have k5:Hid (Up w W8):=by have h:=NO g8.o (w.heap.size+1) (Ze _) (.bool H) (.slice K J I);rw[U] at h;exact h
  have d0:Hid (BxM w.heap.size O.heap.size W8 j (.slice E D c5) H (.slice K J I) s4 (.slice p4 l4 c4)):=by
   have h1:=T.o.a.off2 (k:=w.heap.size+1) (by omega) (.bool H) (.slice K J I);have h2:=T.o.b.put2 (.bool H) (.slice K J I);have h3:=T.o.r.off2 (k:=w.heap.size+1) (by omega) (.bool H) (.slice K J I);have h4:=T.o.c.off2 (k:=w.heap.size+1) (by omega) (.bool H) (.slice K J I);rw[U] at h1 h2 h3 h4;exact⟨h1,h2,h3,h4⟩
 rotate_left
 all_goals
  clear U d1;obtain⟨_,⟨b0,b1,bf⟩,_⟩:=T.o.cells;have o8:=bf 0;have o9:=bf 1;clear bf
  go_upto_region 6 with fail
  rw[m7.o];clear b0 b1 o8 o9;obtain⟨⟨a0,a1,_⟩,⟨b0,b1,_⟩,_⟩:=d0.o.cells;obtain⟨r0,r1,r2,r3⟩:=d0.o.r.k4;obtain⟨f0,f1,f2,f3⟩:=d0.o.r.f4
  go_wp2
  have n1:Kh W8 (w.heap.size+1+1):=Ep d0.o.r (by simp);have q6:=l0.o.put4 n1 (.bool j) (.slice E D c5) (.bool H) (.slice K J I);have p9:=k8.o.put4 n1 (.bool j) (.slice E D c5) (.bool H) (.slice K J I);have p0:=RK k5.o (w.heap.size+1+1) (by omega) (.bool j) (.slice E D c5) (.bool H) (.slice K J I);have hZ:Bx ((((W8.setCell ⟨w.heap.size+1+1,0,none⟩ (.bool j)).setCell ⟨w.heap.size+1+1,1,none⟩ (.slice E D c5)).setCell ⟨w.heap.size+1+1,2,none⟩ (.bool H)).setCell ⟨w.heap.size+1+1,3,none⟩ (.slice K J I)) (w.heap.size+1+1) [.bool j,.slice E D c5,.bool H,.slice K J I]:=(((d0.o.r.set 0 _).set 1 _).set 2 _).set 3 _;generalize (((W8.setCell ⟨w.heap.size+1+1,0,none⟩ (.bool j)).setCell ⟨w.heap.size+1+1,1,none⟩ (.slice E D c5)).setCell ⟨w.heap.size+1+1,2,none⟩ (.bool H)).setCell ⟨w.heap.size+1+1,3,none⟩ (.slice K J I)=W9 at *;obtain⟨m0,m1,m2,m3⟩:=hZ.k4;refine Jh (v:=.agg #[.bool j,.slice E D c5,.bool H,.slice K J I]) ?_ rfl ⟨_,qn,dn,rfl,⟨j,_,H,_,rfl,q6.mono O1 (by omega),p9.mono O1 (by omega)⟩,k9.o,p0⟩;simp[results,results88,go_sem,m0,m1,m2,m3]
def AA (x y:Int)(z:Value):Prop:=∃ u v b,z=.agg #[.string u,.bool b,.string v]/\Ec x u/\(if y=1 then b=false/\v=⟨#[]⟩ else b=true/\Ec y v)
theorem Ip.shape {y:Int}(h:Ip B w z x y n):∃ s1 p1 l1 c1 s2 p2 l2 c2,z=.agg #[.bool s1,.slice p1 l1 c1,.bool s2,.slice p2 l2 c2]/\N8 B w (.agg #[.bool s1,.slice p1 l1 c1]) x n/\N8 B w (.agg #[.bool s2,.slice p2 l2 c2]) y n:=by
 obtain⟨s1,D,s2,v2,rfl,d,j⟩:=h;obtain⟨_,t1,_,⟨p1,c1,rfl,_⟩,_⟩:=d.parts;obtain⟨_,t2,_,⟨p2,c2,rfl,_⟩,_⟩:=j.parts;exact⟨s1,p1,_,c1,s2,p2,_,c2,rfl,d,j⟩
theorem YI (B:Nat)(z:Value)(x y:Int)(n:Nat)(w:World)(hBw:B<=w.heap.size)(h:Ip B w z x y n)(hn:n<=600)(hSP:SP w)(hLT:LT w) :
 Calls prog 89 #[z] w fun e w'=>∃ r,e=.returned r/\AA x y r/\Up w w':=by
 have HR:=Hd h;obtain⟨s1,p1,l1,c1,s2,p2,l2,c2,rfl,h1,h2⟩:=h.shape;have d2:=Hd hSP;have O:=Hd hLT;have d1:=Hd hBw;have H1:=Hd h1;have H2:=Hd h2;clear h hSP hLT hBw h1 h2;obtain⟨W0,G⟩:=O2 ((w.alloc (.cells #[.bool s1,.slice p1 l1 c1,.bool s2,.slice p2 l2 c2] 89)).alloc (.cells #[.string ⟨#[]⟩,.bool false,.string ⟨#[]⟩] 135));have d4:=Hd G;have D:Hid (Up w W0):=by
  unfold Hid
  rw[<-G];exact Ou (Oo _ _) _
 have J:Bx W0 w.heap.size [.bool s1,.slice p1 l1 c1,.bool s2,.slice p2 l2 c2]:=by rw[<-G];exact (Ox w _ _).alloc _
 have U:Bx W0 (w.heap.size+1) [.string ⟨#[]⟩,.bool false,.string ⟨#[]⟩]:=by
  rw[<-G];have h:=Ox (w.alloc (.cells #[.bool s1,.slice p1 l1 c1,.bool s2,.slice p2 l2 c2] 89)) [.string ⟨#[]⟩,.bool false,.string ⟨#[]⟩] 135;rw[J4] at h;exact h
 have Y:Hid (∀ W,Up W0 W->Bx W w.heap.size [.bool s1,.slice p1 l1 c1,.bool s2,.slice p2 l2 c2]/\Bx W (w.heap.size+1) [.string ⟨#[]⟩,.bool false,.string ⟨#[]⟩]):=fun W hW=>⟨J.bl J.lt hW,U.bl U.lt hW⟩;clear G;obtain⟨k0,k1,k2,k3⟩:=J.k4;clear J U
 go_in
 go_upto_region 1 with fail
 rw[d4.o]
 go_wp2_with fail
 refine (ZO B _ x y n _ (by have:=d1.o;have:=D.o.size;omega) (HR.o.bl D.o) (d2.o.bl D.o)).mono ?_;rintro e w1 ⟨rfl,I⟩;have F:=Hd I;have a7:=D.o.trans (I.mono D.o.size);have j:=Hd a7;obtain⟨b5,d8⟩:=Y.o w1 I;clear k0 k1 k2 k3;obtain⟨k0,k1,k2,k3⟩:=b5.k4;clear I a7 b5 d8
 by_cases Z:y=1
 ·have hd:decide (y=1)=true:=Jn Z;have HY:=Hd Z;rw[hd];clear hd Z
  go_wp2_with fail
  refine (Fx B _ x n _ (H1.o.bl j.o) hn (O.o.bl j.o)).mono ?_;rintro e V ⟨u,rfl,hu,H⟩;have HU:=Hd hu;have E:=Hd (F.o.trans (H.mono F.o.size));have d:=(Y.o V E.o).2;obtain⟨r0,r1,r2⟩:=d.k3;obtain⟨f0,f1,f2⟩:=d.f3;clear hu H d
  go_wp2
  have d:=(Y.o V E.o).2;have hZ:Bx (((V.setCell ⟨w.heap.size+1,0,none⟩ (.string u)).setCell ⟨w.heap.size+1,1,none⟩ (.bool false)).setCell ⟨w.heap.size+1,2,none⟩ (.string ⟨#[]⟩)) (w.heap.size+1) [.string u,.bool false,.string ⟨#[]⟩]:=((d.set 0 _).set 1 _).set 2 _;have hE:=X6 (D.o.trans (E.o.mono D.o.size)) (w.heap.size+1) (Ze _) (.string u) (.bool false) (.string ⟨#[]⟩);generalize ((V.setCell ⟨w.heap.size+1,0,none⟩ (.string u)).setCell ⟨w.heap.size+1,1,none⟩ (.bool false)).setCell ⟨w.heap.size+1,2,none⟩ (.string ⟨#[]⟩)=WE at *;obtain⟨m0,m1,m2⟩:=hZ.k3;refine Jh (v:=.agg #[.string u,.bool false,.string ⟨#[]⟩]) ?_ rfl ⟨_,rfl,⟨u,_,_,rfl,HU.o,by rw[if_pos HY.o];exact⟨rfl,rfl⟩⟩,hE⟩;simp[results,results89,go_sem,m0,m1,m2]
 have hd:decide (y=1)=false:=Jp Z;have HY:=Hd Z;rw[hd];clear hd Z
 go_wp2
 go_region_with (first
  | (go_at_call_of 135 (Value.slice p1 l1 c1)
     refine (Fx B _ x n _ (H1.o.bl (j.o.trans ((Jj _ w1).drew.mono j.o.size))) hn (O.o.bl (j.o.trans ((Jj _ w1).drew.mono j.o.size)))).mono ?_;rintro e V ⟨u,rfl,hu,H⟩;have HU:=Hd hu;have E:Hid (Up w1 V):=(Jj _ w1).drew.trans H;have T:=(Y.o V (F.o.trans (E.o.mono F.o.size))).1;have j2:=T.cell 2;have j3:=T.cell 3;simp only[J6,Yk] at j2 j3;clear hu H T)
  | (go_at_call_of 135 (Value.slice p2 l2 c2)
     refine (Fx B _ y n _ (H2.o.bl (j.o.trans (E.o.mono j.o.size))) hn (O.o.bl (j.o.trans (E.o.mono j.o.size)))).mono ?_;rintro e w3 ⟨v,rfl,hv,a8⟩;have HV:=Hd hv;have K:Hid (Up W0 w3):=F.o.trans ((E.o.trans (a8.mono E.o.size)).mono F.o.size);have d:=(Y.o w3 K.o).2;obtain⟨r0,r1,r2⟩:=d.k3;obtain⟨f0,f1,f2⟩:=d.f3;clear hv a8 d))
 all_goals
  try simp only[Yg,Yb,J0,Act.put,Ja,Jb,Jc]
  go_wp2
  have d:=(Y.o w3 K.o).2;have hZ:Bx (((w3.setCell ⟨w.heap.size+1,0,none⟩ (.string u)).setCell ⟨w.heap.size+1,1,none⟩ (.bool true)).setCell ⟨w.heap.size+1,2,none⟩ (.string v)) (w.heap.size+1) [.string u,.bool true,.string v]:=((d.set 0 _).set 1 _).set 2 _;have hE:=X6 (D.o.trans (K.o.mono D.o.size)) (w.heap.size+1) (Ze _) (.string u) (.bool true) (.string v);generalize ((w3.setCell ⟨w.heap.size+1,0,none⟩ (.string u)).setCell ⟨w.heap.size+1,1,none⟩ (.bool true)).setCell ⟨w.heap.size+1,2,none⟩ (.string v)=WE at *;obtain⟨m0,m1,m2⟩:=hZ.k3;refine Jh (v:=.agg #[.string u,.bool true,.string v]) ?_ rfl ⟨_,rfl,⟨u,_,_,rfl,HU.o,by rw[if_neg HY.o];exact⟨rfl,HV.o⟩⟩,hE⟩;simp[results,results89,go_sem,m0,m1,m2]
theorem KV (a c a' c':ByteArray)(b b':Bool)(w:World):(Op.equalIn 10000 135 (.agg #[.string a,.bool b,.string c]) (.agg #[.string a',.bool b',.string c'])).run prog w=.ok (a.toList==a'.toList&&b==b'&&c.toList==c'.toList) w:=by
 have u3:=underlying9;have u4:=underlying4;have a3:=Tryz.isAgg9;have a4:=Tryz.isAgg4;have z3:=Tryz.sizeOf9;have z4:=Tryz.sizeOf4;have D:prog.underlying 135=some (.struct (prog.fieldsOf 135)):=by kernel_rfl
 rw[show (10000:Nat)=9999+1 from rfl,run_equalIn_agg w 9999 135 _ _ D (by kernel_rfl)];simp only[Program.fieldsOf,underlying135]
 go_simp
 by_cases d:a.toList=a'.toList<;>by_cases j:b=b'<;>by_cases h3:c.toList=c'.toList<;>simp[d,j,h3]
theorem toList_inj {a b:ByteArray}:(a.toList==b.toList)=decide (a=b):=by
 by_cases h:a=b
 ·subst h;simp
 have:a.toList≠b.toList:=fun e=>h (by
  rw[Je,Je] at e;exact ByteArray.ext (Array.toList_inj.1 e))
 simp[h,this]
def Qx (s:ByteArray)(k:Option Nat)(x y:Int):Prop:=
 match k with
 | none=>Ow s=true/\x=K9 s/\y=1
 | some i=>(Ow (Il s (some i))=true/\Ow (Hp s (some i))=true)/\(K9 (Hp s (some i))≠0/\Il s (some i)≠Kq [48]/\Hp s (some i)≠Kq [49]/\Ki (Hp s (some i))=false/\Int.gcd (K9 (Il s (some i))) (K9 (Hp s (some i)))=1) /\
  x=K9 (Il s (some i))/\y=K9 (Hp s (some i))
def Hr (s:ByteArray)(b:Bool):Prop:=∃ k,Nq s k/\(b=true↔∃ x y,Qx s k x y)
theorem Ab {b c:Bool}(h:Hr s b)(h':Hr s c):b=c:=by
 obtain⟨k,d,e⟩:=h;obtain⟨m,hm,j⟩:=h';obtain rfl:=E3 d hm
 cases b<;>cases c<;>simp_all
theorem Py {g0:Int}{gn:Bool}{ga:Option Addr}{gl gc:Nat}{G:Int}(h:Nb B w (.agg #[.int .i64 g0,.bool gn,.slice ga gl gc]) G):(((gl:Int)==0)&&(g0==1))=decide (G=1):=by
 obtain⟨neg,t,⟨J,D,E⟩,H⟩:=h
 rcases E with⟨F,v,e,⟨p,c,rfl,_⟩⟩|⟨F,e⟩
 ·simp only[Value.agg.injEq,Array.mk.injEq,List.cons.injEq,Value.slice.injEq,and_true] at e;have hl:gl=t.length:=e.2.2.2.1;have j:t≠[]:=by rintro rfl;simp at F
  have h3:=Xs t D j;have h4:1000000000 ^ 2<=1000000000 ^ (t.length - 1):=J3 (by decide) (by omega);have h5:(1000000000:Nat) ^ 2=1000000000000000000:=by decide
  have d:G≠1:=by
   rw[<-H]
   cases neg<;>simp[sg]<;>omega
  have E:((gl:Int)==0)=false:=by rw[Jd];omega
  rw[E,Jp d];rfl
 simp only[Value.agg.injEq,Array.mk.injEq,List.cons.injEq,Value.slice.injEq,Value.int.injEq,and_true,true_and] at e;have I:g0=sg neg (val t):=e.1;have hl:gl=0:=e.2.2.2.1;subst hl I;rw[H]
 by_cases d:G=1
 ·subst d;rfl
 have:(G==1)=false:=by rw[Jd];exact d
 rw[this,Jp d];rfl
theorem CY (q:ByteArray)(h:0<q.size):((q[0].toNat:Int)==45)=Ki q:=by
 unfold Ki;have e:(q.extract 0 1).toList=[q[0]]:=by
  rw[Je,Y6,Zf]
  show (q.data.toList.drop 0).take (1 - 0)=[q[0]]
  have hl:0<q.data.toList.length:=by simpa using h
  cases D:q.data.toList with
  | nil=>rw[D] at hl;simp at hl
  | cons c l=>
    have:q[0]=c:=by
     have d:q.data.toList[0]? = some q[0]:=by rw[Jl hl];rfl
     rw[D] at d
     simpa using d.symm
    rw[this];rfl
 rw[e]
 by_cases j:q[0]=45
 ·rw[j];rfl
 have d:((q[0].toNat:Int)==45)=false:=by
  rw[Jd];intro F;exact j (UInt8.toNat_inj.1 (by have e3:(45:UInt8).toNat=45:=rfl;omega))
 have E:([q[0]]==[45])=false:=by simp[j]
 rw[d,E]
theorem WV (a:ByteArray)(c:UInt8):(a.toList==[c])=decide (a=Kq [c]):=by
 have:(Kq [c]).toList=[c]:=by rw[Je];rfl
 have h:=toList_inj (a:=a) (b:=Kq [c]);rw[this] at h;exact h
theorem A5 (s:ByteArray)(w:World)(hs:s.size<=maxLen) :
 Calls prog 62 #[.string s] w fun e w'=>∃ b,e=.returned (.bool b)/\Hr s b/\Up w w':=by
 obtain⟨k,hk⟩:=M9 s;have HK:=Hd hk;clear hk
 cases k with
 | none=>
   go_in
   go_wp2_with fail
   refine (Pz s none _ hs HK.o).mono ?_;rintro e w' ⟨rfl,b4⟩;subst b4;have e1:Rq none = -1:=rfl;rw[e1]
   go_wp2_with fail
   refine (Qm s _ hs).mono ?_;rintro e w2 ⟨rfl,b5⟩;subst b5;obtain⟨b,hb⟩:=O2 (Ow s);have HB:=Hd hb;rw[hb];clear hb
   go_wp2
   go_ret
   refine⟨_,rfl,⟨none,HK.o,?_⟩,Jj _ _⟩;constructor
   ·intro e;exact⟨K9 s,1,HB.o.trans e,rfl,rfl⟩
   rintro⟨x,y,h,_⟩;rw[<-HB.o];exact h
 | some i=>
   have hi:=Bo HK.o;have d6:s.extract 0 i=Il s (some i):=rfl;have d7:s.extract (i+1) s.size=Hp s (some i):=rfl;obtain⟨p,hp⟩:=O2 (Il s (some i));obtain⟨q,hq⟩:=O2 (Hp s (some i));have d:Hid (Il s (some i)=p/\Hp s (some i)=q):=⟨hp,hq⟩;rw[hp] at d6;rw[hq] at d7;have d9:p.size<=maxLen:=by rw[<-d6,Yj];omega
   have e3:q.size<=maxLen:=by rw[<-d7,Yj];omega
   have c7:Hid (p.size<=maxLen/\q.size<=maxLen):=⟨d9,e3⟩;unfold maxLen at hs;clear hp hq d9 e3
   go_in
   go_wp2_with fail
   refine (Pz s (some i) _ (by unfold maxLen;exact hs) HK.o).mono ?_;rintro e w' ⟨rfl,b4⟩;subst b4;have e1:Rq (some i)=(i:Int):=rfl;rw[e1];have j:Hid ((¬ ∃ x y,Qx s (some i) x y)->Hr s false):=fun h=>⟨some i,HK.o,⟨(fun e=>by cases e),fun hx=>(h hx).elim⟩⟩
   go_wp2_with fail
   refine (Qm p _ c7.o.1).mono ?_;rintro e w2 ⟨rfl,b5⟩;subst b5
   cases K:Ow p
   ·have H:=Hd K;clear K;have G:Hid (Hr s false):=j.o (fun ⟨x,y,h⟩=>by
     have D:=h.1.1;rw[d.o.1,H.o] at D
     cases D)
    go_wp2
    go_ret
    exact⟨false,rfl,G.o,Jj _ _⟩
   have H:=Hd K;clear K
   go_wp2_with fail
   refine (Qm q _ c7.o.2).mono ?_;rintro e w3 ⟨rfl,h7⟩;subst h7
   cases O:Ow q
   ·have F:=Hd O;clear O;have G:Hid (Hr s false):=j.o (fun ⟨x,y,h⟩=>by
     have D:=h.1.2;rw[d.o.2,F.o] at D
     cases D)
    go_wp2
    go_ret
    exact⟨false,rfl,G.o,Jj _ _⟩
   have F:=Hd O;clear O
   cases d8:(p.toList==[48])
   case true=>
    have Y:=Hd d8;have G:Hid (Hr s false):=j.o (fun ⟨x,y,h⟩=>by
     have D:=h.2.1.2.1;rw[d.o.1] at D;exact D (of_decide_eq_true ((WV p 48).symm.trans Y.o)))
    go_wp2
    go_ret
    exact⟨false,rfl,G.o,Jj _ _⟩
   case false=>
   have Y:=Hd d8
   cases e0:(q.toList==[48])
   case true=>
    have Z:=Hd e0;have G:Hid (Hr s false):=j.o (fun ⟨x,y,h⟩=>by
     have D:=h.2.1.1;rw[d.o.2,of_decide_eq_true ((WV q 48).symm.trans Z.o)] at D;exact D Wy)
    go_wp2
    go_ret
    exact⟨false,rfl,G.o,Jj _ _⟩
   case false=>
   have Z:=Hd e0
   cases e2:(q.toList==[49])
   case true=>
    have a6:=Hd e2;have G:Hid (Hr s false):=j.o (fun ⟨x,y,h⟩=>by
     have D:=h.2.1.2.2.1;rw[d.o.2] at D;exact D (of_decide_eq_true ((WV q 49).symm.trans a6.o)))
    go_wp2
    go_ret
    exact⟨false,rfl,G.o,Jj _ _⟩
   case false=>
   have a6:=Hd e2;have h6:0<q.size:=Y0 fun h=>Cs q F.o (ByteArray.ext (by
    have:q.data.size=0:=h;rw[Array.eq_empty_of_size_eq_zero this];rfl))
   have d2:=CY q h6
   cases E:Ki q
   case true=>
    have V:=Hd E;rw[E] at d2;have G:Hid (Hr s false):=j.o (fun ⟨x,y,h⟩=>by
     have D:=h.2.1.2.2.2.1;rw[d.o.2,V.o] at D
     cases D)
    go_wp2
    go_ret
    exact⟨false,rfl,G.o,Jj _ _⟩
   case false=>
   have V:=Hd E;rw[E] at d2;clear E;have c6:Hid ((Rf p).length<=100000/\(Rf q).length<=100000):=⟨by have:=Qv p H.o;omega,by have:=Qv q F.o;omega⟩;obtain⟨w0,e4⟩:∃ w0:World,w0=w3:=⟨_,rfl⟩;have j1:=Hd e4;clear e4
   go_wp2_with fail
   refine (I9 p _ H.o).mono ?_;rintro e w4 ⟨z1,rfl,e7,d3⟩;have g5:=Hd e7;have b7:=Hd d3;clear e7 d3
   go_wp2_with fail
   refine (I9 q _ F.o).mono ?_;rintro e w5 ⟨z2,rfl,e8,a7⟩;have g6:Hid (Ej w3.heap.size w5 z2 (Ki q) (Rf q)):=e8.mono b7.o.size;have c8:Hid (Ej w3.heap.size w5 z1 (Ki p) (Rf p)):=g5.o.bl a7;have b8:=b7.up a7;clear e8 a7
   go_wp2_with fail
   refine (C9 _ z1 z2 _ _ _ _ 100000 _ b8.o.size c8.o g6.o c6.o.1 c6.o.2 O1).mono ?_;rintro e w6 ⟨z3,rfl,b3,d4⟩;obtain⟨g0,gn,ga,gl,gc,rfl⟩:=b3.shape;have T:=Hd (Py b3);have f9:=b8.up d4;obtain⟨W7,I⟩:=O2 (w6.alloc (.cells #[.int .i64 g0,.bool gn,.slice ga gl gc] 72));have g4:=Hd I;have d5:Up w6 W7:=by rw[<-I];exact Oo _ _
   have J:Bx W7 w6.heap.size [.int .i64 g0,.bool gn,.slice ga gl gc]:=by rw[<-I];exact Ox w6 _ _
   have g1:=f9.up d5;have g3:Hid (∀ W,Up W7 W->Bx W w6.heap.size [.int .i64 g0,.bool gn,.slice ga gl gc]):=fun W hW=>J.bl J.lt hW;obtain⟨k0,k1,k2⟩:=J.k3;have U:Hid (∀ r,decide (No (sg (Ki p) (val (Rf p))) (sg (Ki q) (val (Rf q)))=1)=r->Hr s r):=fun r hr=>by
    refine⟨some i,HK.o,?_⟩;rw[<-hr,Y7];have hg:No (sg (Ki p) (val (Rf p))) (sg (Ki q) (val (Rf q)))=((Int.gcd (K9 p) (K9 q):Nat):Int):=rfl;rw[hg];constructor
    ·intro D;refine⟨K9 p,K9 q,?_⟩
     show (Ow (Il s (some i))=true/\Ow (Hp s (some i))=true)/\_
     rw[d.o.1,d.o.2];refine⟨⟨H.o,F.o⟩,⟨?_,?_,?_,V.o,by omega⟩,rfl,rfl⟩
     ·intro h2;have h3:=H9 q (Kq [48]) F.o (by kernel_rfl) (by rw[h2,Wy]);have h4:=(WV q 48).symm.trans Z.o;exact (of_decide_eq_false h4) h3
     ·exact of_decide_eq_false ((WV p 48).symm.trans Y.o)
     exact of_decide_eq_false ((WV q 49).symm.trans a6.o)
    rintro⟨x,y,_,⟨_,_,_,_,h5⟩,_⟩;rw[d.o.1,d.o.2] at h5;rw[h5];rfl
   clear b3 d4 I d5 J
   go_upto_region 10 with fail
   rw[g4.o];refine (O0 g0 gn ga gl gc W7).mono ?_;rintro e w8 ⟨rfl,e5⟩;have a8:Up W7 w8:=by rw[e5];exact Oo _ _
   have b9:=g1.up a8;have e6:=g3.o w8 a8;have j0:=e6.cell 0;simp only[J6] at j0;clear e5 a8 e6 k0 k1 k2
   by_cases hz:gl=0
   ·have z:((gl:Int)==0)=true:=by rw[Jw];omega
    have HE:Hid ((g0==1)=decide (No (sg (Ki p) (val (Rf p))) (sg (Ki q) (val (Rf q)))=1)):=by
     have h:=T.o;rw[z] at h;exact h
    rw[z]
    go_wp2
    go_ret
    exact⟨_,rfl,U.o _ HE.o.symm,b9.o⟩
   have z:((gl:Int)==0)=false:=by rw[Jd];omega
   have HE:Hid (decide (No (sg (Ki p) (val (Rf p))) (sg (Ki q) (val (Rf q)))=1)=false):=by
    have h:=T.o;rw[z] at h;exact h.symm
   rw[z]
   go_wp2
   go_ret
   exact⟨_,rfl,U.o _ HE.o,b9.o⟩
theorem Cj (s1:Bool)(p1:Option Addr)(l1 c1:Nat)(w:World) :
 Calls prog 85 #[.agg #[.bool s1,.slice p1 l1 c1]] w fun e w'=>∃ s2 p2 l2 c2,e=.returned (.agg #[.bool s1,.slice p1 l1 c1,.bool s2,.slice p2 l2 c2])/\N8 w.heap.size w' (.agg #[.bool s2,.slice p2 l2 c2]) 1 3/\Up w w':=by
 obtain⟨H,d⟩:=O2 ((w.alloc (.cells #[.bool s1,.slice p1 l1 c1] 85)).alloc (.cells #[.bool false,.slice none 0 0,.bool false,.slice none 0 0] 89));have T:=Hd d;have D:Hid (Up w H):=by
  unfold Hid
  rw[<-d];exact Ou (Oo _ _) _
 have j:Bx H w.heap.size [.bool s1,.slice p1 l1 c1]:=by rw[<-d];exact (Ox w _ _).alloc _
 have F:Bx H (w.heap.size+1) [.bool false,.slice none 0 0,.bool false,.slice none 0 0]:=by
  rw[<-d];have h:=Ox (w.alloc (.cells #[.bool s1,.slice p1 l1 c1] 85)) [.bool false,.slice none 0 0,.bool false,.slice none 0 0] 89;rw[J4] at h;exact h
 have HX:Hid (∀ W,Up H W->Bx W w.heap.size [.bool s1,.slice p1 l1 c1]/\Bx W (w.heap.size+1) [.bool false,.slice none 0 0,.bool false,.slice none 0 0]):=fun W hW=>⟨j.bl j.lt hW,F.bl F.lt hW⟩;clear d;obtain⟨k0,k1⟩:=j.k2;clear j F
 go_in
 go_upto_region 1 with fail
 rw[T.o]
 go_region_with (first
  | (go_at_call 130
     refine (Re 1 _ (by decide)).mono ?_;rintro e I ⟨z,rfl,Z,J⟩;have E:Hid (Up H I):=(Jj _ H).drew.trans J;obtain⟨s2,p2,l2,c2,rfl⟩:=Z.shape;have HZ:=Hd Z;obtain⟨O,G⟩:=HX.o I E.o;obtain⟨j0,j1⟩:=O.k2;obtain⟨r0,r1,r2,r3⟩:=G.k4;obtain⟨f0,f1,f2,f3⟩:=G.f4;clear Z J O G))
 all_goals
  try simp only[Yg,Yb,J0,Act.put,Ja,Jb,Jc]
  go_wp2
  have K:=(HX.o I E.o).2;have Y:Kh I (w.heap.size+1):=Ep K (by simp);have V:=(HZ.o.mono (B':=w.heap.size) (n':=3) D.o.size O1).put4 Y (.bool s1) (.slice p1 l1 c1) (.bool s2) (.slice p2 l2 c2);have U:=RK (D.o.trans (E.o.mono D.o.size)) (w.heap.size+1) (Ze _) (.bool s1) (.slice p1 l1 c1) (.bool s2) (.slice p2 l2 c2);have hZ:Bx ((((I.setCell ⟨w.heap.size+1,0,none⟩ (.bool s1)).setCell ⟨w.heap.size+1,1,none⟩ (.slice p1 l1 c1)).setCell ⟨w.heap.size+1,2,none⟩ (.bool s2)).setCell ⟨w.heap.size+1,3,none⟩ (.slice p2 l2 c2)) (w.heap.size+1) [.bool s1,.slice p1 l1 c1,.bool s2,.slice p2 l2 c2]:=(((K.set 0 _).set 1 _).set 2 _).set 3 _;generalize (((I.setCell ⟨w.heap.size+1,0,none⟩ (.bool s1)).setCell ⟨w.heap.size+1,1,none⟩ (.slice p1 l1 c1)).setCell ⟨w.heap.size+1,2,none⟩ (.bool s2)).setCell ⟨w.heap.size+1,3,none⟩ (.slice p2 l2 c2)=W9 at *;obtain⟨m0,m1,m2,m3⟩:=hZ.k4;refine Jh (v:=.agg #[.bool s1,.slice p1 l1 c1,.bool s2,.slice p2 l2 c2]) ?_ rfl ⟨s2,p2,l2,c2,rfl,V,U⟩;simp[results,results85,go_sem,m0,m1,m2,m3]
end Go.Proofs.YtjjgilacnocigaaGreatDoor.Q
