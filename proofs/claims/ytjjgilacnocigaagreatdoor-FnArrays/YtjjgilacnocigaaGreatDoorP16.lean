import Derived.Test.YtjjgilacnocigaaGreatDoorP15
import Derived.Lay
import Derived.ChangeVars
set_option maxRecDepth 100000
set_option maxHeartbeats 8000000
namespace Go.Proofs.YtjjgilacnocigaaGreatDoor.Q
open ChangeShapes WideShapes ChangeAt RowKit Proofs.Tryz
variable {W w:World}{a b x y:Int}{g h:Nat}
theorem XF (B:Nat)(x y:Int)(xn yn:Bool)(pa:Option Addr)(la ca:Nat)(pb:Option Addr)(lb cb:Nat)(na nb:Bool)(a b:List Nat)(w:World)(hBw:B<=w.heap.size)(hz:((la:Int)==0)=true)(hz2:((lb:Int)==0)=false)
 (hza:Ej B w (.agg #[.int .i64 x,.bool xn,.slice pa la ca]) na a) (hzb:Ej B w (.agg #[.int .i64 y,.bool yn,.slice pb lb cb]) nb b) (ha:Rg x xn la=true) (hb:Rg y yn lb=true) :
 Calls prog 109 #[.agg #[.int .i64 x,.bool xn,.slice pa la ca],.agg #[.int .i64 y,.bool yn,.slice pb lb cb]] w fun e w'=>e=.returned (.int .i64 (-En a b))/\Up w w':=by
 have T:=Hd ha;have b6:=Hd hb;obtain⟨D,d⟩:=O2 ((w.alloc (.cells #[.int .i64 x,.bool xn,.slice pa la ca] 72)).alloc (.cells #[.int .i64 y,.bool yn,.slice pb lb cb] 72));have b9:=Hd d;have H:Up w D:=by rw[<-d];exact ((Jj _ w).alloc O1 _).alloc (by simp) _
 have a8:D.heap.size=w.heap.size+2:=by rw[<-d];simp
 have F:w.heap.size<D.heap.size:=by omega
 have G:w.heap.size+1<D.heap.size:=by omega
 have b4:=Hd H;have V:=Hd a8;have c7:Hid (∀ W,Up D W->Ej B W (.agg #[.int .i64 x,.bool xn,.slice pa la ca]) na a):=fun W hW=>(hza.bl H).bl hW;have c8:Hid (∀ W,Up D W->Ej B W (.agg #[.int .i64 y,.bool yn,.slice pb lb cb]) nb b):=fun W hW=>(hzb.bl H).bl hW;have HX:Hid (∀ W,Up D W->(W.cell? ⟨w.heap.size,0,none⟩=some (.int .i64 x)/\W.cell? ⟨w.heap.size,1,none⟩=some (.bool xn)/\W.cell? ⟨w.heap.size,2,none⟩=some (.slice pa la ca)) /\
  (W.cell? ⟨w.heap.size+1,0,none⟩=some (.int .i64 y)/\W.cell? ⟨w.heap.size+1,1,none⟩=some (.bool yn)/\W.cell? ⟨w.heap.size+1,2,none⟩=some (.slice pb lb cb))):=fun W hW=>by
  refine⟨⟨?_,?_,?_⟩,?_,?_,?_⟩
  ·rw[hW.cell (p:=⟨w.heap.size,0,none⟩) F,<-d,Jk _ _ _ (by simp),Jg _ _ _ _ rfl];rfl
  ·rw[hW.cell (p:=⟨w.heap.size,1,none⟩) F,<-d,Jk _ _ _ (by simp),Jg _ _ _ _ rfl];rfl
  ·rw[hW.cell (p:=⟨w.heap.size,2,none⟩) F,<-d,Jk _ _ _ (by simp),Jg _ _ _ _ rfl];rfl
  ·rw[hW.cell (p:=⟨w.heap.size+1,0,none⟩) G,<-d,Jg _ _ _ _ (by simp)];rfl
  ·rw[hW.cell (p:=⟨w.heap.size+1,1,none⟩) G,<-d,Jg _ _ _ _ (by simp)];rfl
  rw[hW.cell (p:=⟨w.heap.size+1,2,none⟩) G,<-d,Jg _ _ _ _ (by simp)];rfl
 obtain⟨W1,J⟩:=O2 ((((D.alloc (.cells #[.int .i64 x,.bool xn,.slice pa la ca] 72)).alloc (.cells #[.int .i64 y,.bool yn,.slice pb lb cb] 72)).alloc (.cells #[.int .i64 x,.bool xn,.slice pa la ca] 72)).alloc (.cells #[.int .i64 y,.bool yn,.slice pb lb cb] 72));have c6:=Hd J;have j:Hid (Up D W1):=by rw[<-J];exact Ou (Ou (Ou (Ou (Jj _ _) _) _) _) _
 clear J;obtain⟨⟨u0,u1,u2⟩,v0,v1,v2⟩:=HX.o D (Jj _ _);obtain⟨c,hc⟩:=O2 (En a b);have HC:=Hd hc;have d5 : -1<=c/\c<=1:=by rw[<-hc];exact Hs a b
 obtain⟨e3,e4⟩:=d5;clear ha hb hza hzb H a8 d hc
 go_in
 go_wp2_with fail
 rw[b9.o];refine (O0 _ _ _ _ _ _).mono ?_;rintro e w' ⟨rfl,rfl⟩
 go_wp2_with (go_at_call 106;refine (O0 _ _ _ _ _ _).mono ?_;rintro e w' ⟨rfl,rfl⟩)
 go_region_with (first|(go_at_call_of 74 (Value.int IntKind.i64 x);refine (Ku _ _ _ _ _ _).mono ?_;rintro e w' ⟨rfl,rfl⟩;rw[T.o])|(go_at_call_of 74 (Value.int IntKind.i64 y);refine (Ku _ _ _ _ _ _).mono ?_;rintro e w' ⟨rfl,rfl⟩;rw[b6.o]))
 all_goals
  go_wp2
  simp only[Yg,Yb,J0,Act.put,Ja,Jb,Jc];rw[c6.o];clear u0 u1 u2 v0 v1 v2;obtain⟨⟨u0,u1,u2⟩,v0,v1,v2⟩:=HX.o W1 j.o
  go_region_with (first
   | (go_at_call_of 73 (Value.int IntKind.i64 x);refine (Kc B _ na a _ (c7.o _ ?_) ?_).mono ?_
      ·exact j.o.drew.drew
      ·have:=j.o.size;have:=V.o;show B<=W1.heap.size;omega
      rintro e wa ⟨va,rfl,a6,Y⟩;have I:Up D wa:=j.o.drew.drew.trans (Y.mono j.o.size);obtain⟨⟨a0,a1,a2⟩,b0,b1,b2⟩:=HX.o wa I;have b7:=Hd a6;have E:Hid (Up D wa):=I;clear a6 Y I)
   | (go_at_call_of 73 (Value.int IntKind.i64 y);refine (Kc B _ nb b _ (c8.o _ ?_) ?_).mono ?_
      ·exact E.o
      ·have:=E.o.size;have:=V.o;omega
      rintro e wb ⟨vb,rfl,a7,K⟩;have b5:=E.up K;have b8:=Hd a7;have U:Hid (Kn B wb va a):=b7.o.bl K;clear a7 K)
   | (go_at_call 149;refine (Et B va vb a b _ U.o b8.o).mono ?_
      rintro e wc ⟨rfl,Z⟩;have O:=b5.up Z;obtain⟨⟨c0,c1,c2⟩,d0,d1,d2⟩:=HX.o wc O.o;rw[HC.o];clear Z))
  all_goals
   simp only[Yg,Yb,J0,Act.put,Ja,Jb,Jc]
   go_wp2_with (go_at_call 74;refine (Ku _ _ _ _ _ _).mono ?_;rintro e w' ⟨rfl,rfl⟩;rw[T.o])
   go_ret
   exact⟨Kw (by rw[HC.o]),Ou (b4.o.trans (O.o.mono (by omega))) _⟩
theorem IX (a b:List Nat)(ha:Kx a)(hb:Kx b)(ta:Oq a)(tb:Oq b):En b a = -En a b:=by
 rw[Gu a b ha hb ta tb,Gu b a hb ha tb ta];unfold S3
 split<;>split<;>(try split)<;>omega
theorem Ej.form {B:Nat}{z:Value}{na:Bool}{a:List Nat}(h:Ej B w z na a):∃ x xn p l c,z=.agg #[.int .i64 x,.bool xn,.slice p l c]/\Rg x xn l=Ko na a/\(l=0->z=.agg #[.int .i64 (sg na (val a)),.bool false,.slice none 0 0]):=by
 obtain⟨d,j,h3⟩:=h
 rcases h3 with⟨h3,v,rfl,p,c,rfl,_⟩|⟨h3,rfl⟩
 ·refine⟨_,_,_,_,_,rfl,?_,fun e=>by omega⟩;unfold Rg Ko;have:0<a.length:=by omega
  simp[this]
 exact⟨_,_,_,_,_,rfl,(Rm na a h3 d j).symm,fun _=>rfl⟩
theorem Sl (B:Nat)(za zb:Value)(na nb:Bool)(a b:List Nat)(w:World)(hBw:B<=w.heap.size)(hza:Ej B w za na a)(hzb:Ej B w zb nb b) :
 Calls prog 109 #[za,zb] w fun e w'=>e=.returned (.int .i64 (OQ (Ko na a) (Ko nb b) a b))/\Up w w':=by
 have O:=hza.1;have T:=hzb.1;have U:=hza.2.1;have V:=hzb.2.1;obtain⟨x,J,H,la,F,rfl,D,ga⟩:=hza.form;obtain⟨y,K,I,lb,G,rfl,E,gb⟩:=hzb.form
 by_cases h0:la=0/\lb=0
 ·rw[ga h0.1,gb h0.2,Ri na nb a b O T U V];exact ZZ _ _ w
 have d:((la:Int)==0)=false∨(((la:Int)==0)=true/\((lb:Int)==0)=false):=by
  by_cases h:la=0
  ·exact .inr ⟨by rw[Jw];omega,by rw[Jd];omega⟩
  exact .inl (by rw[Jd];omega)
 cases Y:Ko na a<;>cases Z:Ko nb b
 ·rw[Y] at D;rw[Z] at E
  show Calls _ _ _ _ fun e w'=>e=.returned (.int .i64 (En a b))/\_
  rcases d with d|⟨d,j⟩
  ·exact XP B x y J K H la F I lb G na nb a b w hBw d hza hzb D E
  exact XC B x y J K H la F I lb G na nb a b w hBw d j hza hzb D E
 ·rw[Y] at D;rw[Z] at E
  show Calls _ _ _ _ fun e w'=>e=.returned (.int .i64 (1))/\_
  rcases d with d|⟨d,j⟩
  ·exact XQ x y J K H la F I lb G w d D E
  exact XR x y J K H la F I lb G w d j D E
 ·rw[Y] at D;rw[Z] at E
  show Calls _ _ _ _ fun e w'=>e=.returned (.int .i64 (-1))/\_
  rcases d with d|⟨d,j⟩
  ·exact XL x y J K H la F I lb G w d D E
  exact XM x y J K H la F I lb G w d j D E
 rw[Y] at D;rw[Z] at E
 show Calls _ _ _ _ fun e w'=>e=.returned (.int .i64 (En b a))/\_
 rw[IX a b O T U V]
 rcases d with d|⟨d,j⟩
 ·exact XD B x y J K H la F I lb G na nb a b w hBw d hza hzb D E
 exact XF B x y J K H la F I lb G na nb a b w hBw d j hza hzb D E
theorem GR (x y:Int):decide (Nc x y<0)=decide (x<y):=by
 unfold Nc
 split
 ·rename_i h;simp[h]
 rename_i h
 split<;>simp[h]
theorem KJ (B:Nat)(z:Value)(x:Int)(n:Nat)(w:World)(hBw:B<=w.heap.size)(h:E0 B w z x n) :
 Calls prog 112 #[z] w fun e w'=>e=.returned (.int .i64 (Nc x 0))/\Up w w':=by
 obtain⟨z0,V,O,U,T,rfl⟩:=h.shape';obtain⟨neg,t,I,hx,_⟩:=h;have G:=Hd I;have J:=Hd hx;have F:=Hd hBw;have d:∀ W,Ej B W (.agg #[.int .i64 0,.bool false,.slice none 0 0]) false []:=fun W=>⟨(fun x hx=>by cases hx),(fun h=>absurd rfl h),.inr ⟨J7 _,rfl⟩⟩;have j:=Hd d;clear I hx hBw d
 go_in
 go_wp2_with fail
 refine (Sl B _ _ neg false t [] _ (by have:=F.o;simp;omega) (G.o.bl (Oo _ _)) (j.o _)).mono ?_;rintro e K ⟨rfl,D⟩;have H:sg false (val [])=0:=rfl;rw[Ri neg false t [] G.o.1 (j.o w).1 G.o.2.1 (j.o w).2.1,J.o,H];have E:Hid (Up w K):=(Oo w _).trans (D.mono (by simp));clear D H
 go_wp2
 go_ret
 exact⟨rfl,E.o⟩
structure BxL (h:Nat)(W:World)(p0:Int)(pn:Bool)(pa:Option Addr)(pl pc:Nat)(q0:Int)(qn:Bool)(qa:Option Addr)(ql qc:Nat):Prop where
 a:Bx W h [.int .i64 p0,.bool pn,.slice pa pl pc]
 b:Bx W (h+1) [.int .i64 q0,.bool qn,.slice qa ql qc]
 r:Bx W (h+1+1) [.int .i64 0,.bool false,.slice none 0 0,.int .i64 0,.bool false,.slice none 0 0]
theorem BxL.bl {N:Nat}{W':World}{p0:Int}{pn:Bool}{pa:Option Addr}{pl pc:Nat}{q0:Int}{qn:Bool}{qa:Option Addr}{ql qc:Nat}(m:BxL h W p0 pn pa pl pc q0 qn qa ql qc)(hN:h+3<=N)(hb:Below N W W'):BxL h W' p0 pn pa pl pc q0 qn qa ql qc:=
 ⟨m.a.bl (by omega) hb,m.b.bl (by omega) hb,m.r.bl (by omega) hb⟩
theorem YX (ng n2:Bool)(tg t2:List Nat)(x y:Int)(hy:0<y)(htg:Oq tg)(ho2:Kx t2)(vg:sg ng (val tg)=No x y)(v2:sg n2 (val t2)=y)(len2:t2.length<=1000):tg.length<=1000/\tg≠[]:=by
 have d:val tg=Int.gcd x y:=by
  have h:=congrArg Int.natAbs vg;rw[Ih] at h;rw[h];unfold No;simp
 have j:val t2=y.natAbs:=by
  have h:=congrArg Int.natAbs v2;rw[Ih] at h;exact h
 have h3:0<Int.gcd x y:=Uz _ (by omega);have h4:Int.gcd x y<=y.natAbs:=Nat.le_of_dvd (by omega) (Int.natAbs_dvd_natAbs.2 (Int.gcd_dvd_right x y));refine⟨?_,?_⟩
 ·have:=Cq tg t2 htg ho2 (by omega);omega
 rintro rfl;simp[val] at d;omega
theorem GD (n:Bool)(v:Nat):sg (!n) v = -sg n v:=by cases n<;>simp[sg]
theorem XI (h:N9 (-x) (-y) a b):N9 x y a b:=by
 obtain⟨c,c0,d,j,p,g⟩:=h;refine⟨-c,by omega,by rw[Int.mul_neg];omega,by rw[Int.mul_neg];omega,p,?_⟩;rw[Int.natAbs_neg,g,Int.neg_gcd,Int.gcd_neg]
theorem BD {l:List Value}(h:Bx W g l){k:Nat}(hk:k≠g)(u0 u1 u2:Value):Bx (((W.setCell ⟨k,0,none⟩ u0).setCell ⟨k,1,none⟩ u1).setCell ⟨k,2,none⟩ u2) g l:=((h.other ⟨k,0,none⟩ hk u0).other ⟨k,1,none⟩ hk u1).other ⟨k,2,none⟩ hk u2
theorem L8 {B:Nat}{z:Value}{v:Int}(h:Nb B W z v)(t1:List Nat)(ok:Kx t1)(hv:v.natAbs<=val t1)(len:t1.length<=1000):E0 B W z v 1000:=by
 obtain⟨neg,t,j,d⟩:=h;refine⟨neg,t,j,d,?_⟩;have D:val t=v.natAbs:=by rw[<-d,Ih]
 have:=Cq t t1 j.2.1 ok (by omega);omega
theorem Qq (a c:Int)(hc:c≠0):a.natAbs<=(a*c).natAbs:=by
 rw[Oa];exact Nat.le_mul_of_pos_right _ (by omega)
theorem ZR {n:Bool}{t:List Nat}(h:N9 x y a b)(hv:sg n (val t)=x):a.natAbs<=val t:=by
 obtain⟨c,c0,d,_⟩:=h;have j:val t=x.natAbs:=by rw[<-hv,Ih]
 rw[j,d];exact Qq a c c0
theorem ZP {n:Bool}{t:List Nat}(h:N9 x y a b)(hv:sg n (val t)=y):b.natAbs<=val t:=by
 obtain⟨c,c0,_,d,_⟩:=h;have j:val t=y.natAbs:=by rw[<-hv,Ih]
 rw[j,d];exact Qq b c c0
theorem EO (B:Nat)(zp zq:Value)(x y:Int)(w:World)(hBw:B<=w.heap.size)(hp:E0 B w zp x 1000)(hq:E0 B w zq y 1000)(hy:y≠0) :
 Calls prog 69 #[zp,zq] w fun e w'=>∃ z p q,e=.returned z/\C0 B w' z p q/\N9 x y p q/\Up w w':=by
 obtain⟨p0,pn,pa,pl,pc,rfl⟩:=hp.shape';obtain⟨q0,qn,qa,ql,qc,rfl⟩:=hq.shape';have HP:=Hd hp;have HQ:=Hd hq;have e6:=Hd hBw;clear hp hq hBw;obtain⟨W0,l5⟩:=O2 (((w.alloc (.cells #[.int .i64 p0,.bool pn,.slice pa pl pc] 72)).alloc (.cells #[.int .i64 q0,.bool qn,.slice qa ql qc] 72)).alloc (.cells #[.int .i64 0,.bool false,.slice none 0 0,.int .i64 0,.bool false,.slice none 0 0] 120));have L5:=Hd l5;have H3:W0.heap.size=w.heap.size+3:=by rw[<-l5];simp
 have x5:=Hd H3;have v6:Hid (Up w W0):=by
  unfold Hid
  rw[<-l5];exact Ou (Ou (Oo _ _) _) _
 have HM:Hid (BxL w.heap.size W0 p0 pn pa pl pc q0 qn qa ql qc):=by
  have h1:Bx W0 w.heap.size [.int .i64 p0,.bool pn,.slice pa pl pc]:=by rw[<-l5];exact ((Ox w _ _).alloc _).alloc _
  have h2:Bx W0 (w.heap.size+1) [.int .i64 q0,.bool qn,.slice qa ql qc]:=by
   rw[<-l5];have h:=Ox (w.alloc (.cells #[.int .i64 p0,.bool pn,.slice pa pl pc] 72)) [.int .i64 q0,.bool qn,.slice qa ql qc] 72;rw[J4] at h;exact h.alloc _
  have h3:Bx W0 (w.heap.size+1+1) [.int .i64 0,.bool false,.slice none 0 0,.int .i64 0,.bool false,.slice none 0 0]:=by
   rw[<-l5];have h:=Ox ((w.alloc (.cells #[.int .i64 p0,.bool pn,.slice pa pl pc] 72)).alloc (.cells #[.int .i64 q0,.bool qn,.slice qa ql qc] 72)) [.int .i64 0,.bool false,.slice none 0 0,.int .i64 0,.bool false,.slice none 0 0] 120;rw[J4,J4] at h;exact h
  exact⟨h1,h2,h3⟩
 obtain⟨k0,k1,k2⟩:=HM.o.b.k3;clear l5 H3
 go_in
 go_upto_region 1 with fail
 rw[L5.o]
 go_wp2_with fail
 refine (KJ B _ y 1000 _ (by have:=e6.o;have:=x5.o;omega) (HQ.o.bl v6.o)).mono ?_;rintro e w1 ⟨rfl,t7⟩;have t6:=Hd (HM.o.bl (N:=W0.heap.size) (by have:=x5.o;omega) t7);have n7:=Hd (v6.o.trans (t7.mono v6.o.size));have x6:Hid (w.heap.size+3<=w1.heap.size):=by have:=x5.o;have:=t7.size;show w.heap.size+3<=w1.heap.size;omega
 have D2:=Hd (HP.o.bl n7.o);have x3:=Hd (HQ.o.bl n7.o);obtain⟨a0,a1,a2⟩:=t6.o.a.k3;obtain⟨b0,b1,b2⟩:=t6.o.b.k3;clear t7 k0 k1 k2
 by_cases u8:y<0
 ·have z:decide (Nc y 0<0)=true:=by rw[GR];exact Jn u8
  have e7:Hid (0 < -y):=by show 0 < -y;omega
  have HL:Hid (∀ a b,N9 (-x) (-y) a b->N9 x y a b):=fun a b h=>XI h;obtain⟨np,tp,H4,vp,lp⟩:=D2.o;have L6:=Hd H4;have E2:Hid (sg (!np) (val tp) = -x/\tp.length<=1000):=⟨by rw[<-vp];exact GD np _,lp⟩;clear H4 vp lp
  go_wp2_with fail
  refine (Rp B _ np tp w1 L6.o).mono ?_;rintro e w2 ⟨z2,rfl,j4,t8⟩;obtain⟨P0,Pn,Pa,Pl,Pc,rfl⟩:=j4.shape;have m9:=t6.o.bl (N:=w1.heap.size) x6.o t8;have r7:Kh w2 w.heap.size:=Ep m9.a (by simp);obtain⟨W3,o0⟩:=O2 (((w2.setCell ⟨w.heap.size,0,none⟩ (.int .i64 P0)).setCell ⟨w.heap.size,1,none⟩ (.bool Pn)).setCell ⟨w.heap.size,2,none⟩ (.slice Pa Pl Pc));have H0:=Hd o0;have y5:=K0.three w2 w.heap.size (.int .i64 P0) (.bool Pn) (.slice Pa Pl Pc);have j9:Hid (E0 B W3 (.agg #[.int .i64 P0,.bool Pn,.slice Pa Pl Pc]) (-x) 1000):=by
   have h:E0 B w2 (.agg #[.int .i64 P0,.bool Pn,.slice Pa Pl Pc]) (-x) 1000:=⟨_,_,j4,E2.o.1,E2.o.2⟩;have h2:=h.keeps r7 r7 y5;rw[o0] at h2;exact h2
  have k5:Hid (E0 B W3 (.agg #[.int .i64 q0,.bool qn,.slice qa ql qc]) y 1000):=by
   have h2:=(x3.o.bl t8).keeps r7 r7 y5;rw[o0] at h2;exact h2
  have d4:Hid (Up w W3):=by
   have h:=X6 (n7.o.trans (t8.mono n7.o.size)) w.heap.size O1 (.int .i64 P0) (.bool Pn) (.slice Pa Pl Pc);rw[o0] at h;exact h
  have H:Hid (BxL w.heap.size W3 P0 Pn Pa Pl Pc q0 qn qa ql qc):=by
   have h1:Bx (((w2.setCell ⟨w.heap.size,0,none⟩ (.int .i64 P0)).setCell ⟨w.heap.size,1,none⟩ (.bool Pn)).setCell ⟨w.heap.size,2,none⟩ (.slice Pa Pl Pc)) w.heap.size [.int .i64 P0,.bool Pn,.slice Pa Pl Pc]:=((m9.a.set 0 _).set 1 _).set 2 _;have h2:=BD m9.b (k:=w.heap.size) (by omega) (.int .i64 P0) (.bool Pn) (.slice Pa Pl Pc);have h3:=BD m9.r (k:=w.heap.size) (by omega) (.int .i64 P0) (.bool Pn) (.slice Pa Pl Pc);rw[o0] at h1 h2 h3;exact⟨h1,h2,h3⟩
  have k7:Hid (w.heap.size+3<=W3.heap.size):=by
   have:=H.o.r.lt
   show w.heap.size+3<=W3.heap.size
   omega
  obtain⟨c0,c1,c2⟩:=m9.a.k3;obtain⟨x0,x1,x2⟩:=m9.a.f3;obtain⟨nq,tq,H5,vq,lq⟩:=k5.o;have L7:=Hd H5;have F2:Hid (sg (!nq) (val tq) = -y/\tq.length<=1000):=⟨by rw[<-vq];exact GD nq _,lq⟩;obtain⟨d0,d1,d2⟩:=H.o.b.k3;clear j4 t8 m9 r7 o0 y5 H5 vq lq a0 a1 a2 b0 b1 b2
  go_upto_region 3 with fail
  rw[H0.o];clear c0 c1 c2 x0 x1 x2
  go_wp2_with fail
  refine (Rp B _ nq tq W3 L7.o).mono ?_;rintro e w4 ⟨z4,rfl,y8,b8⟩;obtain⟨Q0,Qn,Qa,Ql,Qc,rfl⟩:=y8.shape;have n0:=H.o.bl (N:=W3.heap.size) k7.o b8;have r8:Kh w4 (w.heap.size+1):=Ep n0.b (by simp);obtain⟨V,O⟩:=O2 (((w4.setCell ⟨w.heap.size+1,0,none⟩ (.int .i64 Q0)).setCell ⟨w.heap.size+1,1,none⟩ (.bool Qn)).setCell ⟨w.heap.size+1,2,none⟩ (.slice Qa Ql Qc));have p3:=Hd O;have y6:=K0.three w4 (w.heap.size+1) (.int .i64 Q0) (.bool Qn) (.slice Qa Ql Qc);have E1:Hid (E0 B V (.agg #[.int .i64 Q0,.bool Qn,.slice Qa Ql Qc]) (-y) 1000):=by
   have h:E0 B w4 (.agg #[.int .i64 Q0,.bool Qn,.slice Qa Ql Qc]) (-y) 1000:=⟨_,_,y8,F2.o.1,F2.o.2⟩;have h2:=h.keeps r8 r8 y6;rw[O] at h2;exact h2
  have L4:Hid (E0 B V (.agg #[.int .i64 P0,.bool Pn,.slice Pa Pl Pc]) (-x) 1000):=by
   have h2:=(j9.o.bl b8).keeps r8 r8 y6;rw[O] at h2;exact h2
  have j6:Hid (Up w V):=by
   have h:=X6 (d4.o.trans (b8.mono d4.o.size)) (w.heap.size+1) (Ze _) (.int .i64 Q0) (.bool Qn) (.slice Qa Ql Qc);rw[O] at h;exact h
  have j7:Hid (BxL w.heap.size V P0 Pn Pa Pl Pc Q0 Qn Qa Ql Qc):=by
   have h1:=BD n0.a (k:=w.heap.size+1) (by omega) (.int .i64 Q0) (.bool Qn) (.slice Qa Ql Qc);have h2:Bx (((w4.setCell ⟨w.heap.size+1,0,none⟩ (.int .i64 Q0)).setCell ⟨w.heap.size+1,1,none⟩ (.bool Qn)).setCell ⟨w.heap.size+1,2,none⟩ (.slice Qa Ql Qc)) (w.heap.size+1) [.int .i64 Q0,.bool Qn,.slice Qa Ql Qc]:=((n0.b.set 0 _).set 1 _).set 2 _;have h3:=BD n0.r (k:=w.heap.size+1) (by omega) (.int .i64 Q0) (.bool Qn) (.slice Qa Ql Qc);rw[O] at h1 h2 h3;exact⟨h1,h2,h3⟩
  have n8:Hid (w.heap.size+3<=V.heap.size):=by
   have:=j7.o.r.lt
   show w.heap.size+3<=V.heap.size
   omega
  obtain⟨c0,c1,c2⟩:=n0.b.k3;obtain⟨x0,x1,x2⟩:=n0.b.f3;clear y8 b8 n0 r8 O y6 d0 d1 d2
  go_upto_region 4 with fail
  rw[p3.o];clear c0 c1 c2 x0 x1 x2;obtain⟨a0,a1,a2⟩:=j7.o.a.k3;obtain⟨b0,b1,b2⟩:=j7.o.b.k3;clear j9 k5 d4 H k7 H0
  go_wp2_with fail
  refine (O0 Q0 Qn Qa Ql Qc V).mono ?_;rintro e w3 ⟨rfl,s1⟩;have e1:Up V w3:=by rw[s1];exact Oo _ _
  have H:=Hd (j7.o.bl (N:=V.heap.size) n8.o e1);have d4:=Hd (j6.o.trans (e1.mono j6.o.size));have j9:=Hd (L4.o.bl e1);have k5:=Hd (E1.o.bl e1);have k7:Hid (w.heap.size+3<=w3.heap.size):=Yt n8.o e1.size;have j8:=Hd (Py E1.o.isN);clear s1 e1 a0 a1 a2 b0 b1 b2;obtain⟨a0,a1,a2⟩:=H.o.a.k3;obtain⟨b0,b1,b2⟩:=H.o.b.k3
  by_cases h1 : -y=1
  ·have d:=j8.o;rw[Jn h1,Yd] at d;obtain⟨z1,z2⟩:=d;rw[z1];have J:Hid (N9 x y (-x) (-y)):=HL.o _ _ (Qy e7.o (by rw[h1];simp));obtain⟨r0,r1,r2,r3,r4,r5⟩:=H.o.r.k6;obtain⟨f0,f1,f2,f3,f4,f5⟩:=H.o.r.f6
   go_wp2
   have j:Kh w3 (w.heap.size+1+1):=Ep H.o.r (by simp);have hk:=Qt w3 (w.heap.size+1+1) (.int .i64 P0) (.bool Pn) (.slice Pa Pl Pc) (.int .i64 Q0) (.bool Qn) (.slice Qa Ql Qc);have e9:=j9.o.keeps j j hk;have f7:=k5.o.keeps j j hk;have e8:=Wh d4.o (w.heap.size+1+1) (by omega) (.int .i64 P0) (.bool Pn) (.slice Pa Pl Pc) (.int .i64 Q0) (.bool Qn) (.slice Qa Ql Qc);have hZ:=H.o.r.put6 (.int .i64 P0) (.bool Pn) (.slice Pa Pl Pc) (.int .i64 Q0) (.bool Qn) (.slice Qa Ql Qc);have f8:((((((w3.setCell ⟨w.heap.size+1+1,0,none⟩ (.int .i64 P0)).setCell ⟨w.heap.size+1+1,1,none⟩ (.bool Pn)).setCell ⟨w.heap.size+1+1,2,none⟩ (.slice Pa Pl Pc)).setCell ⟨w.heap.size+1+1,3,none⟩ (.int .i64 Q0)).setCell ⟨w.heap.size+1+1,4,none⟩ (.bool Qn)).setCell ⟨w.heap.size+1+1,5,none⟩ (.slice Qa Ql Qc))=W6 w3 (w.heap.size+1+1) (.int .i64 P0) (.bool Pn) (.slice Pa Pl Pc) (.int .i64 Q0) (.bool Qn) (.slice Qa Ql Qc):=rfl;rw[f8];generalize W6 w3 (w.heap.size+1+1) (.int .i64 P0) (.bool Pn) (.slice Pa Pl Pc) (.int .i64 Q0) (.bool Qn) (.slice Qa Ql Qc)=W9 at *;obtain⟨m0,m1,m2,m3,m4,m5⟩:=hZ.k6;refine Jh (v:=.agg #[.int .i64 P0,.bool Pn,.slice Pa Pl Pc,.int .i64 Q0,.bool Qn,.slice Qa Ql Qc]) ?_ rfl ⟨_,_,_,rfl,⟨P0,Pn,Pa,Pl,Pc,Q0,Qn,Qa,Ql,Qc,rfl,e9,f7⟩,J.o,e8⟩;simp[results,results69,go_sem,m0,m1,m2,m3,m4,m5]
  have d:=j8.o;rw[Jp h1] at d
  by_cases hz:Ql=0
  case' pos=>
   have z1:((Ql:Int)==0)=true:=by rw[Jw];omega
   have z2:(Q0==1)=false:=by rw[z1] at d;exact d
  case' neg=>
   have z1:((Ql:Int)==0)=false:=by rw[Jd];omega
  all_goals
   rw[z1];clear d hz
   go_wp2_with fail
   obtain⟨n1,t1,s4,v1,g7⟩:=j9.o;obtain⟨n2,t2,j4,v2,b9⟩:=k5.o;have i7:=Hd (And.intro s4 j4);have I:=Hd (And.intro v1 v2);clear s4 j4 v1 v2;refine (C9 B _ _ n1 n2 t1 t2 1000 _ (by have:=e6.o;have:=d4.o.size;omega) i7.o.1 i7.o.2 g7 b9 (by omega)).mono ?_;rintro e w4 ⟨zg,rfl,hg,b8⟩;rw[I.o.1,I.o.2] at hg;obtain⟨g0,gn,ga,gl,gc,rfl⟩:=hg.shape;obtain⟨V,O⟩:=O2 (w4.alloc (.cells #[.int .i64 g0,.bool gn,.slice ga gl gc] 72));have p3:=Hd O;have l6:Up w4 V:=by rw[<-O];exact Oo _ _
   have j3:Bx V w4.heap.size [.int .i64 g0,.bool gn,.slice ga gl gc]:=by rw[<-O];exact Ox w4 _ _
   have K:Up w3 V:=b8.trans (l6.mono b8.size);have j7:=Hd (H.o.bl (N:=w3.heap.size) k7.o K);have j6:=Hd (d4.o.trans (K.mono d4.o.size));have n8:Hid (w.heap.size+3<=w4.heap.size):=Yt k7.o b8.size;have o3:=Hd (hg.bl l6);have p4:=Hd (And.intro (i7.o.1.bl K) (i7.o.2.bl K));have l2:Hid (∀ W,Up V W->Bx W w4.heap.size [.int .i64 g0,.bool gn,.slice ga gl gc]):=fun W hW=>j3.bl j3.lt hW;obtain⟨g1,g2,g3⟩:=j3.k3;clear hg O b8 l6 j3 K a0 a1 a2 b0 b1 b2
   go_upto_region 8 with fail
   rw[p3.o];refine (O0 g0 gn ga gl gc V).mono ?_;rintro e w6 ⟨rfl,s2⟩;have G:Up V w6:=by rw[s2];exact Oo _ _
   have o9:Hid (w.heap.size+3<=V.heap.size):=Yt n8.o (Uh (l2.o V (Jj _ _)).lt);have T:=Hd (j7.o.bl (N:=V.heap.size) o9.o G);have e5:=Hd (j6.o.trans (G.mono j6.o.size));have v8:=Hd (o3.o.bl G);have U:=Hd (And.intro (p4.o.1.bl G) (p4.o.2.bl G));have o4:=Hd (Py o3.o);have s3:=l2.o w6 G;obtain⟨y0,y3,y4⟩:=s3.k3;have o8:Hid (w.heap.size+3<=w6.heap.size):=Yt o9.o G.size;have o5:Hid (∀ W,Up w6 W->Bx W w4.heap.size [.int .i64 g0,.bool gn,.slice ga gl gc]):=fun W hW=>l2.o W ((show Up V w6 from G).trans (hW.mono G.size));clear s2 G s3 g1 g2 g3;obtain⟨a0,a1,a2⟩:=T.o.a.k3;obtain⟨b0,b1,b2⟩:=T.o.b.k3
   by_cases m8:No (-x) (-y)=1
   ·have d:=o4.o;rw[Jn m8,Yd] at d;obtain⟨y1,y2⟩:=d;rw[y1];have w8:Hid (E0 B w6 (.agg #[.int .i64 P0,.bool Pn,.slice Pa Pl Pc]) (-x) 1000):=⟨_,_,U.o.1,I.o.1,g7⟩;have x4:Hid (E0 B w6 (.agg #[.int .i64 Q0,.bool Qn,.slice Qa Ql Qc]) (-y) 1000):=⟨_,_,U.o.2,I.o.2,b9⟩;have J:Hid (N9 x y (-x) (-y)):=HL.o _ _ (Qy e7.o (by unfold No at m8;omega));clear y1;obtain⟨r0,r1,r2,r3,r4,r5⟩:=T.o.r.k6;obtain⟨f0,f1,f2,f3,f4,f5⟩:=T.o.r.f6
    go_wp2
    have j:Kh w6 (w.heap.size+1+1):=Ep T.o.r (by simp);have hk:=Qt w6 (w.heap.size+1+1) (.int .i64 P0) (.bool Pn) (.slice Pa Pl Pc) (.int .i64 Q0) (.bool Qn) (.slice Qa Ql Qc);have e9:=w8.o.keeps j j hk;have f7:=x4.o.keeps j j hk;have e8:=Wh e5.o (w.heap.size+1+1) (by omega) (.int .i64 P0) (.bool Pn) (.slice Pa Pl Pc) (.int .i64 Q0) (.bool Qn) (.slice Qa Ql Qc);have hZ:=T.o.r.put6 (.int .i64 P0) (.bool Pn) (.slice Pa Pl Pc) (.int .i64 Q0) (.bool Qn) (.slice Qa Ql Qc);have f8:((((((w6.setCell ⟨w.heap.size+1+1,0,none⟩ (.int .i64 P0)).setCell ⟨w.heap.size+1+1,1,none⟩ (.bool Pn)).setCell ⟨w.heap.size+1+1,2,none⟩ (.slice Pa Pl Pc)).setCell ⟨w.heap.size+1+1,3,none⟩ (.int .i64 Q0)).setCell ⟨w.heap.size+1+1,4,none⟩ (.bool Qn)).setCell ⟨w.heap.size+1+1,5,none⟩ (.slice Qa Ql Qc))=W6 w6 (w.heap.size+1+1) (.int .i64 P0) (.bool Pn) (.slice Pa Pl Pc) (.int .i64 Q0) (.bool Qn) (.slice Qa Ql Qc):=rfl;rw[f8];generalize W6 w6 (w.heap.size+1+1) (.int .i64 P0) (.bool Pn) (.slice Pa Pl Pc) (.int .i64 Q0) (.bool Qn) (.slice Qa Ql Qc)=W9 at *;obtain⟨m0,m1,m2,m3,m4,m5⟩:=hZ.k6;refine Jh (v:=.agg #[.int .i64 P0,.bool Pn,.slice Pa Pl Pc,.int .i64 Q0,.bool Qn,.slice Qa Ql Qc]) ?_ rfl ⟨_,_,_,rfl,⟨P0,Pn,Pa,Pl,Pc,Q0,Qn,Qa,Ql,Qc,rfl,e9,f7⟩,J.o,e8⟩;simp[results,results69,go_sem,m0,m1,m2,m3,m4,m5]
   have d:=o4.o;rw[Jp m8] at d;obtain⟨ng,tg,n5,vg⟩:=v8.o;have p6:=Hd n5;have p1:=Hd vg;have Y:Hid (tg.length<=1000/\tg≠[]):=YX ng n2 tg t2 (-x) (-y) e7.o n5.2.1 U.o.2.1 vg I.o.2 b9;clear n5 vg
   by_cases hz:gl=0
   case' pos=>
    have y1:((gl:Int)==0)=true:=by rw[Jw];omega
    have y2:(g0==1)=false:=by rw[y1] at d;exact d
   case' neg=>
    have y1:((gl:Int)==0)=false:=by rw[Jd];omega
   all_goals
    rw[y1];clear d hz
    go_wp2_with fail
    refine (Qz B _ _ n1 ng t1 tg _ (by have:=e6.o;have:=e5.o.size;omega) U.o.1 p6.o (by omega) (by have:=Y.o.1;omega) Y.o.2).mono ?_;rintro e w7 ⟨za,zr,n6,z7,rfl,⟨n3,r9⟩,m6,l7⟩;rw[I.o.1,p1.o] at m6;have v7:=Hd m6;obtain⟨d0,dn,da,dl,dc,rfl⟩:=n3.shape;obtain⟨e0,en,ea,el,ec,rfl⟩:=r9.shape;obtain⟨W8,j1⟩:=O2 ((w7.alloc (.cells #[.int .i64 d0,.bool dn,.slice da dl dc] 72)).alloc (.cells #[.int .i64 e0,.bool en,.slice ea el ec] 72));have x8:=Hd j1;have l8:Up w7 W8:=by rw[<-j1];exact Ou (Oo _ _) _
    have d9:Bx W8 w7.heap.size [.int .i64 d0,.bool dn,.slice da dl dc]:=by rw[<-j1];exact (Ox w7 _ _).alloc _
    have E:Up w6 W8:=l7.trans (l8.mono l7.size);have i6:=Hd (T.o.bl (N:=w6.heap.size) o8.o E);have i1:=Hd (e5.o.trans (E.mono e5.o.size));have x7:Hid (w.heap.size+3<=W8.heap.size):=Yt o8.o E.size;have p5:=Hd (And.intro (U.o.2.bl E) (p6.o.bl E));have w5:Hid (Nb B W8 (.agg #[.int .i64 d0,.bool dn,.slice da dl dc]) n6):=(n3.bl l8).mono (by have:=e6.o;have:=e5.o.size;omega);have u9:Hid (∀ W,Up W8 W->Bx W w7.heap.size [.int .i64 d0,.bool dn,.slice da dl dc]):=fun W hW=>d9.bl d9.lt hW;have j2:=o5.o W8 E;have k8:=j2.cell 0;have k9:=j2.cell 1;have l0:=j2.cell 2;have p7:=i6.o.b.cell 0;have p8:=i6.o.b.cell 1;have p9:=i6.o.b.cell 2;simp only[J6,Yk] at k8 k9 l0 p7 p8 p9;clear n3 r9 m6 l7 j1 l8 d9 E j2 a0 a1 a2 b0 b1 b2 y0 y3 y4
    go_upto_region 10 with fail
    rw[x8.o]
    go_wp2_with fail
    refine (Qz B _ _ n2 ng t2 tg W8 (by have:=e6.o;have:=i1.o.size;omega) p5.o.1 p5.o.2 (by omega) (by have:=Y.o.1;omega) Y.o.2).mono ?_;rintro e w9 ⟨zb,zs,s6,z8,rfl,⟨n4,s0⟩,m7,l9⟩;rw[I.o.2,p1.o] at m7;have l3:=Hd (Du (-x) (-y) (No (-x) (-y)) n6 z7 s6 z8 (by have:=e7.o;omega) (by rw[if_neg (by have:=e7.o;omega)]) v7.o m7);obtain⟨i0,iN,ia,il,ic,rfl⟩:=n4.shape;obtain⟨j0,jn,ja,jl,jc,rfl⟩:=s0.shape;obtain⟨D,b7⟩:=O2 ((w9.alloc (.cells #[.int .i64 i0,.bool iN,.slice ia il ic] 72)).alloc (.cells #[.int .i64 j0,.bool jn,.slice ja jl jc] 72));have p2:=Hd b7;have f9:Up w9 D:=by rw[<-b7];exact Ou (Oo _ _) _
    have r6:Bx D w9.heap.size [.int .i64 i0,.bool iN,.slice ia il ic]:=by rw[<-b7];exact (Ox w9 _ _).alloc _
    have F:Up W8 D:=l9.trans (f9.mono l9.size);have Z:=Hd (i6.o.bl (N:=W8.heap.size) x7.o F);have o2:=Hd (i1.o.trans (F.mono i1.o.size));have o6:Hid (E0 B D (.agg #[.int .i64 d0,.bool dn,.slice da dl dc]) n6 1000):=L8 (w5.o.bl F) t1 U.o.1.1 (ZR l3.o I.o.1) g7;have o7:Hid (E0 B D (.agg #[.int .i64 i0,.bool iN,.slice ia il ic]) s6 1000):=L8 ((n4.bl f9).mono (by have:=e6.o;have:=i1.o.size;omega)) t2 U.o.2.1 (ZP l3.o I.o.2) b9;have J:=Hd (HL.o _ _ l3.o);have d9:=u9.o D F;obtain⟨u0,u1,u2⟩:=d9.k3;obtain⟨v0,v1,v2⟩:=r6.k3;clear n4 s0 m7 l9 b7 f9 r6 F d9 p7 p8 p9 k8 k9 l0
    go_upto_region 11 with fail
    rw[p2.o];obtain⟨r0,r1,r2,r3,r4,r5⟩:=Z.o.r.k6;obtain⟨f0,f1,f2,f3,f4,f5⟩:=Z.o.r.f6
    go_wp2
    have j:Kh D (w.heap.size+1+1):=Ep Z.o.r (by simp);have hk:=Qt D (w.heap.size+1+1) (.int .i64 d0) (.bool dn) (.slice da dl dc) (.int .i64 i0) (.bool iN) (.slice ia il ic);have e9:=o6.o.keeps j j hk;have f7:=o7.o.keeps j j hk;have e8:=Wh o2.o (w.heap.size+1+1) (by omega) (.int .i64 d0) (.bool dn) (.slice da dl dc) (.int .i64 i0) (.bool iN) (.slice ia il ic);have hZ:=Z.o.r.put6 (.int .i64 d0) (.bool dn) (.slice da dl dc) (.int .i64 i0) (.bool iN) (.slice ia il ic);have f8:((((((D.setCell ⟨w.heap.size+1+1,0,none⟩ (.int .i64 d0)).setCell ⟨w.heap.size+1+1,1,none⟩ (.bool dn)).setCell ⟨w.heap.size+1+1,2,none⟩ (.slice da dl dc)).setCell ⟨w.heap.size+1+1,3,none⟩ (.int .i64 i0)).setCell ⟨w.heap.size+1+1,4,none⟩ (.bool iN)).setCell ⟨w.heap.size+1+1,5,none⟩ (.slice ia il ic))=W6 D (w.heap.size+1+1) (.int .i64 d0) (.bool dn) (.slice da dl dc) (.int .i64 i0) (.bool iN) (.slice ia il ic):=rfl;rw[f8];generalize W6 D (w.heap.size+1+1) (.int .i64 d0) (.bool dn) (.slice da dl dc) (.int .i64 i0) (.bool iN) (.slice ia il ic)=W9 at *;obtain⟨m0,m1,m2,m3,m4,m5⟩:=hZ.k6;refine Jh (v:=.agg #[.int .i64 d0,.bool dn,.slice da dl dc,.int .i64 i0,.bool iN,.slice ia il ic]) ?_ rfl ⟨_,_,_,rfl,⟨d0,dn,da,dl,dc,i0,iN,ia,il,ic,rfl,e9,f7⟩,J.o,e8⟩;simp[results,results69,go_sem,m0,m1,m2,m3,m4,m5]
 have z:decide (Nc y 0<0)=false:=by rw[GR];exact Jp u8
 have e7:Hid (0<y):=by show 0<y;omega
 have HL:Hid (∀ a b,N9 x y a b->N9 x y a b):=fun _ _ h=>h
 go_wp2_with fail
 refine (O0 q0 qn qa ql qc w1).mono ?_;rintro e w3 ⟨rfl,s1⟩;have e1:Up w1 w3:=by rw[s1];exact Oo _ _
 have H:=Hd (t6.o.bl (N:=w1.heap.size) x6.o e1);have d4:=Hd (n7.o.trans (e1.mono n7.o.size));have j9:=Hd (D2.o.bl e1);have k5:=Hd (x3.o.bl e1);have k7:Hid (w.heap.size+3<=w3.heap.size):=Yt x6.o e1.size;have j8:=Hd (Py x3.o.isN);clear s1 e1 a0 a1 a2 b0 b1 b2;obtain⟨a0,a1,a2⟩:=H.o.a.k3;obtain⟨b0,b1,b2⟩:=H.o.b.k3
 by_cases h1:y=1
 ·have d:=j8.o;rw[Jn h1,Yd] at d;obtain⟨z1,z2⟩:=d;rw[z1];have J:Hid (N9 x y (x) (y)):=HL.o _ _ (Qy e7.o (by rw[h1];simp));obtain⟨r0,r1,r2,r3,r4,r5⟩:=H.o.r.k6;obtain⟨f0,f1,f2,f3,f4,f5⟩:=H.o.r.f6
  go_wp2
  have j:Kh w3 (w.heap.size+1+1):=Ep H.o.r (by simp);have hk:=Qt w3 (w.heap.size+1+1) (.int .i64 p0) (.bool pn) (.slice pa pl pc) (.int .i64 q0) (.bool qn) (.slice qa ql qc);have e9:=j9.o.keeps j j hk;have f7:=k5.o.keeps j j hk;have e8:=Wh d4.o (w.heap.size+1+1) (by omega) (.int .i64 p0) (.bool pn) (.slice pa pl pc) (.int .i64 q0) (.bool qn) (.slice qa ql qc);have hZ:=H.o.r.put6 (.int .i64 p0) (.bool pn) (.slice pa pl pc) (.int .i64 q0) (.bool qn) (.slice qa ql qc);have f8:((((((w3.setCell ⟨w.heap.size+1+1,0,none⟩ (.int .i64 p0)).setCell ⟨w.heap.size+1+1,1,none⟩ (.bool pn)).setCell ⟨w.heap.size+1+1,2,none⟩ (.slice pa pl pc)).setCell ⟨w.heap.size+1+1,3,none⟩ (.int .i64 q0)).setCell ⟨w.heap.size+1+1,4,none⟩ (.bool qn)).setCell ⟨w.heap.size+1+1,5,none⟩ (.slice qa ql qc))=W6 w3 (w.heap.size+1+1) (.int .i64 p0) (.bool pn) (.slice pa pl pc) (.int .i64 q0) (.bool qn) (.slice qa ql qc):=rfl;rw[f8];generalize W6 w3 (w.heap.size+1+1) (.int .i64 p0) (.bool pn) (.slice pa pl pc) (.int .i64 q0) (.bool qn) (.slice qa ql qc)=W9 at *;obtain⟨m0,m1,m2,m3,m4,m5⟩:=hZ.k6;refine Jh (v:=.agg #[.int .i64 p0,.bool pn,.slice pa pl pc,.int .i64 q0,.bool qn,.slice qa ql qc]) ?_ rfl ⟨_,_,_,rfl,⟨p0,pn,pa,pl,pc,q0,qn,qa,ql,qc,rfl,e9,f7⟩,J.o,e8⟩;simp[results,results69,go_sem,m0,m1,m2,m3,m4,m5]
 have d:=j8.o;rw[Jp h1] at d
 by_cases hz:ql=0
 case' pos=>
  have z1:((ql:Int)==0)=true:=by rw[Jw];omega
  have z2:(q0==1)=false:=by rw[z1] at d;exact d
 case' neg=>
  have z1:((ql:Int)==0)=false:=by rw[Jd];omega
 all_goals
  rw[z1];clear d hz
  go_wp2_with fail
  obtain⟨n1,t1,s4,v1,g7⟩:=j9.o;obtain⟨n2,t2,j4,v2,b9⟩:=k5.o;have i7:=Hd (And.intro s4 j4);have I:=Hd (And.intro v1 v2);clear s4 j4 v1 v2;refine (C9 B _ _ n1 n2 t1 t2 1000 _ (by have:=e6.o;have:=d4.o.size;omega) i7.o.1 i7.o.2 g7 b9 (by omega)).mono ?_;rintro e w4 ⟨zg,rfl,hg,b8⟩;rw[I.o.1,I.o.2] at hg;obtain⟨g0,gn,ga,gl,gc,rfl⟩:=hg.shape;obtain⟨V,O⟩:=O2 (w4.alloc (.cells #[.int .i64 g0,.bool gn,.slice ga gl gc] 72));have p3:=Hd O;have l6:Up w4 V:=by rw[<-O];exact Oo _ _
  have j3:Bx V w4.heap.size [.int .i64 g0,.bool gn,.slice ga gl gc]:=by rw[<-O];exact Ox w4 _ _
  have K:Up w3 V:=b8.trans (l6.mono b8.size);have j7:=Hd (H.o.bl (N:=w3.heap.size) k7.o K);have j6:=Hd (d4.o.trans (K.mono d4.o.size));have n8:Hid (w.heap.size+3<=w4.heap.size):=Yt k7.o b8.size;have o3:=Hd (hg.bl l6);have p4:=Hd (And.intro (i7.o.1.bl K) (i7.o.2.bl K));have l2:Hid (∀ W,Up V W->Bx W w4.heap.size [.int .i64 g0,.bool gn,.slice ga gl gc]):=fun W hW=>j3.bl j3.lt hW;obtain⟨g1,g2,g3⟩:=j3.k3;clear hg O b8 l6 j3 K a0 a1 a2 b0 b1 b2
  go_upto_region 8 with fail
  rw[p3.o];refine (O0 g0 gn ga gl gc V).mono ?_;rintro e w6 ⟨rfl,s2⟩;have G:Up V w6:=by rw[s2];exact Oo _ _
  have o9:Hid (w.heap.size+3<=V.heap.size):=Yt n8.o (Uh (l2.o V (Jj _ _)).lt);have T:=Hd (j7.o.bl (N:=V.heap.size) o9.o G);have e5:=Hd (j6.o.trans (G.mono j6.o.size));have v8:=Hd (o3.o.bl G);have U:=Hd (And.intro (p4.o.1.bl G) (p4.o.2.bl G));have o4:=Hd (Py o3.o);have s3:=l2.o w6 G;obtain⟨y0,y3,y4⟩:=s3.k3;have o8:Hid (w.heap.size+3<=w6.heap.size):=Yt o9.o G.size;have o5:Hid (∀ W,Up w6 W->Bx W w4.heap.size [.int .i64 g0,.bool gn,.slice ga gl gc]):=fun W hW=>l2.o W ((show Up V w6 from G).trans (hW.mono G.size));clear s2 G s3 g1 g2 g3;obtain⟨a0,a1,a2⟩:=T.o.a.k3;obtain⟨b0,b1,b2⟩:=T.o.b.k3
  by_cases m8:No (x) (y)=1
  ·have d:=o4.o;rw[Jn m8,Yd] at d;obtain⟨y1,y2⟩:=d;rw[y1];have w8:Hid (E0 B w6 (.agg #[.int .i64 p0,.bool pn,.slice pa pl pc]) (x) 1000):=⟨_,_,U.o.1,I.o.1,g7⟩;have x4:Hid (E0 B w6 (.agg #[.int .i64 q0,.bool qn,.slice qa ql qc]) (y) 1000):=⟨_,_,U.o.2,I.o.2,b9⟩;have J:Hid (N9 x y (x) (y)):=HL.o _ _ (Qy e7.o (by unfold No at m8;omega));clear y1;obtain⟨r0,r1,r2,r3,r4,r5⟩:=T.o.r.k6;obtain⟨f0,f1,f2,f3,f4,f5⟩:=T.o.r.f6
   go_wp2
   have j:Kh w6 (w.heap.size+1+1):=Ep T.o.r (by simp);have hk:=Qt w6 (w.heap.size+1+1) (.int .i64 p0) (.bool pn) (.slice pa pl pc) (.int .i64 q0) (.bool qn) (.slice qa ql qc);have e9:=w8.o.keeps j j hk;have f7:=x4.o.keeps j j hk;have e8:=Wh e5.o (w.heap.size+1+1) (by omega) (.int .i64 p0) (.bool pn) (.slice pa pl pc) (.int .i64 q0) (.bool qn) (.slice qa ql qc);have hZ:=T.o.r.put6 (.int .i64 p0) (.bool pn) (.slice pa pl pc) (.int .i64 q0) (.bool qn) (.slice qa ql qc);have f8:((((((w6.setCell ⟨w.heap.size+1+1,0,none⟩ (.int .i64 p0)).setCell ⟨w.heap.size+1+1,1,none⟩ (.bool pn)).setCell ⟨w.heap.size+1+1,2,none⟩ (.slice pa pl pc)).setCell ⟨w.heap.size+1+1,3,none⟩ (.int .i64 q0)).setCell ⟨w.heap.size+1+1,4,none⟩ (.bool qn)).setCell ⟨w.heap.size+1+1,5,none⟩ (.slice qa ql qc))=W6 w6 (w.heap.size+1+1) (.int .i64 p0) (.bool pn) (.slice pa pl pc) (.int .i64 q0) (.bool qn) (.slice qa ql qc):=rfl;rw[f8];generalize W6 w6 (w.heap.size+1+1) (.int .i64 p0) (.bool pn) (.slice pa pl pc) (.int .i64 q0) (.bool qn) (.slice qa ql qc)=W9 at *;obtain⟨m0,m1,m2,m3,m4,m5⟩:=hZ.k6;refine Jh (v:=.agg #[.int .i64 p0,.bool pn,.slice pa pl pc,.int .i64 q0,.bool qn,.slice qa ql qc]) ?_ rfl ⟨_,_,_,rfl,⟨p0,pn,pa,pl,pc,q0,qn,qa,ql,qc,rfl,e9,f7⟩,J.o,e8⟩;simp[results,results69,go_sem,m0,m1,m2,m3,m4,m5]
  have d:=o4.o;rw[Jp m8] at d;obtain⟨ng,tg,n5,vg⟩:=v8.o;have p6:=Hd n5;have p1:=Hd vg;have Y:Hid (tg.length<=1000/\tg≠[]):=YX ng n2 tg t2 (x) (y) e7.o n5.2.1 U.o.2.1 vg I.o.2 b9;clear n5 vg
  by_cases hz:gl=0
  case' pos=>
   have y1:((gl:Int)==0)=true:=by rw[Jw];omega
   have y2:(g0==1)=false:=by rw[y1] at d;exact d
  case' neg=>
   have y1:((gl:Int)==0)=false:=by rw[Jd];omega
  all_goals
   rw[y1];clear d hz
   go_wp2_with fail
   refine (Qz B _ _ n1 ng t1 tg _ (by have:=e6.o;have:=e5.o.size;omega) U.o.1 p6.o (by omega) (by have:=Y.o.1;omega) Y.o.2).mono ?_;rintro e w7 ⟨za,zr,n6,z7,rfl,⟨n3,r9⟩,m6,l7⟩;rw[I.o.1,p1.o] at m6;have v7:=Hd m6;obtain⟨d0,dn,da,dl,dc,rfl⟩:=n3.shape;obtain⟨e0,en,ea,el,ec,rfl⟩:=r9.shape;obtain⟨W8,j1⟩:=O2 ((w7.alloc (.cells #[.int .i64 d0,.bool dn,.slice da dl dc] 72)).alloc (.cells #[.int .i64 e0,.bool en,.slice ea el ec] 72));have x8:=Hd j1;have l8:Up w7 W8:=by rw[<-j1];exact Ou (Oo _ _) _
   have d9:Bx W8 w7.heap.size [.int .i64 d0,.bool dn,.slice da dl dc]:=by rw[<-j1];exact (Ox w7 _ _).alloc _
   have E:Up w6 W8:=l7.trans (l8.mono l7.size);have i6:=Hd (T.o.bl (N:=w6.heap.size) o8.o E);have i1:=Hd (e5.o.trans (E.mono e5.o.size));have x7:Hid (w.heap.size+3<=W8.heap.size):=Yt o8.o E.size;have p5:=Hd (And.intro (U.o.2.bl E) (p6.o.bl E));have w5:Hid (Nb B W8 (.agg #[.int .i64 d0,.bool dn,.slice da dl dc]) n6):=(n3.bl l8).mono (by have:=e6.o;have:=e5.o.size;omega);have u9:Hid (∀ W,Up W8 W->Bx W w7.heap.size [.int .i64 d0,.bool dn,.slice da dl dc]):=fun W hW=>d9.bl d9.lt hW;have j2:=o5.o W8 E;have k8:=j2.cell 0;have k9:=j2.cell 1;have l0:=j2.cell 2;have p7:=i6.o.b.cell 0;have p8:=i6.o.b.cell 1;have p9:=i6.o.b.cell 2;simp only[J6,Yk] at k8 k9 l0 p7 p8 p9;clear n3 r9 m6 l7 j1 l8 d9 E j2 a0 a1 a2 b0 b1 b2 y0 y3 y4
   go_upto_region 10 with fail
   rw[x8.o]
   go_wp2_with fail
   refine (Qz B _ _ n2 ng t2 tg W8 (by have:=e6.o;have:=i1.o.size;omega) p5.o.1 p5.o.2 (by omega) (by have:=Y.o.1;omega) Y.o.2).mono ?_;rintro e w9 ⟨zb,zs,s6,z8,rfl,⟨n4,s0⟩,m7,l9⟩;rw[I.o.2,p1.o] at m7;have l3:=Hd (Du (x) (y) (No (x) (y)) n6 z7 s6 z8 (by have:=e7.o;omega) (by rw[if_neg (by have:=e7.o;omega)]) v7.o m7);obtain⟨i0,iN,ia,il,ic,rfl⟩:=n4.shape;obtain⟨j0,jn,ja,jl,jc,rfl⟩:=s0.shape;obtain⟨D,b7⟩:=O2 ((w9.alloc (.cells #[.int .i64 i0,.bool iN,.slice ia il ic] 72)).alloc (.cells #[.int .i64 j0,.bool jn,.slice ja jl jc] 72));have p2:=Hd b7;have f9:Up w9 D:=by rw[<-b7];exact Ou (Oo _ _) _
   have r6:Bx D w9.heap.size [.int .i64 i0,.bool iN,.slice ia il ic]:=by rw[<-b7];exact (Ox w9 _ _).alloc _
   have F:Up W8 D:=l9.trans (f9.mono l9.size);have Z:=Hd (i6.o.bl (N:=W8.heap.size) x7.o F);have o2:=Hd (i1.o.trans (F.mono i1.o.size));have o6:Hid (E0 B D (.agg #[.int .i64 d0,.bool dn,.slice da dl dc]) n6 1000):=L8 (w5.o.bl F) t1 U.o.1.1 (ZR l3.o I.o.1) g7;have o7:Hid (E0 B D (.agg #[.int .i64 i0,.bool iN,.slice ia il ic]) s6 1000):=L8 ((n4.bl f9).mono (by have:=e6.o;have:=i1.o.size;omega)) t2 U.o.2.1 (ZP l3.o I.o.2) b9;have J:=Hd (HL.o _ _ l3.o);have d9:=u9.o D F;obtain⟨u0,u1,u2⟩:=d9.k3;obtain⟨v0,v1,v2⟩:=r6.k3;clear n4 s0 m7 l9 b7 f9 r6 F d9 p7 p8 p9 k8 k9 l0
   go_upto_region 11 with fail
   rw[p2.o];obtain⟨r0,r1,r2,r3,r4,r5⟩:=Z.o.r.k6;obtain⟨f0,f1,f2,f3,f4,f5⟩:=Z.o.r.f6
   go_wp2
   have j:Kh D (w.heap.size+1+1):=Ep Z.o.r (by simp);have hk:=Qt D (w.heap.size+1+1) (.int .i64 d0) (.bool dn) (.slice da dl dc) (.int .i64 i0) (.bool iN) (.slice ia il ic);have e9:=o6.o.keeps j j hk;have f7:=o7.o.keeps j j hk;have e8:=Wh o2.o (w.heap.size+1+1) (by omega) (.int .i64 d0) (.bool dn) (.slice da dl dc) (.int .i64 i0) (.bool iN) (.slice ia il ic);have hZ:=Z.o.r.put6 (.int .i64 d0) (.bool dn) (.slice da dl dc) (.int .i64 i0) (.bool iN) (.slice ia il ic);have f8:((((((D.setCell ⟨w.heap.size+1+1,0,none⟩ (.int .i64 d0)).setCell ⟨w.heap.size+1+1,1,none⟩ (.bool dn)).setCell ⟨w.heap.size+1+1,2,none⟩ (.slice da dl dc)).setCell ⟨w.heap.size+1+1,3,none⟩ (.int .i64 i0)).setCell ⟨w.heap.size+1+1,4,none⟩ (.bool iN)).setCell ⟨w.heap.size+1+1,5,none⟩ (.slice ia il ic))=W6 D (w.heap.size+1+1) (.int .i64 d0) (.bool dn) (.slice da dl dc) (.int .i64 i0) (.bool iN) (.slice ia il ic):=rfl;rw[f8];generalize W6 D (w.heap.size+1+1) (.int .i64 d0) (.bool dn) (.slice da dl dc) (.int .i64 i0) (.bool iN) (.slice ia il ic)=W9 at *;obtain⟨m0,m1,m2,m3,m4,m5⟩:=hZ.k6;refine Jh (v:=.agg #[.int .i64 d0,.bool dn,.slice da dl dc,.int .i64 i0,.bool iN,.slice ia il ic]) ?_ rfl ⟨_,_,_,rfl,⟨d0,dn,da,dl,dc,i0,iN,ia,il,ic,rfl,e9,f7⟩,J.o,e8⟩;simp[results,results69,go_sem,m0,m1,m2,m3,m4,m5]
theorem TF (s t:Bool)(u v:Nat):sg (s != t) (u*v)=sg s u*sg t v:=by
 cases s<;>cases t<;>simp[sg,Int.mul_neg,Int.neg_mul]
theorem ZE (B:Nat)(neg:Bool)(v:Value)(l:List Nat)(w W:World)(h:Kn B w v l)(hb:Up w W) :
 Calls prog 147 #[.bool neg,v] W fun e w'=>∃ z,e=.returned z/\Ej B w' z neg (Ov l)/\Up w w':=by
 refine (Nt B neg v l W (h.bl hb)).mono ?_;rintro e we ⟨z,rfl,j,d⟩;exact⟨z,rfl,(j _ _ (h.bl hb)).bl d,hb.trans (d.mono hb.size)⟩
theorem Sm (B:Nat)(x y:Int)(xn yn:Bool)(pa:Option Addr)(la ca:Nat)(pb:Option Addr)(lb cb:Nat)(na nb:Bool)(a b:List Nat)(w:World)(hBw:B<=w.heap.size)
 (hz:((la:Int)==0)=false∨((la:Int)==0)=true/\((lb:Int)==0)=false∨((la:Int)==0)=true/\((lb:Int)==0)=true/\(-1000000000000000000<x/\x<1000000000000000000)/\(-1000000000000000000<y/\y<1000000000000000000)/\0<x.natAbs/\999999999999999999 / x.natAbs<y.natAbs)
 (hza:Ej B w (.agg #[.int .i64 x,.bool xn,.slice pa la ca]) na a) (hzb:Ej B w (.agg #[.int .i64 y,.bool yn,.slice pb lb cb]) nb b) (s t:Bool) (ha:Rg x xn la=s) (hb:Rg y yn lb=t) (hla:a.length<=100000) (hlb:b.length<=100000) :
 Calls prog 110 #[.agg #[.int .i64 x,.bool xn,.slice pa la ca],.agg #[.int .i64 y,.bool yn,.slice pb lb cb]] w fun e w'=>∃ z,e=.returned z/\Nb w.heap.size w' z (sg s (val a)*sg t (val b))/\Up w w':=by
 obtain⟨i0,g4,n6,n7,n8⟩:=info_parts info_u32;have j7:=Hd ha;have j8:=Hd hb;have o9:Hid (a.length<=100000/\b.length<=100000):=⟨hla,hlb⟩;have HX:=Gv w x xn pa la ca y yn pb lb cb 72;obtain⟨Z,a8⟩:=O2 (((w.alloc (.cells #[.int .i64 x,.bool xn,.slice pa la ca] 72)).alloc (.cells #[.int .i64 y,.bool yn,.slice pb lb cb] 72)).alloc (.cells #[.int .i64 0,.bool false,.slice none 0 0] 72));have k9:=Hd a8;have b7:Up w Z:=by rw[<-a8];exact Ou (Ou (Oo _ _) _) _
 have j0:=Hd b7;have h2:Z.heap.size=w.heap.size+3:=by rw[<-a8];simp
 have g6:w.heap.size<Z.heap.size:=by omega
 have g7:w.heap.size+1<Z.heap.size:=by omega
 have g8:w.heap.size+2<Z.heap.size:=by omega
 rw[a8] at HX;have HS:=Hd h2;have d5:=Hd hBw;have b5:Hid (∀ W,Up Z W->Boxes w.heap.size W x xn pa la ca y yn pb lb cb):=fun W hW=>HX.bl (by omega) hW;have l4:Hid (∀ W,Up Z W->Ej B W (.agg #[.int .i64 x,.bool xn,.slice pa la ca]) na a):=fun W hW=>(hza.bl b7).bl hW;have l5:Hid (∀ W,Up Z W->Ej B W (.agg #[.int .i64 y,.bool yn,.slice pb lb cb]) nb b):=fun W hW=>(hzb.bl b7).bl hW;obtain⟨a0,a1,a2,b0,b1,b2,r0,r1,r2,f0,f1,f2⟩:=HX;clear a8 h2 ha hb hza hzb b7 hBw;have d8:Hid (∃ W1,Up Z W1/\((((la:Int)==0)=false/\Z.alloc (.cells #[.int .i64 x,.bool xn,.slice pa la ca] 72)=W1)∨(((la:Int)==0)=true/\((lb:Int)==0)=false/\(Z.alloc (.cells #[.int .i64 x,.bool xn,.slice pa la ca] 72)).alloc (.cells #[.int .i64 y,.bool yn,.slice pb lb cb] 72)=W1)∨(((la:Int)==0)=true/\((lb:Int)==0)=true/\(Z.alloc (.cells #[.int .i64 x,.bool xn,.slice pa la ca] 72)).alloc (.cells #[.int .i64 y,.bool yn,.slice pb lb cb] 72)=W1/\Hid (-1000000000000000000<x/\x<1000000000000000000)/\Hid (-1000000000000000000<y/\y<1000000000000000000)/\∃ X Y:Int,Hid ((x.natAbs:Int)=X)/\Hid ((y.natAbs:Int)=Y)/\0<X/\X<1000000000000000000/\0<=Y/\Y<1000000000000000000/\(X==0)=false/\decide (Y<=999999999999999999 / X)=false))):=by
  rcases hz with h|⟨h,h'⟩|⟨h,h',hx,hy,n0,n4⟩
  ·exact⟨_,Oo _ _,.inl ⟨h,rfl⟩⟩
  ·exact⟨_,Ou (Oo _ _) _,.inr (.inl ⟨h,h',rfl⟩)⟩
  refine⟨_,Ou (Oo _ _) _,.inr (.inr ⟨h,h',rfl,hx,hy,_,_,Em rfl,Em rfl,by omega,by omega,by omega,by omega,by rw[Jd];omega,?_⟩)⟩;rw[Jy,Int.not_le,Int.ediv_lt_iff_lt_mul (by omega)];have h3:=(U5 n0).1 n4;have h4:((y.natAbs*x.natAbs:Nat):Int)=(y.natAbs:Int)*(x.natAbs:Int):=Z9 _ _;rw[<-h4];omega
 obtain⟨W1,c7,i6⟩:=d8.o;have T:=Hd c7;clear hz d8 c7
 go_in
 go_wp2_with fail
 rw[k9.o];refine (O0 _ _ _ _ _ _).mono ?_;rintro e w' ⟨rfl,rfl⟩
 rcases i6 with⟨hz,b9⟩|⟨hz,n5,b9⟩|⟨hz,n5,b9,e2,e3,X,Y,l1,l2,q1,q2,q3,q4,q5,q6⟩
 all_goals
  have l0:=Em b9;clear b9
  go_wp2_with (first
   | (go_at_call 106;refine (O0 _ _ _ _ _ _).mono ?_;rintro e w' ⟨rfl,rfl⟩)
   | (go_at_call_of 150 (Value.int IntKind.i64 x);refine (Xr _ _ e2.o.1 e2.o.2).mono ?_;rintro e w' ⟨rfl,rfl⟩;rw[l1.o])
   | (go_at_call_of 150 (Value.int IntKind.i64 y);refine (Xr _ _ e3.o.1 e3.o.2).mono ?_;rintro e w' ⟨rfl,rfl⟩;rw[l2.o]))
  rw[l0.o];clear a0 a1 a2 b0 b1 b2 r0 r1 r2 f0 f1 f2;obtain⟨a0,a1,a2,b0,b1,b2,r0,r1,r2,f0,f1,f2⟩:=b5.o W1 T.o;refine (Kc B _ na a _ (l4.o _ T.o) (by have:=T.o.size;have:=HS.o;have:=d5.o;omega)).mono ?_;rintro e wa ⟨va,rfl,h6,e9⟩;have e0:=Hd h6;have b4:=T.up e9;clear a0 a1 a2 b0 b1 b2 r0 r1 r2 f0 f1 f2 h6 e9;obtain⟨a0,a1,a2,b0,b1,b2,r0,r1,r2,f0,f1,f2⟩:=b5.o wa b4.o
  go_wp2_with fail
  refine (Kc B _ nb b _ (l5.o _ b4.o) (by have:=b4.o.size;have:=HS.o;have:=d5.o;omega)).mono ?_;rintro e E ⟨vb,rfl,d1,d0⟩;obtain⟨qa,da,rfl,_⟩:=id e0.o;obtain⟨qb,db,rfl,_⟩:=id d1;obtain⟨_,_,_,e8,I⟩:=(e0.o.bl d0).cells;obtain⟨_,_,_,f7,V⟩:=d1.cells;have HA:=Hd I;have HB:=Hd V;have d4:=b4.up d0;clear I V d1 d0 a0 a1 a2 b0 b1 b2 r0 r1 r2 f0 f1 f2 g6 g7 g8
  go_wp2_with (at_make;refine wpList_make_full _ rfl _ _ 70 rfl E.heap.size 127 i0 (.int .u32 0) 1 underlying70 g4 n6 n7 .i64 .i64 _ _ (a.length+b.length+1) rfl rfl (by first|rfl|omega) (by first|rfl|omega) (by first|omega|(rw[n8];omega)) (by unfold maxLen;omega) O1 ?_)
  intro w1 U f9
  first|rw[Ee] at U|rw[K7] at U
  have J:Kv w1 E.heap.size (List.replicate (a.length+b.length+1) 0):=(Kt U).tail;have e5:Up E w1:=(Jj _ _).grown f9 O1 (fun k h=>by cases h);clear U f9
  go_wp2
  go_loopw [53] (fun iv wr=>∃ (i:Nat) (L:List Nat),i<=a.length/\L.length=a.length+b.length+1/\Kx L/\Kv wr E.heap.size L/\(∀ j,i+b.length<=j->L.getD j 0=0)/\iv=.int .i64 i /\
   val L=val (a.take i)*val b/\Up E wr) (fun iv _=>a.length - (intOf iv).toNat)
  case atStart=>exact⟨0,_,by omega,by simp,fun x hx=>by rw[Yu hx];omega,J,fun j hj=>by simp[List.getD_eq_getElem?_getD,List.getElem?_replicate];split<;>rfl,rfl,by simp[N5,val],e5⟩
  clear J e5;obtain⟨i,A,hi,m5,D,J,d2,rfl,d,hB⟩:=hrel
  by_cases g0:i<a.length
  ·obtain⟨ba,oa,rfl,c8,I⟩:=HA.o i g0;have h7:=Kk a e8 i g0;have e1:Hid (val (a.take (i+1))=val (a.take i)+1000000000 ^ i*a.getD i 0):=Oz a i;obtain⟨f,hf⟩:=O2 (a.getD i 0);rw[hf] at I h7 e1;have j4:Hid (∀ W,Up E W->W.cell? ⟨ba,oa+i,none⟩=some (.int .u32 (f:Nat))):=fun W hW=>(hW.cell (p:=⟨ba,oa+i,none⟩) c8).trans I;have e4:=Hd d2;have HV:=Hd d;have a7:Hid (Kx A/\Kv wr E.heap.size A/\Up E wr):=⟨D,J,hB⟩;clear J d2 d hB D hf I c8
   go_wp2
   go_loopw [11,58] (fun cv kv wk=>∃ (k c:Nat) (L:List Nat),k<=b.length/\c<=f/\L.length=A.length/\Kx L/\Kv wk E.heap.size L/\L.drop (i+k)=A.drop (i+k)/\cv=.int .u64 (c:Nat)/\kv=.int .i64 k /\
    val L+1000000000 ^ (i+k)*c=val A+1000000000 ^ i*(f*val (b.take k))/\Up E wk) (fun _ kv _=>b.length - (intOf kv).toNat)
   case atStart=>exact⟨0,0,A,by omega,by omega,rfl,a7.o.1,a7.o.2.1,rfl,rfl,rfl,by simp[val],a7.o.2.2⟩
   obtain⟨k,c,L,hk,f8,e6,D,J,b3,rfl,rfl,d,hB⟩:=hrel
   by_cases g3:k<b.length
   ·have K:=J.cell (i+k) (by omega);have h8:=Kk L D (i+k) (by omega);obtain⟨g,hx⟩:=O2 (L.getD (i+k) 0);rw[hx] at h8 K;have I:=j4.o _ hB;obtain⟨bb,ob,rfl,g5,V⟩:=HB.o k g3;rw[<-hB.cell (p:=⟨bb,ob+k,none⟩) g5] at V;have i1:=Kk b f7 k g3;obtain⟨h,hy⟩:=O2 (b.getD k 0);rw[hy] at V i1;obtain⟨F,hF⟩:=O2 (f*h);have l8:F<=f*999999999:=by rw[<-hF];exact Jz f (by omega)
    have O:=Rz L (i+k) ((c+F+g) % 1000000000) (by omega);rw[hx] at O;have h1:=Av (1000000000 ^ (i+k)) _ _ _ _ c g F ((c+F+g) % 1000000000) ((c+F+g) / 1000000000) d O (by omega);have k5:Hid (val (L.set (i+k) ((c+F+g) % 1000000000))+1000000000 ^ (i+(k+1))*((c+F+g) / 1000000000)=val A+1000000000 ^ i*(f*val (b.take (k+1)))):=by
     unfold Hid
     rw[Oz,hy,S7,hF,<-U1,Ju];exact h1
    have m9:=J.frozen (i+k);have e7:∀ q,Kv (wr.drewN q) E.heap.size L:=fun q=>J;have k0:Hid (∀ (q:Nat) (v:Int),v=(((c+F+g) % 1000000000:Nat):Int)->Kv ((wr.drewN q).setCell ⟨E.heap.size,i+k,none⟩ (.int .u32 v)) E.heap.size (L.set (i+k) ((c+F+g) % 1000000000))):=fun q v hv=>by
     rw[hv];exact (e7 q).set (i+k) _ (by omega)
    have j1:Hid (∀ q u,Up E ((wr.drewN q).setCell ⟨E.heap.size,i+k,none⟩ u)):=fun q u=>(below_drewN hB q).setCell O1 u;have j9:Hid (Kx (L.set (i+k) ((c+F+g) % 1000000000))):=Kp L D (i+k) _ (Zy _ (by decide));have j6:Hid ((L.set (i+k) ((c+F+g) % 1000000000)).drop (i+(k+1))=A.drop (i+(k+1))):=Kb L A (i+k) _ b3;have j5:Hid ((c+F+g) / 1000000000<=f):=by
     unfold Hid
     omega
    clear h1 d hx hy J e7 hB D b3 O;obtain⟨GG,hX⟩:∃ GG:Int,(g:Int)=GG:=⟨_,rfl⟩;have HX:=Hd hX;have x1:0<=GG:=by omega
    have x2:GG<1000000000:=by omega
    rw[hX] at K;obtain⟨C,hC⟩:∃ C:Int,(c:Int)=C:=⟨_,rfl⟩;have HC:=Hd hC;have c1:0<=C:=by omega
    have c2:C<1000000000:=by omega
    rw[hC];obtain⟨G,hG⟩:∃ G:Int,(f:Int)=G:=⟨_,rfl⟩;rw[hG] at I;obtain⟨H,hY⟩:∃ H:Int,(h:Int)=H:=⟨_,rfl⟩;have b8:(F:Int)=G*H:=by rw[<-hF,<-hG,<-hY];rfl
    have d7:=Hd b8;have g1:0<=G*H:=by rw[<-b8];omega
    have g2:G*H<=999999999000000000:=by rw[<-b8];omega
    have y1:0<=H:=by omega
    have y2:H<1000000000:=by omega
    have z1:0<=G:=by omega
    have z2:G<1000000000:=by omega
    rw[hY] at V;clear hX h8 hC hG hY b8 i1 hF l8 f8 h7;have n1:(i:Int)+(k:Int)<(a.length:Int)+(b.length:Int)+1:=by omega
    have n2:(i:Int)<(a.length:Int):=by omega
    have n3:(k:Int)<(b.length:Int):=by omega
    go_wp2
    go_quiet (fail)
    go_wp2
    go_roundw
    case rel=>
     refine⟨k+1,(c+F+g) / 1000000000,L.set (i+k) ((c+F+g) % 1000000000),by omega,j5.o,by simp[e6],j9.o,?_,j6.o,?_,by go_num,k5.o,j1.o _ _⟩
     ·exact k0.o _ _ (by have:=HX.o;have:=HC.o;have:=d7.o;omega)
     congr 1;have:=HX.o;have:=HC.o;have:=d7.o;omega
    simp[intOf];omega
   obtain rfl:k=b.length:=by omega
   rw[Jf O1] at d;have K:=J.cell (i+b.length) (by omega);have m9:=J.frozen (i+b.length);have h0:L.getD (i+b.length) 0=0:=(Hv L A (i+b.length) _ b3 O1).trans (e4.o _ O1);have O:=Rz L (i+b.length) c (by omega);rw[h0] at O;have k8:Hid (val (L.set (i+b.length) c)=val (a.take (i+1))*val b):=by
    unfold Hid
    rw[e1.o];exact ZF _ _ _ _ _ _ _ c f HV.o d O
   have k1:Hid (Kv (wr.setCell ⟨E.heap.size,i+b.length,none⟩ (.int .u32 (c:Nat))) E.heap.size (L.set (i+b.length) c)):=J.set _ _ (by omega);have j2:Hid (Up E (wr.setCell ⟨E.heap.size,i+b.length,none⟩ (.int .u32 (c:Nat)))):=hB.setCell O1 _;have c6:Hid (Kx (L.set (i+b.length) c)/\(L.set (i+b.length) c).length=a.length+b.length+1):=⟨Kp L D _ _ (by omega),by simp;omega⟩;have l3:Hid (∀ j,i+1+b.length<=j->(L.set (i+b.length) c).getD j 0=0):=fun j hj=>by
    rw[Xx _ _ _ _ (by omega),Hv L A (i+b.length) j b3 (by omega)];exact e4.o j (by omega)
   have p2:c<1000000000:=by omega
   clear J e6 D b3 f8 d hB h0 O
   go_wp2
   go_roundw
   case rel=>exact⟨i+1,L.set (i+b.length) c,by omega,c6.o.2,c6.o.1,k1.o,l3.o,by go_num,k8.o,j2.o⟩
   simp[intOf];omega
  obtain rfl:i=a.length:=by omega
  rw[Jf O1] at d;have HI:Hid (Kn E.heap.size wr (.slice (some ⟨E.heap.size,0,none⟩) (a.length+b.length+1) (a.length+b.length+1)) A):=by
   have h:=J.isL (B:=E.heap.size) (cap:=a.length+b.length+1) O1 D (by omega) (by unfold maxLen;omega);rw[m5] at h;exact h
  have HV:=Hd d;have d9:=d4.up hB;have b6:Hid (w.heap.size+3<=E.heap.size/\E.heap.size<=wr.heap.size):=⟨by have:=d4.o.size;have:=HS.o;omega,hB.size⟩;clear d J hB D d2;obtain⟨a0,a1,a2,b0,b1,b2,r0,r1,r2,f0,f1,f2⟩:=b5.o wr d9.o;have p3:w.heap.size<wr.heap.size:=by have:=b6.o;omega
  have p4:w.heap.size+1<wr.heap.size:=by have:=b6.o;omega
  have p5:w.heap.size+2<wr.heap.size:=by have:=b6.o;omega
  go_wp2
  go_region_with (first
   | (go_at_call_of 74 (Value.int IntKind.i64 x);refine (Ku _ _ _ _ _ _).mono ?_;rintro e w' ⟨rfl,rfl⟩;rw[j7.o])
   | (go_at_call_of 74 (Value.int IntKind.i64 y);refine (Ku _ _ _ _ _ _).mono ?_;rintro e w' ⟨rfl,rfl⟩;rw[j8.o])
   | (go_at_call 147;refine (ZE _ _ _ A wr _ HI.o ?_).mono ?_
      ·first|exact (Ou (Oo _ _) _).drew|exact Ou (Oo _ _) _
      rintro e we ⟨z,rfl,g9,f5⟩;have hN:Nb (w.heap.size+3) we z (sg s (val a)*sg t (val b)):=⟨s != t,Ov A,g9.mono b6.o.1,by rw[O9,HV.o,TF]⟩;have HN:=Hd hN;have d6:=d9.up f5;have j3:Hid (Up w we):=j0.o.trans (d6.o.mono (by have:=HS.o;omega));clear a0 a1 a2 b0 b1 b2 r0 r1 r2 f0 f1 f2;obtain⟨a0,a1,a2,b0,b1,b2,r0,r1,r2,f0,f1,f2⟩:=b5.o we d6.o;obtain⟨z0,zn,za,zl,zc,n9⟩:=hN.shape;subst n9;clear g9 f5 hN))
  all_goals
   try simp only[Yg,Yb,J0,Act.put,Ja,Jb,Jc]
   go_wp2
   refine Jh ?_ rfl ⟨_,rfl,(((HN.o.setCell _ _ (by simp)).setCell _ _ (by simp)).setCell _ _ (by simp)).mono (by omega),((j3.o.setCell (by simp;omega) _).setCell (by simp;omega) _).setCell (by simp;omega) _⟩;simp[results,results110,go_sem,r0,r1,r2]
theorem XA (B:Nat)(za zb:Value)(na nb:Bool)(a b:List Nat)(w:World)(hBw:B<=w.heap.size)(hza:Ej B w za na a)(hzb:Ej B w zb nb b)(hla:a.length<=100000)(hlb:b.length<=100000) :
 Calls prog 110 #[za,zb] w fun e w'=>∃ z,e=.returned z/\Nb w.heap.size w' z (sg na (val a)*sg nb (val b))/\Up w w':=by
 have D:=hza.1;have E:=hzb.1;obtain⟨x,xn,Z,la,J,rfl,U,ga⟩:=hza.form2;obtain⟨y,yn,pb,lb,K,rfl,V,gb⟩:=hzb.form2
 by_cases Y:la=0/\lb=0
 ·have d:=ga Y.1;have j:=gb Y.2;have H:=Au na a D d.1;have I:=Au nb b E j.1
  by_cases F:(sg na (val a)).natAbs=0∨(sg na (val a)).natAbs≠0/\(sg nb (val b)).natAbs<=999999999999999999 / (sg na (val a)).natAbs
  ·rw[d.2,j.2];exact ZG _ _ w H.1 H.2 I.1 I.2 F
  have O:=d.2;have T:=j.2;simp only[Value.agg.injEq,Array.mk.injEq,List.cons.injEq,Value.int.injEq,true_and,Value.bool.injEq,Value.slice.injEq,and_true] at O T;obtain⟨rfl,_⟩:=O;obtain⟨rfl,_⟩:=T;have hp:0<(sg na (val a)).natAbs:=by
   apply Y0;intro h;exact F (.inl h)
  have G:((la:Int)==0)=true/\((lb:Int)==0)=true/\(-1000000000000000000<sg na (val a)/\sg na (val a)<1000000000000000000)/\(-1000000000000000000<sg nb (val b)/\sg nb (val b)<1000000000000000000)/\0<(sg na (val a)).natAbs/\999999999999999999 / (sg na (val a)).natAbs<(sg nb (val b)).natAbs:=by
   refine⟨by rw[Jw];omega,by rw[Jw];omega,H,I,hp,?_⟩;apply Ur;intro h;exact F (.inr ⟨by omega,h⟩)
  have h:=Sm B _ _ xn yn Z la J pb lb K na nb a b w hBw (.inr (.inr G)) hza hzb _ _ U V hla hlb;rw[Nr,Nr] at h;exact h
 have G:((la:Int)==0)=false∨(((la:Int)==0)=true/\((lb:Int)==0)=false):=by
  by_cases h:la=0
  ·exact .inr ⟨by rw[Jw];omega,by rw[Jd];omega⟩
  exact .inl (by rw[Jd];omega)
 have h:=Sm B x y xn yn Z la J pb lb K na nb a b w hBw (G.elim .inl (fun h=>.inr (.inl h))) hza hzb _ _ U V hla hlb;rw[Nr,Nr] at h;exact h
structure BxS (h:Nat)(W:World)(a0:Int)(an:Bool)(aa:Option Addr)(al ac:Nat)(b0:Int)(bn:Bool)(ba:Option Addr)(bl bc:Nat)(d0:Int)(dn:Bool)(da:Option Addr)(dl dc:Nat)(e0:Int)(en:Bool)(ea:Option Addr)(el ec:Nat):Prop where
 a:Bx W h [.int .i64 a0,.bool an,.slice aa al ac,.int .i64 b0,.bool bn,.slice ba bl bc]
 b:Bx W (h+1) [.int .i64 d0,.bool dn,.slice da dl dc,.int .i64 e0,.bool en,.slice ea el ec]
theorem BxS.bl {N:Nat}{W':World}{a0:Int}{an:Bool}{aa:Option Addr}{al ac:Nat}{b0:Int}{bn:Bool}{ba:Option Addr}{bl bc:Nat}{d0:Int}{dn:Bool}{da:Option Addr}{dl dc:Nat}{e0:Int}{en:Bool}{ea:Option Addr}{el ec:Nat}(m:BxS h W a0 an aa al ac b0 bn ba bl bc d0 dn da dl dc e0 en ea el ec)(hN:h+2<=N)(hb:Below N W W'):BxS h W' a0 an aa al ac b0 bn ba bl bc d0 dn da dl dc e0 en ea el ec:=
 ⟨m.a.bl (by omega) hb,m.b.bl (by omega) hb⟩
theorem BxS.held {a0:Int}{an:Bool}{aa:Option Addr}{al ac:Nat}{b0:Int}{bn:Bool}{ba:Option Addr}{bl bc:Nat}{d0:Int}{dn:Bool}{da:Option Addr}{dl dc:Nat}{e0:Int}{en:Bool}{ea:Option Addr}{el ec:Nat}(m:BxS h W a0 an aa al ac b0 bn ba bl bc d0 dn da dl dc e0 en ea el ec):W.cell? ⟨h,0,none⟩=some (.int .i64 a0)/\W.cell? ⟨h,1,none⟩=some (.bool an)/\W.cell? ⟨h,2,none⟩=some (.slice aa al ac)/\W.cell? ⟨h,3,none⟩=some (.int .i64 b0)/\W.cell? ⟨h,4,none⟩=some (.bool bn)/\W.cell? ⟨h,5,none⟩=some (.slice ba bl bc)/\W.cell? ⟨h+1,0,none⟩=some (.int .i64 d0)/\W.cell? ⟨h+1,1,none⟩=some (.bool dn)/\W.cell? ⟨h+1,2,none⟩=some (.slice da dl dc)/\W.cell? ⟨h+1,3,none⟩=some (.int .i64 e0)/\W.cell? ⟨h+1,4,none⟩=some (.bool en)/\W.cell? ⟨h+1,5,none⟩=some (.slice ea el ec):=
 ⟨m.a.cell 0,m.a.cell 1,m.a.cell 2,m.a.cell 3,m.a.cell 4,m.a.cell 5,m.b.cell 0,m.b.cell 1,m.b.cell 2,m.b.cell 3,m.b.cell 4,m.b.cell 5⟩
theorem Bi (B:Nat)(za zb:Value)(x y:Int)(n m:Nat)(w:World)(hBw:B<=w.heap.size)(ha:E0 B w za x n)(hb:E0 B w zb y m)(hn:n<=100000)(hm:m<=100000) :
 Calls prog 110 #[za,zb] w fun e w'=>∃ z,e=.returned z/\Nb 0 w' z (x*y)/\Up w w':=by
 obtain⟨G,a,d,rfl,D⟩:=ha;obtain⟨H,b,j,rfl,E⟩:=hb;refine (XA B za zb G H a b w hBw d j (by omega) (by omega)).mono ?_;rintro e w' ⟨z,rfl,F,hb⟩;exact⟨z,rfl,F.mono (J7 _),hb⟩
theorem Dy (B:Nat)(za zb:Value)(x y:Int)(w:World)(hBw:B<=w.heap.size)(ha:Nb B w za x)(hb:Nb B w zb y) :
 Calls prog 109 #[za,zb] w fun e w'=>e=.returned (.int .i64 (Nc x y))/\Up w w':=by
 obtain⟨D,a,d,rfl⟩:=ha;obtain⟨E,b,j,rfl⟩:=hb;refine (Sl B za zb D E a b w hBw d j).mono ?_;rintro e w' ⟨rfl,hb⟩;exact⟨by rw[Ri D E a b d.1 j.1 d.2.1 j.2.1],hb⟩
theorem XS (B:Nat)(za zd:Value)(x1 y1 x2 y2:Int)(w:World)(hBw:B<=w.heap.size)(ha:C0 B w za x1 y1)(hd:C0 B w zd x2 y2) :
 Calls prog 65 #[za,zd] w fun e w'=>e=.returned (.int .i64 (Nc (x1*y2) (x2*y1)))/\Up w w':=by
 have f9:=Hd ha;have g0:=Hd hd;obtain⟨a0,an,aa,al,ac,b0,bn,ba,bl,bc,rfl,h1,h2⟩:=ha;obtain⟨V,dn,da,dl,dc,e0,en,ea,el,ec,rfl,h3,h4⟩:=hd;have H1:=Hd h1;have H2:=Hd h2;have H3:=Hd h3;have H4:=Hd h4;have I:=Hd hBw;clear h1 h2 h3 h4 hBw;obtain⟨Y,J⟩:=O2 ((w.alloc (.cells #[.int .i64 a0,.bool an,.slice aa al ac,.int .i64 b0,.bool bn,.slice ba bl bc] 120)).alloc (.cells #[.int .i64 V,.bool dn,.slice da dl dc,.int .i64 e0,.bool en,.slice ea el ec] 120));have g3:=Hd J;have d:Hid (Up w Y):=by unfold Hid;rw[<-J];exact Ou (Oo _ _) _
 have O:BxS w.heap.size Y a0 an aa al ac b0 bn ba bl bc V dn da dl dc e0 en ea el ec:=by
  refine⟨?_,?_⟩
  ·rw[<-J];exact (Ox w _ _).alloc _
  rw[<-J];have h:=Ox (w.alloc (.cells #[.int .i64 a0,.bool an,.slice aa al ac,.int .i64 b0,.bool bn,.slice ba bl bc] 120)) [.int .i64 V,.bool dn,.slice da dl dc,.int .i64 e0,.bool en,.slice ea el ec] 120;rw[J4] at h;exact h
 have Z:Hid (∀ W,Up Y W->BxS w.heap.size W a0 an aa al ac b0 bn ba bl bc V dn da dl dc e0 en ea el ec):=fun W hW=>O.bl O.b.lt hW;have T1:Hid (∀ W,Up Y W->Calls prog 110 #[.agg #[.int .i64 a0,.bool an,.slice aa al ac],.agg #[.int .i64 e0,.bool en,.slice ea el ec]] W (fun e w'=>∃ z,e=.returned z/\Nb 0 w' z (x1*y2)/\Up W w')):=fun W hW=>
  Bi B _ _ _ _ 1000 1000 W (by have:=I.o;have:=d.o.size;have:=hW.size;omega) ((H1.o.bl d.o).bl hW) ((H4.o.bl d.o).bl hW) (by omega) (by omega)
 have T2:Hid (∀ W,Up Y W->Calls prog 110 #[.agg #[.int .i64 V,.bool dn,.slice da dl dc],.agg #[.int .i64 b0,.bool bn,.slice ba bl bc]] W (fun e w'=>∃ z,e=.returned z/\Nb 0 w' z (x2*y1)/\Up W w')):=fun W hW=>
  Bi B _ _ _ _ 1000 1000 W (by have:=I.o;have:=d.o.size;have:=hW.size;omega) ((H3.o.bl d.o).bl hW) ((H2.o.bl d.o).bl hW) (by omega) (by omega)
 have HC:Hid (∀ W,Up Y W->Calls prog 109 #[.agg #[.int .i64 a0,.bool an,.slice aa al ac],.agg #[.int .i64 V,.bool dn,.slice da dl dc]] W (fun e w'=>e=.returned (.int .i64 (Nc x1 x2))/\Up W w')):=fun W hW=>
  Dy B _ _ _ _ W (by have:=I.o;have:=d.o.size;have:=hW.size;omega) ((H1.o.bl d.o).bl hW).isN ((H3.o.bl d.o).bl hW).isN
 obtain⟨k0,k1,k2,k3,k4,k5⟩:=O.a.k6;obtain⟨j0,j1,j2,j3,j4,j5⟩:=O.b.k6;clear J O
 go_in
 go_upto_region 1 with fail
 rw[g3.o]
 go_wp2_with fail
 refine (Rd B _ x1 y1 Y (by have:=I.o;have:=d.o.size;omega) (f9.o.bl d.o)).mono ?_;rintro e w1 ⟨rfl,d5⟩;have E:=Hd d5;have hx:=Z.o w1 d5;clear d5 k0 k1 k2 k3 k4 k5 j0 j1 j2 j3 j4 j5;obtain⟨k0,k1,k2,k3,k4,k5⟩:=hx.a.k6;obtain⟨j0,j1,j2,j3,j4,j5⟩:=hx.b.k6;clear hx
 by_cases T:y1=1
 ·have z:decide (y1=1)=true:=Jn T;have g4:=Hd T;rw[z];clear z T
  go_wp2_with fail
  refine (Rd B _ x2 y2 w1 (by have:=I.o;have:=d.o.size;have:=E.o.size;omega) ((g0.o.bl d.o).bl E.o)).mono ?_;rintro e w2 ⟨rfl,d7⟩;have F:=Hd (E.o.trans (d7.mono E.o.size));have hx:=Z.o w2 F.o;clear d7 k0 k1 k2 k3 k4 k5 j0 j1 j2 j3 j4 j5;obtain⟨k0,k1,k2,k3,k4,k5⟩:=hx.a.k6;obtain⟨j0,j1,j2,j3,j4,j5⟩:=hx.b.k6;clear hx
  by_cases U:y2=1
  ·have z:decide (y2=1)=true:=Jn U;have HE:Hid (Nc x1 x2=Nc (x1*y2) (x2*y1)):=by unfold Hid;rw[g4.o,U,Int.mul_one,Int.mul_one]
   rw[z];clear z U
   go_wp2_with fail
   refine (HC.o w2 F.o).mono ?_;rintro e w3 ⟨rfl,d8⟩;have f8:=Hd (d.o.trans ((F.o.trans (d8.mono F.o.size)).mono d.o.size));clear d8 k0 k1 k2 k3 k4 k5 j0 j1 j2 j3 j4 j5
   go_wp2
   go_ret
   exact⟨Kw HE.o,f8.o⟩
  have z:decide (y2=1)=false:=Jp U;rw[z];clear z U
  go_wp2
  go_region_held3 (fun W=>W.cell? ⟨w.heap.size,0,none⟩=some (.int .i64 a0)/\W.cell? ⟨w.heap.size,1,none⟩=some (.bool an)/\W.cell? ⟨w.heap.size,2,none⟩=some (.slice aa al ac)/\W.cell? ⟨w.heap.size,3,none⟩=some (.int .i64 b0)/\W.cell? ⟨w.heap.size,4,none⟩=some (.bool bn)/\W.cell? ⟨w.heap.size,5,none⟩=some (.slice ba bl bc)/\W.cell? ⟨w.heap.size+1,0,none⟩=some (.int .i64 V)/\W.cell? ⟨w.heap.size+1,1,none⟩=some (.bool dn)/\W.cell? ⟨w.heap.size+1,2,none⟩=some (.slice da dl dc)/\W.cell? ⟨w.heap.size+1,3,none⟩=some (.int .i64 e0)/\W.cell? ⟨w.heap.size+1,4,none⟩=some (.bool en)/\W.cell? ⟨w.heap.size+1,5,none⟩=some (.slice ea el ec)) (first
   | assumption|go_keep) (first
   | (go_at_call_of 110 (Value.int IntKind.i64 a0)
      refine (T1.o _ ?_).mono ?_
      ·exact F.o.drew
      rintro e wa ⟨u,rfl,hu,K⟩;have HU:=Hd hu;have D:Hid (Up Y wa):=F.o.drew.trans (K.mono F.o.size);have g5:=(Z.o wa D.o).held;clear hu K)
   | (go_at_call_of 110 (Value.int IntKind.i64 V)
      refine (T2.o _ ?_).mono ?_
      ·exact D.o
      rintro e wb ⟨v,rfl,hv,G⟩;have HV:=Hd hv;have j:=Hd (D.o.trans (G.mono D.o.size));have b9:=Hd (HU.o.bl G);have g6:=(Z.o wb j.o).held;clear hv G)
   | (go_at_call 109
      refine (Dy 0 _ _ _ _ _ (J7 _) b9.o HV.o).mono ?_;rintro e wc ⟨rfl,H⟩;have g7:=(Z.o wc (j.o.trans (H.mono j.o.size))).held;have b8:=Hd (d.o.trans ((j.o.trans (H.mono j.o.size)).mono d.o.size));clear H))
  all_goals
   go_wp2
   go_ret
   exact⟨rfl,b8.o⟩
 have z:decide (y1=1)=false:=Jp T;rw[z];clear z T
 go_wp2
 go_region_held3 (fun W=>W.cell? ⟨w.heap.size,0,none⟩=some (.int .i64 a0)/\W.cell? ⟨w.heap.size,1,none⟩=some (.bool an)/\W.cell? ⟨w.heap.size,2,none⟩=some (.slice aa al ac)/\W.cell? ⟨w.heap.size,3,none⟩=some (.int .i64 b0)/\W.cell? ⟨w.heap.size,4,none⟩=some (.bool bn)/\W.cell? ⟨w.heap.size,5,none⟩=some (.slice ba bl bc)/\W.cell? ⟨w.heap.size+1,0,none⟩=some (.int .i64 V)/\W.cell? ⟨w.heap.size+1,1,none⟩=some (.bool dn)/\W.cell? ⟨w.heap.size+1,2,none⟩=some (.slice da dl dc)/\W.cell? ⟨w.heap.size+1,3,none⟩=some (.int .i64 e0)/\W.cell? ⟨w.heap.size+1,4,none⟩=some (.bool en)/\W.cell? ⟨w.heap.size+1,5,none⟩=some (.slice ea el ec)) (first
  | assumption|go_keep) (first
  | (go_at_call_of 110 (Value.int IntKind.i64 a0)
     refine (T1.o _ ?_).mono ?_
     ·exact E.o.drew
     rintro e wa ⟨u,rfl,hu,K⟩;have HU:=Hd hu;have D:Hid (Up Y wa):=E.o.drew.trans (K.mono E.o.size);have g5:=(Z.o wa D.o).held;clear hu K)
  | (go_at_call_of 110 (Value.int IntKind.i64 V)
     refine (T2.o _ ?_).mono ?_
     ·exact D.o
     rintro e wb ⟨v,rfl,hv,G⟩;have HV:=Hd hv;have j:=Hd (D.o.trans (G.mono D.o.size));have b9:=Hd (HU.o.bl G);have g6:=(Z.o wb j.o).held;clear hv G)
  | (go_at_call 109
     refine (Dy 0 _ _ _ _ _ (J7 _) b9.o HV.o).mono ?_;rintro e wc ⟨rfl,H⟩;have g7:=(Z.o wc (j.o.trans (H.mono j.o.size))).held;have b8:=Hd (d.o.trans ((j.o.trans (H.mono j.o.size)).mono d.o.size));clear H))
 all_goals
  go_wp2
  go_ret
  exact⟨rfl,b8.o⟩
theorem Bar.grownBy {w':World}(h:Bar g w w'):w.grownBy w' (some g):=⟨h.os,h.tape,h.output,h.size,fun k hk hne=>h.block k hk (fun e=>hne (by rw[e]))⟩
theorem Bar.then {a b:World}(h:Bar g w a)(k:Below w.heap.size a b):Bar g w b:=
 ⟨k.os.trans h.os,k.tape.trans h.tape,k.output.trans h.output,Yt h.size k.size,fun i hi hg=>(k.block i hi).trans (h.block i hi hg)⟩
def OO (ds:List Nat):Prop:=∀ x∈ds,48<=x/\x<=57
theorem OO.snoc {ds:List Nat}(h:OO ds)(x:Nat)(h1:48<=x)(h2:x<=57):OO (ds++[x]):=fun y hy=>by
 rcases J5.1 hy with h3|h3
 ·exact h y h3
 simp at h3;omega
def drawn (s:Bool)(ds:List Nat):List Nat:=(if s then [45] else [])++ds
theorem Se (s:Bool)(ds:List Nat):(drawn s ds).length=(if s then 1 else 0)+ds.length:=by
 unfold drawn
 cases s<;>simp
 omega
theorem Ge (s:Bool)(ds:List Nat)(x:Nat):drawn s (ds++[x])=drawn s ds++[x]:=by unfold drawn;rw[Yo]
theorem Qf (ds:List Nat)(x:Nat)(h:49<=ds.headD 0):49<=(ds++[x]).headD 0:=by
 cases ds with
 | nil=>simp at h
 | cons a l=>simpa using h
theorem YK {s:Bool}{ds:List Nat}(h:OO ds):∀ x∈drawn s ds,x<256:=fun x hx=>by
 unfold drawn at hx
 rcases J5.1 hx with d|d
 ·cases s<;>simp at d;omega
 have:=h x d;omega
def Rh (g N k n:Nat)(s:Bool)(w:World)(v i:Value)(W:World):Prop:=∃ (j k':Nat) (ds:List Nat),1<=j/\j<=n/\i=.int .i64 (j:Nat)/\ds.length=j/\OO ds/\49<=ds.headD 0/\k'<=k+4+2*(j - 1) /\
 v=.slice (some ⟨w.heap.size,0,none⟩) (drawn s ds).length (n+1)/\W.ownsRow w.heap.size 5 1 (.slice (some ⟨w.heap.size,0,none⟩) (drawn s ds).length (n+1)) (drawn s ds).length (Lt (drawn s ds))/\Ne g N W k'/\Bar g w W
theorem KY (g N k n:Nat)(w:World)(h:Ne g N w k)(hk:k<=1000000000)(hn:1<=n)(hn2:n<=3000) :
 Calls prog 67 #[.pointer (some ⟨g,0,none⟩),.int .i64 (n:Nat)] w fun e w'=>∃ (s:Bool) (ds:List Nat) (k':Nat),e=.returned (.string (Kq (Ot (drawn s ds))))/\ds.length=n/\OO ds/\49<=ds.headD 0/\k'<=k+2*n+10/\Ne g N w' k'/\Bar g w w':=by
 obtain⟨i0,J,j3,b6,j4⟩:=info_parts info_u8;have HC:=Hd h;have k8:=h.1;have b4:=h.2.1;clear h
 go_in
 go_wp2_with (at_make;refine wpList_make_own _ rfl _ _ 22 rfl w.heap.size 5 i0 (.int .u8 0) 1 underlying22 J j3 b6 .i64 .i64 _ (n+1) rfl rfl ?m1 ?m2 ?m3 ?m4 ?_)
 case m1=>omega
 case m2=>rw[j4];omega
 case m3=>unfold maxLen;omega
 case m4=>exact O1
 intro w2 e0 e6;have f9:Up w w2:=(Jj _ _).grown e6 O1 (fun k h=>by cases h);have f7:=Hd e0;have h2:=Hd (HC.o.bl (f9.mono b4));have g9:Hid (Bar g w w2):=Bar.of f9;clear e6 e0 f9
 go_wp2_with fail
 refine (K8 g N k 3 _ h2.o (by omega) (by decide) (by decide)).mono ?_;rintro e w3 ⟨r3,k3,rfl,l1,l0,g5,g1⟩;have g4:=Hd g5;have e5:=Hd (g9.o.trans g1);have d5:=Hd (f7.o.kept g1.grownBy (.inr (by simp[Value.ownBlock];omega)));clear g5 g1
 by_cases h0:r3=0
 ·have z0:((r3:Int)==0)=true:=by rw[Jw];omega
  have e2:=d5.o
  go_wp2_with (at_builtin;refine wpList_append_fits _ rfl _ _ 22 rfl w.heap.size 5 i0 1 underlying22 J b6 w.heap.size (0) (n+1) _ rfl (e2.alloc _) ⟨w3.heap.size,0,none⟩ 1 1 [_] rfl rfl (cell_one_new _ _ _) ?c1 ?c2 ?_)
  case c1=>first|rfl|(intro u Z;simp at Z;subst Z;rfl)
  case c2=>omega
  intro w4 e3 e7;have g0:Below w.heap.size w3 w4:=((Jj _ w3).alloc e5.o.size _).grown e7 (by have:=e5.o.size;simp;omega) (fun k e=>by cases e;exact O1);have f8:=Hd e3;have h6:=Hd (g4.o.bl (g0.mono b4));have h1:=Hd (e5.o.then g0);clear e2 e3 e7 g0
  go_wp2_with fail
  refine (K8 g N k3 9 _ h6.o (by omega) (by decide) (by decide)).mono ?_;rintro e w5 ⟨r5,k5,rfl,j0,h8,d7,c8⟩;have e8:=Hd d7;have b7:=Hd (h1.o.trans c8);have c6:=Hd (f8.o.kept c8.grownBy (.inr (by simp[Value.ownBlock];omega)));clear d7 c8;have V:=c6.o
  go_wp2_with (at_builtin;refine wpList_append_fits _ rfl _ _ 22 rfl w.heap.size 5 i0 1 underlying22 J b6 w.heap.size (1) (n+1) _ rfl (V.alloc _) ⟨w5.heap.size,0,none⟩ 1 1 [_] rfl rfl (cell_one_new _ _ _) ?c1 ?c2 ?_)
  case c1=>first|rfl|(intro u Z;simp at Z;subst Z;rfl)
  case c2=>omega
  intro w6 Y b5;have c7:Below w.heap.size w5 w6:=((Jj _ w5).alloc b7.o.size _).grown b5 (by have:=b7.o.size;simp;omega) (fun k e=>by cases e;exact O1);have b3:Hid (Rh g N k n true w (.slice (some ⟨w.heap.size,0,none⟩) (1+1) (n+1)) (.int .i64 1) w6):=by
   refine⟨1,k5,[49+r5],O1,hn,rfl,rfl,?_,?_,by omega,rfl,?_,e8.o.bl (c7.mono b4),b7.o.then c7⟩
   ·intro x hx;simp at hx;omega
   ·simp
   simpa[Lt,drawn] using Y
  clear V Y b5 c7
  go_wp2
  go_loopw [5,6] (Rh g N k n true w) (fun _ i _=>n - (intOf i).toNat)
  case atStart=>exact b3.o
  clear b3;obtain⟨j,kj,ds,h7,hj,rfl,H,a6,d1,i6,rfl,F,U,T⟩:=hrel;obtain⟨m,hm⟩:=O2 ((drawn true ds).length);have HM:=Hd hm;have d9:m=1+j:=by rw[<-hm,Se,H];rfl
  have f5:=Hd d9;rw[hm] at F ⊢;clear hm d9;have b8:=Hd a6;have b9:=Hd d1;have K:=Hd H;have a7:=Hd T;have a8:=Hd U;have d4:=Hd F
  by_cases i7:j<n
  ·have zj:decide ((j:Int)<(n:Int))=true:=dT (by omega)
   have i8:m+1<=n+1:=by have:=f5.o;omega
   clear a6 d1 H T U F
   go_wp2_with fail
   refine (K8 g N kj 14 _ a8.o (by omega) (by decide) (by decide)).mono ?_;rintro e w7 ⟨r7,k7,rfl,j1,i1,d8,d0⟩;have d3:=Hd d8;have I:=Hd (a7.o.trans d0);have D:=d4.o.kept d0.grownBy (.inr (by simp[Value.ownBlock];omega));clear d8 d0
   by_cases h9:9<r7
   ·have z9:decide (9<(r7:Int))=true:=dT (by omega)
    go_wp2_with (at_builtin;refine wpList_append_fits _ rfl _ _ 22 rfl w.heap.size 5 i0 1 underlying22 J b6 w.heap.size (m) (n+1) _ rfl (D.alloc _) ⟨w7.heap.size,0,none⟩ 1 1 [_] rfl rfl (cell_one_new _ _ _) ?c1 ?c2 ?_)
    case c1=>first|rfl|(intro u Z;simp at Z;subst Z;rfl)
    case c2=>omega
    intro w8 d E;have G:Below w.heap.size w7 w8:=((Jj _ w7).alloc I.o.size _).grown E (by have:=I.o.size;simp;omega) (fun k e=>by cases e;exact O1);have O:Hid (Rh g N k n true w (.slice (some ⟨w.heap.size,0,none⟩) (m+1) (n+1)) (.int .i64 ((j:Int)+1)) w8):=by
     have e1:(drawn true (ds++[48+9*(r7 % 2)])).length=m+1:=by rw[Ge,Jq,HM.o];rfl
     refine⟨j+1,k7,ds++[48+9*(r7 % 2)],by omega,by omega,rfl,?_,b8.o.snoc _ (by omega) (by omega),Qf _ _ b9.o,by omega,by rw[e1],?_,d3.o.bl (G.mono b4),I.o.then G⟩
     ·rw[Jq,K.o];rfl
     rw[e1,Ge,I2]
     simpa using d
    clear D d E G
    go_wp2
    go_roundw
    case rel=>exact O.o
    simp[intOf];omega
   have z9:decide (9<(r7:Int))=false:=dF (by omega)
   go_wp2_with (at_builtin;refine wpList_append_fits _ rfl _ _ 22 rfl w.heap.size 5 i0 1 underlying22 J b6 w.heap.size (m) (n+1) _ rfl (D.alloc _) ⟨w7.heap.size,0,none⟩ 1 1 [_] rfl rfl (cell_one_new _ _ _) ?c1 ?c2 ?_)
   case c1=>first|rfl|(intro u Z;simp at Z;subst Z;rfl)
   case c2=>omega
   intro w8 d E;have G:Below w.heap.size w7 w8:=((Jj _ w7).alloc I.o.size _).grown E (by have:=I.o.size;simp;omega) (fun k e=>by cases e;exact O1);have O:Hid (Rh g N k n true w (.slice (some ⟨w.heap.size,0,none⟩) (m+1) (n+1)) (.int .i64 ((j:Int)+1)) w8):=by
    have e1:(drawn true (ds++[48+r7])).length=m+1:=by rw[Ge,Jq,HM.o];rfl
    refine⟨j+1,k7,ds++[48+r7],by omega,by omega,rfl,?_,b8.o.snoc _ (by omega) (by omega),Qf _ _ b9.o,by omega,by rw[e1],?_,d3.o.bl (G.mono b4),I.o.then G⟩
    ·rw[Jq,K.o];rfl
    rw[e1,Ge,I2]
    simpa using d
   clear D d E G
   go_wp2
   go_roundw
   case rel=>exact O.o
   simp[intOf];omega
  have zj:decide ((j:Int)<(n:Int))=false:=dF (by omega)
  have g2:=Gj _ _ _ _ _ _ F (YK a6) HM.o;clear a6 d1 H T U F
  go_wp2
  go_ret
  exact⟨true,ds,kj,rfl,by have:=K.o;omega,b8.o,b9.o,by omega,a8.o,a7.o⟩
 have z0:((r3:Int)==0)=false:=by rw[Jd];omega
 go_wp2_with fail
 refine (K8 g N k3 9 _ g4.o (by omega) (by decide) (by decide)).mono ?_;rintro e w5 ⟨r5,k5,rfl,j0,h8,d7,c8⟩;have e8:=Hd d7;have b7:=Hd (e5.o.trans c8);have c6:=Hd (d5.o.kept c8.grownBy (.inr (by simp[Value.ownBlock];omega)));clear d7 c8;have V:=c6.o
 go_wp2_with (at_builtin;refine wpList_append_fits _ rfl _ _ 22 rfl w.heap.size 5 i0 1 underlying22 J b6 w.heap.size (0) (n+1) _ rfl (V.alloc _) ⟨w5.heap.size,0,none⟩ 1 1 [_] rfl rfl (cell_one_new _ _ _) ?c1 ?c2 ?_)
 case c1=>first|rfl|(intro u Z;simp at Z;subst Z;rfl)
 case c2=>omega
 intro w6 Y b5;have c7:Below w.heap.size w5 w6:=((Jj _ w5).alloc b7.o.size _).grown b5 (by have:=b7.o.size;simp;omega) (fun k e=>by cases e;exact O1);have b3:Hid (Rh g N k n false w (.slice (some ⟨w.heap.size,0,none⟩) (0+1) (n+1)) (.int .i64 1) w6):=by
  refine⟨1,k5,[49+r5],O1,hn,rfl,rfl,?_,?_,by omega,rfl,?_,e8.o.bl (c7.mono b4),b7.o.then c7⟩
  ·intro x hx;simp at hx;omega
  ·simp
  simpa[Lt,drawn] using Y
 clear V Y b5 c7
 go_wp2
 go_loopw [5,6] (Rh g N k n false w) (fun _ i _=>n - (intOf i).toNat)
 case atStart=>exact b3.o
 clear b3;obtain⟨j,kj,ds,h7,hj,rfl,H,a6,d1,i6,rfl,F,U,T⟩:=hrel;obtain⟨m,hm⟩:=O2 ((drawn false ds).length);have HM:=Hd hm;have d9:m=0+j:=by rw[<-hm,Se,H];rfl
 have f5:=Hd d9;rw[hm] at F ⊢;clear hm d9;have b8:=Hd a6;have b9:=Hd d1;have K:=Hd H;have a7:=Hd T;have a8:=Hd U;have d4:=Hd F
 by_cases i7:j<n
 ·have zj:decide ((j:Int)<(n:Int))=true:=dT (by omega)
  have i8:m+1<=n+1:=by have:=f5.o;omega
  clear a6 d1 H T U F
  go_wp2_with fail
  refine (K8 g N kj 14 _ a8.o (by omega) (by decide) (by decide)).mono ?_;rintro e w7 ⟨r7,k7,rfl,j1,i1,d8,d0⟩;have d3:=Hd d8;have I:=Hd (a7.o.trans d0);have D:=d4.o.kept d0.grownBy (.inr (by simp[Value.ownBlock];omega));clear d8 d0
  by_cases h9:9<r7
  ·have z9:decide (9<(r7:Int))=true:=dT (by omega)
   go_wp2_with (at_builtin;refine wpList_append_fits _ rfl _ _ 22 rfl w.heap.size 5 i0 1 underlying22 J b6 w.heap.size (m) (n+1) _ rfl (D.alloc _) ⟨w7.heap.size,0,none⟩ 1 1 [_] rfl rfl (cell_one_new _ _ _) ?c1 ?c2 ?_)
   case c1=>first|rfl|(intro u Z;simp at Z;subst Z;rfl)
   case c2=>omega
   intro w8 d E;have G:Below w.heap.size w7 w8:=((Jj _ w7).alloc I.o.size _).grown E (by have:=I.o.size;simp;omega) (fun k e=>by cases e;exact O1);have O:Hid (Rh g N k n false w (.slice (some ⟨w.heap.size,0,none⟩) (m+1) (n+1)) (.int .i64 ((j:Int)+1)) w8):=by
    have e1:(drawn false (ds++[48+9*(r7 % 2)])).length=m+1:=by rw[Ge,Jq,HM.o];rfl
    refine⟨j+1,k7,ds++[48+9*(r7 % 2)],by omega,by omega,rfl,?_,b8.o.snoc _ (by omega) (by omega),Qf _ _ b9.o,by omega,by rw[e1],?_,d3.o.bl (G.mono b4),I.o.then G⟩
    ·rw[Jq,K.o];rfl
    rw[e1,Ge,I2]
    simpa using d
   clear D d E G
   go_wp2
   go_roundw
   case rel=>exact O.o
   simp[intOf];omega
  have z9:decide (9<(r7:Int))=false:=dF (by omega)
  go_wp2_with (at_builtin;refine wpList_append_fits _ rfl _ _ 22 rfl w.heap.size 5 i0 1 underlying22 J b6 w.heap.size (m) (n+1) _ rfl (D.alloc _) ⟨w7.heap.size,0,none⟩ 1 1 [_] rfl rfl (cell_one_new _ _ _) ?c1 ?c2 ?_)
  case c1=>first|rfl|(intro u Z;simp at Z;subst Z;rfl)
  case c2=>omega
  intro w8 d E;have G:Below w.heap.size w7 w8:=((Jj _ w7).alloc I.o.size _).grown E (by have:=I.o.size;simp;omega) (fun k e=>by cases e;exact O1);have O:Hid (Rh g N k n false w (.slice (some ⟨w.heap.size,0,none⟩) (m+1) (n+1)) (.int .i64 ((j:Int)+1)) w8):=by
   have e1:(drawn false (ds++[48+r7])).length=m+1:=by rw[Ge,Jq,HM.o];rfl
   refine⟨j+1,k7,ds++[48+r7],by omega,by omega,rfl,?_,b8.o.snoc _ (by omega) (by omega),Qf _ _ b9.o,by omega,by rw[e1],?_,d3.o.bl (G.mono b4),I.o.then G⟩
   ·rw[Jq,K.o];rfl
   rw[e1,Ge,I2]
   simpa using d
  clear D d E G
  go_wp2
  go_roundw
  case rel=>exact O.o
  simp[intOf];omega
 have zj:decide ((j:Int)<(n:Int))=false:=dF (by omega)
 have g2:=Gj _ _ _ _ _ _ F (YK a6) HM.o;clear a6 d1 H T U F
 go_wp2
 go_ret
 exact⟨false,ds,kj,rfl,by have:=K.o;omega,b8.o,b9.o,by omega,a8.o,a7.o⟩
end Go.Proofs.YtjjgilacnocigaaGreatDoor.Q
namespace Go.Proofs.YtjjgilacnocigaaGreatDoor.Q
open ChangeShapes WideShapes ChangeAt RowKit
variable {W w:World}
theorem Bx.bar {W':World}{b g:Nat}{l:List Value}(h:Bx W b l)(hb:Bar g W W')(hg:b≠g):Bx W' b l:=by
 obtain⟨t,h⟩:=h;exact⟨t,(hb.block b (Yr.1 h).1 hg).trans h⟩
theorem L0 (ng:Bool)(t:List Nat)(h:t.length<=600):(Gd ng t).size<=6000:=by
 have d:=Tv t;unfold Gd
 split
 ·rw[Kf];decide
 split
 ·rw[Kf,J8];omega
 rw[Kf];omega
def Ir (w:World)(a:Option Addr)(n cap:Nat):Prop:=n<=cap/\cap<=maxLen/\∀ i,i<n->∃ b off v:Nat,a=some ⟨b,off,none⟩/\b<w.heap.size/\v<256/\w.cell? ⟨b,off+i,none⟩=some (.int .u8 v)
theorem Ir.bl {w':World}{a:Option Addr}{n cap:Nat}(h:Ir w a n cap)(hb:Up w w'):Ir w' a n cap:=
 ⟨h.1,h.2.1,fun i hi=>by
  obtain⟨b,d,v,e,j,D,h3⟩:=h.2.2 i hi
  exact⟨b,d,v,e,Js j hb.size,D,(hb.cell (p:=⟨b,d+i,none⟩) j).trans h3⟩⟩
theorem GY {a:Option Addr}{n cap:Nat}(h:Ir w a n cap)(ty:TypeId):Ne w.heap.size (w.heap.size+1) (w.alloc (.cells #[.slice a n cap,.int .i64 0,.int .u64 0] ty)) 0:=by
 refine⟨Yh _,by rw[J4];exact O1,a,n,cap,0,Ox w _ ty,by decide,h.1,h.2.1,fun i hi=>?_⟩;obtain⟨b,d,v,e,j,D,h3⟩:=h.2.2 i hi;exact⟨b,d,v,e,by omega,by omega,D,((Oo w _).cell (p:=⟨b,d+i,none⟩) j).trans h3⟩
theorem GO {w':World}(h:Up w W)(hb:Bar w.heap.size W w'):Up w w':=h.trans (hb.bl O1 h.size)
def lb (k:Nat):Nat:=1000000000 ^ k
theorem CK (t:List Nat)(htr:Oq t)(k:Nat)(h:val t<lb k):t.length<=k:=by
 by_cases d:t=[]
 ·rw[d];exact J7 _
 have j:=Xs t htr d;have D:t.length - 1<k:=by
  rcases Nat.lt_or_ge (t.length - 1) k with h3|h3
  ·exact h3
  have h4:=J3 (n:=1000000000) (by decide) h3;unfold lb at h;omega
 omega
structure BxR (h:Nat)(W:World)(s1:Bool)(p1:Option Addr)(l1 c1:Nat)(s2:Bool)(p2:Option Addr)(l2 c2:Nat)(s3:Bool)(p3:Option Addr)(l3 c3:Nat)(s4:Bool)(p4:Option Addr)(l4 c4:Nat):Prop where
 a:Bx W h [.bool s1,.slice p1 l1 c1,.bool s2,.slice p2 l2 c2]
 b:Bx W (h+1) [.bool s3,.slice p3 l3 c3,.bool s4,.slice p4 l4 c4]
 r:Bx W (h+1+1) [.bool false,.slice none 0 0,.bool false,.slice none 0 0]
theorem BxR.bl {h N:Nat}{W':World}{s1:Bool}{p1:Option Addr}{l1 c1:Nat}{s2:Bool}{p2:Option Addr}{l2 c2:Nat}{s3:Bool}{p3:Option Addr}{l3 c3:Nat}{s4:Bool}{p4:Option Addr}{l4 c4:Nat}(m:BxR h W s1 p1 l1 c1 s2 p2 l2 c2 s3 p3 l3 c3 s4 p4 l4 c4)(hN:h+3<=N)(hb:Below N W W'):BxR h W' s1 p1 l1 c1 s2 p2 l2 c2 s3 p3 l3 c3 s4 p4 l4 c4:=
 ⟨m.a.bl (by omega) hb,m.b.bl (by omega) hb,m.r.bl (by omega) hb⟩
theorem BxR.held {h:Nat}{s1:Bool}{p1:Option Addr}{l1 c1:Nat}{s2:Bool}{p2:Option Addr}{l2 c2:Nat}{s3:Bool}{p3:Option Addr}{l3 c3:Nat}{s4:Bool}{p4:Option Addr}{l4 c4:Nat}(m:BxR h W s1 p1 l1 c1 s2 p2 l2 c2 s3 p3 l3 c3 s4 p4 l4 c4):W.cell? ⟨h,0,none⟩=some (.bool s1)/\W.cell? ⟨h,1,none⟩=some (.slice p1 l1 c1)/\W.cell? ⟨h,2,none⟩=some (.bool s2)/\W.cell? ⟨h,3,none⟩=some (.slice p2 l2 c2)/\W.cell? ⟨h+1,0,none⟩=some (.bool s3)/\W.cell? ⟨h+1,1,none⟩=some (.slice p3 l3 c3)/\W.cell? ⟨h+1,2,none⟩=some (.bool s4)/\W.cell? ⟨h+1,3,none⟩=some (.slice p4 l4 c4):=
 ⟨m.a.cell 0,m.a.cell 1,m.a.cell 2,m.a.cell 3,m.b.cell 0,m.b.cell 1,m.b.cell 2,m.b.cell 3⟩
end Go.Proofs.YtjjgilacnocigaaGreatDoor.Q
namespace Go.Proofs.YtjjgilacnocigaaGreatDoor.Q
open ChangeShapes WideShapes ChangeAt RowKit Proofs.Tryz
variable {w:World}
theorem To (c:UInt8)(l:List UInt8):((Kq (c::l)).extract 0 1).toList=[c]:=by
 rw[Je];simp[Kq]
theorem RH (c:UInt8)(l:List UInt8):((Kq (c::l)).extract 1 (Kq (c::l)).size).data.toList=l:=by
 rw[Kf];simp[Kq]
theorem UJ {ds:List Nat}(h:OO ds):(Ot ds).all Ey=true:=by
 rw[Zt];intro c d;unfold Ot at d;rw[Z5] at d;obtain⟨x,j,rfl⟩:=d;have:=h x j;unfold Ey;rw[J2,UInt8.toNat_ofNat_of_lt' (by simp[UInt8.size];omega)];exact this
theorem IA (s:Bool)(ds:List Nat)(h:OO ds)(hh:49<=ds.headD 0)(h2:ds.length<=2500):Ow (Kq (Ot (drawn s ds)))=true/\((Kq (Ot (drawn s ds))).toList==[48])=false:=by
 cases ds with
 | nil=>simp at hh
 | cons d l=>
   have U:=h d (by simp);have K:49<=d:=by simpa using hh
   have j:=UJ h;have D:UInt8.ofNat d≠48:=fun e=>by
    have:=congrArg UInt8.toNat e;rw[UInt8.toNat_ofNat_of_lt' (by simp[UInt8.size];omega)] at this;have T:(48:UInt8).toNat=48:=rfl;omega
   have E:UInt8.ofNat d≠45:=fun e=>by
    have:=congrArg UInt8.toNat e;rw[UInt8.toNat_ofNat_of_lt' (by simp[UInt8.size];omega)] at this;have O:(45:UInt8).toNat=45:=rfl;omega
   cases s
   ·have I:Ot (drawn false (d::l))=UInt8.ofNat d::Ot l:=by simp[drawn,Ot]
    have J:Ki (Kq (UInt8.ofNat d::Ot l))=false:=by
     unfold Ki;rw[To];simp[E]
    have G:dgs (Kq (UInt8.ofNat d::Ot l))=Kq (UInt8.ofNat d::Ot l):=by unfold dgs;rw[J];rfl
    have H:(Kq (UInt8.ofNat d::Ot l)).data.toList=UInt8.ofNat d::Ot l:=by simp[Kq]
    have F:(Kq (UInt8.ofNat d::Ot l)).size=l.length+1:=by rw[Kf];simp[Ot]
    rw[I];refine⟨?_,?_⟩
    ·unfold Ow;rw[G,H,F];have h3:(UInt8.ofNat d::Ot l).all Ey=true:=by simpa[Ot] using j
     rw[h3];have:l.length+1<=2500:=by simpa using h2
     simp[this,D]
    rw[Je,H];simp[D]
   have I:Ot (drawn true (d::l))=45::UInt8.ofNat d::Ot l:=by simp[drawn,Ot]
   have J:Ki (Kq (45::UInt8.ofNat d::Ot l))=true:=by
    unfold Ki;rw[To];rfl
   have G:(dgs (Kq (45::UInt8.ofNat d::Ot l))).data.toList=UInt8.ofNat d::Ot l:=by
    unfold dgs;rw[J];exact RH 45 _
   have F:(dgs (Kq (45::UInt8.ofNat d::Ot l))).size=l.length+1:=by
    have h5:(dgs (Kq (45::UInt8.ofNat d::Ot l))).data.toList.length=(dgs (Kq (45::UInt8.ofNat d::Ot l))).size:=by simp
    rw[<-h5,G];simp[Ot]
   have H:(Kq (45::UInt8.ofNat d::Ot l)).data.toList=45::UInt8.ofNat d::Ot l:=by simp[Kq]
   rw[I];refine⟨?_,?_⟩
   ·unfold Ow;rw[G,F];have h3:(UInt8.ofNat d::Ot l).all Ey=true:=by simpa[Ot] using j
    rw[h3];have:l.length+1<=2500:=by simpa using h2
    simp[this,D]
   rw[Je,H];simp
theorem Kn.bar {B g:Nat}{w':World}{v:Value}{l:List Nat}(h:Kn B w v l)(hb:Bar g w w')(hg:g<B):Kn B w' v l:=by
 obtain⟨a,cap,rfl,hl,d,E,H⟩:=h;refine⟨a,cap,rfl,hl,d,E,?_⟩
 rcases H with rfl|⟨b,D,rfl,F,j,G⟩
 ·exact .inl rfl
 refine .inr ⟨b,D,rfl,F,Js j hb.size,fun i hi=>?_⟩;rw[hb.cell (p:=⟨b,D+i,none⟩) j (by show b≠g;omega)];exact G i hi
theorem E0.bar {B g:Nat}{w':World}{z:Value}{x:Int}{n:Nat}(h:E0 B w z x n)(hb:Bar g w w')(hg:g<B):E0 B w' z x n:=by
 obtain⟨neg,t,⟨d,j,h3⟩,e,hl⟩:=h;refine⟨neg,t,⟨d,j,?_⟩,e,hl⟩
 rcases h3 with⟨h3,v,rfl,D⟩|h3
 ·exact .inl ⟨h3,v,rfl,D.bar hb hg⟩
 exact .inr h3
theorem DX (g N k n:Nat)(x:Int)(w:World)(h:Ne g N w k)(hx:x=(n:Nat))(hk:k<=1000000000)(hn:1<=n)(hn2:n<=2500) :
 Calls prog 67 #[.pointer (some ⟨g,0,none⟩),.int .i64 x] w fun e w'=>∃ (u:ByteArray) (k':Nat),e=.returned (.string u)/\Ow u=true/\K9 u≠0/\k'<=k+6010/\Ne g N w' k'/\Bar g w w':=by
 subst hx;refine (KY g N k n w h hk hn (by omega)).mono ?_;rintro e w' ⟨s,j,k',rfl,F,D,h3,h4,h5,E⟩;obtain⟨d,i2⟩:=IA s j D h3 (by omega);exact⟨_,k',rfl,d,PO _ d i2,by omega,h5,E⟩
theorem TX {x y a b:Int}{k:Nat}(h:N9 x y a b)(hx:x.natAbs<lb k)(hy:y.natAbs<lb k):a.natAbs<lb k/\b.natAbs<lb k:=by
 obtain⟨c,c0,D,E,_⟩:=h;have d:=Qq a c c0;have j:=Qq b c c0;rw[<-D] at d;rw[<-E] at j;exact⟨Oj d hx,Oj j hy⟩
theorem ZH (B:Nat)(z:Value)(x y:Int)(w:World)(hBw:B<=w.heap.size)(h:C0 B w z x y)(hx:x.natAbs<lb 600)(hy:y.natAbs<lb 600) :
 Calls prog 68 #[z] w fun e w'=>∃ u:ByteArray,e=.returned (.string u)/\u.size<=12001/\Up w w':=by
 have K:=h;obtain⟨T,Z,U,Y,V,q0,qn,qa,ql,qc,rfl,⟨F,t1,d,H,_⟩,G,t2,j,I,_⟩:=h;have D:t1.length<=600:=CK t1 d.2.1 600 (by rw[<-H,Ih] at hx;exact hx);have E:t2.length<=600:=CK t2 j.2.1 600 (by rw[<-I,Ih] at hy;exact hy);refine (EY B T Z U Y V q0 qn qa ql qc F G t1 t2 x y w hBw K d j D E).mono ?_;rintro e w' ⟨rfl,O⟩;refine⟨_,rfl,?_,O⟩;have s1:=L0 (Ko F t1) t1 D;have s2:=L0 (Ko G t2) t2 E;have J:(⟨#[47]⟩:ByteArray).size=1:=rfl
 split
 ·omega
 rw[Y4,Y4];omega
theorem WS:prog.globalNamed "loop.example/g00007/impl.limbTens" = some 7:=by kernel_rfl
theorem JK:(prog.globals[7]?).map (·.type)=some 245:=by kernel_rfl
def Ae:List Int:=[100000000,10000000,1000000,100000,10000,1000,100,10,1]
theorem LG (j:Nat)(h:j<9):Ae.getD j 0=(tens j:Nat):=by
 match j,h with
 | 0,_|1,_|2,_|3,_|4,_|5,_|6,_|7,_|8,_=>rfl
theorem EK {W:World}{n0:String}{d0:DataW Unit}{L:List (String×DataW Unit)}(h:laidMet prog ((n0,d0)::("loop.example/g00007/impl.limbTens",Rows.laid_loop_example_g00007_impl_limbTens)::L) W):LT W:=by
 obtain⟨ps,⟨g0,t0,I,f0,p0,q0,_,_,_,_,⟨g,t,cs,D,p,q,F,V,Y,U,_,_⟩,_⟩,_⟩:=h;obtain rfl:=Option.some.inj (WS.symm.trans F);obtain rfl:=Option.some.inj (JK.symm.trans V);obtain⟨xs,m,_,ex,_,hl,j⟩:=DataW.trod_array underlying245 U;have c5:prog.cellsOf 127=1:=by kernel_rfl
 intro r H;have E:=j r H;rw[c5,Z7,Jl (by omega)] at E;obtain⟨z,J,K,_⟩:=DataW.trod_int underlying127 E;have G:Ae.length=9:=rfl;have O:(xs.map (·.1))=Ae.map fun n=>.lit (.int .u32 n):=(DataW.agg.inj (Prod.mk.inj ex).1).symm;have d:(xs.map (·.1))[r]? = (Ae.map fun n=>(DataW.lit (.int .u32 n):DataW Unit))[r]? := by rw[O]
 rw[Zh,Zh,Jl (by omega:r<xs.length),Jl (by omega:r<Ae.length),K] at d;have Z:z=Ae.getD r 0:=by
  simp only[Option.map_some,Option.some.injEq,DataW.lit.injEq,Lit.int.injEq,true_and] at d;rw[d,List.getD,Jl (by omega:r<Ae.length)];rfl
 rw[Oh F Y r,<-LG r H,<-Z];have:cs.toList[r]? = some (.int .u32 z):=by
  have T:((cs.toList.drop r).take 1)[0]? = some (.int .u32 z):=by rw[J];rfl
  simpa using T
 simpa using this
open ChangeShapes WideShapes ChangeAt RowKit Deep Proofs.Tryz
theorem TI:prog.globalNamed "loop.example/g00007/impl.noSteps" = some 2:=by kernel_rfl
theorem TA:(prog.globals[2]?).map (·.type)=some 215:=by kernel_rfl
theorem TE:prog.cellsOf 215=4:=by kernel_rfl
theorem WX:prog.cellsOf 213=2:=by kernel_rfl
theorem JM:prog.cellsOf 2=1:=by kernel_rfl
theorem Fs {H:Type}{enc:TypeId×Value->H}{base:Nat}{spare:Nat->Bool}{held:Bool}{fuel:Nat}{cs:List Value}{a c:Int}{x:DataW H×List MemPlace}
 (h:DataW.trod enc prog w base spare held fuel 213 cs=some x) (hx:x.1=.agg [.lit (.int .i64 a),.lit (.int .i64 c)]):cs=[.int .i64 a,.int .i64 c]:=by
 obtain⟨xs,m,_,rfl,hl,hn,d⟩:=DataW.trod_array underlying213 h;rw[WX] at hl;have j:=d 0 (by decide);have D:=d 1 (by decide);rw[JM] at j D
 match xs,hn with
 | [y0,y1],_=>
   obtain⟨I,i0,F,_⟩:=DataW.trod_int underlying2 (show DataW.trod _ prog w base spare held m 2 _=some y0 from j);obtain⟨J,E,G,_⟩:=DataW.trod_int underlying2 (show DataW.trod _ prog w base spare held m 2 _=some y1 from D);subst F G;simp only[Vc,Vs,DataW.agg.injEq,List.cons.injEq,DataW.lit.injEq,Lit.int.injEq,true_and,and_true] at hx;obtain⟨rfl,rfl⟩:=hx
   match cs,hl with
   | [c0,c1],_=>
     simp at i0 E;rw[i0,E]
theorem EI {W:World}{L:List (String×DataW Unit)}(h:laidMet prog (("loop.example/g00007/impl.noSteps",Rows.laid_loop_example_g00007_impl_noSteps)::L) W):NS W:=by
 obtain⟨Y,⟨V,t0,E,f0,D,q0,j,G,H,F,_,_⟩,_⟩:=h;obtain rfl:=Option.some.inj (TI.symm.trans j);obtain rfl:=Option.some.inj (TA.symm.trans G);have d:=Oh j H;obtain⟨Z,y1,n,O,hl,T,U⟩:=trod_struct2 underlying215 F;rw[TE] at hl;obtain⟨l⟩:=E;simp only[Rows.laid_loop_example_g00007_impl_noSteps,Prod.mk.injEq,DataW.agg.injEq,List.cons.injEq,and_true] at O;obtain⟨⟨I,J⟩,_⟩:=O;have D:=Fs T I.symm;have K:=Fs U J.symm;rw[WX] at D K
 match l,hl with
 | [c0,c1,c2,c3],_=>
   simp at D K;obtain⟨rfl,rfl⟩:=D;obtain⟨rfl,rfl⟩:=K;exact⟨d 0,d 1,d 2,d 3⟩
end Go.Proofs.YtjjgilacnocigaaGreatDoor.Q
