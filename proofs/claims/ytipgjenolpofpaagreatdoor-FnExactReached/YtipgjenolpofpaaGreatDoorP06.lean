import Derived.Test.YtipgjenolpofpaaGreatDoorP05
set_option maxRecDepth 100000
set_option maxHeartbeats 4000000
namespace Go.Proofs.YtipgjenolpofpaaGreatDoor.Q
open ChangeShapes WideShapes ChangeAt RowKit Proofs.Tryz
theorem XE (B:Nat)(x y:Int)(xn yn:Bool)(pa:Option Addr)(la ca:Nat)(pb:Option Addr)(lb cb:Nat)(na nb:Bool)(a b:List Nat)(w:World)(hBw:B<=w.heap.size)(hz:((la:Int)==0)=false∨((la:Int)==0)=true/\((lb:Int)==0)=false)
 (hza:Nz B w (.agg #[.int .i64 x,.bool xn,.slice pa la ca]) na a) (hzb:Nz B w (.agg #[.int .i64 y,.bool yn,.slice pb lb cb]) nb b) (s:Bool) (ha:Tp x xn la=s) (hb:Tp y yn lb=!s) (hla:a.length<=1000000) (hlb:b.length<=1000000) (hcm:El a b<0) :
 Calls prog 143 #[.agg #[.int .i64 x,.bool xn,.slice pa la ca],.agg #[.int .i64 y,.bool yn,.slice pb lb cb]] w fun e w'=>∃ z,e=.returned z/\N5 w.heap.size w' z (sg s (val a)+sg (!s) (val b))/\Up w w':=by
 have e8:=Hd ha;have c6:=Hd hb;have e7:Hid (a.length<=1000000/\b.length<=1000000):=⟨hla,hlb⟩;have b9:Hid (a.length<=b.length/\val a<=val b):=by
  have h:=Gf a b hza.1 hzb.1 hza.2.1 hzb.2.1;have h2:=hcm;rw[h] at h2;refine⟨?_,?_⟩
  ·unfold El at hcm
   by_cases h3:a.length<b.length
   ·simp[h3] at hcm<;>omega
   by_cases h4:b.length<a.length
   ·simp[h3,h4] at hcm<;>omega
   omega
  unfold Ay at h2
  split at h2<;>(try split at h2)<;>omega
 obtain⟨c,hc⟩:=O1 (El a b);have HC:=Hd hc;have g3 : -1<=c/\c<=1:=by rw[<-hc];exact Qe a b
 obtain⟨i8,j0⟩:=g3;rw[hc] at hcm;clear hc;have HX:=G7 w x xn pa la ca y yn pb lb cb 123;obtain⟨E,G⟩:=O1 (((w.alloc (.cells #[.int .i64 x,.bool xn,.slice pa la ca] 123)).alloc (.cells #[.int .i64 y,.bool yn,.slice pb lb cb] 123)).alloc (.cells #[.int .i64 0,.bool false,.slice none 0 0] 123));have f5:=Hd G;have K:Up w E:=by rw[<-G];exact Om (Om (Oy _ _) _) _
 have e3:=Hd K;have d7:E.heap.size=w.heap.size+3:=by rw[<-G];simp
 have d3:w.heap.size<E.heap.size:=by omega
 have d4:w.heap.size+1<E.heap.size:=by omega
 have d5:w.heap.size+2<E.heap.size:=by omega
 rw[G] at HX;have HS:=Hd d7;have b5:=Hd hBw;have A:Hid (∀ W,Up E W->Boxes w.heap.size W x xn pa la ca y yn pb lb cb):=fun W hW=>HX.bl (by omega) hW;have g0:Hid (∀ W,Up E W->Nz B W (.agg #[.int .i64 x,.bool xn,.slice pa la ca]) na a):=fun W hW=>(hza.bl K).bl hW;have g1:Hid (∀ W,Up E W->Nz B W (.agg #[.int .i64 y,.bool yn,.slice pb lb cb]) nb b):=fun W hW=>(hzb.bl K).bl hW;obtain⟨a0,a1,a2,b0,b1,b2,r0,r1,r2,f0,f1,f2⟩:=HX;clear G d7 ha hb hza hzb K hBw hla hlb;have b8:Hid (∃ W1,Up E W1/\((((la:Int)==0)=false/\E.alloc (.cells #[.int .i64 x,.bool xn,.slice pa la ca] 123)=W1)∨(((la:Int)==0)=true/\((lb:Int)==0)=false/\(E.alloc (.cells #[.int .i64 x,.bool xn,.slice pa la ca] 123)).alloc (.cells #[.int .i64 y,.bool yn,.slice pb lb cb] 123)=W1))):=by
  rcases hz with h|⟨h,h'⟩
  ·exact⟨_,Oy _ _,.inl ⟨h,rfl⟩⟩
  exact⟨_,Om (Oy _ _) _,.inr ⟨h,h',rfl⟩⟩
 obtain⟨W1,U,g7⟩:=b8.o;have d:=Hd U;clear hz b8 U
 go_in
 go_wp2_with fail
 rw[f5.o];refine (U6 _ _ _ _ _ _).mono ?_;rintro e w' ⟨rfl,rfl⟩
 rcases g7 with⟨hz,Y⟩|⟨hz,j1,Y⟩
 all_goals
  have f8:=Ec Y;clear Y
  go_wp2_with (go_at_call 105;refine (U6 _ _ _ _ _ _).mono ?_;rintro e w' ⟨rfl,rfl⟩)
  rw[f8.o];clear a0 a1 a2 b0 b1 b2 r0 r1 r2 f0 f1 f2;obtain⟨a0,a1,a2,b0,b1,b2,r0,r1,r2,f0,f1,f2⟩:=A.o W1 d.o;refine (Ez B _ na a _ (g0.o _ d.o) (by have:=d.o.size;have:=HS.o;have:=b5.o;omega)).mono ?_;rintro e wa ⟨va,rfl,d8,d0⟩;have e9:=Hd d8;have J:=d.up d0;clear a0 a1 a2 b0 b1 b2 r0 r1 r2 f0 f1 f2 d8 d0;obtain⟨a0,a1,a2,b0,b1,b2,r0,r1,r2,f0,f1,f2⟩:=A.o wa J.o
  go_wp2_with fail
  refine (Ez B _ nb b _ (g1.o _ J.o) (by have:=J.o.size;have:=HS.o;have:=b5.o;omega)).mono ?_;rintro e M ⟨vb,rfl,d9,Z⟩;have c8:=Hd d9;have O:Hid (U1 B M va a):=e9.o.bl Z;have j:=J.up Z;have g4:w.heap.size<M.heap.size:=by have:=j.o.size;omega
  have g5:w.heap.size+1<M.heap.size:=by have:=j.o.size;omega
  have g6:w.heap.size+2<M.heap.size:=by have:=j.o.size;omega
  clear a0 a1 a2 b0 b1 b2 r0 r1 r2 f0 f1 f2 d9 Z d3 d4 d5;obtain⟨a0,a1,a2,b0,b1,b2,r0,r1,r2,f0,f1,f2⟩:=A.o M j.o
  go_wp2
  go_region_with (first|(go_at_call_of 124 (Value.int IntKind.i64 x);refine (Er _ _ _ _ _ _).mono ?_;rintro e w' ⟨rfl,rfl⟩;rw[e8.o])|(go_at_call_of 124 (Value.int IntKind.i64 y);refine (Er _ _ _ _ _ _).mono ?_;rintro e w' ⟨rfl,rfl⟩;rw[c6.o]))
  all_goals
   simp only[Yz,Ys,Yn,Act.put,Ja,Jd,Je]
   go_wp2_with fail
   refine (Nr B va vb a b _ (O.o.bl ?_) (c8.o.bl ?_)).mono ?_
   ·exact (Om (Oy _ _) _).drew
   ·exact (Om (Oy _ _) _).drew
   rintro e wk ⟨rfl,d2⟩;rw[HC.o];have I:Up M wk:=((Om (Oy M (.cells #[.int .i64 x,.bool xn,.slice pa la ca] 123)) (.cells #[.int .i64 y,.bool yn,.slice pb lb cb] 123)).drew).trans (d2.mono (by show M.heap.size<=_;simp;omega));have b4:=Hd I;have e6:=j.up I;clear d2 I a0 a1 a2 b0 b1 b2 r0 r1 r2 f0 f1 f2 g4 g5 g6;obtain⟨a0,a1,a2,b0,b1,b2,r0,r1,r2,f0,f1,f2⟩:=A.o wk e6.o
   go_wp2_with fail
   refine (Er _ _ _ _ _ _).mono ?_;rintro e wc ⟨rfl,e0⟩;rw[c6.o];have a7:Up M wc:=by rw[e0];exact b4.o.alloc b4.o.size _
   have b3:=Hd a7;have b6:=j.up a7;clear e0 a7 a0 a1 a2 b0 b1 b2 r0 r1 r2 f0 f1 f2
   go_wp2_with fail
   refine (Fo B vb va b a _ (c8.o.bl b3.o) (O.o.bl b3.o) e7.o.2 b9.o.1 b9.o.2).mono ?_;rintro e wd ⟨vd,L,rfl,hL,V,d1⟩;have HL:=Hd hL;have HV:=Hd V;have e5:=b6.up d1;clear hL V d1
   go_wp2_with fail
   refine (Np _ (!s) vd L _ HL.o).mono ?_;rintro e we ⟨z,rfl,d6,a8⟩;have hN:N5 (w.heap.size+3) we z (sg s (val a)+sg (!s) (val b)):=⟨(!s),Oe L,(((d6 _ _ HL.o).bl a8).mono (by have:=b6.o.size;have:=HS.o;omega)),by rw[O3,QR (!s) _ _ _ HV.o,Bool.not_not,Int.add_comm]⟩;have HN:=Hd hN;have b7:=e5.up a8;have e4:Hid (Up w we):=e3.o.trans (b7.o.mono (by have:=HS.o;omega));obtain⟨a0,a1,a2,b0,b1,b2,r0,r1,r2,f0,f1,f2⟩:=A.o we b7.o;obtain⟨z0,zn,za,zl,zc,g8⟩:=hN.shape;subst g8;clear d6 a8 hN
   go_wp2
   refine Jj ?_ rfl ⟨_,rfl,(((HN.o.setCell _ _ (by simp)).setCell _ _ (by simp)).setCell _ _ (by simp)).mono (by omega),((e4.o.setCell (by simp;omega) _).setCell (by simp;omega) _).setCell (by simp;omega) _⟩;simp[results,results143,go_sem,r0,r1,r2]
theorem Nz.form2 {B:Nat}{w:World}{z:Value}{na:Bool}{a:List Nat}(h:Nz B w z na a):∃ x xn p l c,z=.agg #[.int .i64 x,.bool xn,.slice p l c]/\Tp x xn l=U0 na a/\(l=0->a.length<=2/\z=.agg #[.int .i64 (sg na (val a)),.bool false,.slice none 0 0]):=by
 obtain⟨d,j,h3⟩:=h
 rcases h3 with⟨h3,v,rfl,p,c,rfl,_⟩|⟨h3,rfl⟩
 ·refine⟨_,_,_,_,_,rfl,?_,fun e=>by omega⟩;unfold Tp U0;have:0<a.length:=by omega
  simp[this]
 exact⟨_,_,_,_,_,rfl,(Dt na a h3 d j).symm,fun _=>⟨h3,rfl⟩⟩
theorem Md (B:Nat)(za zb:Value)(na nb:Bool)(a b:List Nat)(w:World)(hBw:B<=w.heap.size)(hza:Nz B w za na a)(hzb:Nz B w zb nb b)(hla:a.length<=1000000)(hlb:b.length<=1000000) :
 Calls prog 143 #[za,zb] w fun e w'=>∃ z,e=.returned z/\N5 w.heap.size w' z (sg na (val a)+sg nb (val b))/\Up w w':=by
 have G:=hza.1;have I:=hzb.1;obtain⟨x,U,M,la,j,rfl,E,ga⟩:=hza.form2;obtain⟨y,V,O,lb,A,rfl,d,gb⟩:=hzb.form2
 by_cases h0:la=0/\lb=0
 ·have Y:=ga h0.1;have Z:=gb h0.2;rw[Y.2,Z.2];have l1:=Wy na a G Y.1;have l2:=Wy nb b I Z.1;exact Tv _ _ w l1.1 l1.2 l2.1 l2.2
 have K:((la:Int)==0)=false∨(((la:Int)==0)=true/\((lb:Int)==0)=false):=by
  by_cases h:la=0
  ·exact .inr ⟨by rw[Yc];omega,by rw[Jc];omega⟩
  exact .inl (by rw[Jc];omega)
 rw[<-Io na a,<-Io nb b]
 by_cases hs:U0 nb b=U0 na a
 ·rw[hs] at d ⊢;exact YK B x y U V M la j O lb A na nb a b w hBw K hza hzb _ E d hla hlb
 have J:U0 nb b=!U0 na a:=by revert hs;cases U0 nb b<;>cases U0 na a<;>simp
 rw[J] at d ⊢
 by_cases hc:0<=El a b
 ·exact XK B x y U V M la j O lb A na nb a b w hBw K hza hzb _ E d hla hlb hc
 exact XE B x y U V M la j O lb A na nb a b w hBw K hza hzb _ E d hla hlb (by omega)
theorem Mc (B:Nat)(za zb:Value)(na nb:Bool)(a b:List Nat)(w:World)(hBw:B<=w.heap.size)(hza:Nz B w za na a)(hzb:Nz B w zb nb b)(hla:a.length<=1000000)(hlb:b.length<=1000000) :
 Calls prog 142 #[za,zb] w fun e w'=>∃ z,e=.returned z/\N5 w.heap.size w' z (sg na (val a) - sg nb (val b))/\Up w w':=by
 have U:=hza;have V:=hzb;obtain⟨x,xn,pa,la,Z,rfl⟩:=hza.shape;obtain⟨y,yn,pb,lb,cb,rfl⟩:=hzb.shape;have I:Hid (a.length<=1000000/\b.length<=1000000):=⟨hla,hlb⟩;have HX:=G7 w x xn pa la Z y yn pb lb cb 123;obtain⟨A,h⟩:=O1 (((w.alloc (.cells #[.int .i64 x,.bool xn,.slice pa la Z] 123)).alloc (.cells #[.int .i64 y,.bool yn,.slice pb lb cb] 123)).alloc (.cells #[.int .i64 0,.bool false,.slice none 0 0] 123));have c6:=Ec h;have j:Up w A:=by rw[<-h];exact Om (Om (Oy _ _) _) _
 have b6:=Ec j;have O:A.heap.size=w.heap.size+3:=by rw[<-h];simp
 rw[h] at HX;have HS:=Ec O;have b8:=Ec hBw;have E:Hid (∀ W,Up A W->Boxes w.heap.size W x xn pa la Z y yn pb lb cb):=fun W hW=>HX.bl (by omega) hW;have d3:Hid (∀ W,Up A W->Nz B W (.agg #[.int .i64 x,.bool xn,.slice pa la Z]) na a):=fun W hW=>(hza.bl j).bl hW;have d4:Hid (∀ W,Up A W->Nz B W (.agg #[.int .i64 y,.bool yn,.slice pb lb cb]) nb b):=fun W hW=>(hzb.bl j).bl hW;have J:Hid (sg na (val a) - sg nb (val b)=sg na (val a)+sg (!nb) (val b)):=by
  unfold Hid
  rw[ZT];omega
 rw[J.o];obtain⟨a0,a1,a2,b0,b1,b2,r0,r1,r2,f0,f1,f2⟩:=HX;clear h O hza hzb U V j hBw hla hlb J
 go_in
 go_wp2_with fail
 rw[c6.o]
 go_region_with (first
  | (go_at_call 167;refine (Tg B _ nb b _ (d4.o _ ?_)).mono ?_
     ·exact (Jh _ _).drew
     rintro e wm ⟨zm,rfl,Y,M⟩;have d:Hid (Up A wm):=(Jh _ A).drew.trans M;have d5:=Hd Y;obtain⟨c0,c1,c2,d0,d1,d2,s0,s1,s2,g0,g1,g2⟩:=E.o wm d.o;clear Y M)
  | (go_at_call 143;refine (Md B _ _ na (!nb) a b _ ?_ (d3.o _ d.o) d5.o I.o.1 I.o.2).mono ?_
     ·have:=d.o.size;have:=HS.o;have:=b8.o;omega
     rintro e we ⟨z,rfl,hN,K⟩;have HN:Hid (N5 (w.heap.size+3) we z (sg na (val a)+sg (!nb) (val b))):=hN.mono (by have:=d.o.size;have:=HS.o;omega);have G:=d.up K;have b7:Hid (Up w we):=b6.o.trans (G.o.mono (by have:=HS.o;omega));obtain⟨c0,c1,c2,d0,d1,d2,s0,s1,s2,g0,g1,g2⟩:=E.o we G.o;obtain⟨z0,zn,za,zl,zc,d7⟩:=hN.shape;subst d7;clear K hN))
 all_goals
  try simp only[Yz,Ys,Yn,Act.put,Ja,Jd,Je]
  go_wp2
  refine Jj ?_ rfl ⟨_,rfl,(((HN.o.setCell _ _ (by simp)).setCell _ _ (by simp)).setCell _ _ (by simp)).mono (by omega),((b7.o.setCell (by simp;omega) _).setCell (by simp;omega) _).setCell (by simp;omega) _⟩;simp[results,results142,go_sem,s0,s1,s2]
def numT (s:ByteArray):Int:=sg (isNeg s) (val (lim s))
def Ef (x:Int)(u:ByteArray):Prop:=∃ neg t,okL t/\isTrim t/\sg neg (val t)=x/\u=Ly (U0 neg t) t
theorem Ef.eq {x:Int}{u v:ByteArray}(hu:Ef x u)(hv:Ef x v):u=v:=by
 obtain⟨n,t,A,j,h3,rfl⟩:=hu;obtain⟨m,r,E,k2,k3,rfl⟩:=hv;have d:val t=val r:=by
  have h:=h3.trans k3.symm
  cases n<;>cases m<;>simp[sg] at h<;>omega
 obtain rfl:=val_inj t r A E j k2 d;have hn:U0 n t=U0 m t:=by
  by_cases h:t=[]
  ·subst h;simp[U0]
  have G:=N2 t j h;have h:=h3.trans k3.symm
  cases n<;>cases m<;>simp[sg] at h<;>first|rfl|omega
 rw[hn]
end Go.Proofs.YtipgjenolpofpaaGreatDoor.Q
namespace Go.Proofs.YtipgjenolpofpaaGreatDoor.Q
open RowKit
theorem NZ (g:List UInt8)(hg:∀ c∈g,dig c)(j:Nat)(hj:j<g.length):num g / 10 ^ (g.length - 1 - j) % 10=g[j].toNat - 48:=by
 induction hn:g.length generalizing g j with
 | zero=>omega
 | succ n ih=>
   obtain⟨f,c,rfl⟩:∃ f c,g=f++[c]:=⟨g.dropLast,g.getLast (by intro h;rw[h] at hj;simp at hj),(Zg _).symm⟩;have hc:dig c:=hg c (by simp);unfold dig at hc;have A:f.length=n:=by simpa using hn
   rw[R7]
   by_cases J:j<n
   ·have E:n+1 - 1 - j=(n - 1 - j)+1:=by omega
    have I:(num f*10+(c.toNat - 48)) / 10 ^ (n - 1 - j+1)=num f / 10 ^ (n - 1 - j):=by
     rw[J5,Yy (10 ^ (n - 1 - j)) 10,<-Z3,show (num f*10+(c.toNat - 48)) / 10=num f by omega]
    rw[E,I];have:=ih f (fun x hx=>hg x (by simp[hx])) j (by omega) A;rw[this]
    congr 2
    rw[Vx (by omega)]
   have d:j=n:=by simp at hj;omega
   subst d;simp only[Z7,Nat.sub_self,Nat.pow_zero,Nat.div_one];have G:(f++[c])[j]=c:=by rw[Vn (by omega)];simp[A]
   rw[G];omega
theorem IL (g:List UInt8)(hg:∀ c∈g,dig c)(h9:g.length=9):Ow (Ng (num g) 9)=g:=by
 apply Ul
 ·simp[Ow,Ng,h9]
 intro j A d;have h:=NZ g hg j d;have hc:=hg g[j] (Jw _);unfold dig at hc;simp only[Ow,Ng,Vi,List.getElem_range];unfold dg tens;rw[show 8 - j=g.length - 1 - j by omega,h];apply UInt8.toNat_inj.1;rw[UInt8.toNat_ofNat_of_lt' (by show _<256;omega)];omega
theorem NU (k:Nat)(d:List UInt8):num (List.replicate k 48++d)=num d:=by
 induction k with
 | zero=>simp
 | succ k ih=>
   rw[List.replicate_succ,Yu]
   show num (48::(List.replicate k 48++d))=num d
   rw[<-ih];simp[num]
def padD (d:List UInt8):List UInt8:=List.replicate (9*Qn d.length - d.length) 48++d
theorem Dw (d:List UInt8):(padD d).length=9*Qn d.length:=by
 unfold padD Qn;simp;omega
theorem QY (d:List UInt8)(hd:∀ c∈d,dig c):∀ c∈padD d,dig c:=by
 intro c hc;unfold padD at hc
 rcases Z6.1 hc with h|h
 ·rw[Yq h];exact⟨by decide,by decide⟩
 exact hd c h
theorem KV (d:List UInt8)(i:Nat)(hi:i<Qn d.length):chunk d i=num (((padD d).take (9*Qn d.length - 9*i)).drop (9*Qn d.length - 9*i - 9)):=by
 unfold chunk padD;have I:9*Qn d.length - d.length<=8/\d.length<=9*Qn d.length:=by unfold Qn;omega
 generalize G:9*Qn d.length - d.length=z at *;have h:9*Qn d.length - 9*i=z+(d.length - 9*i):=by omega
 have j:(List.replicate z (48:UInt8)++d).take (z+(d.length - 9*i))=List.replicate z 48++d.take (d.length - 9*i):=by rw[List.take_append,Ue,V7,Jn (by rw[Ue];omega)]
 rw[h,j]
 by_cases E:9<=d.length - 9*i
 ·have A:(List.replicate z (48:UInt8)++d.take (d.length - 9*i)).drop (z+(d.length - 9*i) - 9)=(d.take (d.length - 9*i)).drop (d.length - 9*i - 9):=by rw[List.drop_append,Ue,Zj (by rw[Ue];omega),Zw,show z+(d.length - 9*i) - 9 - z=d.length - 9*i - 9 by omega]
  rw[A]
 rw[show z+(d.length - 9*i) - 9=0 by omega,Y5,NU,show d.length - 9*i - 9=0 by omega,Y5]
theorem ZK (d:List UInt8)(hd:∀ c∈d,dig c):Ow (Gv (Et d))=padD d:=by
 have j:∀ k,k<=Qn d.length->Ow (Gv ((List.range k).map (chunk d)))=(padD d).drop (9*Qn d.length - 9*k):=by
  intro k
  induction k with
  | zero=>intro _;rw[Zj (by rw[Dw];omega)];rfl
  | succ k ih=>
    intro E;have e:Ow (Gv ((List.range (k+1)).map (chunk d)))=Ow (Ng (chunk d k) 9)++Ow (Gv ((List.range k).map (chunk d))):=by
     simp[Gv,Ow,List.range_succ]
    rw[e,ih (by omega),KV d k (by omega)];have hl:(((padD d).take (9*Qn d.length - 9*k)).drop (9*Qn d.length - 9*k - 9)).length=9:=by
     rw[Zb,J4,Dw];omega
    rw[IL _ (fun c hc=>QY d hd c (Yv (Zy hc))) hl];rw[show 9*Qn d.length - 9*(k+1)=9*Qn d.length - 9*k - 9 by omega];generalize padD d=p;have A:9*Qn d.length - 9*k - 9<=9*Qn d.length - 9*k:=by omega
    generalize 9*Qn d.length - 9*k - 9=a at *;generalize 9*Qn d.length - 9*k=b at *
    conv=>rhs;rw[<-Ze b p]
    rw[List.drop_append]
    by_cases hb:b<=p.length
    ·rw[J4,Zi hb,show a - b=0 by omega,Y5]
    have:(p.drop b)=[]:=Zj (by omega);rw[this];simp
 have h:=j (Qn d.length) Of;rw[show 9*Qn d.length - 9*Qn d.length=0 by omega,Y5] at h;exact h
theorem Di (k:Nat)(l:List UInt8):Ee (List.replicate k 48++l)=Ee l:=by
 unfold Ee
 induction k with
 | zero=>simp
 | succ k ih=>rw[List.replicate_succ,Yu,Z4];simp[ih]
theorem Cy (l:List Nat):textD (l++[0])=textD l:=by
 unfold textD Gv Ow;have e:(Ng 0 9).map UInt8.ofNat=List.replicate 9 48:=by decide
 simp only[Vh,Uh,List.reverse_nil,Zw,Yu,Uf,Zc,e];exact Di 9 _
theorem We (l:List Nat):textD (Oe l)=textD l:=by
 generalize hn:l.length=n
 induction n generalizing l with
 | zero=>rw[Jv hn];rfl
 | succ n ih=>
   obtain⟨f,x,rfl⟩:∃ f x,l=f++[x]:=⟨l.dropLast,l.getLast (by intro h;rw[h] at hn;simp at hn),(Zg _).symm⟩
   by_cases d:x=0
   ·subst d;rw[Gy,Cy];exact ih f (by simpa using hn)
   rw[Nb _ _ d]
theorem textD_chunks (d:List UInt8)(hd:∀ c∈d,dig c)(h0:d.head? ≠ some 48):textD (Oe (Et d))=d:=by
 rw[We];unfold textD;rw[ZK d hd];unfold padD;rw[Di];unfold Ee
 cases d with
 | nil=>rfl
 | cons c l=>
   rw[Z4];have:¬ c=48:=fun e=>h0 (by rw[e];rfl);simp[this]
theorem OO (x k:Nat):Ng x (k+1)=Ng x k++[dg x k]:=by simp[Ng,List.range_succ]
theorem XL (x m:Nat)(hx:x<1000000000)(hm:m<=9):num (Ow (Ng x m))=x / 10 ^ (9 - m):=by
 induction m with
 | zero=>simp[Ng,Ow,num];omega
 | succ m ih=>
   rw[OO,Ow,Zc]
   show num (Ow (Ng x m)++[UInt8.ofNat (dg x m)])=_
   rw[R7,ih (by omega)];have d:dg x m<58:=by unfold dg;omega
   rw[UInt8.toNat_ofNat_of_lt' (by show _<256;omega)];unfold dg tens;have e:9 - m=(8 - m)+1:=by omega
   rw[e,J5,<-Z3,show 9 - (m+1)=8 - m by omega];omega
theorem ZV (a b:List UInt8):num (a++b)=num a*10 ^ b.length+num b:=by
 have d:∀ (b:List UInt8) (k:Nat),b.foldl (fun a c=>a*10+(c.toNat - 48)) k=k*10 ^ b.length+num b:=by
  intro b
  induction b with
  | nil=>intro k;simp[num]
  | cons c b ih=>
    intro k;have h:num (c::b)=(c.toNat - 48)*10 ^ b.length+num b:=by
     unfold num;rw[Vo,ih];simp only[Vu,Y4];rfl
    rw[Vo,ih,h,Yo,J5,Zl,Uo,Yt,Yy 10]
 unfold num;rw[List.foldl_append,d];rfl
theorem XM (l:List Nat)(hl:okL l):num (Ow (Gv l))=val l:=by
 induction l with
 | nil=>rfl
 | cons x l ih=>
   have e:Ow (Gv (x::l))=Ow (Gv l)++Ow (Ng x 9):=by simp[Gv,Ow]
   rw[e,ZV,ih (fun y hy=>hl y (by simp[hy])),XL x 9 (hl x (by simp)) Of];have:(Ow (Ng x 9)).length=9:=by simp[Ow,Ng]
   rw[this];simp only[val];omega
theorem NV (l:List UInt8):num (Ee l)=num l:=by
 induction l with
 | nil=>rfl
 | cons c l ih=>
   unfold Ee at *;rw[Z4]
   by_cases h:c=48
   ·subst h;simp only[beq_self_eq_true,if_true];rw[ih];simp[num]
   simp[h]
theorem Pw (l:List Nat)(hl:okL l):num (textD l)=val l:=by
 unfold textD;rw[NV,XM l hl]
theorem GQ (l:List Nat):∀ c∈textD l,dig c:=by
 intro c hc;unfold textD Ee at hc;have d:=(List.dropWhile_sublist (fun x:UInt8=>x==48)).subset hc;unfold Ow at d;rw[Zm] at d;obtain⟨x,h,rfl⟩:=d;unfold Gv at h;rw[List.mem_flatMap] at h;obtain⟨y,_,A⟩:=h;unfold Ng at A;rw[Zm] at A;obtain⟨j,_,rfl⟩:=A;have E:48<=dg y j/\dg y j<=57:=by unfold dg;omega
 unfold dig;rw[UInt8.toNat_ofNat_of_lt' (by show _<256;omega)];exact E
theorem VR (l:List Nat):(textD l).head? ≠ some 48:=by
 unfold textD Ee;generalize Ow (Gv l)=b
 induction b with
 | nil=>simp
 | cons c b ih=>
   rw[Z4]
   by_cases h:c=48
   ·subst h;simpa using ih
   simp[h]
theorem Hy {a b:List UInt8}(h:strB a=strB b):a=b:=by
 have:=congrArg (fun x=>x.data.toList) h
 simpa[strB] using this
theorem Pg {x y:Int}{u:ByteArray}(hx:Ef x u)(hy:Ef y u)(hu:u≠strB []):x=y:=by
 obtain⟨n,l,G,t1,O,r1⟩:=hx;obtain⟨m,k,I,t2,U,r2⟩:=hy;have K:∀ (n:Bool) (l:List Nat),l≠[]->U0 n l=n:=fun n l h=>by
  unfold U0;have:0<l.length:=Zf.2 h;simp[this]
 have shape:∀ (n:Bool) (l:List Nat),okL l->isTrim l->l≠[]->u=Ly (U0 n l) l->(u=strB (45::textD l)/\n=true)∨(u=strB (textD l)/\n=false):=by
  intro n l ol tl hl j;rw[K n l hl] at j;unfold Ly at j;rw[if_neg (fun h=>hl (Jv h))] at j;unfold F9 at j
  split at j
  ·exact absurd j hu
  cases n
  ·exact .inr ⟨by simpa using j,rfl⟩
  exact .inl ⟨by simpa using j,rfl⟩
 have M:∀ l:List Nat,okL l->isTrim l->l≠[]->∃ c r,textD l=c::r/\c≠48/\dig c:=by
  intro l ol tl hl;have h1:=N2 l tl hl;have Y:=Pw l ol
  cases h3:textD l with
  | nil=>rw[h3] at Y;simp[num] at Y;omega
  | cons c r=>exact⟨c,r,rfl,fun e=>VR l (by rw[h3,e];rfl),GQ l c (by rw[h3];simp)⟩
 by_cases hl:l=[]
 ·by_cases E:k=[]
  ·subst hl E;rw[<-O,<-U]
   cases n<;>cases m<;>simp[sg,val]
  exfalso
  subst hl;have d:u=strB [48]:=r1;obtain⟨c,r,h3,h4,h5⟩:=M k I t2 E
  rcases shape m k I t2 E r2 with⟨h,_⟩|⟨h,_⟩
  ·have:=Hy (d.symm.trans h);simp at this
  have:=Hy (d.symm.trans h);rw[h3] at this;simp at this;exact h4 this.1.symm
 by_cases E:k=[]
 ·exfalso
  subst E;have d:u=strB [48]:=r2;obtain⟨c,r,h3,h4,h5⟩:=M l G t1 hl
  rcases shape n l G t1 hl r1 with⟨h,_⟩|⟨h,_⟩
  ·have:=Hy (d.symm.trans h);simp at this
  have:=Hy (d.symm.trans h);rw[h3] at this;simp at this;exact h4 this.1.symm
 obtain⟨c,r,h3,h4,h5⟩:=M l G t1 hl;obtain⟨c',r',V,b3,A⟩:=M k I t2 E;have Z:∀ {a b:List Nat},okL a->okL b->textD a=textD b->val a=val b:=fun oa ob h=>by rw[<-Pw _ oa,<-Pw _ ob,h]
 rcases shape n l G t1 hl r1 with⟨h,rfl⟩|⟨h,rfl⟩<;>rcases shape m k I t2 E r2 with⟨J,rfl⟩|⟨J,rfl⟩
 ·have:=Hy (h.symm.trans J);simp at this;rw[<-O,<-U,Z G I this]
 ·have:=Hy (h.symm.trans J);rw[V] at this;simp at this;unfold dig at A;rw[<-this.1] at A;exact absurd A.1 (by decide)
 ·have:=Hy (h.symm.trans J);rw[h3] at this;simp at this;unfold dig at h5;rw[this.1] at h5;exact absurd h5.1 (by decide)
 have:=Hy (h.symm.trans J);rw[<-O,<-U,Z G I this]
theorem XP (s:ByteArray)(h:isNeg s=true):s=strB (45::(dgs s).data.toList):=by
 have A:dgs s=s.extract 1 s.size:=by unfold dgs;rw[if_pos h]
 unfold isNeg at h;have d:(s.extract 0 1).toList=[45]:=by simpa using h
 rw[A];apply ByteArray.ext;rw[Jl] at d;have j:s.data.toList.take 1=[45]:=by simpa[ByteArray.data_extract,Array.toList_extract,List.extract] using d
 have h3:(s.extract 1 s.size).data.toList=s.data.toList.drop 1:=by
  rw[Y9,Zo]
  show (s.data.toList.drop 1).take (s.size - 1)=_
  exact Jn (by rw[Zb];exact Of)
 rw[h3]
 show s.data=(45::s.data.toList.drop 1).toArray
 have h4:s.data.toList=45::s.data.toList.drop 1:=by
  conv=>lhs;rw[<-Ze 1 s.data.toList,j]
  rfl
 rw[<-h4]
theorem QV (s:ByteArray)(h:isNeg s=false):s=strB (dgs s).data.toList:=by
 have d:dgs s=s:=by unfold dgs;rw[h];rfl
 rw[d];rfl
theorem Gx (s:ByteArray)(h:isIntB s=true):Ef (numT s) s:=by
 have U:=h;unfold isIntB at h;simp only[J3,Uq,Yg,Vs,Jm,Ju] at h;obtain⟨⟨⟨V,Y⟩,h3⟩,h4⟩:=h;have d:∀ c∈(dgs s).data.toList,dig c:=fun c hc=>by have:=h3 c hc;unfold isDig at this;simpa[dig] using this
 have E:okL (lim s):=trimL_ok _ (chunks_ok _ d);refine⟨isNeg s,lim s,E,trimL_trim _,rfl,?_⟩
 by_cases h5:(dgs s).data.toList.head? = some 48
 ·have I:s.toList=[48]:=by
   rcases h4 with h|h
   ·exact absurd h5 h
   simpa using h
  have O:s=strB [48]:=by
   rw[Jl] at I;apply ByteArray.ext
   show s.data=[48].toArray
   rw[<-I]
  rw[O];have hl:lim (strB [48])=[]:=by kernel_rfl
  rw[hl];rfl
 have M:=textD_chunks (dgs s).data.toList d h5;have J:(dgs s).data.toList.length=(dgs s).size:=by simp
 have j:lim s≠[]:=fun e=>by
  have:textD (lim s)=(dgs s).data.toList:=M;rw[e] at this;have Z:(dgs s).data.toList.length=0:=by rw[<-this];rfl
  omega
 have A:U0 (isNeg s) (lim s)=isNeg s:=by
  unfold U0;have:0<(lim s).length:=Zf.2 j;simp[this]
 rw[A];unfold Ly;rw[if_neg (fun e=>j (Jv e))];unfold F9;have G:textD (lim s)=(dgs s).data.toList:=M;rw[G,if_neg (by omega)]
 cases K:isNeg s
 ·exact QV s K
 exact XP s K
theorem Ph (s:ByteArray)(h:isIntB s=true):s≠strB []:=by
 rintro rfl;have:isIntB (strB [])=false:=by kernel_rfl
 rw[this] at h;cases h
theorem Tf (s t:ByteArray)(hs:isIntB s=true)(ht:isIntB t=true)(h:numT s=numT t):s=t:=(Gx s hs).eq (h ▸ Gx t ht)
def Rq (x y n d:Int):Prop:=∃ c:Int,c≠0/\x=n*c/\y=d*c/\0<d/\c.natAbs=Int.gcd x y
theorem R3 {x y n d n' d':Int}(h:Rq x y n d)(h':Rq x y n' d'):n=n'/\d=d':=by
 obtain⟨c,c0,K,J,p,g⟩:=h;obtain⟨j,E,G,A,U,M⟩:=h';have I:c=j:=by
  have ha:c.natAbs=j.natAbs:=by rw[g,M]
  rcases Int.natAbs_eq_natAbs_iff.1 ha with h|h
  ·exact h
  exfalso
  subst h;have:d * -j=d'*j:=J.symm.trans A;have O:(d+d')*j=0:=by grind
  rcases Int.mul_eq_zero.1 O with h3|h3
  ·omega
  exact E h3
 subst I;exact⟨Int.eq_of_mul_eq_mul_right c0 (K.symm.trans G),Int.eq_of_mul_eq_mul_right c0 (J.symm.trans A)⟩
theorem EX {x y:Int}(hy:0<y)(h:Int.gcd x y=1):Rq x y x y:=⟨1,by decide,by simp,by simp,hy,by rw[h];rfl⟩
theorem num_one:numT (strB [49])=1:=by kernel_rfl
theorem B9:numT (strB [48])=0:=by kernel_rfl
theorem int_one:isIntB (strB [49])=true:=by kernel_rfl
theorem XC (s:ByteArray)(h:0<numT s):isNeg s=false:=by
 unfold numT at h
 cases d:isNeg s
 ·rfl
 rw[d] at h;simp[sg] at h;omega
theorem XF (s:ByteArray)(h:isNeg s=false):0<=numT s:=by
 unfold numT;rw[h];simp[sg]
theorem QE (p q:ByteArray)(n d:Int)(hp:isIntB p=true)(hq:isIntB q=true)(h0:numT q≠0)(hl:Rq (numT p) (numT q) n d) :
 (d≠1/\Ef n p/\Ef d q)↔(p≠strB [48]/\q≠strB [49]/\isNeg q=false/\Int.gcd (numT p) (numT q)=1):=by
 constructor
 ·rintro⟨E,j,h3⟩;have G:=Pg j (Gx p hp) (Ph p hp);have I:=Pg h3 (Gx q hq) (Ph q hq);subst G I;obtain⟨c,c0,J,k2,k3,k4⟩:=hl;have hc:c=1:=by
   have:numT q*1=numT q*c:=by rw[Int.mul_one];exact k2
   exact (Int.eq_of_mul_eq_mul_left h0 this).symm
  subst hc;have A:Int.gcd (numT p) (numT q)=1:=by rw[<-k4];rfl
  refine⟨?_,?_,XC q k3,A⟩
  ·rintro rfl;rw[B9] at A;have:(numT q).natAbs=1:=by simpa using A
   omega
  rintro rfl;exact E num_one
 rintro⟨E,j,h3,h4⟩;have h:0<numT q:=by have:=XF q h3;omega
 obtain⟨rfl,rfl⟩:=R3 hl (EX h h4);exact⟨fun e=>j (Tf q (strB [49]) hq int_one (by rw[num_one];exact e)),Gx p hp,Gx q hq⟩
end Go.Proofs.YtipgjenolpofpaaGreatDoor.Q
