import Derived.Test.YtipgjenolpofpaaGreatDoorP05
set_option maxRecDepth 100000
set_option maxHeartbeats 4000000
namespace Go.Proofs.YtipgjenolpofpaaGreatDoor.Q
open Go.ChangeShapes Go.WideShapes Go.ChangeAt Go.RowKit Go.Proofs.Tryz
theorem QJ (B:Nat)(x y:Int)(xn yn:Bool)(pa:Option Addr)(la ca:Nat)(pb:Option Addr)(lb cb:Nat)(na nb:Bool)(a b:List Nat)(w:World)(hBw:B<=w.heap.size)(hz:((la:Int)==0)=false∨((la:Int)==0)=true/\((lb:Int)==0)=false)
 (hza:Nu B w (.agg #[.int .i64 x,.bool xn,.slice pa la ca]) na a) (hzb:Nu B w (.agg #[.int .i64 y,.bool yn,.slice pb lb cb]) nb b) (s:Bool) (ha:Tn x xn la=s) (hb:Tn y yn lb=!s) (hla:a.length<=1000000) (hlb:b.length<=1000000) (hcm:El a b<0) :
 Calls prog 143 #[.agg #[.int .i64 x,.bool xn,.slice pa la ca],.agg #[.int .i64 y,.bool yn,.slice pb lb cb]] w fun e w'=>∃ z,e=.returned z/\N5 w.heap.size w' z (sg s (val a)+sg (!s) (val b))/\Up w w':=by
 have e7:=Hd ha;have b5:=Hd hb;have e6:Hid (a.length<=1000000/\b.length<=1000000):=⟨hla,hlb⟩;have d0:Hid (a.length<=b.length/\val a<=val b):=by
  have h:=Ga a b hza.1 hzb.1 hza.2.1 hzb.2.1;have h2:=hcm;rw[h] at h2;refine⟨?_,?_⟩
  ·unfold El at hcm
   by_cases h3:a.length<b.length
   ·simp[h3] at hcm<;>omega
   by_cases h4:b.length<a.length
   ·simp[h3,h4] at hcm<;>omega
   omega
  unfold Bd at h2
  split at h2<;>(try split at h2)<;>omega
 obtain⟨c,hc⟩:=O1 (El a b);have HC:=Hd hc;have e8 : -1<=c/\c<=1:=by rw[<-hc];exact Qb a b
 obtain⟨h9,j2⟩:=e8;rw[hc] at hcm;clear hc;have HX:=Hz w x xn pa la ca y yn pb lb cb 123;obtain⟨E,A⟩:=O1 (((w.alloc (.cells #[.int .i64 x,.bool xn,.slice pa la ca] 123)).alloc (.cells #[.int .i64 y,.bool yn,.slice pb lb cb] 123)).alloc (.cells #[.int .i64 0,.bool false,.slice none 0 0] 123));have g1:=Hd A;have M:Up w E:=by rw[<-A];exact Om (Om (Oy _ _) _) _
 have g8:=Hd M;have d4:E.heap.size=w.heap.size+3:=by rw[<-A];simp
 have d8:w.heap.size<E.heap.size:=by omega
 have d1:w.heap.size+1<E.heap.size:=by omega
 have b6:w.heap.size+2<E.heap.size:=by omega
 rw[A] at HX;have HS:=Hd d4;have b7:=Hd hBw;have G:Hid (∀ W,Up E W->Boxes w.heap.size W x xn pa la ca y yn pb lb cb):=fun W hW=>HX.below (by omega) hW;have g5:Hid (∀ W,Up E W->Nu B W (.agg #[.int .i64 x,.bool xn,.slice pa la ca]) na a):=fun W hW=>(hza.below M).below hW;have g3:Hid (∀ W,Up E W->Nu B W (.agg #[.int .i64 y,.bool yn,.slice pb lb cb]) nb b):=fun W hW=>(hzb.below M).below hW;obtain⟨a0,a1,a2,b0,b1,b2,r0,r1,r2,f0,f1,f2⟩:=HX;clear A d4 ha hb hza hzb M hBw hla hlb;have b9:Hid (∃ W1,Up E W1/\((((la:Int)==0)=false/\E.alloc (.cells #[.int .i64 x,.bool xn,.slice pa la ca] 123)=W1)∨(((la:Int)==0)=true/\((lb:Int)==0)=false/\(E.alloc (.cells #[.int .i64 x,.bool xn,.slice pa la ca] 123)).alloc (.cells #[.int .i64 y,.bool yn,.slice pb lb cb] 123)=W1))):=by
  rcases hz with h|⟨h,h'⟩
  ·exact⟨_,Oy _ _,.inl ⟨h,rfl⟩⟩
  exact⟨_,Om (Oy _ _) _,.inr ⟨h,h',rfl⟩⟩
 obtain⟨W1,O,f8⟩:=b9.o;have d:=Hd O;clear hz b9 O
 go_enter func143,ntmps143
 go_wp2_with fail
 rw[g1.o];refine (U5 _ _ _ _ _ _).mono ?_;rintro e w' ⟨rfl,rfl⟩
 rcases f8 with⟨hz,Y⟩|⟨hz,i6,Y⟩
 all_goals
  have g4:=Ec Y;clear Y
  go_wp2_with (go_at_call 105;refine (U5 _ _ _ _ _ _).mono ?_;rintro e w' ⟨rfl,rfl⟩)
  rw[g4.o];clear a0 a1 a2 b0 b1 b2 r0 r1 r2 f0 f1 f2;obtain⟨a0,a1,a2,b0,b1,b2,r0,r1,r2,f0,f1,f2⟩:=G.o W1 d.o;refine (Ev B _ na a _ (g5.o _ d.o) (by have:=d.o.size;have:=HS.o;have:=b7.o;omega)).mono ?_;rintro e wa ⟨va,rfl,b3,d3⟩;have g2:=Hd b3;have J:=d.up d3;clear a0 a1 a2 b0 b1 b2 r0 r1 r2 f0 f1 f2 b3 d3;obtain⟨a0,a1,a2,b0,b1,b2,r0,r1,r2,f0,f1,f2⟩:=G.o wa J.o
  go_wp2_with fail
  refine (Ev B _ nb b _ (g3.o _ J.o) (by have:=J.o.size;have:=HS.o;have:=b7.o;omega)).mono ?_;rintro e K ⟨vb,rfl,d7,a7⟩;have d6:=Hd d7;have U:Hid (U1 B K va a):=g2.o.below a7;have j:=J.up a7;have g7:w.heap.size<K.heap.size:=by have:=j.o.size;omega
  have f5:w.heap.size+1<K.heap.size:=by have:=j.o.size;omega
  have g9:w.heap.size+2<K.heap.size:=by have:=j.o.size;omega
  clear a0 a1 a2 b0 b1 b2 r0 r1 r2 f0 f1 f2 d7 a7 d8 d1 b6;obtain⟨a0,a1,a2,b0,b1,b2,r0,r1,r2,f0,f1,f2⟩:=G.o K j.o
  go_wp2_with fail
  go_region_with (first|(go_at_call_of 124 (Value.int IntKind.i64 x);refine (Er _ _ _ _ _ _).mono ?_;rintro e w' ⟨rfl,rfl⟩;rw[e7.o])|(go_at_call_of 124 (Value.int IntKind.i64 y);refine (Er _ _ _ _ _ _).mono ?_;rintro e w' ⟨rfl,rfl⟩;rw[b5.o]))
  all_goals
   simp only[Yz,Ys,Ym,Act.put,Ja,Jd,Je]
   go_wp2_with fail
   refine (Nf B va vb a b _ (U.o.below ?_) (d6.o.below ?_)).mono ?_
   ·exact (Om (Oy _ _) _).drew
   ·exact (Om (Oy _ _) _).drew
   rintro e wk ⟨rfl,b8⟩;rw[HC.o];have I:Up K wk:=((Om (Oy K (.cells #[.int .i64 x,.bool xn,.slice pa la ca] 123)) (.cells #[.int .i64 y,.bool yn,.slice pb lb cb] 123)).drew).trans (b8.mono (by show K.heap.size<=_;simp;omega));have d2:=Hd I;have e5:=j.up I;clear b8 I a0 a1 a2 b0 b1 b2 r0 r1 r2 f0 f1 f2 g7 f5 g9;obtain⟨a0,a1,a2,b0,b1,b2,r0,r1,r2,f0,f1,f2⟩:=G.o wk e5.o
   go_wp2_with fail
   refine (Er _ _ _ _ _ _).mono ?_;rintro e wc ⟨rfl,d9⟩;rw[b5.o];have Z:Up K wc:=by rw[d9];exact d2.o.alloc d2.o.size _
   have b4:=Hd Z;have c6:=j.up Z;clear d9 Z a0 a1 a2 b0 b1 b2 r0 r1 r2 f0 f1 f2
   go_wp2_with fail
   refine (Cc B vb va b a _ (d6.o.below b4.o) (U.o.below b4.o) e6.o.2 d0.o.1 d0.o.2).mono ?_;rintro e wd ⟨vd,L,rfl,hL,V,c8⟩;have HL:=Hd hL;have HV:=Hd V;have g6:=c6.up c8;clear hL V c8
   go_wp2_with fail
   refine (Nc _ (!s) vd L _ HL.o).mono ?_;rintro e we ⟨z,rfl,e0,a8⟩;have hN:N5 (w.heap.size+3) we z (sg s (val a)+sg (!s) (val b)):=⟨(!s),Oe L,(((e0 _ _ HL.o).below a8).mono (by have:=c6.o.size;have:=HS.o;omega)),by rw[O3,QQ (!s) _ _ _ HV.o,Bool.not_not,Int.add_comm]⟩;have HN:=Hd hN;have d5:=g6.up a8;have f9:Hid (Up w we):=g8.o.trans (d5.o.mono (by have:=HS.o;omega));obtain⟨a0,a1,a2,b0,b1,b2,r0,r1,r2,f0,f1,f2⟩:=G.o we d5.o;obtain⟨z0,zn,za,zl,zc,g0⟩:=hN.shape;subst g0;clear e0 a8 hN
   go_wp2
   refine Jj ?_ rfl ⟨_,rfl,(((HN.o.setCell _ _ (by simp)).setCell _ _ (by simp)).setCell _ _ (by simp)).mono (by omega),((f9.o.setCell (by simp;omega) _).setCell (by simp;omega) _).setCell (by simp;omega) _⟩;simp[results,results143,go_sem,r0,r1,r2]
theorem Nu.form2 {B:Nat}{w:World}{z:Value}{na:Bool}{a:List Nat}(h:Nu B w z na a):∃ x xn p l c,z=.agg #[.int .i64 x,.bool xn,.slice p l c]/\Tn x xn l=U0 na a/\(l=0->a.length<=2/\z=.agg #[.int .i64 (sg na (val a)),.bool false,.slice none 0 0]):=by
 obtain⟨d,j,h3⟩:=h
 rcases h3 with⟨h3,v,rfl,p,c,rfl,_⟩|⟨h3,rfl⟩
 ·refine⟨_,_,_,_,_,rfl,?_,fun e=>by omega⟩;unfold Tn U0;have:0<a.length:=by omega
  simp[this]
 exact⟨_,_,_,_,_,rfl,(Ds na a h3 d j).symm,fun _=>⟨h3,rfl⟩⟩
theorem Mf (B:Nat)(za zb:Value)(na nb:Bool)(a b:List Nat)(w:World)(hBw:B<=w.heap.size)(hza:Nu B w za na a)(hzb:Nu B w zb nb b)(hla:a.length<=1000000)(hlb:b.length<=1000000) :
 Calls prog 143 #[za,zb] w fun e w'=>∃ z,e=.returned z/\N5 w.heap.size w' z (sg na (val a)+sg nb (val b))/\Up w w':=by
 have I:=hza.1;have M:=hzb.1;obtain⟨x,G,U,la,A,rfl,V,ga⟩:=hza.form2;obtain⟨y,j,J,lb,E,rfl,d,gb⟩:=hzb.form2
 by_cases h0:la=0/\lb=0
 ·have Z:=ga h0.1;have Y:=gb h0.2;rw[Z.2,Y.2];have l1:=Ss na a I Z.1;have l2:=Ss nb b M Y.1;exact Sk _ _ w l1.1 l1.2 l2.1 l2.2
 have O:((la:Int)==0)=false∨(((la:Int)==0)=true/\((lb:Int)==0)=false):=by
  by_cases h:la=0
  ·exact .inr ⟨by rw[Yc];omega,by rw[Jc];omega⟩
  exact .inl (by rw[Jc];omega)
 rw[<-Hj na a,<-Hj nb b]
 by_cases hs:U0 nb b=U0 na a
 ·rw[hs] at d ⊢;exact OE B x y G j U la A J lb E na nb a b w hBw O hza hzb _ V d hla hlb
 have K:U0 nb b=!U0 na a:=by revert hs;cases U0 nb b<;>cases U0 na a<;>simp
 rw[K] at d ⊢
 by_cases hc:0<=El a b
 ·exact RZ B x y G j U la A J lb E na nb a b w hBw O hza hzb _ V d hla hlb hc
 exact QJ B x y G j U la A J lb E na nb a b w hBw O hza hzb _ V d hla hlb (by omega)
theorem Mq (B:Nat)(za zb:Value)(na nb:Bool)(a b:List Nat)(w:World)(hBw:B<=w.heap.size)(hza:Nu B w za na a)(hzb:Nu B w zb nb b)(hla:a.length<=1000000)(hlb:b.length<=1000000) :
 Calls prog 142 #[za,zb] w fun e w'=>∃ z,e=.returned z/\N5 w.heap.size w' z (sg na (val a) - sg nb (val b))/\Up w w':=by
 have E:=hza;have G:=hzb;obtain⟨x,xn,pa,la,ca,rfl⟩:=hza.shape;obtain⟨y,Z,pb,lb,cb,rfl⟩:=hzb.shape;have I:Hid (a.length<=1000000/\b.length<=1000000):=⟨hla,hlb⟩;have HX:=Hz w x xn pa la ca y Z pb lb cb 123;obtain⟨A,d⟩:=O1 (((w.alloc (.cells #[.int .i64 x,.bool xn,.slice pa la ca] 123)).alloc (.cells #[.int .i64 y,.bool Z,.slice pb lb cb] 123)).alloc (.cells #[.int .i64 0,.bool false,.slice none 0 0] 123));have d6:=Ec d;have j:Up w A:=by rw[<-d];exact Om (Om (Oy _ _) _) _
 have d3:=Ec j;have K:A.heap.size=w.heap.size+3:=by rw[<-d];simp
 rw[d] at HX;have HS:=Ec K;have b8:=Ec hBw;have V:Hid (∀ W,Up A W->Boxes w.heap.size W x xn pa la ca y Z pb lb cb):=fun W hW=>HX.below (by omega) hW;have b9:Hid (∀ W,Up A W->Nu B W (.agg #[.int .i64 x,.bool xn,.slice pa la ca]) na a):=fun W hW=>(hza.below j).below hW;have d7:Hid (∀ W,Up A W->Nu B W (.agg #[.int .i64 y,.bool Z,.slice pb lb cb]) nb b):=fun W hW=>(hzb.below j).below hW;have J:Hid (sg na (val a) - sg nb (val b)=sg na (val a)+sg (!nb) (val b)):=by
  unfold Hid
  rw[OW];omega
 rw[J.o];obtain⟨a0,a1,a2,b0,b1,b2,r0,r1,r2,f0,f1,f2⟩:=HX;clear d K hza hzb E G j hBw hla hlb J
 go_enter func142,ntmps142
 go_wp2_with fail
 rw[d6.o]
 go_region_with (first
  | (go_at_call 167;refine (S5 B _ nb b _ (d7.o _ ?_)).mono ?_
     ·exact (Jh _ _).drew
     rintro e wm ⟨zm,rfl,U,Y⟩;have h:Hid (Up A wm):=(Jh _ A).drew.trans Y;have d5:=Hd U;obtain⟨c0,c1,c2,d0,d1,d2,s0,s1,s2,g0,g1,g2⟩:=V.o wm h.o;clear U Y)
  | (go_at_call 143;refine (Mf B _ _ na (!nb) a b _ ?_ (b9.o _ h.o) d5.o I.o.1 I.o.2).mono ?_
     ·have:=h.o.size;have:=HS.o;have:=b8.o;omega
     rintro e we ⟨z,rfl,hN,O⟩;have HN:Hid (N5 (w.heap.size+3) we z (sg na (val a)+sg (!nb) (val b))):=hN.mono (by have:=h.o.size;have:=HS.o;omega);have M:=h.up O;have c6:Hid (Up w we):=d3.o.trans (M.o.mono (by have:=HS.o;omega));obtain⟨c0,c1,c2,d0,d1,d2,s0,s1,s2,g0,g1,g2⟩:=V.o we M.o;obtain⟨z0,zn,za,zl,zc,c8⟩:=hN.shape;subst c8;clear O hN))
 all_goals
  try simp only[Yz,Ys,Ym,Act.put,Ja,Jd,Je]
  go_wp2
  refine Jj ?_ rfl ⟨_,rfl,(((HN.o.setCell _ _ (by simp)).setCell _ _ (by simp)).setCell _ _ (by simp)).mono (by omega),((c6.o.setCell (by simp;omega) _).setCell (by simp;omega) _).setCell (by simp;omega) _⟩;simp[results,results142,go_sem,s0,s1,s2]
def numT (s:ByteArray):Int:=sg (isNeg s) (val (lim s))
def Ef (x:Int)(u:ByteArray):Prop:=∃ neg t,okL t/\isTrim t/\sg neg (val t)=x/\u=F5 (U0 neg t) t
theorem Ef.eq {x:Int}{u v:ByteArray}(hu:Ef x u)(hv:Ef x v):u=v:=by
 obtain⟨n,t,E,j,h3,rfl⟩:=hu;obtain⟨m,r,A,k2,k3,rfl⟩:=hv;have d:val t=val r:=by
  have h:=h3.trans k3.symm
  cases n<;>cases m<;>simp[sg] at h<;>omega
 obtain rfl:=val_inj t r E A j k2 d;have hn:U0 n t=U0 m t:=by
  by_cases h:t=[]
  ·subst h;simp[U0]
  have G:=Nj t j h;have h:=h3.trans k3.symm
  cases n<;>cases m<;>simp[sg] at h<;>first|rfl|omega
 rw[hn]
end Go.Proofs.YtipgjenolpofpaaGreatDoor.Q
namespace Go.Proofs.YtipgjenolpofpaaGreatDoor.Q
open Go.RowKit
theorem KW (g:List UInt8)(hg:∀ c∈g,dig c)(j:Nat)(hj:j<g.length):num g / 10 ^ (g.length - 1 - j) % 10=g[j].toNat - 48:=by
 induction hn:g.length generalizing g j with
 | zero=>omega
 | succ n ih=>
   obtain⟨f,c,rfl⟩:∃ f c,g=f++[c]:=⟨g.dropLast,g.getLast (by intro h;rw[h] at hj;simp at hj),(Zg _).symm⟩;have hc:dig c:=hg c (by simp);unfold dig at hc;have A:f.length=n:=by simpa using hn
   rw[Ra]
   by_cases I:j<n
   ·have E:n+1 - 1 - j=(n - 1 - j)+1:=by omega
    have J:(num f*10+(c.toNat - 48)) / 10 ^ (n - 1 - j+1)=num f / 10 ^ (n - 1 - j):=by
     rw[J5,Yy (10 ^ (n - 1 - j)) 10,<-Z3,show (num f*10+(c.toNat - 48)) / 10=num f by omega]
    rw[E,J];have:=ih f (fun x hx=>hg x (by simp[hx])) j (by omega) A;rw[this]
    congr 2
    rw[Vz (by omega)]
   ·have d:j=n:=by simp at hj;omega
    subst d;simp only[Z7,Nat.sub_self,Nat.pow_zero,Nat.div_one];have G:(f++[c])[j]=c:=by rw[Vn (by omega)];simp[A]
    rw[G];omega
theorem RE (g:List UInt8)(hg:∀ c∈g,dig c)(h9:g.length=9):Ow (Ng (num g) 9)=g:=by
 apply Ul
 ·simp[Ow,Ng,h9]
 intro j A h;have d:=KW g hg j h;have hc:=hg g[j] (Jw _);unfold dig at hc;simp only[Ow,Ng,Vi,List.getElem_range];unfold dg tens;rw[show 8 - j=g.length - 1 - j by omega,d];apply UInt8.toNat_inj.1;rw[UInt8.toNat_ofNat_of_lt' (by show _<256;omega)];omega
theorem GO (k:Nat)(d:List UInt8):num (List.replicate k 48++d)=num d:=by
 induction k with
 | zero=>simp
 | succ k ih=>
   rw[List.replicate_succ,Yv]
   show num (48::(List.replicate k 48++d))=num d
   rw[<-ih];simp[num]
def padD (d:List UInt8):List UInt8:=List.replicate (9*Qh d.length - d.length) 48++d
theorem Dm (d:List UInt8):(padD d).length=9*Qh d.length:=by
 unfold padD Qh;simp;omega
theorem XV (d:List UInt8)(hd:∀ c∈d,dig c):∀ c∈padD d,dig c:=by
 intro c hc;unfold padD at hc
 rcases Z5.1 hc with h|h
 ·rw[Yr h];exact⟨by decide,by decide⟩
 exact hd c h
theorem UJ (d:List UInt8)(i:Nat)(hi:i<Qh d.length):chunk d i=num (((padD d).take (9*Qh d.length - 9*i)).drop (9*Qh d.length - 9*i - 9)):=by
 unfold chunk padD;have I:9*Qh d.length - d.length<=8/\d.length<=9*Qh d.length:=by unfold Qh;omega
 generalize E:9*Qh d.length - d.length=z at *;have h:9*Qh d.length - 9*i=z+(d.length - 9*i):=by omega
 have j:(List.replicate z (48:UInt8)++d).take (z+(d.length - 9*i))=List.replicate z 48++d.take (d.length - 9*i):=by rw[List.take_append,Ue,V6,Jn (by rw[Ue];omega)]
 rw[h,j]
 by_cases G:9<=d.length - 9*i
 ·have A:(List.replicate z (48:UInt8)++d.take (d.length - 9*i)).drop (z+(d.length - 9*i) - 9)=(d.take (d.length - 9*i)).drop (d.length - 9*i - 9):=by rw[List.drop_append,Ue,Zj (by rw[Ue];omega),Zw,show z+(d.length - 9*i) - 9 - z=d.length - 9*i - 9 by omega]
  rw[A]
 rw[show z+(d.length - 9*i) - 9=0 by omega,Y5,GO,show d.length - 9*i - 9=0 by omega,Y5]
theorem ZV (d:List UInt8)(hd:∀ c∈d,dig c):Ow (Gz (Et d))=padD d:=by
 have j:∀ k,k<=Qh d.length->Ow (Gz ((List.range k).map (chunk d)))=(padD d).drop (9*Qh d.length - 9*k):=by
  intro k
  induction k with
  | zero=>intro _;rw[Zj (by rw[Dm];omega)];rfl
  | succ k ih=>
    intro A;have e:Ow (Gz ((List.range (k+1)).map (chunk d)))=Ow (Ng (chunk d k) 9)++Ow (Gz ((List.range k).map (chunk d))):=by
     simp[Gz,Ow,List.range_succ]
    rw[e,ih (by omega),UJ d k (by omega)];have hl:(((padD d).take (9*Qh d.length - 9*k)).drop (9*Qh d.length - 9*k - 9)).length=9:=by
     rw[Zb,J3,Dm];omega
    rw[RE _ (fun c hc=>XV d hd c (Yw (Zy hc))) hl];rw[show 9*Qh d.length - 9*(k+1)=9*Qh d.length - 9*k - 9 by omega];generalize padD d=p;have E:9*Qh d.length - 9*k - 9<=9*Qh d.length - 9*k:=by omega
    generalize 9*Qh d.length - 9*k - 9=a at *;generalize 9*Qh d.length - 9*k=b at *
    conv=>rhs;rw[<-Ze b p]
    rw[List.drop_append]
    by_cases hb:b<=p.length
    ·rw[J3,Zi hb,show a - b=0 by omega,Y5]
    ·have:(p.drop b)=[]:=Zj (by omega);rw[this];simp
 have h:=j (Qh d.length) Of;rw[show 9*Qh d.length - 9*Qh d.length=0 by omega,Y5] at h;exact h
theorem Dg (k:Nat)(l:List UInt8):En (List.replicate k 48++l)=En l:=by
 unfold En
 induction k with
 | zero=>simp
 | succ k ih=>rw[List.replicate_succ,Yv,Z4];simp[ih]
theorem Co (l:List Nat):textD (l++[0])=textD l:=by
 unfold textD Gz Ow;have e:(Ng 0 9).map UInt8.ofNat=List.replicate 9 48:=by decide
 simp only[Vg,Uf,List.reverse_nil,Zw,Yv,Ug,Zd,e];exact Dg 9 _
theorem Si (l:List Nat):textD (Oe l)=textD l:=by
 generalize hn:l.length=n
 induction n generalizing l with
 | zero=>rw[Jv hn];rfl
 | succ n ih=>
   obtain⟨f,x,rfl⟩:∃ f x,l=f++[x]:=⟨l.dropLast,l.getLast (by intro h;rw[h] at hn;simp at hn),(Zg _).symm⟩
   by_cases d:x=0
   ·subst d;rw[N8,Co];exact ih f (by simpa using hn)
   ·rw[Nx _ _ d]
theorem textD_chunks (d:List UInt8)(hd:∀ c∈d,dig c)(h0:d.head? ≠ some 48):textD (Oe (Et d))=d:=by
 rw[Si];unfold textD;rw[ZV d hd];unfold padD;rw[Dg];unfold En
 cases d with
 | nil=>rfl
 | cons c l=>
   rw[Z4];have:¬ c=48:=fun e=>h0 (by rw[e];rfl);simp[this]
theorem OM (x k:Nat):Ng x (k+1)=Ng x k++[dg x k]:=by simp[Ng,List.range_succ]
theorem GW (x m:Nat)(hx:x<1000000000)(hm:m<=9):num (Ow (Ng x m))=x / 10 ^ (9 - m):=by
 induction m with
 | zero=>simp[Ng,Ow,num];omega
 | succ m ih=>
   rw[OM,Ow,Zd]
   show num (Ow (Ng x m)++[UInt8.ofNat (dg x m)])=_
   rw[Ra,ih (by omega)];have d:dg x m<58:=by unfold dg;omega
   rw[UInt8.toNat_ofNat_of_lt' (by show _<256;omega)];unfold dg tens;have e:9 - m=(8 - m)+1:=by omega
   rw[e,J5,<-Z3,show 9 - (m+1)=8 - m by omega];omega
theorem VQ (a b:List UInt8):num (a++b)=num a*10 ^ b.length+num b:=by
 have d:∀ (b:List UInt8) (k:Nat),b.foldl (fun a c=>a*10+(c.toNat - 48)) k=k*10 ^ b.length+num b:=by
  intro b
  induction b with
  | nil=>intro k;simp[num]
  | cons c b ih=>
    intro k;have h:num (c::b)=(c.toNat - 48)*10 ^ b.length+num b:=by
     unfold num;rw[Vo,ih];simp only[Vs,Y3];rfl
    rw[Vo,ih,h,Yo,J5,Zl,Uo,Yt,Yy 10]
 unfold num;rw[List.foldl_append,d];rfl
theorem IP (l:List Nat)(hl:okL l):num (Ow (Gz l))=val l:=by
 induction l with
 | nil=>rfl
 | cons x l ih=>
   have e:Ow (Gz (x::l))=Ow (Gz l)++Ow (Ng x 9):=by simp[Gz,Ow]
   rw[e,VQ,ih (fun y hy=>hl y (by simp[hy])),GW x 9 (hl x (by simp)) Of];have:(Ow (Ng x 9)).length=9:=by simp[Ow,Ng]
   rw[this];simp only[val];omega
theorem NE (l:List UInt8):num (En l)=num l:=by
 induction l with
 | nil=>rfl
 | cons c l ih=>
   unfold En at *;rw[Z4]
   by_cases h:c=48
   ·subst h;simp only[beq_self_eq_true,if_true];rw[ih];simp[num]
   ·simp[h]
theorem P8 (l:List Nat)(hl:okL l):num (textD l)=val l:=by
 unfold textD;rw[NE,IP l hl]
theorem EK (l:List Nat):∀ c∈textD l,dig c:=by
 intro c hc;unfold textD En at hc;have d:=(List.dropWhile_sublist (fun x:UInt8=>x==48)).subset hc;unfold Ow at d;rw[Zm] at d;obtain⟨x,A,rfl⟩:=d;unfold Gz at A;rw[List.mem_flatMap] at A;obtain⟨y,_,h⟩:=A;unfold Ng at h;rw[Zm] at h;obtain⟨j,_,rfl⟩:=h;have E:48<=dg y j/\dg y j<=57:=by unfold dg;omega
 unfold dig;rw[UInt8.toNat_ofNat_of_lt' (by show _<256;omega)];exact E
theorem ZU (l:List Nat):(textD l).head? ≠ some 48:=by
 unfold textD En;generalize Ow (Gz l)=b
 induction b with
 | nil=>simp
 | cons c b ih=>
   rw[Z4]
   by_cases h:c=48
   ·subst h;simpa using ih
   ·simp[h]
theorem G9 {a b:List UInt8}(h:strB a=strB b):a=b:=by
 have:=congrArg (fun x=>x.data.toList) h
 simpa[strB] using this
theorem Rw {x y:Int}{u:ByteArray}(hx:Ef x u)(hy:Ef y u)(hu:u≠strB []):x=y:=by
 obtain⟨n,l,I,t1,V,r1⟩:=hx;obtain⟨m,k,G,t2,O,r2⟩:=hy;have J:∀ (n:Bool) (l:List Nat),l≠[]->U0 n l=n:=fun n l h=>by
  unfold U0;have:0<l.length:=Zf.2 h;simp[this]
 have shape:∀ (n:Bool) (l:List Nat),okL l->isTrim l->l≠[]->u=F5 (U0 n l) l->(u=strB (45::textD l)/\n=true)∨(u=strB (textD l)/\n=false):=by
  intro n l ol tl hl j;rw[J n l hl] at j;unfold F5 at j;rw[if_neg (fun h=>hl (Jv h))] at j;unfold C4 at j
  split at j
  ·exact absurd j hu
  cases n
  ·exact .inr ⟨by simpa using j,rfl⟩
  exact .inl ⟨by simpa using j,rfl⟩
 have M:∀ l:List Nat,okL l->isTrim l->l≠[]->∃ c r,textD l=c::r/\c≠48/\dig c:=by
  intro l ol tl hl;have h1:=Nj l tl hl;have Z:=P8 l ol
  cases h3:textD l with
  | nil=>rw[h3] at Z;simp[num] at Z;omega
  | cons c r=>exact⟨c,r,rfl,fun e=>ZU l (by rw[h3,e];rfl),EK l c (by rw[h3];simp)⟩
 by_cases hl:l=[]
 ·by_cases A:k=[]
  ·subst hl A;rw[<-V,<-O]
   cases n<;>cases m<;>simp[sg,val]
  exfalso
  subst hl;have d:u=strB [48]:=r1;obtain⟨c,r,h3,h4,h5⟩:=M k G t2 A
  rcases shape m k G t2 A r2 with⟨h,_⟩|⟨h,_⟩
  ·have:=G9 (d.symm.trans h);simp at this
  have:=G9 (d.symm.trans h);rw[h3] at this;simp at this;exact h4 this.1.symm
 by_cases A:k=[]
 ·exfalso
  subst A;have d:u=strB [48]:=r2;obtain⟨c,r,h3,h4,h5⟩:=M l I t1 hl
  rcases shape n l I t1 hl r1 with⟨h,_⟩|⟨h,_⟩
  ·have:=G9 (d.symm.trans h);simp at this
  have:=G9 (d.symm.trans h);rw[h3] at this;simp at this;exact h4 this.1.symm
 obtain⟨c,r,h3,h4,h5⟩:=M l I t1 hl;obtain⟨c',r',U,b3,E⟩:=M k G t2 A;have Y:∀ {a b:List Nat},okL a->okL b->textD a=textD b->val a=val b:=fun oa ob h=>by rw[<-P8 _ oa,<-P8 _ ob,h]
 rcases shape n l I t1 hl r1 with⟨h,rfl⟩|⟨h,rfl⟩<;>rcases shape m k G t2 A r2 with⟨K,rfl⟩|⟨K,rfl⟩
 ·have:=G9 (h.symm.trans K);simp at this;rw[<-V,<-O,Y I G this]
 ·have:=G9 (h.symm.trans K);rw[U] at this;simp at this;unfold dig at E;rw[<-this.1] at E;exact absurd E.1 (by decide)
 ·have:=G9 (h.symm.trans K);rw[h3] at this;simp at this;unfold dig at h5;rw[this.1] at h5;exact absurd h5.1 (by decide)
 have:=G9 (h.symm.trans K);rw[<-V,<-O,Y I G this]
theorem RX (s:ByteArray)(h:isNeg s=true):s=strB (45::(dgs s).data.toList):=by
 have j:dgs s=s.extract 1 s.size:=by unfold dgs;rw[if_pos h]
 unfold isNeg at h;have d:(s.extract 0 1).toList=[45]:=by simpa using h
 rw[j];apply ByteArray.ext;rw[Jl] at d;have A:s.data.toList.take 1=[45]:=by simpa[ByteArray.data_extract,Array.toList_extract,List.extract] using d
 have h3:(s.extract 1 s.size).data.toList=s.data.toList.drop 1:=by
  rw[Y9,Zo]
  show (s.data.toList.drop 1).take (s.size - 1)=_
  exact Jn (by rw[Zb];exact Of)
 rw[h3]
 show s.data=(45::s.data.toList.drop 1).toArray
 have h4:s.data.toList=45::s.data.toList.drop 1:=by
  conv=>lhs;rw[<-Ze 1 s.data.toList,A]
  rfl
 rw[<-h4]
theorem QS (s:ByteArray)(h:isNeg s=false):s=strB (dgs s).data.toList:=by
 have d:dgs s=s:=by unfold dgs;rw[h];rfl
 rw[d];rfl
theorem Gq (s:ByteArray)(h:isIntB s=true):Ef (numT s) s:=by
 have Y:=h;unfold isIntB at h;simp only[J4,Ur,Yg,Vt,Jm,Ju] at h;obtain⟨⟨⟨Z,U⟩,h3⟩,h4⟩:=h;have d:∀ c∈(dgs s).data.toList,dig c:=fun c hc=>by have:=h3 c hc;unfold isDig at this;simpa[dig] using this
 have G:okL (lim s):=trimL_ok _ (chunks_ok _ d);refine⟨isNeg s,lim s,G,trimL_trim _,rfl,?_⟩
 by_cases h5:(dgs s).data.toList.head? = some 48
 ·have J:s.toList=[48]:=by
   rcases h4 with h|h
   ·exact absurd h5 h
   simpa using h
  have O:s=strB [48]:=by
   rw[Jl] at J;apply ByteArray.ext
   show s.data=[48].toArray
   rw[<-J]
  rw[O];have hl:lim (strB [48])=[]:=by kernel_rfl
  rw[hl];rfl
 have I:=textD_chunks (dgs s).data.toList d h5;have M:(dgs s).data.toList.length=(dgs s).size:=by simp
 have j:lim s≠[]:=fun e=>by
  have:textD (lim s)=(dgs s).data.toList:=I;rw[e] at this;have V:(dgs s).data.toList.length=0:=by rw[<-this];rfl
  omega
 have E:U0 (isNeg s) (lim s)=isNeg s:=by
  unfold U0;have:0<(lim s).length:=Zf.2 j;simp[this]
 rw[E];unfold F5;rw[if_neg (fun e=>j (Jv e))];unfold C4;have A:textD (lim s)=(dgs s).data.toList:=I;rw[A,if_neg (by omega)]
 cases K:isNeg s
 ·exact QS s K
 exact RX s K
theorem Rq (s:ByteArray)(h:isIntB s=true):s≠strB []:=by
 rintro rfl;have:isIntB (strB [])=false:=by kernel_rfl
 rw[this] at h;cases h
theorem Wu (s t:ByteArray)(hs:isIntB s=true)(ht:isIntB t=true)(h:numT s=numT t):s=t:=(Gq s hs).eq (h ▸ Gq t ht)
def Pu (x y n d:Int):Prop:=∃ c:Int,c≠0/\x=n*c/\y=d*c/\0<d/\c.natAbs=Int.gcd x y
theorem Rt {x y n d n' d':Int}(h:Pu x y n d)(h':Pu x y n' d'):n=n'/\d=d':=by
 obtain⟨c,c0,K,J,p,g⟩:=h;obtain⟨j,E,G,A,U,M⟩:=h';have I:c=j:=by
  have ha:c.natAbs=j.natAbs:=by rw[g,M]
  rcases Int.natAbs_eq_natAbs_iff.1 ha with h|h
  ·exact h
  exfalso
  subst h;have:d * -j=d'*j:=J.symm.trans A;have O:(d+d')*j=0:=by grind
  rcases Int.mul_eq_zero.1 O with h3|h3
  ·omega
  exact E h3
 subst I;exact⟨Int.eq_of_mul_eq_mul_right c0 (K.symm.trans G),Int.eq_of_mul_eq_mul_right c0 (J.symm.trans A)⟩
theorem EL {x y:Int}(hy:0<y)(h:Int.gcd x y=1):Pu x y x y:=⟨1,by decide,by simp,by simp,hy,by rw[h];rfl⟩
theorem num_one:numT (strB [49])=1:=by kernel_rfl
theorem Ae:numT (strB [48])=0:=by kernel_rfl
theorem int_one:isIntB (strB [49])=true:=by kernel_rfl
theorem IF (s:ByteArray)(h:0<numT s):isNeg s=false:=by
 unfold numT at h
 cases d:isNeg s
 ·rfl
 rw[d] at h;simp[sg] at h;omega
theorem XM (s:ByteArray)(h:isNeg s=false):0<=numT s:=by
 unfold numT;rw[h];simp[sg]
theorem XU (p q:ByteArray)(n d:Int)(hp:isIntB p=true)(hq:isIntB q=true)(h0:numT q≠0)(hl:Pu (numT p) (numT q) n d) :
 (d≠1/\Ef n p/\Ef d q)↔(p≠strB [48]/\q≠strB [49]/\isNeg q=false/\Int.gcd (numT p) (numT q)=1):=by
 constructor
 ·rintro⟨E,A,h3⟩;have G:=Rw A (Gq p hp) (Rq p hp);have I:=Rw h3 (Gq q hq) (Rq q hq);subst G I;obtain⟨c,c0,J,k2,k3,k4⟩:=hl;have hc:c=1:=by
   have:numT q*1=numT q*c:=by rw[Int.mul_one];exact k2
   exact (Int.eq_of_mul_eq_mul_left h0 this).symm
  subst hc;have j:Int.gcd (numT p) (numT q)=1:=by rw[<-k4];rfl
  refine⟨?_,?_,IF q k3,j⟩
  ·rintro rfl;rw[Ae] at j;have:(numT q).natAbs=1:=by simpa using j
   omega
  rintro rfl;exact E num_one
 rintro⟨E,A,h3,h4⟩;have h:0<numT q:=by have:=XM q h3;omega
 obtain⟨rfl,rfl⟩:=Rt hl (EL h h4);exact⟨fun e=>A (Wu q (strB [49]) hq int_one (by rw[num_one];exact e)),Gq p hp,Gq q hq⟩
end Go.Proofs.YtipgjenolpofpaaGreatDoor.Q
