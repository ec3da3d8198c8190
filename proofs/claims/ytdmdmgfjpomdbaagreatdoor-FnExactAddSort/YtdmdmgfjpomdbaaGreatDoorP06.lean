import Derived.Test.YtdmdmgfjpomdbaaGreatDoorP05
set_option maxRecDepth 100000
set_option maxHeartbeats 4000000
namespace Go.Proofs.YtdmdmgfjpomdbaaGreatDoor.Q
open ChangeShapes WideShapes ChangeAt RowKit Proofs.Tryz
theorem PR (B:Nat)(x y:Int)(xn yn:Bool)(pa:Option Addr)(la ca:Nat)(pb:Option Addr)(lb cb:Nat)(na nb:Bool)(a b:List Nat)(w:World)(hBw:B<=w.heap.size)(hz:((la:Int)==0)=false∨((la:Int)==0)=true/\((lb:Int)==0)=false)
 (hza:Gy B w (.agg #[.int .i64 x,.bool xn,.slice pa la ca]) na a) (hzb:Gy B w (.agg #[.int .i64 y,.bool yn,.slice pb lb cb]) nb b) (s:Bool) (ha:YG x xn la=s) (hb:YG y yn lb=!s) (hla:a.length<=1000000) (hlb:b.length<=1000000) (hcm:Ny a b<0) :
 Calls prog 144 #[.agg #[.int .i64 x,.bool xn,.slice pa la ca],.agg #[.int .i64 y,.bool yn,.slice pb lb cb]] w fun e w'=>∃ z,e=.returned z/\G0 w.heap.size w' z (sg s (val a)+sg (!s) (val b))/\Up w w':=by
 have e8:=Hd ha;have c6:=Hd hb;have e7:Hid (a.length<=1000000/\b.length<=1000000):=⟨hla,hlb⟩;have b9:Hid (a.length<=b.length/\val a<=val b):=by
  have h:=Hn a b hza.1 hzb.1 hza.2.1 hzb.2.1;have h2:=hcm;rw[h] at h2;refine⟨?_,?_⟩
  ·unfold Ny at hcm
   by_cases h3:a.length<b.length
   ·simp[h3] at hcm<;>omega
   by_cases h4:b.length<a.length
   ·simp[h3,h4] at hcm<;>omega
   omega
  unfold Tv at h2
  split at h2<;>(try split at h2)<;>omega
 obtain⟨c,hc⟩:=Oa (Ny a b);have HC:=Hd hc;have g4 : -1<=c/\c<=1:=by rw[<-hc];exact Rq a b
 obtain⟨i8,j0⟩:=g4;rw[hc] at hcm;clear hc;have HX:=Iy w x xn pa la ca y yn pb lb cb 119;obtain⟨E,G⟩:=Oa (((w.alloc (.cells #[.int .i64 x,.bool xn,.slice pa la ca] 119)).alloc (.cells #[.int .i64 y,.bool yn,.slice pb lb cb] 119)).alloc (.cells #[.int .i64 0,.bool false,.slice none 0 0] 119));have f8:=Hd G;have K:Up w E:=by rw[<-G];exact Ob (Ob (Oz _ _) _) _
 have e3:=Hd K;have d7:E.heap.size=w.heap.size+3:=by rw[<-G];simp
 have d3:w.heap.size<E.heap.size:=by omega
 have d4:w.heap.size+1<E.heap.size:=by omega
 have d5:w.heap.size+2<E.heap.size:=by omega
 rw[G] at HX;have HS:=Hd d7;have b5:=Hd hBw;have A:Hid (∀ W,Up E W->Boxes w.heap.size W x xn pa la ca y yn pb lb cb):=fun W hW=>HX.bl (by omega) hW;have g1:Hid (∀ W,Up E W->Gy B W (.agg #[.int .i64 x,.bool xn,.slice pa la ca]) na a):=fun W hW=>(hza.bl K).bl hW;have g2:Hid (∀ W,Up E W->Gy B W (.agg #[.int .i64 y,.bool yn,.slice pb lb cb]) nb b):=fun W hW=>(hzb.bl K).bl hW;obtain⟨a0,a1,a2,b0,b1,b2,r0,r1,r2,f0,f1,f2⟩:=HX;clear G d7 ha hb hza hzb K hBw hla hlb;have b8:Hid (∃ W1,Up E W1/\((((la:Int)==0)=false/\E.alloc (.cells #[.int .i64 x,.bool xn,.slice pa la ca] 119)=W1)∨(((la:Int)==0)=true/\((lb:Int)==0)=false/\(E.alloc (.cells #[.int .i64 x,.bool xn,.slice pa la ca] 119)).alloc (.cells #[.int .i64 y,.bool yn,.slice pb lb cb] 119)=W1))):=by
  rcases hz with h|⟨h,h'⟩
  ·exact⟨_,Oz _ _,.inl ⟨h,rfl⟩⟩
  exact⟨_,Ob (Oz _ _) _,.inr ⟨h,h',rfl⟩⟩
 obtain⟨W1,U,g8⟩:=b8.o;have d:=Hd U;clear hz b8 U
 go_in
 go_wp2_with fail
 rw[f8.o];refine (Ki _ _ _ _ _ _).mono ?_;rintro e w' ⟨rfl,rfl⟩
 rcases g8 with⟨hz,Y⟩|⟨hz,j1,Y⟩
 all_goals
  have f9:=E8 Y;clear Y
  go_wp2_with (go_at_call 103;refine (Ki _ _ _ _ _ _).mono ?_;rintro e w' ⟨rfl,rfl⟩)
  rw[f9.o];clear a0 a1 a2 b0 b1 b2 r0 r1 r2 f0 f1 f2;obtain⟨a0,a1,a2,b0,b1,b2,r0,r1,r2,f0,f1,f2⟩:=A.o W1 d.o;refine (El B _ na a _ (g1.o _ d.o) (by have:=d.o.size;have:=HS.o;have:=b5.o;omega)).mono ?_;rintro e wa ⟨va,rfl,d8,d0⟩;have e9:=Hd d8;have J:=d.up d0;clear a0 a1 a2 b0 b1 b2 r0 r1 r2 f0 f1 f2 d8 d0;obtain⟨a0,a1,a2,b0,b1,b2,r0,r1,r2,f0,f1,f2⟩:=A.o wa J.o
  go_wp2_with fail
  refine (El B _ nb b _ (g2.o _ J.o) (by have:=J.o.size;have:=HS.o;have:=b5.o;omega)).mono ?_;rintro e M ⟨vb,rfl,d9,Z⟩;have c8:=Hd d9;have O:Hid (Kz B M va a):=e9.o.bl Z;have j:=J.up Z;have g5:w.heap.size<M.heap.size:=by have:=j.o.size;omega
  have g6:w.heap.size+1<M.heap.size:=by have:=j.o.size;omega
  have g7:w.heap.size+2<M.heap.size:=by have:=j.o.size;omega
  clear a0 a1 a2 b0 b1 b2 r0 r1 r2 f0 f1 f2 d9 Z d3 d4 d5;obtain⟨a0,a1,a2,b0,b1,b2,r0,r1,r2,f0,f1,f2⟩:=A.o M j.o
  go_wp2
  go_region_with (first|(go_at_call_of 124 (Value.int IntKind.i64 x);refine (E0 _ _ _ _ _ _).mono ?_;rintro e w' ⟨rfl,rfl⟩;rw[e8.o])|(go_at_call_of 124 (Value.int IntKind.i64 y);refine (E0 _ _ _ _ _ _).mono ?_;rintro e w' ⟨rfl,rfl⟩;rw[c6.o]))
  all_goals
   simp only[Y3,Yv,Yp,Act.put,Jp,Jz,J0]
   go_wp2_with fail
   refine (Gh B va vb a b _ (O.o.bl ?_) (c8.o.bl ?_)).mono ?_
   ·exact (Ob (Oz _ _) _).drew
   ·exact (Ob (Oz _ _) _).drew
   rintro e wk ⟨rfl,d2⟩;rw[HC.o];have I:Up M wk:=((Ob (Oz M (.cells #[.int .i64 x,.bool xn,.slice pa la ca] 119)) (.cells #[.int .i64 y,.bool yn,.slice pb lb cb] 119)).drew).trans (d2.mono (by show M.heap.size<=_;simp;omega));have b4:=Hd I;have e6:=j.up I;clear d2 I a0 a1 a2 b0 b1 b2 r0 r1 r2 f0 f1 f2 g5 g6 g7;obtain⟨a0,a1,a2,b0,b1,b2,r0,r1,r2,f0,f1,f2⟩:=A.o wk e6.o
   go_wp2_with fail
   refine (E0 _ _ _ _ _ _).mono ?_;rintro e wc ⟨rfl,e0⟩;rw[c6.o];have a7:Up M wc:=by rw[e0];exact b4.o.alloc b4.o.size _
   have b3:=Hd a7;have b6:=j.up a7;clear e0 a7 a0 a1 a2 b0 b1 b2 r0 r1 r2 f0 f1 f2
   go_wp2_with fail
   refine (Mz B vb va b a _ (c8.o.bl b3.o) (O.o.bl b3.o) e7.o.2 b9.o.1 b9.o.2).mono ?_;rintro e wd ⟨vd,L,rfl,hL,V,d1⟩;have HL:=Hd hL;have HV:=Hd V;have e5:=b6.up d1;clear hL V d1
   go_wp2_with fail
   refine (Gi _ (!s) vd L _ HL.o).mono ?_;rintro e we ⟨z,rfl,d6,a8⟩;have hN:G0 (w.heap.size+3) we z (sg s (val a)+sg (!s) (val b)):=⟨(!s),Og L,(((d6 _ _ HL.o).bl a8).mono (by have:=b6.o.size;have:=HS.o;omega)),by rw[O4,DA (!s) _ _ _ HV.o,Bool.not_not,Int.add_comm]⟩;have HN:=Hd hN;have b7:=e5.up a8;have e4:Hid (Up w we):=e3.o.trans (b7.o.mono (by have:=HS.o;omega));obtain⟨a0,a1,a2,b0,b1,b2,r0,r1,r2,f0,f1,f2⟩:=A.o we b7.o;obtain⟨z0,zn,za,zl,zc,g9⟩:=hN.shape;subst g9;clear d6 a8 hN
   go_wp2
   refine Jg ?_ rfl ⟨_,rfl,(((HN.o.setCell _ _ (by simp)).setCell _ _ (by simp)).setCell _ _ (by simp)).mono (by omega),((e4.o.setCell (by simp;omega) _).setCell (by simp;omega) _).setCell (by simp;omega) _⟩;simp[results,results144,go_sem,r0,r1,r2]
theorem Gy.form2 {B:Nat}{w:World}{z:Value}{na:Bool}{a:List Nat}(h:Gy B w z na a):∃ x xn p l c,z=.agg #[.int .i64 x,.bool xn,.slice p l c]/\YG x xn l=Ky na a/\(l=0->a.length<=2/\z=.agg #[.int .i64 (sg na (val a)),.bool false,.slice none 0 0]):=by
 obtain⟨d,h2,h3⟩:=h
 rcases h3 with⟨h3,v,rfl,p,c,rfl,_⟩|⟨h3,rfl⟩
 ·refine⟨_,_,_,_,_,rfl,?_,fun e=>by omega⟩;unfold YG Ky;have:0<a.length:=by omega
  simp[this]
 exact⟨_,_,_,_,_,rfl,(Fv na a h3 d h2).symm,fun _=>⟨h3,rfl⟩⟩
theorem As (B:Nat)(za zb:Value)(na nb:Bool)(a b:List Nat)(w:World)(hBw:B<=w.heap.size)(hza:Gy B w za na a)(hzb:Gy B w zb nb b)(hla:a.length<=1000000)(hlb:b.length<=1000000) :
 Calls prog 144 #[za,zb] w fun e w'=>∃ z,e=.returned z/\G0 w.heap.size w' z (sg na (val a)+sg nb (val b))/\Up w w':=by
 have E:=hza.1;have G:=hzb.1;obtain⟨x,O,K,la,j,rfl,fa,ga⟩:=hza.form2;obtain⟨y,U,M,lb,A,rfl,d,gb⟩:=hzb.form2
 by_cases Z:la=0/\lb=0
 ·have V:=ga Z.1;have Y:=gb Z.2;rw[V.2,Y.2];have l1:=ZK na a E V.1;have l2:=ZK nb b G Y.1;exact OT _ _ w l1.1 l1.2 l2.1 l2.2
 have J:((la:Int)==0)=false∨(((la:Int)==0)=true/\((lb:Int)==0)=false):=by
  by_cases h:la=0
  ·exact .inr ⟨by rw[Yf];omega,by rw[Jb];omega⟩
  exact .inl (by rw[Jb];omega)
 rw[<-I6 na a,<-I6 nb b]
 by_cases hs:Ky nb b=Ky na a
 ·rw[hs] at d ⊢;exact UQ B x y O U K la j M lb A na nb a b w hBw J hza hzb _ fa d hla hlb
 have I:Ky nb b=!Ky na a:=by revert hs;cases Ky nb b<;>cases Ky na a<;>simp
 rw[I] at d ⊢
 by_cases hc:0<=Ny a b
 ·exact PQ B x y O U K la j M lb A na nb a b w hBw J hza hzb _ fa d hla hlb hc
 exact PR B x y O U K la j M lb A na nb a b w hBw J hza hzb _ fa d hla hlb (by omega)
theorem At (B:Nat)(za zb:Value)(na nb:Bool)(a b:List Nat)(w:World)(hBw:B<=w.heap.size)(hza:Gy B w za na a)(hzb:Gy B w zb nb b)(hla:a.length<=1000000)(hlb:b.length<=1000000) :
 Calls prog 143 #[za,zb] w fun e w'=>∃ z,e=.returned z/\G0 w.heap.size w' z (sg na (val a) - sg nb (val b))/\Up w w':=by
 have U:=hza;have V:=hzb;obtain⟨x,xn,pa,la,Z,rfl⟩:=hza.shape;obtain⟨y,yn,pb,lb,cb,rfl⟩:=hzb.shape;have I:Hid (a.length<=1000000/\b.length<=1000000):=⟨hla,hlb⟩;have HX:=Iy w x xn pa la Z y yn pb lb cb 119;obtain⟨A,h⟩:=Oa (((w.alloc (.cells #[.int .i64 x,.bool xn,.slice pa la Z] 119)).alloc (.cells #[.int .i64 y,.bool yn,.slice pb lb cb] 119)).alloc (.cells #[.int .i64 0,.bool false,.slice none 0 0] 119));have c6:=E8 h;have j:Up w A:=by rw[<-h];exact Ob (Ob (Oz _ _) _) _
 have b6:=E8 j;have O:A.heap.size=w.heap.size+3:=by rw[<-h];simp
 rw[h] at HX;have HS:=E8 O;have b8:=E8 hBw;have E:Hid (∀ W,Up A W->Boxes w.heap.size W x xn pa la Z y yn pb lb cb):=fun W hW=>HX.bl (by omega) hW;have d3:Hid (∀ W,Up A W->Gy B W (.agg #[.int .i64 x,.bool xn,.slice pa la Z]) na a):=fun W hW=>(hza.bl j).bl hW;have d4:Hid (∀ W,Up A W->Gy B W (.agg #[.int .i64 y,.bool yn,.slice pb lb cb]) nb b):=fun W hW=>(hzb.bl j).bl hW;have J:Hid (sg na (val a) - sg nb (val b)=sg na (val a)+sg (!nb) (val b)):=by
  unfold Hid
  rw[KJ];omega
 rw[J.o];obtain⟨a0,a1,a2,b0,b1,b2,r0,r1,r2,f0,f1,f2⟩:=HX;clear h O hza hzb U V j hBw hla hlb J
 go_in
 go_wp2_with fail
 rw[c6.o]
 go_region_with (first
  | (go_at_call 172;refine (YZ B _ nb b _ (d4.o _ ?_)).mono ?_
     ·exact (Je _ _).drew
     rintro e wm ⟨zm,rfl,Y,M⟩;have d:Hid (Up A wm):=(Je _ A).drew.trans M;have d5:=Hd Y;obtain⟨c0,c1,c2,d0,d1,d2,s0,s1,s2,g0,g1,g2⟩:=E.o wm d.o;clear Y M)
  | (go_at_call 144;refine (As B _ _ na (!nb) a b _ ?_ (d3.o _ d.o) d5.o I.o.1 I.o.2).mono ?_
     ·have:=d.o.size;have:=HS.o;have:=b8.o;omega
     rintro e we ⟨z,rfl,hN,K⟩;have HN:Hid (G0 (w.heap.size+3) we z (sg na (val a)+sg (!nb) (val b))):=hN.mono (by have:=d.o.size;have:=HS.o;omega);have G:=d.up K;have b7:Hid (Up w we):=b6.o.trans (G.o.mono (by have:=HS.o;omega));obtain⟨c0,c1,c2,d0,d1,d2,s0,s1,s2,g0,g1,g2⟩:=E.o we G.o;obtain⟨z0,zn,za,zl,zc,d7⟩:=hN.shape;subst d7;clear K hN))
 all_goals
  try simp only[Y3,Yv,Yp,Act.put,Jp,Jz,J0]
  go_wp2
  refine Jg ?_ rfl ⟨_,rfl,(((HN.o.setCell _ _ (by simp)).setCell _ _ (by simp)).setCell _ _ (by simp)).mono (by omega),((b7.o.setCell (by simp;omega) _).setCell (by simp;omega) _).setCell (by simp;omega) _⟩;simp[results,results143,go_sem,s0,s1,s2]
def numT (s:ByteArray):Int:=sg (isNeg s) (val (lim s))
def No (x:Int)(u:ByteArray):Prop:=∃ neg t,okL t/\isTrim t/\sg neg (val t)=x/\u=Bh (Ky neg t) t
theorem No.eq {x:Int}{u v:ByteArray}(hu:No x u)(hv:No x v):u=v:=by
 obtain⟨n,t,j,h2,h3,rfl⟩:=hu;obtain⟨m,r,A,k2,k3,rfl⟩:=hv;have d:val t=val r:=by
  have h:=h3.trans k3.symm
  cases n<;>cases m<;>simp[sg] at h<;>omega
 obtain rfl:=val_inj t r j A h2 k2 d;have hn:Ky n t=Ky m t:=by
  by_cases h:t=[]
  ·subst h;simp[Ky]
  have E:=Ga t h2 h;have h:=h3.trans k3.symm
  cases n<;>cases m<;>simp[sg] at h<;>first|rfl|omega
 rw[hn]
end Go.Proofs.YtdmdmgfjpomdbaaGreatDoor.Q
namespace Go.Proofs.YtdmdmgfjpomdbaaGreatDoor.Q
open RowKit
variable {y:Int}
theorem XG (g:List UInt8)(hg:∀ c∈g,dig c)(j:Nat)(hj:j<g.length):num g / 10 ^ (g.length - 1 - j) % 10=g[j].toNat - 48:=by
 induction hn:g.length generalizing g j with
 | zero=>omega
 | succ n ih=>
   obtain⟨f,c,rfl⟩:∃ f c,g=f++[c]:=⟨g.dropLast,g.getLast (by intro h;rw[h] at hj;simp at hj),(Zl _).symm⟩;have hc:dig c:=hg c (by simp);unfold dig at hc;have A:f.length=n:=by simpa using hn
   rw[Dk]
   by_cases I:j<n
   ·have E:n+1 - 1 - j=(n - 1 - j)+1:=by omega
    have G:(num f*10+(c.toNat - 48)) / 10 ^ (n - 1 - j+1)=num f / 10 ^ (n - 1 - j):=by
     rw[J7,Y2 (10 ^ (n - 1 - j)) 10,<-Vc,show (num f*10+(c.toNat - 48)) / 10=num f by omega]
    rw[E,G];have:=ih f (fun x hx=>hg x (by simp[hx])) j (by omega) A;rw[this]
    congr 2
    rw[V9 (by omega)]
   have d:j=n:=by simp at hj;omega
   subst d;simp only[Vf,Nat.sub_self,Nat.pow_zero,Nat.div_one];have e2:(f++[c])[j]=c:=by rw[Vy (by omega)];simp[A]
   rw[e2];omega
theorem RW (g:List UInt8)(hg:∀ c∈g,dig c)(h9:g.length=9):O0 (Gu (num g) 9)=g:=by
 apply Ue
 ·simp[O0,Gu,h9]
 intro j h h2;have d:=XG g hg j h2;have hc:=hg g[j] (Jo _);unfold dig at hc;simp only[O0,Gu,Za,List.getElem_range];unfold dg tens;rw[show 8 - j=g.length - 1 - j by omega,d];apply UInt8.toNat_inj.1;rw[UInt8.toNat_ofNat_of_lt' (by show _<256;omega)];omega
theorem XI (k:Nat)(d:List UInt8):num (List.replicate k 48++d)=num d:=by
 induction k with
 | zero=>simp
 | succ k ih=>
   rw[List.replicate_succ,Yx]
   show num (48::(List.replicate k 48++d))=num d
   rw[<-ih];simp[num]
def padD (d:List UInt8):List UInt8:=List.replicate (9*Rr d.length - d.length) 48++d
theorem Fu (d:List UInt8):(padD d).length=9*Rr d.length:=by
 unfold padD Rr;simp;omega
theorem DH (d:List UInt8)(hd:∀ c∈d,dig c):∀ c∈padD d,dig c:=by
 intro c hc;unfold padD at hc
 rcases Zm.1 hc with h|h
 ·rw[Yt h];exact⟨by decide,by decide⟩
 exact hd c h
theorem GH (d:List UInt8)(i:Nat)(hi:i<Rr d.length):chunk d i=num (((padD d).take (9*Rr d.length - 9*i)).drop (9*Rr d.length - 9*i - 9)):=by
 unfold chunk padD;have G:9*Rr d.length - d.length<=8/\d.length<=9*Rr d.length:=by unfold Rr;omega
 generalize E:9*Rr d.length - d.length=z at *;have h:9*Rr d.length - 9*i=z+(d.length - 9*i):=by omega
 have e2:(List.replicate z (48:UInt8)++d).take (z+(d.length - 9*i))=List.replicate z 48++d.take (d.length - 9*i):=by rw[List.take_append,Ul,Vp,Jl (by rw[Ul];omega)]
 rw[h,e2]
 by_cases A:9<=d.length - 9*i
 ·have j:(List.replicate z (48:UInt8)++d.take (d.length - 9*i)).drop (z+(d.length - 9*i) - 9)=(d.take (d.length - 9*i)).drop (d.length - 9*i - 9):=by rw[List.drop_append,Ul,Zr (by rw[Ul];omega),Z4,show z+(d.length - 9*i) - 9 - z=d.length - 9*i - 9 by omega]
  rw[j]
 rw[show z+(d.length - 9*i) - 9=0 by omega,Y9,XI,show d.length - 9*i - 9=0 by omega,Y9]
theorem KU (d:List UInt8)(hd:∀ c∈d,dig c):O0 (G5 (Nn d))=padD d:=by
 have j:∀ k,k<=Rr d.length->O0 (G5 ((List.range k).map (chunk d)))=(padD d).drop (9*Rr d.length - 9*k):=by
  intro k
  induction k with
  | zero=>intro _;rw[Zr (by rw[Fu];omega)];rfl
  | succ k ih=>
    intro E;have e:O0 (G5 ((List.range (k+1)).map (chunk d)))=O0 (Gu (chunk d k) 9)++O0 (G5 ((List.range k).map (chunk d))):=by
     simp[G5,O0,List.range_succ]
    rw[e,ih (by omega),GH d k (by omega)];have hl:(((padD d).take (9*Rr d.length - 9*k)).drop (9*Rr d.length - 9*k - 9)).length=9:=by
     rw[Zf,J4,Fu];omega
    rw[RW _ (fun c hc=>DH d hd c (Yy (Z6 hc))) hl];rw[show 9*Rr d.length - 9*(k+1)=9*Rr d.length - 9*k - 9 by omega];generalize padD d=p;have A:9*Rr d.length - 9*k - 9<=9*Rr d.length - 9*k:=by omega
    generalize 9*Rr d.length - 9*k - 9=a at *;generalize 9*Rr d.length - 9*k=b at *
    conv=>rhs;rw[<-Zi b p]
    rw[List.drop_append]
    by_cases hb:b<=p.length
    ·rw[J4,Zo hb,show a - b=0 by omega,Y9]
    have:(p.drop b)=[]:=Zr (by omega);rw[this];simp
 have h:=j (Rr d.length) leR;rw[show 9*Rr d.length - 9*Rr d.length=0 by omega,Y9] at h;exact h
theorem Cw (k:Nat)(l:List UInt8):Ea (List.replicate k 48++l)=Ea l:=by
 unfold Ea
 induction k with
 | zero=>simp
 | succ k ih=>rw[List.replicate_succ,Yx,Vd];simp[ih]
theorem Fc (l:List Nat):textD (l++[0])=textD l:=by
 unfold textD G5 O0;have e:(Gu 0 9).map UInt8.ofNat=List.replicate 9 48:=by decide
 simp only[Vs,Un,List.reverse_nil,Z4,Yx,V5,Yr,e];exact Cw 9 _
theorem ZI (l:List Nat):textD (Og l)=textD l:=by
 generalize hn:l.length=n
 induction n generalizing l with
 | zero=>rw[Jw hn];rfl
 | succ n ih=>
   obtain⟨f,x,rfl⟩:∃ f x,l=f++[x]:=⟨l.dropLast,l.getLast (by intro h;rw[h] at hn;simp at hn),(Zl _).symm⟩
   by_cases d:x=0
   ·subst d;rw[G3,Fc];exact ih f (by simpa using hn)
   rw[Gp _ _ d]
theorem textD_chunks (d:List UInt8)(hd:∀ c∈d,dig c)(h0:d.head? ≠ some 48):textD (Og (Nn d))=d:=by
 rw[ZI];unfold textD;rw[KU d hd];unfold padD;rw[Cw];unfold Ea
 cases d with
 | nil=>rfl
 | cons c l=>
   rw[Vd];have:¬ c=48:=fun e=>h0 (by rw[e];rfl);simp[this]
theorem VK (x k:Nat):Gu x (k+1)=Gu x k++[dg x k]:=by simp[Gu,List.range_succ]
theorem DY (x m:Nat)(hx:x<1000000000)(hm:m<=9):num (O0 (Gu x m))=x / 10 ^ (9 - m):=by
 induction m with
 | zero=>simp[Gu,O0,num];omega
 | succ m ih=>
   rw[VK,O0,Yr]
   show num (O0 (Gu x m)++[UInt8.ofNat (dg x m)])=_
   rw[Dk,ih (by omega)];have d:dg x m<58:=by unfold dg;omega
   rw[UInt8.toNat_ofNat_of_lt' (by show _<256;omega)];unfold dg tens;have e:9 - m=(8 - m)+1:=by omega
   rw[e,J7,<-Vc,show 9 - (m+1)=8 - m by omega];omega
theorem KZ (a b:List UInt8):num (a++b)=num a*10 ^ b.length+num b:=by
 have d:∀ (b:List UInt8) (k:Nat),b.foldl (fun a c=>a*10+(c.toNat - 48)) k=k*10 ^ b.length+num b:=by
  intro b
  induction b with
  | nil=>intro k;simp[num]
  | cons c b ih=>
    intro k;have h2:num (c::b)=(c.toNat - 48)*10 ^ b.length+num b:=by
     unfold num;rw[Vz,ih];simp only[V6,Y8];rfl
    rw[Vz,ih,h2,Yq,J7,Zp,Ut,Yw,Y2 10]
 unfold num;rw[List.foldl_append,d];rfl
theorem DZ (l:List Nat)(hl:okL l):num (O0 (G5 l))=val l:=by
 induction l with
 | nil=>rfl
 | cons x l ih=>
   have e:O0 (G5 (x::l))=O0 (G5 l)++O0 (Gu x 9):=by simp[G5,O0]
   rw[e,KZ,ih (fun y hy=>hl y (by simp[hy])),DY x 9 (hl x (by simp)) leR];have:(O0 (Gu x 9)).length=9:=by simp[O0,Gu]
   rw[this];simp only[val];omega
theorem XH (l:List UInt8):num (Ea l)=num l:=by
 induction l with
 | nil=>rfl
 | cons c l ih=>
   unfold Ea at *;rw[Vd]
   by_cases h:c=48
   ·subst h;simp only[beq_self_eq_true,if_true];rw[ih];simp[num]
   simp[h]
theorem D8 (l:List Nat)(hl:okL l):num (textD l)=val l:=by
 unfold textD;rw[XH,DZ l hl]
theorem QD (l:List Nat):∀ c∈textD l,dig c:=by
 intro c hc;unfold textD Ea at hc;have d:=(List.dropWhile_sublist (fun x:UInt8=>x==48)).subset hc;unfold O0 at d;rw[Zh] at d;obtain⟨x,h,rfl⟩:=d;unfold G5 at h;rw[List.mem_flatMap] at h;obtain⟨y,_,A⟩:=h;unfold Gu at A;rw[Zh] at A;obtain⟨j,_,rfl⟩:=A;have E:48<=dg y j/\dg y j<=57:=by unfold dg;omega
 unfold dig;rw[UInt8.toNat_ofNat_of_lt' (by show _<256;omega)];exact E
theorem EC (l:List Nat):(textD l).head? ≠ some 48:=by
 unfold textD Ea;generalize O0 (G5 l)=b
 induction b with
 | nil=>simp
 | cons c b ih=>
   rw[Vd]
   by_cases h:c=48
   ·subst h;simpa using ih
   simp[h]
theorem Iu {a b:List UInt8}(h:strB a=strB b):a=b:=by
 have:=congrArg (fun x=>x.data.toList) h
 simpa[strB] using this
theorem Dr {x:Int}{u:ByteArray}(hx:No x u)(hy:No y u)(hu:u≠strB []):x=y:=by
 obtain⟨n,l,G,t1,O,r1⟩:=hx;obtain⟨m,k,I,t2,e2,r2⟩:=hy;have K:∀ (n:Bool) (l:List Nat),l≠[]->Ky n l=n:=fun n l h=>by
  unfold Ky;have:0<l.length:=Zj.2 h;simp[this]
 have shape:∀ (n:Bool) (l:List Nat),okL l->isTrim l->l≠[]->u=Bh (Ky n l) l->(u=strB (45::textD l)/\n=true)∨(u=strB (textD l)/\n=false):=by
  intro n l Y Z hl j;rw[K n l hl] at j;unfold Bh at j;rw[if_neg (fun h=>hl (Jw h))] at j;unfold Bg at j
  split at j
  ·exact absurd j hu
  cases n
  ·exact .inr ⟨by simpa using j,rfl⟩
  exact .inl ⟨by simpa using j,rfl⟩
 have M:∀ l:List Nat,okL l->isTrim l->l≠[]->∃ c r,textD l=c::r/\c≠48/\dig c:=by
  intro l Y Z hl;have h1:=Ga l Z hl;have h2:=D8 l Y
  cases h3:textD l with
  | nil=>rw[h3] at h2;simp[num] at h2;omega
  | cons c r=>exact⟨c,r,rfl,fun e=>EC l (by rw[h3,e];rfl),QD l c (by rw[h3];simp)⟩
 by_cases hl:l=[]
 ·by_cases E:k=[]
  ·subst hl E;rw[<-O,<-e2]
   cases n<;>cases m<;>simp[sg,val]
  exfalso
  subst hl;have d:u=strB [48]:=r1;obtain⟨c,r,h3,h4,h5⟩:=M k I t2 E
  rcases shape m k I t2 E r2 with⟨h,_⟩|⟨h,_⟩
  ·have:=Iu (d.symm.trans h);simp at this
  have:=Iu (d.symm.trans h);rw[h3] at this;simp at this;exact h4 this.1.symm
 by_cases E:k=[]
 ·exfalso
  subst E;have d:u=strB [48]:=r2;obtain⟨c,r,h3,h4,h5⟩:=M l G t1 hl
  rcases shape n l G t1 hl r1 with⟨h,_⟩|⟨h,_⟩
  ·have:=Iu (d.symm.trans h);simp at this
  have:=Iu (d.symm.trans h);rw[h3] at this;simp at this;exact h4 this.1.symm
 obtain⟨c,r,h3,h4,h5⟩:=M l G t1 hl;obtain⟨c',r',U,a7,A⟩:=M k I t2 E;have V:∀ {a b:List Nat},okL a->okL b->textD a=textD b->val a=val b:=fun oa ob h=>by rw[<-D8 _ oa,<-D8 _ ob,h]
 rcases shape n l G t1 hl r1 with⟨h,rfl⟩|⟨h,rfl⟩<;>rcases shape m k I t2 E r2 with⟨J,rfl⟩|⟨J,rfl⟩
 ·have:=Iu (h.symm.trans J);simp at this;rw[<-O,<-e2,V G I this]
 ·have:=Iu (h.symm.trans J);rw[U] at this;simp at this;unfold dig at A;rw[<-this.1] at A;exact absurd A.1 (by decide)
 ·have:=Iu (h.symm.trans J);rw[h3] at this;simp at this;unfold dig at h5;rw[this.1] at h5;exact absurd h5.1 (by decide)
 have:=Iu (h.symm.trans J);rw[<-O,<-e2,V G I this]
theorem PT (s:ByteArray)(h:isNeg s=true):s=strB (45::(dgs s).data.toList):=by
 have j:dgs s=s.extract 1 s.size:=by unfold dgs;rw[if_pos h]
 unfold isNeg at h;have d:(s.extract 0 1).toList=[45]:=by simpa using h
 rw[j];apply ByteArray.ext;rw[Jk] at d;have h2:s.data.toList.take 1=[45]:=by simpa[ByteArray.data_extract,Array.toList_extract,List.extract] using d
 have h3:(s.extract 1 s.size).data.toList=s.data.toList.drop 1:=by
  rw[Zc,Zu]
  show (s.data.toList.drop 1).take (s.size - 1)=_
  exact Jl (by rw[Zf];exact leR)
 rw[h3]
 show s.data=(45::s.data.toList.drop 1).toArray
 have h4:s.data.toList=45::s.data.toList.drop 1:=by
  conv=>lhs;rw[<-Zi 1 s.data.toList,h2]
  rfl
 rw[<-h4]
theorem DX (s:ByteArray)(h:isNeg s=false):s=strB (dgs s).data.toList:=by
 have d:dgs s=s:=by unfold dgs;rw[h];rfl
 rw[d];rfl
theorem Hz (s:ByteArray)(h:isIntB s=true):No (numT s) s:=by
 have U:=h;unfold isIntB at h;simp only[J3,Uu,Yi,V4,Jj,Jt] at h;obtain⟨⟨⟨V,h2⟩,h3⟩,h4⟩:=h;have d:∀ c∈(dgs s).data.toList,dig c:=fun c hc=>by have:=h3 c hc;unfold isDig at this;simpa[dig] using this
 have E:okL (lim s):=trimL_ok _ (chunks_ok _ d);refine⟨isNeg s,lim s,E,trimL_trim _,rfl,?_⟩
 by_cases h5:(dgs s).data.toList.head? = some 48
 ·have I:s.toList=[48]:=by
   rcases h4 with h|h
   ·exact absurd h5 h
   simpa using h
  have O:s=strB [48]:=by
   rw[Jk] at I;apply ByteArray.ext
   show s.data=[48].toArray
   rw[<-I]
  rw[O];have hl:lim (strB [48])=[]:=by kernel_rfl
  rw[hl];rfl
 have M:=textD_chunks (dgs s).data.toList d h5;have J:(dgs s).data.toList.length=(dgs s).size:=by simp
 have j:lim s≠[]:=fun e=>by
  have:textD (lim s)=(dgs s).data.toList:=M;rw[e] at this;have Y:(dgs s).data.toList.length=0:=by rw[<-this];rfl
  omega
 have A:Ky (isNeg s) (lim s)=isNeg s:=by
  unfold Ky;have:0<(lim s).length:=Zj.2 j;simp[this]
 rw[A];unfold Bh;rw[if_neg (fun e=>j (Jw e))];unfold Bg;have G:textD (lim s)=(dgs s).data.toList:=M;rw[G,if_neg (by omega)]
 cases K:isNeg s
 ·exact DX s K
 exact PT s K
theorem Dp (s:ByteArray)(h:isIntB s=true):s≠strB []:=by
 rintro rfl;have:isIntB (strB [])=false:=by kernel_rfl
 rw[this] at h;cases h
theorem YX (s t:ByteArray)(hs:isIntB s=true)(ht:isIntB t=true)(h:numT s=numT t):s=t:=(Hz s hs).eq (h ▸ Hz t ht)
def Pc (x y n d:Int):Prop:=∃ c:Int,c≠0/\x=n*c/\y=d*c/\0<d/\c.natAbs=Int.gcd x y
theorem P9 {x n d n' d':Int}(h:Pc x y n d)(h':Pc x y n' d'):n=n'/\d=d':=by
 obtain⟨c,c0,J,e2,p,g⟩:=h;obtain⟨j,E,G,A,M,K⟩:=h';have I:c=j:=by
  have ha:c.natAbs=j.natAbs:=by rw[g,K]
  rcases Int.natAbs_eq_natAbs_iff.1 ha with h|h
  ·exact h
  exfalso
  subst h;have:d * -j=d'*j:=e2.symm.trans A;have h2:(d+d')*j=0:=by grind
  rcases Int.mul_eq_zero.1 h2 with h3|h3
  ·omega
  exact E h3
 subst I;exact⟨Int.eq_of_mul_eq_mul_right c0 (J.symm.trans G),Int.eq_of_mul_eq_mul_right c0 (e2.symm.trans A)⟩
theorem IC {x:Int}(hy:0<y)(h:Int.gcd x y=1):Pc x y x y:=⟨1,by decide,by simp,by simp,hy,by rw[h];rfl⟩
theorem num_one:numT (strB [49])=1:=by kernel_rfl
theorem Ty:numT (strB [48])=0:=by kernel_rfl
theorem int_one:isIntB (strB [49])=true:=by kernel_rfl
theorem PJ (s:ByteArray)(h:0<numT s):isNeg s=false:=by
 unfold numT at h
 cases d:isNeg s
 ·rfl
 rw[d] at h;simp[sg] at h;omega
theorem DO (s:ByteArray)(h:isNeg s=false):0<=numT s:=by
 unfold numT;rw[h];simp[sg]
theorem DP (p q:ByteArray)(n d:Int)(hp:isIntB p=true)(hq:isIntB q=true)(h0:numT q≠0)(hl:Pc (numT p) (numT q) n d) :
 (d≠1/\No n p/\No d q)↔(p≠strB [48]/\q≠strB [49]/\isNeg q=false/\Int.gcd (numT p) (numT q)=1):=by
 constructor
 ·rintro⟨A,h2,h3⟩;have E:=Dr h2 (Hz p hp) (Dp p hp);have e2:=Dr h3 (Hz q hq) (Dp q hq);subst E e2;obtain⟨c,c0,G,k2,k3,k4⟩:=hl;have hc:c=1:=by
   have:numT q*1=numT q*c:=by rw[Int.mul_one];exact k2
   exact (Int.eq_of_mul_eq_mul_left h0 this).symm
  subst hc;have j:Int.gcd (numT p) (numT q)=1:=by rw[<-k4];rfl
  refine⟨?_,?_,PJ q k3,j⟩
  ·rintro rfl;rw[Ty] at j;have:(numT q).natAbs=1:=by simpa using j
   omega
  rintro rfl;exact A num_one
 rintro⟨A,h2,h3,h4⟩;have h:0<numT q:=by have:=DO q h3;omega
 obtain⟨rfl,rfl⟩:=P9 hl (IC h h4);exact⟨fun e=>h2 (YX q (strB [49]) hq int_one (by rw[num_one];exact e)),Hz p hp,Hz q hq⟩
end Go.Proofs.YtdmdmgfjpomdbaaGreatDoor.Q
