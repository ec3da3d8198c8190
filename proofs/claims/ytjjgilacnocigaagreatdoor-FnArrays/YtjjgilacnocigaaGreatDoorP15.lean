import Derived.Test.YtjjgilacnocigaaGreatDoorP14
import Derived.Laws.Strings3
import Derived.Deep.RegionHeld3
import Derived.Laws.Bits64b
set_option maxRecDepth 100000
set_option maxHeartbeats 8000000
namespace Go.Proofs.YtjjgilacnocigaaGreatDoor.Q
open ChangeShapes WideShapes ChangeAt RowKit Proofs.Tryz
theorem Fe (B:Nat)(w:World)(z:Value)(p:ByteArray)(hp:Ow p=true)(h:Ej B w z (Ki p) (Rf p)):E0 B w z (K9 p) 1000:=
 ⟨_,_,h,rfl,by have:=Qv p hp;omega⟩
theorem Bp (s:ByteArray)(k:Option Nat)(x y:Int)(w:World)(hs:s.size<=maxLen)(hk:Nq s k)(hV:Qx s k x y) :
 Calls prog 66 #[.string s] w fun e w'=>∃ z,e=.returned z/\C0 w.heap.size w' z x y/\Up w w':=by
 have HK:=Hd hk;have HV:=Hd hV;clear hk hV;obtain⟨W0,b5⟩:=O2 (w.alloc (.cells #[.int .i64 0,.bool false,.slice none 0 0,.int .i64 0,.bool false,.slice none 0 0] 120));have d3:=Hd b5;have U:Hid (Up w W0):=by unfold Hid;rw[<-b5];exact Oo _ _
 have d1:Bx W0 w.heap.size [.int .i64 0,.bool false,.slice none 0 0,.int .i64 0,.bool false,.slice none 0 0]:=by rw[<-b5];exact Ox w _ _
 have HX:Hid (∀ W,Up W0 W->Bx W w.heap.size [.int .i64 0,.bool false,.slice none 0 0,.int .i64 0,.bool false,.slice none 0 0]):=fun W hW=>d1.bl d1.lt hW;clear b5 d1
 cases k with
 | none=>
   go_in
   go_wp2_with fail
   rw[d3.o];refine (Pz s none _ hs HK.o).mono ?_;rintro e w1 ⟨rfl,d0⟩;subst d0;have e1:Rq none = -1:=rfl;rw[e1]
   go_wp2_with fail
   refine (I9 s _ HV.o.1).mono ?_;rintro e w2 ⟨z1,rfl,b4,b3⟩;have Z:=Fe _ _ _ s HV.o.1 b4;obtain⟨a0,an,aa,al,ac,rfl⟩:=Z.shape';have b6:=Hd Z;have V:=Hd b3;clear b4 Z b3
   go_wp2_with fail
   refine (XT _ a0 an aa al ac (K9 s) _ V.o.size b6.o).mono ?_;rintro e T ⟨z,rfl,hq,a8⟩;obtain⟨D,H,E,G,F,q0,O,I,K,J,rfl,hP,hQ⟩:=hq;have Y:=Hd (V.o.trans (a8.mono V.o.size));have a7:Hid (E0 w.heap.size T (.agg #[.int .i64 D,.bool H,.slice E G F]) x 1000/\E0 w.heap.size T (.agg #[.int .i64 q0,.bool O,.slice I K J]) y 1000):=by
    rw[HV.o.2.1,HV.o.2.2];exact⟨hP.mono' U.o.size O1,hQ.mono' U.o.size O1⟩
   have d:=HX.o T Y.o;obtain⟨r0,r1,r2,r3,r4,r5⟩:=d.k6;obtain⟨f0,f1,f2,f3,f4,f5⟩:=d.f6;clear hP hQ a8 d
   go_wp2
   have d:=HX.o T Y.o;have j:Kh T w.heap.size:=Ep d (by simp);have hk:=Qt T w.heap.size (.int .i64 D) (.bool H) (.slice E G F) (.int .i64 q0) (.bool O) (.slice I K J);have b8:=a7.o.1.keeps j j hk;have b9:=a7.o.2.keeps j j hk;have b7:=Wh (U.o.trans (Y.o.mono U.o.size)) w.heap.size O1 (.int .i64 D) (.bool H) (.slice E G F) (.int .i64 q0) (.bool O) (.slice I K J);have hZ:=d.put6 (.int .i64 D) (.bool H) (.slice E G F) (.int .i64 q0) (.bool O) (.slice I K J);have c6:(((((T.setCell ⟨w.heap.size,0,none⟩ (.int .i64 D)).setCell ⟨w.heap.size,1,none⟩ (.bool H)).setCell ⟨w.heap.size,2,none⟩ (.slice E G F)).setCell ⟨w.heap.size,3,none⟩ (.int .i64 q0)).setCell ⟨w.heap.size,4,none⟩ (.bool O)).setCell ⟨w.heap.size,5,none⟩ (.slice I K J)=W6 T w.heap.size (.int .i64 D) (.bool H) (.slice E G F) (.int .i64 q0) (.bool O) (.slice I K J):=rfl;rw[c6];generalize W6 T w.heap.size (.int .i64 D) (.bool H) (.slice E G F) (.int .i64 q0) (.bool O) (.slice I K J)=W9 at *;obtain⟨m0,m1,m2,m3,m4,m5⟩:=hZ.k6;refine Jh (v:=.agg #[.int .i64 D,.bool H,.slice E G F,.int .i64 q0,.bool O,.slice I K J]) ?_ rfl ⟨_,rfl,⟨D,H,E,G,F,q0,O,I,K,J,rfl,b8,b9⟩,b7⟩;simp[results,results66,go_sem,m0,m1,m2,m3,m4,m5]
 | some i=>
   have hi:=Bo HK.o;have c1:(0:Int)<=(i:Int):=by omega
   have c2:(i:Int)<=(s.size:Int):=by omega
   have c3:(0:Int)<=(i:Int)+1:=by omega
   have c4:(i:Int)+1<=(s.size:Int):=by omega
   have e3:s.extract 0 i=Il s (some i):=rfl;have d4:s.extract (i+1) s.size=Hp s (some i):=rfl;obtain⟨p,hp⟩:=O2 (Il s (some i));obtain⟨q,hq⟩:=O2 (Hp s (some i));have a7:Hid (Il s (some i)=p/\Hp s (some i)=q):=⟨hp,hq⟩;rw[hp] at e3;rw[hq] at d4;have a6:Hid ((Ow p=true/\Ow q=true)/\x=K9 p/\y=K9 q):=by
    obtain⟨h1,_,h2,h3⟩:=HV.o;rw[hp,hq] at h1;rw[hp] at h2;rw[hq] at h3;exact⟨h1,h2,h3⟩
   unfold maxLen at hs;clear hp hq;have g5:IntKind.i64.wrap ((i:Int)+1)=(i:Int)+1:=Ez _ (by omega) (by omega);have g4:∀ W,(Instr.slice 9 (.string s) (some (.int .i64 ((i:Int)+1))) none none).run prog W=.ok (.string q) W:=fun W=>by
    rw[run_slice_string_from_if W 9 s .i64 _ underlying9,if_pos ⟨c3,c4⟩,show ((i:Int)+1).toNat=i+1 by omega,d4]
   go_in
   go_wp2_with fail
   rw[d3.o];refine (Pz s (some i) _ (by unfold maxLen;exact hs) HK.o).mono ?_;rintro e w1 ⟨rfl,d0⟩;subst d0;have e1:Rq (some i)=(i:Int):=rfl;rw[e1]
   go_wp2
   go_region_with (first
    | (go_at_call_of 105 (Value.string p)
       refine (I9 p _ a6.o.1.1).mono ?_;rintro e w2 ⟨z1,rfl,b4,b3⟩;have Z:=Fe _ _ _ p a6.o.1.1 b4;obtain⟨D,H,E,G,F,rfl⟩:=Z.shape';have b6:=Hd Z;have V:Hid (Up w1 w2):=(Jj _ w1).drew.trans b3;clear b4 Z b3)
    | (go_at_call_of 105 (Value.string q)
       refine (I9 q _ a6.o.1.2).mono ?_;rintro e T ⟨z2,rfl,d6,a8⟩;have c7:=Fe _ _ _ q a6.o.1.2 d6;obtain⟨q0,O,I,K,J,rfl⟩:=c7.shape';have a7:Hid (E0 w.heap.size T (.agg #[.int .i64 D,.bool H,.slice E G F]) x 1000/\E0 w.heap.size T (.agg #[.int .i64 q0,.bool O,.slice I K J]) y 1000):=by
        rw[a6.o.2.1,a6.o.2.2];exact⟨(b6.o.bl a8).mono' U.o.size O1,c7.mono' (Yt U.o.size V.o.size) O1⟩
       have Y:=Hd (V.o.trans (a8.mono V.o.size));have d:=HX.o T Y.o;obtain⟨r0,r1,r2,r3,r4,r5⟩:=d.k6;obtain⟨f0,f1,f2,f3,f4,f5⟩:=d.f6;clear d6 c7 a8 d))
   all_goals
    try simp only[Yg,Yb,J0,Act.put,Ja,Jb,Jc]
    go_wp2
    have d:=HX.o T Y.o;have j:Kh T w.heap.size:=Ep d (by simp);have hk:=Qt T w.heap.size (.int .i64 D) (.bool H) (.slice E G F) (.int .i64 q0) (.bool O) (.slice I K J);have b8:=a7.o.1.keeps j j hk;have b9:=a7.o.2.keeps j j hk;have b7:=Wh (U.o.trans (Y.o.mono U.o.size)) w.heap.size O1 (.int .i64 D) (.bool H) (.slice E G F) (.int .i64 q0) (.bool O) (.slice I K J);have hZ:=d.put6 (.int .i64 D) (.bool H) (.slice E G F) (.int .i64 q0) (.bool O) (.slice I K J);have c6:(((((T.setCell ⟨w.heap.size,0,none⟩ (.int .i64 D)).setCell ⟨w.heap.size,1,none⟩ (.bool H)).setCell ⟨w.heap.size,2,none⟩ (.slice E G F)).setCell ⟨w.heap.size,3,none⟩ (.int .i64 q0)).setCell ⟨w.heap.size,4,none⟩ (.bool O)).setCell ⟨w.heap.size,5,none⟩ (.slice I K J)=W6 T w.heap.size (.int .i64 D) (.bool H) (.slice E G F) (.int .i64 q0) (.bool O) (.slice I K J):=rfl;rw[c6];generalize W6 T w.heap.size (.int .i64 D) (.bool H) (.slice E G F) (.int .i64 q0) (.bool O) (.slice I K J)=W9 at *;obtain⟨m0,m1,m2,m3,m4,m5⟩:=hZ.k6;refine Jh (v:=.agg #[.int .i64 D,.bool H,.slice E G F,.int .i64 q0,.bool O,.slice I K J]) ?_ rfl ⟨_,rfl,⟨D,H,E,G,F,q0,O,I,K,J,rfl,b8,b9⟩,b7⟩;simp[results,results66,go_sem,m0,m1,m2,m3,m4,m5]
def Xn (x y:Int)(u:ByteArray):Prop:=
 if y=1 then Ec x u else ∃ p q,Ec x p/\Ec y q/\u=if p.size=0∨q.size=0 then ⟨#[]⟩ else p++⟨#[47]⟩++q
theorem Tu {x:Int}{u:ByteArray}(h:Ec x u):u.size<=2501:=by
 obtain⟨neg,t,_,_,_,rfl⟩:=h;unfold Cb
 split
 ·rw[Kf];decide
 unfold Le
 split
 ·rw[Kf];exact J7 _
 split
 ·rw[Kf,J8];omega
 rw[Kf];omega
theorem Po (u:ByteArray):u.toList.isEmpty=decide (u.size=0):=by
 rw[Je];have:u.data.toList.length=u.size:=by simp
 cases h:u.data.toList with
 | nil=>rw[h] at this;simp at this;simp[<-this]
 | cons c l=>
   rw[h] at this;have d:u.size≠0:=by rw[<-this];simp
   simp[d]
theorem RF (B:Nat)(z:Value)(x y:Int)(n:Nat)(w:World)(hBw:B<=w.heap.size)(h:Ip B w z x y n)(hn:n<=600)(hSP:SP w)(hLT:LT w) :
 Calls prog 271 #[z] w fun e w'=>∃ u,e=.returned (.string u)/\Xn x y u/\Up w w':=by
 have HR:=Hd h;obtain⟨s1,p1,l1,c1,s2,p2,l2,c2,rfl,_,_⟩:=h.shape;have b3:=Hd hSP;have a8:=Hd hLT;have a7:=Hd hBw;clear h hSP hLT hBw;obtain⟨W0,I⟩:=O2 (w.alloc (.cells #[.bool s1,.slice p1 l1 c1,.bool s2,.slice p2 l2 c2] 89));have b4:=Hd I;have D:Hid (Up w W0):=by unfold Hid;rw[<-I];exact Oo _ _
 have Z:Bx W0 w.heap.size [.bool s1,.slice p1 l1 c1,.bool s2,.slice p2 l2 c2]:=by rw[<-I];exact Ox w _ _
 obtain⟨k0,k1,k2,k3⟩:=Z.k4;clear I Z
 go_in
 go_wp2_with fail
 rw[b4.o];refine (YI B _ x y n W0 (by have:=a7.o;have:=D.o.size;omega) (HR.o.bl D.o) hn (b3.o.bl D.o) (a8.o.bl D.o)).mono ?_;rintro e w1 ⟨r,rfl,b6,Y⟩;obtain⟨u,v,V,rfl,hu,hv⟩:=b6;have d:Hid (Ec x u/\(if y=1 then V=false/\v=⟨#[]⟩ else V=true/\Ec y v)):=⟨hu,hv⟩;have K:=Hd (D.o.trans (Y.mono D.o.size));obtain⟨W2,J⟩:=O2 (w1.alloc (.cells #[.string u,.bool V,.string v] 135));have U:=Hd J;have G:Hid (Up w W2):=by
  unfold Hid
  rw[<-J];exact K.o.alloc K.o.size _
 have a6:Bx W2 w1.heap.size [.string u,.bool V,.string v]:=by rw[<-J];exact Ox w1 _ _
 obtain⟨g0,g1,g2⟩:=a6.k3;clear J a6 hu hv Y k0 k1 k2 k3
 cases V
 ·have O:Hid (Xn x y u):=by
   unfold Hid
   unfold Xn
   by_cases H:y=1
   ·rw[if_pos H];exact d.o.1
   have j:=d.o.2;rw[if_neg H] at j;exact absurd j.1 (by decide)
  go_upto_region 2 with fail
  rw[U.o]
  go_wp2
  go_ret
  exact⟨_,rfl,O.o,G.o⟩
 have O:Hid (∀ t,t=(if u.size=0∨v.size=0 then ⟨#[]⟩ else u++⟨#[47]⟩++v)->Xn x y t):=fun t ht=>by
  show Xn x y t
  unfold Xn
  by_cases H:y=1
  ·have j:=d.o.2;rw[if_pos H] at j;exact absurd j.1 (by decide)
  have j:=d.o.2;rw[if_neg H] at j;rw[if_neg H];exact⟨u,v,d.o.1,j.2,ht⟩
 have d8:u.size<=2501:=Tu d.o.1;have d9:v.size<=2501:=by
  by_cases H:y=1
  ·have j:=d.o.2;rw[if_pos H] at j;rw[j.2];exact J7 _
  have j:=d.o.2;rw[if_neg H] at j;exact Tu j.2
 go_upto_region 2 with fail
 rw[U.o]
 by_cases E:u.size=0
 ·have z:u.toList.isEmpty=true:=by rw[Po];exact Jn E
  have T:=Hd (O.o ⟨#[]⟩ (by rw[if_pos (.inl E)]));clear E
  go_wp2
  go_ret
  exact⟨_,rfl,T.o,G.o⟩
 have z:u.toList.isEmpty=false:=by rw[Po];exact Jp E
 by_cases F:v.size=0
 ·have z2:v.toList.isEmpty=true:=by rw[Po];exact Jn F
  have T:=Hd (O.o ⟨#[]⟩ (by rw[if_pos (.inr F)]));clear F
  go_wp2
  go_ret
  exact⟨_,rfl,T.o,G.o⟩
 have z2:v.toList.isEmpty=false:=by rw[Po];exact Jp F
 have T:=Hd (O.o _ (if_neg (fun h=>h.elim E F)).symm);have d5:(⟨#[47]⟩:ByteArray).size=1:=rfl;have d6:(u++(⟨#[47]⟩:ByteArray)).size<=3000:=by rw[Y4];omega
 have d7:(u++(⟨#[47]⟩:ByteArray)++v).size<=6000:=by rw[Y4];omega
 go_wp2
 go_ret
 exact⟨_,rfl,T.o,G.o⟩
end Go.Proofs.YtjjgilacnocigaaGreatDoor.Q
namespace Go.Proofs.YtjjgilacnocigaaGreatDoor.Q
open ChangeShapes WideShapes ChangeAt RowKit
def Tp (s t u:ByteArray):Prop:=if Ow s=true/\Ow t=true/\K9 t≠0 then ∃ p q,N9 (K9 s) (K9 t) p q/\Xn p q u else u=⟨#[]⟩
theorem Xn.eq {x y:Int}{u v:ByteArray}(h:Xn x y u)(h':Xn x y v):u=v:=by
 unfold Xn at h h'
 split at h
 ·rename_i hc;rw[if_pos hc] at h';exact h.eq h'
 rename_i hc;rw[if_neg hc] at h';obtain⟨p,q,D,E,rfl⟩:=h;obtain⟨F,G,d,j,rfl⟩:=h';rw[D.eq d,E.eq j]
theorem Tp.eq {s t u v:ByteArray}(h:Tp s t u)(h':Tp s t v):u=v:=by
 unfold Tp at h h'
 split at h
 ·rename_i hc;rw[if_pos hc] at h';obtain⟨p,q,D,E⟩:=h;obtain⟨F,G,d,j⟩:=h';obtain⟨rfl,rfl⟩:=Cg D d;exact E.eq j
 rename_i hc;rw[if_neg hc] at h';rw[h,h']
end Go.Proofs.YtjjgilacnocigaaGreatDoor.Q
namespace Go.Proofs.YtjjgilacnocigaaGreatDoor.Q
open ChangeShapes WideShapes ChangeAt RowKit Proofs.Tryz
theorem BW (s t:Bool)(u v:Nat):sg (s != t) (u*v)=sg s u*sg t v:=by
 cases s<;>cases t<;>simp[sg,Int.mul_neg,Int.neg_mul]
theorem IW (x z:Int)(y:Bool)(w:World):(Instr.field 179 (.agg #[.int .i64 x,.bool y,.int .i64 z]) 1).run prog w=.ok (.bool y) w:=by kernel_rfl
theorem NQ (B:Nat)(s t:Bool)(va vb:Value)(a b:List Nat)(w:World)(ha:Kn B w va a)(hb:Kn B w vb b)(hla:a.length<=100000)(hlb:b.length<=100000)(hSP:SP w) :
 Calls prog 141 #[.agg #[.bool s,va],.agg #[.bool t,vb]] w fun e w'=>∃ z,e=.returned z/\N8 w.heap.size w' z (sg s (val a)*sg t (val b)) (a.length+b.length)/\Up w w':=by
 obtain⟨pa,Z,rfl,_⟩:=id ha;obtain⟨pb,cb,rfl,_⟩:=id hb;have HX:=UL w s pa a.length Z t pb b.length cb 85;obtain⟨E,D⟩:=O2 (((w.alloc (.cells #[.bool s,.slice pa a.length Z] 85)).alloc (.cells #[.bool t,.slice pb b.length cb] 85)).alloc (.cells #[.bool false,.slice none 0 0] 85));have b5:=Em D;have j:Up w E:=by rw[<-D];exact Ou (Ou (Oo _ _) _) _
 have b3:=Em j;have Y:E.heap.size=w.heap.size+3:=by rw[<-D];simp
 rw[D] at HX;have HS:=Em Y;have G:Hid (∀ W,Up E W->BoxI w.heap.size W s pa a.length Z t pb b.length cb):=fun W hW=>HX.bl (by omega) hW;have HA:Hid (∀ W,Up E W->Kn B W (.slice pa a.length Z) a):=fun W hW=>(ha.bl j).bl hW;have HB:Hid (∀ W,Up E W->Kn B W (.slice pb b.length cb) b):=fun W hW=>(hb.bl j).bl hW;have b4:Hid (SP E):=hSP.bl j;have K:Hid (a.length<=100000/\b.length<=100000):=⟨hla,hlb⟩;obtain⟨a0,a1,b0,b1,r0,r1,f⟩:=HX;have f0:=f 2 (by omega) 0;have f1:=f 2 (by omega) 1;clear f D Y ha hb j hla hlb hSP;have e1:=IW
 go_in
 go_wp2_with fail
 rw[b5.o]
 go_region_with (first
  | (go_at_call 139;refine (Iz _ _ _ _ _ _ _ _ _ (b4.o.bl ?_)).mono ?_
     ·exact (Jj _ E).drew
     rintro e ws ⟨rfl,U⟩;have d:Hid (Up E ws):=(Jj _ E).drew.trans (U.mono O1);obtain⟨k0,k1,l0,l1,t0,t1,g⟩:=G.o ws d.o;have j0:=g 2 (by omega) 0;have j1:=g 2 (by omega) 1;clear U g)
  | (go_at_call 182;refine (T8 B _ _ a b _ (HA.o _ d.o) (HB.o _ d.o) K.o.1 K.o.2).mono ?_
     rintro e wd ⟨v,L,rfl,hL,F,V,b7,T⟩;have I:=d.up T;have HL:Hid (Kn (w.heap.size+3) wd v L):=hL.mono (by have:=d.o.size;have:=HS.o;omega);have HV:Hid (val L=val a*val b/\L.length<=a.length+b.length):=⟨F,by omega⟩;obtain⟨c0,c1,d0,d1,s0,s1,g⟩:=G.o wd I.o;have g0:=g 2 (by omega) 0;have g1:=g 2 (by omega) 1;obtain⟨pv,cv,hv,_⟩:=hL;subst hv;clear F V b7 T g)
  | (go_at_call 129;refine (K4 _ (s != t) _ L _ HL.o).mono ?_
     rintro e we ⟨v',rfl,hcut,H⟩;have J:=I.up H;have O:Hid (Kn (w.heap.size+3) we v' (Ov L)):=(hcut _ _ HL.o).bl H;obtain⟨c0,c1,d0,d1,s0,s1,g⟩:=G.o we J.o;have g0:=g 2 (by omega) 0;have g1:=g 2 (by omega) 1;obtain⟨pw,cw,hw,_⟩:=O.o;subst hw;clear hcut H g))
 all_goals
  try simp only[Yg,Yb,J0,Act.put,Ja,Jb,Jc]
  go_wp2
  have HF:Hid (Up w we):=b3.o.trans (J.o.mono (by have:=HS.o;omega));refine Jh ?_ rfl ⟨_,rfl,⟨s != t,_,Ov L,rfl,((O.o.setCell _ _ (by simp)).setCell _ _ (by simp)).mono (by omega),O8 _,by rw[O9,HV.o.1,BW],by have:=Kl L;have:=HV.o.2;omega⟩,(HF.o.setCell (by simp;omega) _).setCell (by simp;omega) _⟩;simp[results,results141,go_sem,s0,s1]
theorem Tk (B:Nat)(za zb:Value)(x y:Int)(n m:Nat)(w:World)(ha:N8 B w za x n)(hb:N8 B w zb y m)(hn:n<=100000)(hm:m<=100000)(hSP:SP w) :
 Calls prog 141 #[za,zb] w fun e w'=>∃ z,e=.returned z/\N8 w.heap.size w' z (x*y) (n+m)/\Up w w':=by
 obtain⟨H,J,a,rfl,d,O,rfl,F⟩:=ha;obtain⟨I,K,b,rfl,j,T,rfl,G⟩:=hb;rw[<-Nr H a,<-Nr I b];refine (NQ B _ _ J K a b w d j (by omega) (by omega) hSP).mono ?_;rintro e w' ⟨z,D,E,h3⟩;exact⟨z,D,E.mono O1 (by omega),h3⟩
theorem Dt (B:Nat)(za zb:Value)(x y:Int)(n m:Nat)(w:World)(ha:N8 B w za x n)(hb:N8 B w zb y m)(h:SP w) :
 Calls prog 95 #[za,zb] w fun e w'=>e=.returned (.int .i64 (Nc x y))/\Up w w':=by
 obtain⟨D,J,a,rfl,d,H,rfl,_⟩:=ha;obtain⟨E,K,b,rfl,j,I,rfl,_⟩:=hb;have F:Kx a:=by obtain⟨_,_,_,_,_,o,_⟩:=d;exact o
 have G:Kx b:=by obtain⟨_,_,_,_,_,o,_⟩:=j;exact o
 refine (Fw B _ _ J K a b w d j h).mono ?_;rintro e w' ⟨rfl,hb⟩;exact⟨by rw[Ri D E a b F G H I],hb⟩
structure BxQ (h:Nat)(W:World)(s1:Bool)(p1:Option Addr)(l1 c1:Nat)(s2:Bool)(p2:Option Addr)(l2 c2:Nat)(s3:Bool)(p3:Option Addr)(l3 c3:Nat)(s4:Bool)(p4:Option Addr)(l4 c4:Nat):Prop where
 a:Bx W h [.bool s1,.slice p1 l1 c1,.bool s2,.slice p2 l2 c2]
 b:Bx W (h+1) [.bool s3,.slice p3 l3 c3,.bool s4,.slice p4 l4 c4]
theorem BxQ.bl {h N:Nat}{W W':World}{s1:Bool}{p1:Option Addr}{l1 c1:Nat}{s2:Bool}{p2:Option Addr}{l2 c2:Nat}{s3:Bool}{p3:Option Addr}{l3 c3:Nat}{s4:Bool}{p4:Option Addr}{l4 c4:Nat}(m:BxQ h W s1 p1 l1 c1 s2 p2 l2 c2 s3 p3 l3 c3 s4 p4 l4 c4)(hN:h+2<=N)(hb:Below N W W'):BxQ h W' s1 p1 l1 c1 s2 p2 l2 c2 s3 p3 l3 c3 s4 p4 l4 c4:=
 ⟨m.a.bl (by omega) hb,m.b.bl (by omega) hb⟩
theorem BxQ.held {h:Nat}{W:World}{s1:Bool}{p1:Option Addr}{l1 c1:Nat}{s2:Bool}{p2:Option Addr}{l2 c2:Nat}{s3:Bool}{p3:Option Addr}{l3 c3:Nat}{s4:Bool}{p4:Option Addr}{l4 c4:Nat}(m:BxQ h W s1 p1 l1 c1 s2 p2 l2 c2 s3 p3 l3 c3 s4 p4 l4 c4):W.cell? ⟨h,0,none⟩=some (.bool s1)/\W.cell? ⟨h,1,none⟩=some (.slice p1 l1 c1)/\W.cell? ⟨h,2,none⟩=some (.bool s2)/\W.cell? ⟨h,3,none⟩=some (.slice p2 l2 c2)/\W.cell? ⟨h+1,0,none⟩=some (.bool s3)/\W.cell? ⟨h+1,1,none⟩=some (.slice p3 l3 c3)/\W.cell? ⟨h+1,2,none⟩=some (.bool s4)/\W.cell? ⟨h+1,3,none⟩=some (.slice p4 l4 c4):=
 ⟨m.a.cell 0,m.a.cell 1,m.a.cell 2,m.a.cell 3,m.b.cell 0,m.b.cell 1,m.b.cell 2,m.b.cell 3⟩
theorem Ta (B:Nat)(za zb:Value)(x1 y1 x2 y2:Int)(n:Nat)(w:World)(_hBw:B<=w.heap.size)(ha:Ip B w za x1 y1 n)(hb:Ip B w zb x2 y2 n)(hn:n<=10000)(hSP:SP w) :
 Calls prog 96 #[za,zb] w fun e w'=>e=.returned (.int .i64 (Nc (x1*y2) (x2*y1)))/\Up w w':=by
 obtain⟨s1,T,K,c1,s2,Z,V,c2,rfl,h1,h2⟩:=ha.shape;obtain⟨s3,U,O,c3,s4,p4,Y,c4,rfl,h3,h4⟩:=hb.shape;have H1:=Hd h1;have H2:=Hd h2;have H3:=Hd h3;have H4:=Hd h4;have H:=Hd hSP;clear ha hb h1 h2 h3 h4 hSP;obtain⟨G,D⟩:=O2 ((w.alloc (.cells #[.bool s1,.slice T K c1,.bool s2,.slice Z V c2] 89)).alloc (.cells #[.bool s3,.slice U O c3,.bool s4,.slice p4 Y c4] 89));have b8:=Hd D;have d:Hid (Up w G):=by unfold Hid;rw[<-D];exact Ou (Oo _ _) _
 have E:BxQ w.heap.size G s1 T K c1 s2 Z V c2 s3 U O c3 s4 p4 Y c4:=by
  refine⟨?_,?_⟩
  ·rw[<-D];exact (Ox w _ _).alloc _
  rw[<-D];have h:=Ox (w.alloc (.cells #[.bool s1,.slice T K c1,.bool s2,.slice Z V c2] 89)) [.bool s3,.slice U O c3,.bool s4,.slice p4 Y c4] 89;rw[J4] at h;exact h
 have HX:Hid (∀ W,Up G W->BxQ w.heap.size W s1 T K c1 s2 Z V c2 s3 U O c3 s4 p4 Y c4):=fun W hW=>E.bl E.b.lt hW;have T1:Hid (∀ W,Up G W->Calls prog 141 #[.agg #[.bool s1,.slice T K c1],.agg #[.bool s4,.slice p4 Y c4]] W (fun e w'=>∃ z,e=.returned z/\N8 0 w' z (x1*y2) (n+n)/\Up W w')):=fun W hW=>by
  refine (Tk B _ _ _ _ n n W ((H1.o.bl d.o).bl hW) ((H4.o.bl d.o).bl hW) (by omega) (by omega) ((H.o.bl d.o).bl hW)).mono ?_;rintro e w' ⟨z,rfl,hz,hb⟩;exact⟨z,rfl,hz.mono (J7 _) O1,hb⟩
 have T2:Hid (∀ W,Up G W->Calls prog 141 #[.agg #[.bool s3,.slice U O c3],.agg #[.bool s2,.slice Z V c2]] W (fun e w'=>∃ z,e=.returned z/\N8 0 w' z (x2*y1) (n+n)/\Up W w')):=fun W hW=>by
  refine (Tk B _ _ _ _ n n W ((H3.o.bl d.o).bl hW) ((H2.o.bl d.o).bl hW) (by omega) (by omega) ((H.o.bl d.o).bl hW)).mono ?_;rintro e w' ⟨z,rfl,hz,hb⟩;exact⟨z,rfl,hz.mono (J7 _) O1,hb⟩
 obtain⟨k0,k1,k2,k3⟩:=E.a.k4;obtain⟨j0,j1,j2,j3⟩:=E.b.k4;clear D E
 go_in
 go_upto_region 1 with fail
 rw[b8.o]
 go_wp2
 go_region_held3 (fun W=>W.cell? ⟨w.heap.size,0,none⟩=some (.bool s1)/\W.cell? ⟨w.heap.size,1,none⟩=some (.slice T K c1)/\W.cell? ⟨w.heap.size,2,none⟩=some (.bool s2)/\W.cell? ⟨w.heap.size,3,none⟩=some (.slice Z V c2)/\W.cell? ⟨w.heap.size+1,0,none⟩=some (.bool s3)/\W.cell? ⟨w.heap.size+1,1,none⟩=some (.slice U O c3)/\W.cell? ⟨w.heap.size+1,2,none⟩=some (.bool s4)/\W.cell? ⟨w.heap.size+1,3,none⟩=some (.slice p4 Y c4)) (first
  | assumption|go_keep) (first
  | (go_at_call_of 141 (Value.slice T K c1)
     refine (T1.o _ ?_).mono ?_
     ·exact (Jj _ G).drew
     rintro e wa ⟨u,rfl,hu,b5⟩;have HU:=Hd hu;have F:Hid (Up G wa):=(Jj _ G).drew.trans b5;have e1:=(HX.o wa F.o).held;clear hu b5)
  | (go_at_call_of 141 (Value.slice U O c3)
     refine (T2.o _ ?_).mono ?_
     ·exact F.o
     rintro e wb ⟨v,rfl,hv,I⟩;have HV:=Hd hv;have j:=Hd (F.o.trans (I.mono F.o.size));have b7:=Hd (HU.o.bl I);have e2:=(HX.o wb j.o).held;clear hv I)
  | (go_at_call 95
     refine (Dt 0 _ _ _ _ _ _ _ b7.o HV.o ((H.o.bl d.o).bl j.o)).mono ?_;rintro e wc ⟨rfl,J⟩;have e3:=(HX.o wc (j.o.trans (J.mono j.o.size))).held;have b6:=Hd (d.o.trans ((j.o.trans (J.mono j.o.size)).mono d.o.size));clear J))
 all_goals
  go_wp2
  go_ret
  exact⟨rfl,b6.o⟩
end Go.Proofs.YtjjgilacnocigaaGreatDoor.Q
namespace Go.Proofs.YtjjgilacnocigaaGreatDoor.Q
open ChangeShapes WideShapes ChangeAt RowKit
variable {B:Nat}{s:ByteArray}{w:World}{z:Value}
theorem N8.setC {x:Int}{n:Nat}(h:N8 B w z x n)(p:Addr)(u:Value)(hp:p.block<B):N8 B (w.setCell p u) z x n:=by
 obtain⟨neg,v,t,e,d,r⟩:=h;exact⟨neg,v,t,e,d.setCell p u hp,r⟩
theorem Ip.setC {x y:Int}{n:Nat}(h:Ip B w z x y n)(p:Addr)(u:Value)(hp:p.block<B):Ip B (w.setCell p u) z x y n:=by
 obtain⟨D,F,E,v2,e,d,j⟩:=h;exact⟨D,F,E,v2,e,d.setC p u hp,j.setC p u hp⟩
theorem Hx.setC {k:Option Nat}{ok:Bool}(h:Hx B w s k z ok)(p:Addr)(u:Value)(hp:p.block<B):Hx B (w.setCell p u) s k z ok:=
 ⟨h.1,h.2.1,fun ho=>by obtain⟨x,y,j,d⟩:=h.2.2 ho;exact⟨x,y,j,d.setC p u hp⟩⟩
theorem Hx.bl {w':World}{k:Option Nat}{ok:Bool}(h:Hx B w s k z ok)(hb:Up w w'):Hx B w' s k z ok:=
 ⟨h.1,h.2.1,fun ho=>by obtain⟨x,y,j,d⟩:=h.2.2 ho;exact⟨x,y,j,d.bl hb⟩⟩
theorem Hx.mono {B':Nat}{k:Option Nat}{ok:Bool}(h:Hx B w s k z ok)(hb:B'<=B):Hx B' w s k z ok:=
 ⟨h.1,h.2.1,fun ho=>by obtain⟨x,y,j,d⟩:=h.2.2 ho;exact⟨x,y,j,d.mono hb O1⟩⟩
theorem Hx.drew {k:Option Nat}{ok:Bool}(h:Hx B w s k z ok):Hx B w.drew s k z ok:=h.bl (Jj _ w).drew
theorem Hx.put {k:Option Nat}{ok:Bool}(h:Hx B w s k z ok)(g:Nat)(hg:g<B)(u0 u1 u2 u3:Value):Hx B ((((w.setCell ⟨g,0,none⟩ u0).setCell ⟨g,1,none⟩ u1).setCell ⟨g,2,none⟩ u2).setCell ⟨g,3,none⟩ u3) s k z ok:=
 (((h.setC _ _ hg).setC _ _ hg).setC _ _ hg).setC _ _ hg
end Go.Proofs.YtjjgilacnocigaaGreatDoor.Q
namespace Go.Proofs.YtjjgilacnocigaaGreatDoor.Q
open ChangeShapes WideShapes ChangeAt RowKit Proofs.Tryz
variable {N g n:Nat}{w w':World}
structure Bar (g:Nat)(w w':World):Prop where
 os:w'.os=w.os
 tape:w'.tape=w.tape
 output:w'.output=w.output
 size:w.heap.size<=w'.heap.size
 block:∀ k,k<w.heap.size->k≠g->w'.heap[k]? = w.heap[k]?
theorem Bar.refl (g:Nat)(w:World):Bar g w w:=⟨rfl,rfl,rfl,O1,fun _ _ _=>rfl⟩
theorem Bar.trans {a b c:World}(h:Bar g a b)(k:Bar g b c):Bar g a c:=
 ⟨k.os.trans h.os,k.tape.trans h.tape,k.output.trans h.output,Yt h.size k.size,fun i hi hg=>(k.block i (Js hi h.size) hg).trans (h.block i hi hg)⟩
theorem Bar.of (h:Up w w'):Bar g w w':=⟨h.os,h.tape,h.output,h.size,fun k hk _=>h.block k hk⟩
theorem Bar.bl (h:Bar g w w')(hN:N<=g)(hw:N<=w.heap.size):Below N w w':=⟨h.os,h.tape,h.output,h.size,fun k hk=>h.block k (by omega) (by omega)⟩
theorem Bar.setCell (g i:Nat)(w:World)(v:Value):Bar g w (w.setCell ⟨g,i,none⟩ v):=
 ⟨rfl,rfl,rfl,by simp[World.setCell],fun k _ hk=>J1 _ _ _ _ hk⟩
theorem Bar.drew (h:Bar g w w'):Bar g w w'.drew:=⟨h.os,h.tape,h.output,h.size,h.block⟩
theorem Bar.cell (h:Bar g w w'){p:Addr}(hp:p.block<w.heap.size)(hg:p.block≠g):w'.cell? p=w.cell? p:=by
 unfold World.cell?;rw[h.block p.block hp hg]
def Mu (g N:Nat)(w:World)(a:Option Addr)(n cap:Nat):Prop:=n<=cap/\cap<=maxLen/\∀ i,i<n->∃ b off v:Nat,a=some ⟨b,off,none⟩/\b≠g/\b<N/\v<256/\w.cell? ⟨b,off+i,none⟩=some (.int .u8 v)
theorem Mu.bar {a:Option Addr}{cap:Nat}(h:Mu g N w a n cap)(hN:N<=w.heap.size)(hb:Bar g w w'):Mu g N w' a n cap:=
 ⟨h.1,h.2.1,fun i hi=>by
  obtain⟨b,d,v,e,j,D,h3,h4⟩:=h.2.2 i hi
  exact⟨b,d,v,e,j,D,h3,(hb.cell (p:=⟨b,d+i,none⟩) (Js D hN) j).trans h4⟩⟩
def Ne (g N:Nat)(w:World)(k:Nat):Prop:=g<N/\N<=w.heap.size/\∃ a n cap sd,Bx w g [.slice a n cap,.int .i64 (k:Nat),.int .u64 (sd:Nat)]/\sd<18446744073709551616/\Mu g N w a n cap
theorem Ne.bl {k:Nat}(h:Ne g N w k)(hb:Below N w w'):Ne g N w' k:=by
 obtain⟨E,I,a,n,cap,O,K,J,j⟩:=h;refine⟨E,Yt I hb.size,a,n,cap,O,K.bl E hb,J,j.1,j.2.1,fun i hi=>?_⟩;obtain⟨b,d,v,e,F,D,G,H⟩:=j.2.2 i hi;exact⟨b,d,v,e,F,D,G,(hb.cell (p:=⟨b,d+i,none⟩) D).trans H⟩
theorem Lh (x:Int):∃ m:Nat,IntKind.u64.wrap x=(m:Int)/\m<18446744073709551616:=by
 refine⟨(IntKind.u64.wrap x).toNat,?_,?_⟩<;>simp only[IntKind.wrap_u64]<;>omega
theorem BJ (m:Nat)(hm:m<18446744073709551616):∃ r:Nat,wrap64 (bits BinOp.and IntKind.u64 ((m:Int) / 1099511627776) 255)=(r:Int)/\r<256:=by
 have j:((m:Int) / 1099511627776)=((m / 1099511627776:Nat):Int):=by omega
 have d:=bits_and_u64_nat (m / 1099511627776) 255 (by omega) (by decide);have h3:(m / 1099511627776) &&& 255<=255:=Nat.and_le_right;obtain⟨x,E⟩:∃ x:Nat,(m / 1099511627776) &&& 255=x:=⟨_,rfl⟩;rw[E] at h3 d;refine⟨x,?_,by omega⟩;have D:((255:Nat):Int)=255:=rfl;rw[D] at d;rw[j,d];unfold wrap64;omega
theorem OL {k:Nat}{a:Option Addr}{cap sd:Nat}(hgN:g<N)(hN:N<=w.heap.size)(hx:Bx w g [.slice a n cap,.int .i64 (k:Nat),.int .u64 (sd:Nat)])(hc:Mu g N w a n cap)(m1 m2 m:Nat)(hm:m<18446744073709551616) :
 Ne g N ((((w.drewN m1).setCell ⟨g,1,none⟩ (.int .i64 ((k:Int)+1))).setCell ⟨g,2,none⟩ (.int .u64 (m:Nat))).drewN m2) (k+1)/\Bar g w ((((w.drewN m1).setCell ⟨g,1,none⟩ (.int .i64 ((k:Int)+1))).setCell ⟨g,2,none⟩ (.int .u64 (m:Nat))).drewN m2):=by
 have D:Bar g w ((((w.drewN m1).setCell ⟨g,1,none⟩ (.int .i64 ((k:Int)+1))).setCell ⟨g,2,none⟩ (.int .u64 (m:Nat))).drewN m2):=by
  have j:Bar g w (w.drewN m1):=⟨rfl,rfl,rfl,O1,fun _ _ _=>rfl⟩;have d:=(j.trans (Bar.setCell g 1 _ (.int .i64 ((k:Int)+1)))).trans (Bar.setCell g 2 _ (.int .u64 (m:Nat)));exact⟨d.os,d.tape,d.output,d.size,d.block⟩
 refine⟨⟨hgN,Yt hN D.size,a,n,cap,m,?_,hm,hc.bar hN D⟩,D⟩;have j:Bx (w.drewN m1) g [.slice a n cap,.int .i64 (k:Nat),.int .u64 (sd:Nat)]:=by obtain⟨t,h⟩:=hx;exact⟨t,h⟩
 have d:=(j.set 1 (.int .i64 ((k:Int)+1))).set 2 (.int .u64 (m:Nat));obtain⟨t,h⟩:=d;exact⟨t,h⟩
theorem Ba (g N k:Nat)(w:World)(h:Ne g N w k)(hk:k<=1000000000000) :
 Calls prog 37 #[.pointer (some ⟨g,0,none⟩)] w fun e w'=>∃ r:Nat,e=.returned (.int .i64 (r:Nat))/\r<256/\Ne g N w' (k+1)/\Bar g w w':=by
 obtain⟨H,F,a,n,cap,Y,E,b3,D⟩:=h;have d:=Hd (And.intro H F);clear H F;have V:=Hd E;have U:=Hd D;have G:=D.2.1;have hn:=D.1;unfold maxLen at G;obtain⟨k0,k1,k2⟩:=E.k3;have f1:=E.frozen 1;have f2:=E.frozen 2
 by_cases O:k<n
 ·obtain⟨b,b5,v,Z,a6,a7,hv,K⟩:=D.2.2 k O;subst Z;have z:decide ((k:Int)<(n:Int))=true:=dT (by omega)
  have z2:decide ((k:Int)+1<=(n:Int))=true:=dT (by omega)
  clear E D
  go_in
  go_wp2
  go_quiet (fail)
  go_wp2
  go_quiet (fail)
  go_wp2
  go_quiet (fail)
  go_wp2
  obtain⟨m,hm,j⟩:=Lh (IntKind.u64.wrap (IntKind.u64.wrap (↑Y*6364136223846793005)+↑v)+1442695040888963407);rw[hm]
  go_ret
  obtain⟨I,J⟩:=OL d.o.1 d.o.2 V.o U.o _ _ m j;exact⟨v,rfl,hv,I,J⟩
 have z:decide ((k:Int)<(n:Int))=false:=dF (by omega)
 have z2:decide ((k:Int)+1<=(n:Int))=false:=dF (by omega)
 clear E D
 go_in
 go_wp2
 go_quiet (fail)
 go_wp2
 go_quiet (fail)
 go_wp2
 obtain⟨m,hm,j⟩:=Lh (IntKind.u64.wrap (IntKind.u64.wrap (↑Y*6364136223846793005))+1442695040888963407);obtain⟨r,hr,T⟩:=BJ m j;rw[hm,hr]
 go_ret
 obtain⟨I,J⟩:=OL d.o.1 d.o.2 V.o U.o _ _ m j;exact⟨r,rfl,T,I,J⟩
theorem K8 (g N k n:Nat)(w:World)(h:Ne g N w k)(hk:k<=100000000000)(hn:0<n)(hn2:n<=65536) :
 Calls prog 15 #[.pointer (some ⟨g,0,none⟩),.int .i64 (n:Nat)] w fun e w'=>∃ r k':Nat,e=.returned (.int .i64 (r:Nat))/\r<n/\k'<=k+2/\Ne g N w' k'/\Bar g w w':=by
 have I:=Hd h;clear h
 by_cases U:n<=1
 ·have z:decide ((n:Int)<=1)=true:=dT (by omega)
  go_in
  go_wp2
  go_ret
  exact⟨0,k,rfl,hn,by omega,I.o,Bar.refl _ _⟩
 have z:decide ((n:Int)<=1)=false:=dF (by omega)
 by_cases V:200<n
 ·have z2:decide (200<(n:Int))=true:=dT (by omega)
  go_in
  go_wp2_with fail
  refine (Ba g N k _ I.o (by omega)).mono ?_;rintro e T ⟨r1,rfl,K,j,d⟩;have E:=Hd j;have D:=Hd d;clear j d
  go_wp2_with fail
  refine (Ba g N (k+1) _ E.o (by omega)).mono ?_;rintro e Y ⟨r2,rfl,O,G,F⟩;have J:=Hd G;have H:=Hd (D.o.trans F);clear G F
  go_wp2
  go_ret
  exact⟨(r1*256+r2) % n,k+1+1,Kw (by push_cast;rfl),Zy _ hn,by omega,J.o,H.o⟩
 have z2:decide (200<(n:Int))=false:=dF (by omega)
 go_in
 go_wp2_with fail
 refine (Ba g N k _ I.o (by omega)).mono ?_;rintro e T ⟨r1,rfl,K,j,d⟩;have E:=Hd j;have D:=Hd d;clear j d
 go_wp2
 go_ret
 exact⟨r1 % n,k+1,Kw (by push_cast;rfl),Zy _ hn,by omega,E.o,D.o⟩
theorem E0.isN {B:Nat}{z:Value}{x:Int}(h:E0 B w z x n):Nb B w z x:=by
 obtain⟨neg,t,d,j,_⟩:=h;exact⟨neg,t,d,j⟩
theorem Rd (B:Nat)(z:Value)(x y:Int)(w:World)(_hBw:B<=w.heap.size)(h:C0 B w z x y) :
 Calls prog 108 #[z] w fun e w'=>e=.returned (.bool (decide (y=1)))/\Up w w':=by
 obtain⟨V,pn,Y,pl,Z,q0,K,I,ql,J,rfl,hP,hQ⟩:=h;have D:=Hd (Py hQ.isN);clear hP hQ;obtain⟨G,j⟩:=O2 (w.alloc (.cells #[.int .i64 V,.bool pn,.slice Y pl Z,.int .i64 q0,.bool K,.slice I ql J] 120));have U:=Hd j;have O:Hid (Up w G):=by unfold Hid;rw[<-j];exact Oo _ _
 have d:Bx G w.heap.size [.int .i64 V,.bool pn,.slice Y pl Z,.int .i64 q0,.bool K,.slice I ql J]:=by rw[<-j];exact Ox w _ _
 have HX:Hid (∀ W,Up G W->Bx W w.heap.size [.int .i64 V,.bool pn,.slice Y pl Z,.int .i64 q0,.bool K,.slice I ql J]):=fun W hW=>d.bl d.lt hW;have k3:=d.cell 3;have k4:=d.cell 4;have k5:=d.cell 5;simp only[J6,Yk] at k3 k4 k5;clear j d
 go_in
 go_upto_region 1 with fail
 rw[U.o]
 go_wp2_with fail
 refine (O0 q0 K I ql J G).mono ?_;rintro e w1 ⟨rfl,H⟩;have E:Up G w1:=by rw[H];exact Oo _ _
 have F:=O.up E;have hx:=HX.o w1 E;have j3:=hx.cell 3;simp only[J6,Yk] at j3;clear H E hx k3 k4 k5
 by_cases hz:ql=0
 ·have z:((ql:Int)==0)=true:=by rw[Jw];omega
  have T:Hid ((q0==1)=decide (y=1)):=by have h:=D.o;rw[z] at h;exact h
  rw[z]
  go_wp2
  go_ret
  exact⟨O7 T.o,F.o⟩
 have z:((ql:Int)==0)=false:=by rw[Jd];omega
 have T:Hid (false=decide (y=1)):=by have h:=D.o;rw[z] at h;exact h
 rw[z]
 go_wp2
 go_ret
 exact⟨O7 T.o,F.o⟩
theorem C0.bl {B:Nat}{z:Value}{x y:Int}(h:C0 B w z x y)(hb:Up w w'):C0 B w' z x y:=by
 obtain⟨D,H,E,G,F,q0,O,I,K,J,e,d,j⟩:=h;exact⟨D,H,E,G,F,q0,O,I,K,J,e,d.bl hb,j.bl hb⟩
theorem Sh (ng:Bool)(t:List Nat)(h:t.length<=600):(Gd ng t).size<=6000:=by
 have d:=Tv t;unfold Gd
 split
 ·rw[Kf];decide
 split
 ·rw[Kf,J8];omega
 rw[Kf];omega
theorem EY (B:Nat)(p0:Int)(pn:Bool)(pa:Option Addr)(pl pc:Nat)(q0:Int)(qn:Bool)(qa:Option Addr)(ql qc:Nat)(n1 n2:Bool)(t1 t2:List Nat)(x y:Int)(w:World)(hBw:B<=w.heap.size)
 (hQ:C0 B w (.agg #[.int .i64 p0,.bool pn,.slice pa pl pc,.int .i64 q0,.bool qn,.slice qa ql qc]) x y)
 (hz1:Ej B w (.agg #[.int .i64 p0,.bool pn,.slice pa pl pc]) n1 t1) (hz2:Ej B w (.agg #[.int .i64 q0,.bool qn,.slice qa ql qc]) n2 t2) (h1:t1.length<=600) (h2:t2.length<=600) :
 Calls prog 68 #[.agg #[.int .i64 p0,.bool pn,.slice pa pl pc,.int .i64 q0,.bool qn,.slice qa ql qc]] w fun e w'=>e=.returned (.string (if y=1 then Gd (Ko n1 t1) t1 else Gd (Ko n1 t1) t1++⟨#[47]⟩++Gd (Ko n2 t2) t2))/\Up w w':=by
 have b7:=Hd hz1;have b8:=Hd hz2;have H:=Hd hBw;have b4:=Hd hQ;clear hz1 hz2 hBw hQ;obtain⟨J,F⟩:=O2 (w.alloc (.cells #[.int .i64 p0,.bool pn,.slice pa pl pc,.int .i64 q0,.bool qn,.slice qa ql qc] 120));have b5:=Hd F;have d:Hid (Up w J):=by unfold Hid;rw[<-F];exact Oo _ _
 have G:Bx J w.heap.size [.int .i64 p0,.bool pn,.slice pa pl pc,.int .i64 q0,.bool qn,.slice qa ql qc]:=by rw[<-F];exact Ox w _ _
 have HX:Hid (∀ W,Up J W->Bx W w.heap.size [.int .i64 p0,.bool pn,.slice pa pl pc,.int .i64 q0,.bool qn,.slice qa ql qc]):=fun W hW=>G.bl G.lt hW;obtain⟨k0,k1,k2,k3,k4,k5⟩:=G.k6;clear F G;have D:Hid (∀ W1,Up J W1->Calls prog 38 #[.agg #[.int .i64 p0,.bool pn,.slice pa pl pc]] W1 (fun e w'=>e=.returned (.string (Gd (Ko n1 t1) t1))/\Up W1 w')):=fun W1 hW1=>
  Q1 B _ n1 t1 W1 (b7.o.bl (d.o.trans (hW1.mono d.o.size))) (by have:=H.o;have:=d.o.size;have:=hW1.size;omega) h1
 have E:Hid (∀ W1,Up J W1->Calls prog 38 #[.agg #[.int .i64 q0,.bool qn,.slice qa ql qc]] W1 (fun e w'=>e=.returned (.string (Gd (Ko n2 t2) t2))/\Up W1 w')):=fun W1 hW1=>
  Q1 B _ n2 t2 W1 (b8.o.bl (d.o.trans (hW1.mono d.o.size))) (by have:=H.o;have:=d.o.size;have:=hW1.size;omega) h2
 have U:Hid ((Gd (Ko n1 t1) t1).size<=6000):=Sh _ _ h1;have V:Hid ((Gd (Ko n2 t2) t2).size<=6000):=Sh _ _ h2;obtain⟨f1,a6⟩:∃ f,Gd (Ko n1 t1) t1=f:=⟨_,rfl⟩;obtain⟨f2,a7⟩:∃ f,Gd (Ko n2 t2) t2=f:=⟨_,rfl⟩;rw[a6] at D U ⊢;rw[a7] at E V ⊢;clear a6 a7
 go_in
 go_upto_region 1 with fail
 rw[b5.o]
 go_wp2_with fail
 refine (Rd B _ x y J (by have:=H.o;have:=d.o.size;omega) (b4.o.bl d.o)).mono ?_;rintro e w1 ⟨rfl,K⟩;have j:=Hd K;have O:=HX.o w1 K;clear K k0 k1 k2 k3 k4 k5;obtain⟨k0,k1,k2,k3,k4,k5⟩:=O.k6;clear O
 by_cases T:y=1
 ·have z:decide (y=1)=true:=Jn T;have HY:=Hd T;rw[z];clear z T
  go_wp2_with fail
  refine (D.o w1 j.o).mono ?_;rintro e w2 ⟨rfl,hb⟩;have a8:=Hd (d.o.trans ((j.o.trans (hb.mono j.o.size)).mono d.o.size));clear hb k0 k1 k2 k3 k4 k5
  go_wp2
  go_ret
  exact⟨by first|rfl|(rw[if_pos HY.o];rfl),a8.o⟩
 have z:decide (y=1)=false:=Jp T;have HY:=Hd T;rw[z];clear z T;have d3:(⟨#[47]⟩:ByteArray).size=1:=rfl;have d6:=U.o;have d7:=V.o;have d4:(f1++(⟨#[47]⟩:ByteArray)).size<=7000:=by rw[Y4];omega
 have d5:(f1++(⟨#[47]⟩:ByteArray)++f2).size<=14000:=by rw[Y4];omega
 go_wp2
 go_region_with (first
  | (go_at_call_of 38 (Value.int IntKind.i64 p0);refine (D.o _ ?_).mono ?_
     ·exact j.o.drew
     rintro e wa ⟨rfl,Y⟩;have I:Hid (Up J wa):=j.o.drew.trans (Y.mono j.o.size);have O:=HX.o wa I.o;have m3:=O.cell 3;have m4:=O.cell 4;have m5:=O.cell 5;simp only[J6,Yk] at m3 m4 m5;clear O Y)
  | (go_at_call_of 38 (Value.int IntKind.i64 q0);refine (E.o _ ?_).mono ?_
     ·exact I.o
     rintro e wb ⟨rfl,Z⟩;have b3:=I.up Z;clear Z))
 all_goals
  go_wp2
  go_ret
  exact⟨by first|rfl|(rw[if_neg HY.o];rfl),d.o.trans (b3.o.mono d.o.size)⟩
theorem XL (x y:Int)(xn yn:Bool)(pa:Option Addr)(la ca:Nat)(pb:Option Addr)(lb cb:Nat)(w:World)(hz:((la:Int)==0)=false)(ha:Rg x xn la=true)(hb:Rg y yn lb=false) :
 Calls prog 109 #[.agg #[.int .i64 x,.bool xn,.slice pa la ca],.agg #[.int .i64 y,.bool yn,.slice pb lb cb]] w fun e w'=>e=.returned (.int .i64 (-1))/\Up w w':=by
 have d:=Hd ha;have j:=Hd hb;clear ha hb
 go_in
 go_wp2_with (go_at_call 106;refine (O0 _ _ _ _ _ _).mono ?_;rintro e w' ⟨rfl,rfl⟩)
 go_region_with (first|(go_at_call_of 74 (Value.int IntKind.i64 x);refine (Ku _ _ _ _ _ _).mono ?_;rintro e w' ⟨rfl,rfl⟩;rw[d.o])|(go_at_call_of 74 (Value.int IntKind.i64 y);refine (Ku _ _ _ _ _ _).mono ?_;rintro e w' ⟨rfl,rfl⟩;rw[j.o]))
 all_goals
  go_wp2_with (go_at_call 74;refine (Ku _ _ _ _ _ _).mono ?_;rintro e w' ⟨rfl,rfl⟩;rw[d.o])
  go_ret
  exact⟨rfl,by repeat (first|exact Jj _ _|refine Below.drew ?_|refine Ou ?_ _)⟩
theorem XQ (x y:Int)(xn yn:Bool)(pa:Option Addr)(la ca:Nat)(pb:Option Addr)(lb cb:Nat)(w:World)(hz:((la:Int)==0)=false)(ha:Rg x xn la=false)(hb:Rg y yn lb=true) :
 Calls prog 109 #[.agg #[.int .i64 x,.bool xn,.slice pa la ca],.agg #[.int .i64 y,.bool yn,.slice pb lb cb]] w fun e w'=>e=.returned (.int .i64 (1))/\Up w w':=by
 have d:=Hd ha;have j:=Hd hb;clear ha hb
 go_in
 go_wp2_with (go_at_call 106;refine (O0 _ _ _ _ _ _).mono ?_;rintro e w' ⟨rfl,rfl⟩)
 go_region_with (first|(go_at_call_of 74 (Value.int IntKind.i64 x);refine (Ku _ _ _ _ _ _).mono ?_;rintro e w' ⟨rfl,rfl⟩;rw[d.o])|(go_at_call_of 74 (Value.int IntKind.i64 y);refine (Ku _ _ _ _ _ _).mono ?_;rintro e w' ⟨rfl,rfl⟩;rw[j.o]))
 all_goals
  go_wp2_with (go_at_call 74;refine (Ku _ _ _ _ _ _).mono ?_;rintro e w' ⟨rfl,rfl⟩;rw[d.o])
  go_ret
  exact⟨rfl,by repeat (first|exact Jj _ _|refine Below.drew ?_|refine Ou ?_ _)⟩
theorem XM (x y:Int)(xn yn:Bool)(pa:Option Addr)(la ca:Nat)(pb:Option Addr)(lb cb:Nat)(w:World)(hz:((la:Int)==0)=true)(hz2:((lb:Int)==0)=false)(ha:Rg x xn la=true)(hb:Rg y yn lb=false) :
 Calls prog 109 #[.agg #[.int .i64 x,.bool xn,.slice pa la ca],.agg #[.int .i64 y,.bool yn,.slice pb lb cb]] w fun e w'=>e=.returned (.int .i64 (-1))/\Up w w':=by
 have d:=Hd ha;have j:=Hd hb;clear ha hb
 go_in
 go_wp2_with (go_at_call 106;refine (O0 _ _ _ _ _ _).mono ?_;rintro e w' ⟨rfl,rfl⟩)
 go_region_with (first|(go_at_call_of 74 (Value.int IntKind.i64 x);refine (Ku _ _ _ _ _ _).mono ?_;rintro e w' ⟨rfl,rfl⟩;rw[d.o])|(go_at_call_of 74 (Value.int IntKind.i64 y);refine (Ku _ _ _ _ _ _).mono ?_;rintro e w' ⟨rfl,rfl⟩;rw[j.o]))
 all_goals
  go_wp2_with (go_at_call 74;refine (Ku _ _ _ _ _ _).mono ?_;rintro e w' ⟨rfl,rfl⟩;rw[d.o])
  go_ret
  exact⟨rfl,by repeat (first|exact Jj _ _|refine Below.drew ?_|refine Ou ?_ _)⟩
theorem XR (x y:Int)(xn yn:Bool)(pa:Option Addr)(la ca:Nat)(pb:Option Addr)(lb cb:Nat)(w:World)(hz:((la:Int)==0)=true)(hz2:((lb:Int)==0)=false)(ha:Rg x xn la=false)(hb:Rg y yn lb=true) :
 Calls prog 109 #[.agg #[.int .i64 x,.bool xn,.slice pa la ca],.agg #[.int .i64 y,.bool yn,.slice pb lb cb]] w fun e w'=>e=.returned (.int .i64 (1))/\Up w w':=by
 have d:=Hd ha;have j:=Hd hb;clear ha hb
 go_in
 go_wp2_with (go_at_call 106;refine (O0 _ _ _ _ _ _).mono ?_;rintro e w' ⟨rfl,rfl⟩)
 go_region_with (first|(go_at_call_of 74 (Value.int IntKind.i64 x);refine (Ku _ _ _ _ _ _).mono ?_;rintro e w' ⟨rfl,rfl⟩;rw[d.o])|(go_at_call_of 74 (Value.int IntKind.i64 y);refine (Ku _ _ _ _ _ _).mono ?_;rintro e w' ⟨rfl,rfl⟩;rw[j.o]))
 all_goals
  go_wp2_with (go_at_call 74;refine (Ku _ _ _ _ _ _).mono ?_;rintro e w' ⟨rfl,rfl⟩;rw[d.o])
  go_ret
  exact⟨rfl,by repeat (first|exact Jj _ _|refine Below.drew ?_|refine Ou ?_ _)⟩
theorem XP (B:Nat)(x y:Int)(xn yn:Bool)(pa:Option Addr)(la ca:Nat)(pb:Option Addr)(lb cb:Nat)(na nb:Bool)(a b:List Nat)(w:World)(hBw:B<=w.heap.size)(hz:((la:Int)==0)=false)
 (hza:Ej B w (.agg #[.int .i64 x,.bool xn,.slice pa la ca]) na a) (hzb:Ej B w (.agg #[.int .i64 y,.bool yn,.slice pb lb cb]) nb b) (ha:Rg x xn la=false) (hb:Rg y yn lb=false) :
 Calls prog 109 #[.agg #[.int .i64 x,.bool xn,.slice pa la ca],.agg #[.int .i64 y,.bool yn,.slice pb lb cb]] w fun e w'=>e=.returned (.int .i64 (En a b))/\Up w w':=by
 have T:=Hd ha;have b6:=Hd hb;obtain⟨D,d⟩:=O2 ((w.alloc (.cells #[.int .i64 x,.bool xn,.slice pa la ca] 72)).alloc (.cells #[.int .i64 y,.bool yn,.slice pb lb cb] 72));have b9:=Hd d;have H:Up w D:=by rw[<-d];exact ((Jj _ w).alloc O1 _).alloc (by simp) _
 have a8:D.heap.size=w.heap.size+2:=by rw[<-d];simp
 have F:w.heap.size<D.heap.size:=by omega
 have G:w.heap.size+1<D.heap.size:=by omega
 have b4:=Hd H;have V:=Hd a8;have c7:Hid (∀ W,Up D W->Ej B W (.agg #[.int .i64 x,.bool xn,.slice pa la ca]) na a):=fun W hW=>(hza.bl H).bl hW;have c8:Hid (∀ W,Up D W->Ej B W (.agg #[.int .i64 y,.bool yn,.slice pb lb cb]) nb b):=fun W hW=>(hzb.bl H).bl hW;have HX:Hid (∀ W,Up D W->(W.cell? ⟨w.heap.size,0,none⟩=some (.int .i64 x)/\W.cell? ⟨w.heap.size,1,none⟩=some (.bool xn)/\W.cell? ⟨w.heap.size,2,none⟩=some (.slice pa la ca)) /\
  (W.cell? ⟨w.heap.size+1,0,none⟩=some (.int .i64 y)/\W.cell? ⟨w.heap.size+1,1,none⟩=some (.bool yn)/\W.cell? ⟨w.heap.size+1,2,none⟩=some (.slice pb lb cb))):=fun W hW=>by
  refine⟨⟨?_,?_,?_⟩,?_,?_,?_⟩
  ·rw[hW.cell (p:=⟨w.heap.size,0,none⟩) F,<-d,Jk _ _ _ (by simp),Jg _ _ _ _ rfl];rfl
  ·rw[hW.cell (p:=⟨w.heap.size,1,none⟩) F,<-d,Jk _ _ _ (by simp),Jg _ _ _ _ rfl];rfl
  ·rw[hW.cell (p:=⟨w.heap.size,2,none⟩) F,<-d,Jk _ _ _ (by simp),Jg _ _ _ _ rfl];rfl
  ·rw[hW.cell (p:=⟨w.heap.size+1,0,none⟩) G,<-d,Jg _ _ _ _ (by simp)];rfl
  ·rw[hW.cell (p:=⟨w.heap.size+1,1,none⟩) G,<-d,Jg _ _ _ _ (by simp)];rfl
  rw[hW.cell (p:=⟨w.heap.size+1,2,none⟩) G,<-d,Jg _ _ _ _ (by simp)];rfl
 obtain⟨W1,J⟩:=O2 (((D.alloc (.cells #[.int .i64 x,.bool xn,.slice pa la ca] 72)).alloc (.cells #[.int .i64 x,.bool xn,.slice pa la ca] 72)).alloc (.cells #[.int .i64 y,.bool yn,.slice pb lb cb] 72));have c6:=Hd J;have j:Hid (Up D W1):=by rw[<-J];exact Ou (Ou (Ou (Jj _ _) _) _) _
 clear J;obtain⟨⟨u0,u1,u2⟩,v0,v1,v2⟩:=HX.o D (Jj _ _);obtain⟨c,hc⟩:=O2 (En a b);have HC:=Hd hc;have d5 : -1<=c/\c<=1:=by rw[<-hc];exact Hs a b
 obtain⟨e3,e4⟩:=d5;clear ha hb hza hzb H a8 d hc
 go_in
 go_wp2_with fail
 rw[b9.o];refine (O0 _ _ _ _ _ _).mono ?_;rintro e w' ⟨rfl,rfl⟩
 go_wp2_with (go_at_call 106;refine (O0 _ _ _ _ _ _).mono ?_;rintro e w' ⟨rfl,rfl⟩)
 go_region_with (first|(go_at_call_of 74 (Value.int IntKind.i64 x);refine (Ku _ _ _ _ _ _).mono ?_;rintro e w' ⟨rfl,rfl⟩;rw[T.o])|(go_at_call_of 74 (Value.int IntKind.i64 y);refine (Ku _ _ _ _ _ _).mono ?_;rintro e w' ⟨rfl,rfl⟩;rw[b6.o]))
 all_goals
  go_wp2
  simp only[Yg,Yb,J0,Act.put,Ja,Jb,Jc];rw[c6.o];clear u0 u1 u2 v0 v1 v2;obtain⟨⟨u0,u1,u2⟩,v0,v1,v2⟩:=HX.o W1 j.o
  go_region_with (first
   | (go_at_call_of 73 (Value.int IntKind.i64 x);refine (Kc B _ na a _ (c7.o _ ?_) ?_).mono ?_
      ·exact j.o.drew.drew
      ·have:=j.o.size;have:=V.o;show B<=W1.heap.size;omega
      rintro e wa ⟨va,rfl,a6,Y⟩;have I:Up D wa:=j.o.drew.drew.trans (Y.mono j.o.size);obtain⟨⟨a0,a1,a2⟩,b0,b1,b2⟩:=HX.o wa I;have b7:=Hd a6;have E:Hid (Up D wa):=I;clear a6 Y I)
   | (go_at_call_of 73 (Value.int IntKind.i64 y);refine (Kc B _ nb b _ (c8.o _ ?_) ?_).mono ?_
      ·exact E.o
      ·have:=E.o.size;have:=V.o;omega
      rintro e wb ⟨vb,rfl,a7,K⟩;have b5:=E.up K;have b8:=Hd a7;have U:Hid (Kn B wb va a):=b7.o.bl K;clear a7 K)
   | (go_at_call 149;refine (Et B va vb a b _ U.o b8.o).mono ?_
      rintro e wc ⟨rfl,Z⟩;have O:=b5.up Z;obtain⟨⟨c0,c1,c2⟩,d0,d1,d2⟩:=HX.o wc O.o;rw[HC.o];clear Z))
  all_goals
   simp only[Yg,Yb,J0,Act.put,Ja,Jb,Jc]
   go_wp2_with (go_at_call 74;refine (Ku _ _ _ _ _ _).mono ?_;rintro e w' ⟨rfl,rfl⟩;rw[T.o])
   go_ret
   exact⟨Kw (by rw[HC.o]),Ou (b4.o.trans (O.o.mono (by omega))) _⟩
theorem XD (B:Nat)(x y:Int)(xn yn:Bool)(pa:Option Addr)(la ca:Nat)(pb:Option Addr)(lb cb:Nat)(na nb:Bool)(a b:List Nat)(w:World)(hBw:B<=w.heap.size)(hz:((la:Int)==0)=false)
 (hza:Ej B w (.agg #[.int .i64 x,.bool xn,.slice pa la ca]) na a) (hzb:Ej B w (.agg #[.int .i64 y,.bool yn,.slice pb lb cb]) nb b) (ha:Rg x xn la=true) (hb:Rg y yn lb=true) :
 Calls prog 109 #[.agg #[.int .i64 x,.bool xn,.slice pa la ca],.agg #[.int .i64 y,.bool yn,.slice pb lb cb]] w fun e w'=>e=.returned (.int .i64 (-En a b))/\Up w w':=by
 have T:=Hd ha;have b6:=Hd hb;obtain⟨D,d⟩:=O2 ((w.alloc (.cells #[.int .i64 x,.bool xn,.slice pa la ca] 72)).alloc (.cells #[.int .i64 y,.bool yn,.slice pb lb cb] 72));have b9:=Hd d;have H:Up w D:=by rw[<-d];exact ((Jj _ w).alloc O1 _).alloc (by simp) _
 have a8:D.heap.size=w.heap.size+2:=by rw[<-d];simp
 have F:w.heap.size<D.heap.size:=by omega
 have G:w.heap.size+1<D.heap.size:=by omega
 have b4:=Hd H;have V:=Hd a8;have c7:Hid (∀ W,Up D W->Ej B W (.agg #[.int .i64 x,.bool xn,.slice pa la ca]) na a):=fun W hW=>(hza.bl H).bl hW;have c8:Hid (∀ W,Up D W->Ej B W (.agg #[.int .i64 y,.bool yn,.slice pb lb cb]) nb b):=fun W hW=>(hzb.bl H).bl hW;have HX:Hid (∀ W,Up D W->(W.cell? ⟨w.heap.size,0,none⟩=some (.int .i64 x)/\W.cell? ⟨w.heap.size,1,none⟩=some (.bool xn)/\W.cell? ⟨w.heap.size,2,none⟩=some (.slice pa la ca)) /\
  (W.cell? ⟨w.heap.size+1,0,none⟩=some (.int .i64 y)/\W.cell? ⟨w.heap.size+1,1,none⟩=some (.bool yn)/\W.cell? ⟨w.heap.size+1,2,none⟩=some (.slice pb lb cb))):=fun W hW=>by
  refine⟨⟨?_,?_,?_⟩,?_,?_,?_⟩
  ·rw[hW.cell (p:=⟨w.heap.size,0,none⟩) F,<-d,Jk _ _ _ (by simp),Jg _ _ _ _ rfl];rfl
  ·rw[hW.cell (p:=⟨w.heap.size,1,none⟩) F,<-d,Jk _ _ _ (by simp),Jg _ _ _ _ rfl];rfl
  ·rw[hW.cell (p:=⟨w.heap.size,2,none⟩) F,<-d,Jk _ _ _ (by simp),Jg _ _ _ _ rfl];rfl
  ·rw[hW.cell (p:=⟨w.heap.size+1,0,none⟩) G,<-d,Jg _ _ _ _ (by simp)];rfl
  ·rw[hW.cell (p:=⟨w.heap.size+1,1,none⟩) G,<-d,Jg _ _ _ _ (by simp)];rfl
  rw[hW.cell (p:=⟨w.heap.size+1,2,none⟩) G,<-d,Jg _ _ _ _ (by simp)];rfl
 obtain⟨W1,J⟩:=O2 (((D.alloc (.cells #[.int .i64 x,.bool xn,.slice pa la ca] 72)).alloc (.cells #[.int .i64 x,.bool xn,.slice pa la ca] 72)).alloc (.cells #[.int .i64 y,.bool yn,.slice pb lb cb] 72));have c6:=Hd J;have j:Hid (Up D W1):=by rw[<-J];exact Ou (Ou (Ou (Jj _ _) _) _) _
 clear J;obtain⟨⟨u0,u1,u2⟩,v0,v1,v2⟩:=HX.o D (Jj _ _);obtain⟨c,hc⟩:=O2 (En a b);have HC:=Hd hc;have d5 : -1<=c/\c<=1:=by rw[<-hc];exact Hs a b
 obtain⟨e3,e4⟩:=d5;clear ha hb hza hzb H a8 d hc
 go_in
 go_wp2_with fail
 rw[b9.o];refine (O0 _ _ _ _ _ _).mono ?_;rintro e w' ⟨rfl,rfl⟩
 go_wp2_with (go_at_call 106;refine (O0 _ _ _ _ _ _).mono ?_;rintro e w' ⟨rfl,rfl⟩)
 go_region_with (first|(go_at_call_of 74 (Value.int IntKind.i64 x);refine (Ku _ _ _ _ _ _).mono ?_;rintro e w' ⟨rfl,rfl⟩;rw[T.o])|(go_at_call_of 74 (Value.int IntKind.i64 y);refine (Ku _ _ _ _ _ _).mono ?_;rintro e w' ⟨rfl,rfl⟩;rw[b6.o]))
 all_goals
  go_wp2
  simp only[Yg,Yb,J0,Act.put,Ja,Jb,Jc];rw[c6.o];clear u0 u1 u2 v0 v1 v2;obtain⟨⟨u0,u1,u2⟩,v0,v1,v2⟩:=HX.o W1 j.o
  go_region_with (first
   | (go_at_call_of 73 (Value.int IntKind.i64 x);refine (Kc B _ na a _ (c7.o _ ?_) ?_).mono ?_
      ·exact j.o.drew.drew
      ·have:=j.o.size;have:=V.o;show B<=W1.heap.size;omega
      rintro e wa ⟨va,rfl,a6,Y⟩;have I:Up D wa:=j.o.drew.drew.trans (Y.mono j.o.size);obtain⟨⟨a0,a1,a2⟩,b0,b1,b2⟩:=HX.o wa I;have b7:=Hd a6;have E:Hid (Up D wa):=I;clear a6 Y I)
   | (go_at_call_of 73 (Value.int IntKind.i64 y);refine (Kc B _ nb b _ (c8.o _ ?_) ?_).mono ?_
      ·exact E.o
      ·have:=E.o.size;have:=V.o;omega
      rintro e wb ⟨vb,rfl,a7,K⟩;have b5:=E.up K;have b8:=Hd a7;have U:Hid (Kn B wb va a):=b7.o.bl K;clear a7 K)
   | (go_at_call 149;refine (Et B va vb a b _ U.o b8.o).mono ?_
      rintro e wc ⟨rfl,Z⟩;have O:=b5.up Z;obtain⟨⟨c0,c1,c2⟩,d0,d1,d2⟩:=HX.o wc O.o;rw[HC.o];clear Z))
  all_goals
   simp only[Yg,Yb,J0,Act.put,Ja,Jb,Jc]
   go_wp2_with (go_at_call 74;refine (Ku _ _ _ _ _ _).mono ?_;rintro e w' ⟨rfl,rfl⟩;rw[T.o])
   go_ret
   exact⟨Kw (by rw[HC.o]),Ou (b4.o.trans (O.o.mono (by omega))) _⟩
theorem XC (B:Nat)(x y:Int)(xn yn:Bool)(pa:Option Addr)(la ca:Nat)(pb:Option Addr)(lb cb:Nat)(na nb:Bool)(a b:List Nat)(w:World)(hBw:B<=w.heap.size)(hz:((la:Int)==0)=true)(hz2:((lb:Int)==0)=false)
 (hza:Ej B w (.agg #[.int .i64 x,.bool xn,.slice pa la ca]) na a) (hzb:Ej B w (.agg #[.int .i64 y,.bool yn,.slice pb lb cb]) nb b) (ha:Rg x xn la=false) (hb:Rg y yn lb=false) :
 Calls prog 109 #[.agg #[.int .i64 x,.bool xn,.slice pa la ca],.agg #[.int .i64 y,.bool yn,.slice pb lb cb]] w fun e w'=>e=.returned (.int .i64 (En a b))/\Up w w':=by
 have T:=Hd ha;have b6:=Hd hb;obtain⟨D,d⟩:=O2 ((w.alloc (.cells #[.int .i64 x,.bool xn,.slice pa la ca] 72)).alloc (.cells #[.int .i64 y,.bool yn,.slice pb lb cb] 72));have b9:=Hd d;have H:Up w D:=by rw[<-d];exact ((Jj _ w).alloc O1 _).alloc (by simp) _
 have a8:D.heap.size=w.heap.size+2:=by rw[<-d];simp
 have F:w.heap.size<D.heap.size:=by omega
 have G:w.heap.size+1<D.heap.size:=by omega
 have b4:=Hd H;have V:=Hd a8;have c7:Hid (∀ W,Up D W->Ej B W (.agg #[.int .i64 x,.bool xn,.slice pa la ca]) na a):=fun W hW=>(hza.bl H).bl hW;have c8:Hid (∀ W,Up D W->Ej B W (.agg #[.int .i64 y,.bool yn,.slice pb lb cb]) nb b):=fun W hW=>(hzb.bl H).bl hW;have HX:Hid (∀ W,Up D W->(W.cell? ⟨w.heap.size,0,none⟩=some (.int .i64 x)/\W.cell? ⟨w.heap.size,1,none⟩=some (.bool xn)/\W.cell? ⟨w.heap.size,2,none⟩=some (.slice pa la ca)) /\
  (W.cell? ⟨w.heap.size+1,0,none⟩=some (.int .i64 y)/\W.cell? ⟨w.heap.size+1,1,none⟩=some (.bool yn)/\W.cell? ⟨w.heap.size+1,2,none⟩=some (.slice pb lb cb))):=fun W hW=>by
  refine⟨⟨?_,?_,?_⟩,?_,?_,?_⟩
  ·rw[hW.cell (p:=⟨w.heap.size,0,none⟩) F,<-d,Jk _ _ _ (by simp),Jg _ _ _ _ rfl];rfl
  ·rw[hW.cell (p:=⟨w.heap.size,1,none⟩) F,<-d,Jk _ _ _ (by simp),Jg _ _ _ _ rfl];rfl
  ·rw[hW.cell (p:=⟨w.heap.size,2,none⟩) F,<-d,Jk _ _ _ (by simp),Jg _ _ _ _ rfl];rfl
  ·rw[hW.cell (p:=⟨w.heap.size+1,0,none⟩) G,<-d,Jg _ _ _ _ (by simp)];rfl
  ·rw[hW.cell (p:=⟨w.heap.size+1,1,none⟩) G,<-d,Jg _ _ _ _ (by simp)];rfl
  rw[hW.cell (p:=⟨w.heap.size+1,2,none⟩) G,<-d,Jg _ _ _ _ (by simp)];rfl
 obtain⟨W1,J⟩:=O2 ((((D.alloc (.cells #[.int .i64 x,.bool xn,.slice pa la ca] 72)).alloc (.cells #[.int .i64 y,.bool yn,.slice pb lb cb] 72)).alloc (.cells #[.int .i64 x,.bool xn,.slice pa la ca] 72)).alloc (.cells #[.int .i64 y,.bool yn,.slice pb lb cb] 72));have c6:=Hd J;have j:Hid (Up D W1):=by rw[<-J];exact Ou (Ou (Ou (Ou (Jj _ _) _) _) _) _
 clear J;obtain⟨⟨u0,u1,u2⟩,v0,v1,v2⟩:=HX.o D (Jj _ _);obtain⟨c,hc⟩:=O2 (En a b);have HC:=Hd hc;have d5 : -1<=c/\c<=1:=by rw[<-hc];exact Hs a b
 obtain⟨e3,e4⟩:=d5;clear ha hb hza hzb H a8 d hc
 go_in
 go_wp2_with fail
 rw[b9.o];refine (O0 _ _ _ _ _ _).mono ?_;rintro e w' ⟨rfl,rfl⟩
 go_wp2_with (go_at_call 106;refine (O0 _ _ _ _ _ _).mono ?_;rintro e w' ⟨rfl,rfl⟩)
 go_region_with (first|(go_at_call_of 74 (Value.int IntKind.i64 x);refine (Ku _ _ _ _ _ _).mono ?_;rintro e w' ⟨rfl,rfl⟩;rw[T.o])|(go_at_call_of 74 (Value.int IntKind.i64 y);refine (Ku _ _ _ _ _ _).mono ?_;rintro e w' ⟨rfl,rfl⟩;rw[b6.o]))
 all_goals
  go_wp2
  simp only[Yg,Yb,J0,Act.put,Ja,Jb,Jc];rw[c6.o];clear u0 u1 u2 v0 v1 v2;obtain⟨⟨u0,u1,u2⟩,v0,v1,v2⟩:=HX.o W1 j.o
  go_region_with (first
   | (go_at_call_of 73 (Value.int IntKind.i64 x);refine (Kc B _ na a _ (c7.o _ ?_) ?_).mono ?_
      ·exact j.o.drew.drew
      ·have:=j.o.size;have:=V.o;show B<=W1.heap.size;omega
      rintro e wa ⟨va,rfl,a6,Y⟩;have I:Up D wa:=j.o.drew.drew.trans (Y.mono j.o.size);obtain⟨⟨a0,a1,a2⟩,b0,b1,b2⟩:=HX.o wa I;have b7:=Hd a6;have E:Hid (Up D wa):=I;clear a6 Y I)
   | (go_at_call_of 73 (Value.int IntKind.i64 y);refine (Kc B _ nb b _ (c8.o _ ?_) ?_).mono ?_
      ·exact E.o
      ·have:=E.o.size;have:=V.o;omega
      rintro e wb ⟨vb,rfl,a7,K⟩;have b5:=E.up K;have b8:=Hd a7;have U:Hid (Kn B wb va a):=b7.o.bl K;clear a7 K)
   | (go_at_call 149;refine (Et B va vb a b _ U.o b8.o).mono ?_
      rintro e wc ⟨rfl,Z⟩;have O:=b5.up Z;obtain⟨⟨c0,c1,c2⟩,d0,d1,d2⟩:=HX.o wc O.o;rw[HC.o];clear Z))
  all_goals
   simp only[Yg,Yb,J0,Act.put,Ja,Jb,Jc]
   go_wp2_with (go_at_call 74;refine (Ku _ _ _ _ _ _).mono ?_;rintro e w' ⟨rfl,rfl⟩;rw[T.o])
   go_ret
   exact⟨Kw (by rw[HC.o]),Ou (b4.o.trans (O.o.mono (by omega))) _⟩
end Go.Proofs.YtjjgilacnocigaaGreatDoor.Q
