import Derived.Test.YtjjgilacnocigaaGreatDoorP13
set_option maxRecDepth 100000
set_option maxHeartbeats 2000000
namespace Go.Proofs.YtjjgilacnocigaaGreatDoor.Q
open ChangeShapes WideShapes ChangeAt RowKit
def PG (z:Value):Prop:=∃ s1 p1 l1 c1 s2 p2 l2 c2,z=.agg #[.bool s1,.slice p1 l1 c1,.bool s2,.slice p2 l2 c2]
def Hx (B:Nat)(w:World)(s:ByteArray)(k:Option Nat)(z:Value)(ok:Bool):Prop:=
 PG z/\(ok=true↔∃ x y,Qx s k x y)/\(ok=true->∃ x y,Qx s k x y/\Ip B w z x y 300)
theorem Ip.mono {B B':Nat}{w:World}{z:Value}{x y:Int}{n n':Nat}(h:Ip B w z x y n)(hb:B'<=B)(hn:n<=n'):Ip B' w z x y n':=by
 obtain⟨D,F,E,v2,e,d,j⟩:=h;exact⟨D,F,E,v2,e,d.mono hb hn,j.mono hb hn⟩
theorem Ip.put4 {B:Nat}{W:World}{z:Value}{x y:Int}{n:Nat}(h:Ip B W z x y n){g:Nat}(no:Kh W g)(u0 u1 u2 u3:Value):Ip B ((((W.setCell ⟨g,0,none⟩ u0).setCell ⟨g,1,none⟩ u1).setCell ⟨g,2,none⟩ u2).setCell ⟨g,3,none⟩ u3) z x y n:=by
 obtain⟨D,F,E,v2,e,d,j⟩:=h;exact⟨D,F,E,v2,e,d.put4 no u0 u1 u2 u3,j.put4 no u0 u1 u2 u3⟩
theorem FR (B:Nat)(W:World)(s p q u v:ByteArray)(i:Nat)(b bb ok:Bool)(z:Value)(xn xd:Int)(hP:Il s (some i)=p/\Hp s (some i)=q/\(some i).isSome=b)(hI:Ow p=true/\Ow q=true)(h0:K9 q≠0)(hl:N9 (K9 p) (K9 q) xn xd)
 (hu:Ec xn u/\(if xd=1 then bb=false/\v=⟨#[]⟩ else bb=true/\Ec xd v)) (hok:(u.toList==p.toList&&bb==b&&v.toList==q.toList)=ok) (hR:Ip B W z xn xd 283):Hx B W s (some i) z ok:=by
 obtain⟨rfl,rfl,J⟩:=hP;have D:b=true:=J.symm;subst D;have key:ok=true↔(xd≠1/\Ec xn (Il s (some i))/\Ec xd (Hp s (some i))):=by
  rw[<-hok,toList_inj,toList_inj];simp only[Yd,Y7,Jw];constructor
  ·rintro⟨⟨rfl,rfl⟩,rfl⟩
   by_cases d:xd=1
   ·rw[if_pos d] at hu;exact absurd hu.2.1 (by decide)
   rw[if_neg d] at hu;exact⟨d,hu.1,hu.2.2⟩
  rintro⟨d,I,h3⟩;rw[if_neg d] at hu;exact⟨⟨hu.1.eq I,hu.2.1⟩,hu.2.2.eq h3⟩
 have j:=FQ _ _ xn xd hI.1 hI.2 h0 hl;have F:ok=true->Qx s (some i) (K9 (Il s (some i))) (K9 (Hp s (some i))):=fun e=>by
  obtain⟨a1,a2,a3,a4⟩:=j.1 (key.1 e);exact⟨hI,⟨h0,a1,a2,a3,a4⟩,rfl,rfl⟩
 have E:PG z:=by
  obtain⟨V,T,K,c1,Y,U,O,c2,h,_⟩:=hR.shape;exact⟨V,T,K,c1,Y,U,O,c2,h⟩
 refine⟨E,⟨fun e=>⟨_,_,F e⟩,?_⟩,fun e=>?_⟩
 ·rintro⟨x,y,_,⟨_,a1,a2,a3,a4⟩,_,_⟩;exact key.2 (j.2 ⟨a1,a2,a3,a4⟩)
 obtain⟨_,t1,t2⟩:=key.1 e;have G:=Ca t1 (Nk _ hI.1) (Cs _ hI.1);have H:=Ca t2 (Nk _ hI.2) (Cs _ hI.2);refine⟨_,_,F e,?_⟩;rw[<-G,<-H];exact hR.mono O1 (by omega)
end Go.Proofs.YtjjgilacnocigaaGreatDoor.Q
namespace Go.Proofs.YtjjgilacnocigaaGreatDoor.Q
open ChangeShapes WideShapes ChangeAt RowKit Proofs.Tryz
theorem IP (s:ByteArray)(k:Option Nat):(Il s k).size<=s.size:=by
 cases k with
 | none=>exact O1
 | some i=>show (s.extract 0 i).size<=s.size;rw[Yj];omega
theorem ID (s:ByteArray)(k:Option Nat):(Hp s k).size<=s.size:=by
 cases k with
 | none=>exact J7 _
 | some i=>show (s.extract (i+1) s.size).size<=s.size;rw[Yj];omega
theorem Fg (s:ByteArray)(k:Option Nat)(w:World)(hs:s.size<=maxLen)(hk:Nq s k)(hSP:SP w)(hNS:NS w)(hLT:LT w) :
 Calls prog 48 #[.string s] w fun e w'=>∃ z ok,e=.returned (.tuple #[z,.bool ok])/\Hx w.heap.size w' s k z ok/\Up w w':=by
 have HK:=Hd hk;have n8:=Hd hSP;have q8:=Hd hNS;have q7:=Hd hLT;clear hk hSP hNS hLT;obtain⟨p,hp⟩:=O2 (Il s k);obtain⟨q,hq⟩:=O2 (Hp s k);obtain⟨b,hb⟩:=O2 k.isSome;have HP:Hid (Il s k=p/\Hp s k=q/\k.isSome=b):=⟨hp,hq,hb⟩;have o6:p.size<=maxLen:=by rw[<-hp];exact Yt (IP s k) hs
 have o7:q.size<=maxLen:=by rw[<-hq];exact Yt (ID s k) hs
 have f5:Hid (s.size<=maxLen/\p.size<=maxLen/\q.size<=maxLen):=⟨hs,o6,o7⟩;clear hp hq hb o6 o7;obtain⟨W0,g5⟩:=O2 (w.alloc (.cells #[.bool false,.slice none 0 0,.bool false,.slice none 0 0] 89));have r4:=Hd g5;have F:Hid (Up w W0):=by unfold Hid;rw[<-g5];exact Oo _ _
 have l3:Bx W0 w.heap.size [.bool false,.slice none 0 0,.bool false,.slice none 0 0]:=by rw[<-g5];exact Ox w _ _
 have HX:Hid (∀ W,Up W0 W->Bx W w.heap.size [.bool false,.slice none 0 0,.bool false,.slice none 0 0]):=fun W hW=>l3.bl l3.lt hW;clear g5 l3
 go_in
 go_wp2_with fail
 rw[r4.o];refine (OM s k _ f5.o.1 HK.o).mono ?_;rintro e w1 ⟨rfl,g7⟩;rw[HP.o.1,HP.o.2.1,HP.o.2.2];obtain⟨W2,b7⟩:=O2 ((w1.alloc (.cells #[.string p,.bool b,.string q] 135)).alloc (.cells #[.string p,.bool false,.string ⟨#[]⟩] 135));have r5:=Hd b7;have j3:Up w1 W2:=by rw[<-b7];exact Ou (Oo _ _) _
 have g8:Bx W2 w1.heap.size [.string p,.bool b,.string q]:=by rw[<-b7];exact (Ox w1 _ _).alloc _
 have o4:Bx W2 (w1.heap.size+1) [.string p,.bool false,.string ⟨#[]⟩]:=by
  rw[<-b7];have h:=Ox (w1.alloc (.cells #[.string p,.bool b,.string q] 135)) [.string p,.bool false,.string ⟨#[]⟩] 135;rw[J4] at h;exact h
 have I:Hid (Up W0 W2):=g7.trans (j3.mono g7.size);have m7:Hid (∀ W,Up W2 W->Bx W w1.heap.size [.string p,.bool b,.string q]):=fun W hW=>g8.bl g8.lt hW;have x3:w.heap.size<w1.heap.size:=by have:=g7.size;have:=(HX.o W0 (Jj _ _)).lt;omega
 clear b7 j3 g7;obtain⟨k0,k1,k2⟩:=g8.k3;obtain⟨j0,j1,j2⟩:=o4.k3;clear g8 o4
 go_upto_region 3 with fail
 rw[r5.o];have G:Hid (Up w W2):=F.o.trans (I.o.mono F.o.size)
 cases k with
 | none=>
   have h7:∀ W,(Op.equalIn 10000 135 (.agg #[.string p,.bool b,.string q]) (.agg #[.string p,.bool false,.string ⟨#[]⟩])).run prog W=.ok true W:=fun W=>by
    rw[KV,<-HP.o.2.1,<-HP.o.2.2];have:(Hp s none).toList=(⟨#[]⟩:ByteArray).toList:=rfl;rw[this];simp
   have n6:Hid (p=s):=HP.o.1.symm
   go_wp2_with fail
   refine (Ig p _ f5.o.2.1).mono ?_;rintro e K ⟨n,a,l,c,rfl,hI,c7⟩;have HI:=Hd hI;have Y:=Hd c7;obtain⟨ok,E⟩:=O2 (Ow p);have b5:=Hd E;rw[E];clear hI c7 E k0 k1 k2 j0 j1 j2 h7
   go_wp2_with fail
   refine (Cj n a l c _).mono ?_;rintro e w4 ⟨s2,p2,l2,c2,rfl,j6,o2⟩;have c8:Up K w4:=(Oo K _).trans (o2.mono (by simp));have p9:=Y.up c8;have j:Hid (Up W0 w4):=I.o.trans (p9.o.mono I.o.size);have n5:Hid (N8 w.heap.size w4 (.agg #[.bool s2,.slice p2 l2 c2]) 1 300):=j6.mono (by have:=G.o.size;have:=Y.o.size;simp;omega) (by omega);have b4:Hid (ok=true->N8 w.heap.size w4 (.agg #[.bool n,.slice a l c]) (K9 s) 300):=fun e=>by
    have hi:Ow p=true:=b5.o.trans e;obtain⟨hn,hL⟩:=HI.o hi;have V:N8 W2.heap.size K (.agg #[.bool n,.slice a l c]) (K9 p) 280:=⟨Ki p,_,Rf p,by rw[hn];rfl,hL,O8 _,rfl,Qv p hi⟩;rw[n6.o] at V;exact (V.bl c8).mono G.o.size (by omega)
   have d:=HX.o w4 j.o;obtain⟨r0,r1,r2,r3⟩:=d.k4;obtain⟨f0,f1,f2,f3⟩:=d.f4;clear j6 o2 c8 d
   go_wp2
   have d:=HX.o w4 j.o;have h6:Kh w4 w.heap.size:=Ep d (by simp);have hE:=RK (F.o.trans (j.o.mono F.o.size)) w.heap.size O1 (.bool n) (.slice a l c) (.bool s2) (.slice p2 l2 c2);have V:=n5.o.put4 h6 (.bool n) (.slice a l c) (.bool s2) (.slice p2 l2 c2);have h2:=fun e=>(b4.o e).put4 h6 (.bool n) (.slice a l c) (.bool s2) (.slice p2 l2 c2);have hZ:Bx ((((w4.setCell ⟨w.heap.size,0,none⟩ (.bool n)).setCell ⟨w.heap.size,1,none⟩ (.slice a l c)).setCell ⟨w.heap.size,2,none⟩ (.bool s2)).setCell ⟨w.heap.size,3,none⟩ (.slice p2 l2 c2)) w.heap.size [.bool n,.slice a l c,.bool s2,.slice p2 l2 c2]:=(((d.set 0 _).set 1 _).set 2 _).set 3 _;generalize (((w4.setCell ⟨w.heap.size,0,none⟩ (.bool n)).setCell ⟨w.heap.size,1,none⟩ (.slice a l c)).setCell ⟨w.heap.size,2,none⟩ (.bool s2)).setCell ⟨w.heap.size,3,none⟩ (.slice p2 l2 c2)=WE at *;obtain⟨m0,m1,m2,m3⟩:=hZ.k4;have s4:Hx w.heap.size WE s none (.agg #[.bool n,.slice a l c,.bool s2,.slice p2 l2 c2]) ok:=by
    have k9:Ow s=ok:=by rw[<-n6.o];exact b5.o
    refine⟨⟨n,a,l,c,s2,p2,l2,c2,rfl⟩,?_,?_⟩
    ·constructor
     ·intro e;exact⟨K9 s,1,k9.trans e,rfl,rfl⟩
     rintro⟨x,y,h,_⟩;rw[<-k9];exact h
    intro e;exact⟨K9 s,1,⟨k9.trans e,rfl,rfl⟩,n,_,s2,_,rfl,h2 e,V⟩
   refine Jh (v:=.tuple #[.agg #[.bool n,.slice a l c,.bool s2,.slice p2 l2 c2],.bool ok]) ?_ rfl ⟨_,ok,rfl,s4,hE⟩;simp[results,results48,go_sem,m0,m1,m2,m3]
 | some i=>
   have h7:∀ W,(Op.equalIn 10000 135 (.agg #[.string p,.bool b,.string q]) (.agg #[.string p,.bool false,.string ⟨#[]⟩])).run prog W=.ok false W:=fun W=>by
    rw[KV,<-HP.o.2.2];simp
   go_wp2_with fail
   refine (Wu p q _ f5.o.2.1 f5.o.2.2).mono ?_;rintro e K ⟨n1,a1,l1,c1,n2,a2,l2,c2,rfl,o0,o1,c7⟩;have q6:=Hd o0;have m8:=Hd o1;have Y:=Hd c7;obtain⟨ok,E⟩:=O2 (Ow p&&Ow q);have b5:=Hd E;rw[E];clear o0 o1 c7 E j0 j1 j2 h7;obtain⟨W4,b8⟩:=O2 ((K.alloc (.cells #[.bool n1,.slice a1 l1 c1] 85)).alloc (.cells #[.bool n2,.slice a2 l2 c2] 85));have r6:=Hd b8;have f9:Up K W4:=by rw[<-b8];exact Ou (Oo _ _) _
   have l0:Bx W4 K.heap.size [.bool n1,.slice a1 l1 c1]:=by rw[<-b8];exact (Ox K _ _).alloc _
   have h0:Bx W4 (K.heap.size+1) [.bool n2,.slice a2 l2 c2]:=by
    rw[<-b8];have h:=Ox (K.alloc (.cells #[.bool n1,.slice a1 l1 c1] 85)) [.bool n2,.slice a2 l2 c2] 85;rw[J4] at h;exact h
   have HN:Hid (∀ W,Up W4 W->Bx W K.heap.size [.bool n1,.slice a1 l1 c1]/\Bx W (K.heap.size+1) [.bool n2,.slice a2 l2 c2]):=fun W hW=>⟨l0.bl l0.lt hW,h0.bl h0.lt hW⟩;have i8:=Hd f9;have j:Hid (Up W0 W4):=I.o.trans ((Y.o.trans (f9.mono Y.o.size)).mono I.o.size);have i6:=Y.up f9;obtain⟨d0,d1⟩:=h0.k2;clear b8 f9 l0 h0
   go_upto_region 7 with fail
   rw[r6.o];clear k0 k1 k2
   cases ok
   ·have j7:Hid (∀ x y,¬ Qx s (some i) x y):=fun x y h=>by
     have V:=h.1.1;have h2:=h.1.2;rw[HP.o.1] at V;rw[HP.o.2.1] at h2;have:=b5.o;rw[V,h2] at this
     cases this
    have d:=HX.o W4 j.o;obtain⟨r0,r1,r2,r3⟩:=d.k4;obtain⟨f0,f1,f2,f3⟩:=d.f4;clear d
    go_wp2
    have d:=HX.o W4 j.o;have hE:=RK (F.o.trans (j.o.mono F.o.size)) w.heap.size O1 (.bool false) (.slice none 0 0) (.bool false) (.slice none 0 0);have hZ:Bx ((((W4.setCell ⟨w.heap.size,0,none⟩ (.bool false)).setCell ⟨w.heap.size,1,none⟩ (.slice none 0 0)).setCell ⟨w.heap.size,2,none⟩ (.bool false)).setCell ⟨w.heap.size,3,none⟩ (.slice none 0 0)) w.heap.size [.bool false,.slice none 0 0,.bool false,.slice none 0 0]:=(((d.set 0 _).set 1 _).set 2 _).set 3 _;generalize (((W4.setCell ⟨w.heap.size,0,none⟩ (.bool false)).setCell ⟨w.heap.size,1,none⟩ (.slice none 0 0)).setCell ⟨w.heap.size,2,none⟩ (.bool false)).setCell ⟨w.heap.size,3,none⟩ (.slice none 0 0)=WE at *;obtain⟨m0,m1,m2,m3⟩:=hZ.k4;refine Jh (v:=.tuple #[.agg #[.bool false,.slice none 0 0,.bool false,.slice none 0 0],.bool false]) ?_ rfl ⟨_,false,rfl,⟨⟨false,none,0,0,false,none,0,0,rfl⟩,⟨(fun e=>by cases e),fun ⟨x,y,h⟩=>(j7.o x y h).elim⟩,(fun e=>by cases e)⟩,hE⟩;simp[results,results48,go_sem,m0,m1,m2,m3]
   have a6:Hid (Ow p=true/\Ow q=true):=by
    unfold Hid
    have:=b5.o
    simpa using this
   go_wp2_with fail
   refine (G2 _ _ _ _ _).mono ?_;rintro e w5 ⟨rfl,o8⟩;have T:Hid (Up W4 w5):=by unfold Hid;rw[o8];exact Oo _ _
   have a8:Hid (Up W0 w5):=j.o.trans (T.o.mono j.o.size);have o5:l2=(Rf q).length:=by
    obtain⟨_,hL⟩:=m8.o a6.o.2;obtain⟨_,_,e,_⟩:=hL;simp only[Value.slice.injEq] at e;exact e.2.1
   have m9:=Hd o5;clear o8 o5 d0 d1
   by_cases hz:l2=0
   ·have z:((l2:Int)==0)=true:=by rw[Jw];omega
    have j7:Hid (∀ x y,¬ Qx s (some i) x y):=fun x y h=>by
     have V:=h.2.1.1;rw[HP.o.2.1] at V;exact V ((Iy _ _ (O8 _)).2 (Jo (m9.o.symm.trans hz)))
    rw[z];have d:=HX.o w5 a8.o;obtain⟨r0,r1,r2,r3⟩:=d.k4;obtain⟨f0,f1,f2,f3⟩:=d.f4;clear d
    go_wp2
    have d:=HX.o w5 a8.o;have hE:=RK (F.o.trans (a8.o.mono F.o.size)) w.heap.size O1 (.bool false) (.slice none 0 0) (.bool false) (.slice none 0 0);have hZ:Bx ((((w5.setCell ⟨w.heap.size,0,none⟩ (.bool false)).setCell ⟨w.heap.size,1,none⟩ (.slice none 0 0)).setCell ⟨w.heap.size,2,none⟩ (.bool false)).setCell ⟨w.heap.size,3,none⟩ (.slice none 0 0)) w.heap.size [.bool false,.slice none 0 0,.bool false,.slice none 0 0]:=(((d.set 0 _).set 1 _).set 2 _).set 3 _;generalize (((w5.setCell ⟨w.heap.size,0,none⟩ (.bool false)).setCell ⟨w.heap.size,1,none⟩ (.slice none 0 0)).setCell ⟨w.heap.size,2,none⟩ (.bool false)).setCell ⟨w.heap.size,3,none⟩ (.slice none 0 0)=WE at *;obtain⟨m0,m1,m2,m3⟩:=hZ.k4;refine Jh (v:=.tuple #[.agg #[.bool false,.slice none 0 0,.bool false,.slice none 0 0],.bool false]) ?_ rfl ⟨_,false,rfl,⟨⟨false,none,0,0,false,none,0,0,rfl⟩,⟨(fun e=>by cases e),fun ⟨x,y,h⟩=>(j7.o x y h).elim⟩,(fun e=>by cases e)⟩,hE⟩;simp[results,results48,go_sem,m0,m1,m2,m3]
   have z:((l2:Int)==0)=false:=by rw[Jd];omega
   rw[z];have l4:=HN.o w5 T.o;obtain⟨d0,d1⟩:=l4.1.k2;obtain⟨d2,d3⟩:=l4.2.k2;clear l4;have i7:Hid (Up W2 w5):=i6.o.trans (T.o.mono i6.o.size);have b3:Hid (Up w w5):=G.o.trans (i7.o.mono G.o.size);have d4:Up K w5:=i8.o.trans (T.o.mono i8.o.size);have b4:Hid (N8 w.heap.size w5 (.agg #[.bool n1,.slice a1 l1 c1]) (K9 p) 280):=by
    obtain⟨hn,hL⟩:=q6.o a6.o.1;have V:N8 W2.heap.size K (.agg #[.bool n1,.slice a1 l1 c1]) (K9 p) 280:=⟨Ki p,_,Rf p,by rw[hn];rfl,hL,O8 _,rfl,Qv p a6.o.1⟩;exact (V.bl d4).mono G.o.size O1
   have m6:Hid (N8 w.heap.size w5 (.agg #[.bool n2,.slice a2 l2 c2]) (K9 q) 280):=by
    obtain⟨hn,hL⟩:=m8.o a6.o.2;have V:N8 W2.heap.size K (.agg #[.bool n2,.slice a2 l2 c2]) (K9 q) 280:=⟨Ki q,_,Rf q,by rw[hn];rfl,hL,O8 _,rfl,Qv q a6.o.2⟩;exact (V.bl d4).mono G.o.size O1
   have n3:Hid (K9 q≠0):=fun h=>hz (by
    have h2:Rf q=[]:=(Iy _ _ (O8 _)).1 h;rw[m9.o,h2];rfl)
   clear d4
   go_wp2_with fail
   refine (Fu w.heap.size _ _ (K9 p) (K9 q) 280 _ b3.o.size b4.o m6.o n3.o (by omega) (n8.o.bl b3.o) (q8.o.bl b3.o)).mono ?_;rintro e w6 ⟨z,xn,xd,rfl,hR,j5,k7⟩;have n0:=Hd j5;obtain⟨s5,p5,l5,c5,s6,p6,l6,c6,rfl,_,_⟩:=hR.shape;obtain⟨U,g6⟩:=O2 (w6.alloc (.cells #[.bool s5,.slice p5 l5 c5,.bool s6,.slice p6 l6 c6] 89));have r7:=Hd g6;have k8:Up w6 U:=by rw[<-g6];exact Oo _ _
   have J:Bx U w6.heap.size [.bool s5,.slice p5 l5 c5,.bool s6,.slice p6 l6 c6]:=by rw[<-g6];exact Ox w6 _ _
   have n7:Hid (∀ W,Up U W->Ip w.heap.size W (.agg #[.bool s5,.slice p5 l5 c5,.bool s6,.slice p6 l6 c6]) xn xd 283):=fun W hW=>(hR.bl k8).bl hW;have r8:Hid (∀ W,Up U W->Bx W w6.heap.size [.bool s5,.slice p5 l5 c5,.bool s6,.slice p6 l6 c6]):=fun W hW=>J.bl J.lt hW;have j4:Up w5 U:=k7.trans (k8.mono k7.size);have O:=i7.up j4;have H:Hid (Up W0 U):=I.o.trans (O.o.mono I.o.size);have D:Hid (Up w U):=F.o.trans (H.o.mono F.o.size);have e0:=J.cell 0;have e1:=J.cell 1;have e2:=J.cell 2;have e3:=J.cell 3;have g9:=m7.o U O.o;have k0:=g9.cell 0;have k1:=g9.cell 1;have k2:=g9.cell 2;simp only[J6,Yk] at e0 e1 e2 e3 k0 k1 k2;clear hR j5 k7 g6 k8 J j4 g9 d0 d1 d2 d3
   go_upto_region 10 with fail
   rw[r7.o]
   go_region_with (first
    | (go_at_call 89
       refine (YI w.heap.size _ xn xd 283 U.drew D.o.size (n7.o _ (Jj _ U).drew) (by omega) (n8.o.bl (D.o.trans ((Jj _ U).drew.mono D.o.size))) (q7.o.bl (D.o.trans ((Jj _ U).drew.mono D.o.size)))).mono ?_;rintro e w8 ⟨r,rfl,s7,o3⟩;obtain⟨u,v,bb,rfl,hu,hv⟩:=s7;have Z:Hid (Up U w8):=(Jj _ U).drew.trans o3;have q9:Hid (Ec xn u/\(if xd=1 then bb=false/\v=⟨#[]⟩ else bb=true/\Ec xd v)):=⟨hu,hv⟩;obtain⟨ok,E⟩:=O2 (u.toList==p.toList&&bb==b&&v.toList==q.toList);have n4:=Hd E;have h7:∀ W,(Op.equalIn 10000 135 (.agg #[.string u,.bool bb,.string v]) (.agg #[.string p,.bool b,.string q])).run prog W=.ok ok W:=fun W=>by rw[KV,E]
       have b9:=r8.o w8 Z.o;have g0:=b9.cell 0;have g1:=b9.cell 1;have g2:=b9.cell 2;have g3:=b9.cell 3;have g4:=m7.o w8 (O.o.trans (Z.o.mono O.o.size));have q0:=g4.cell 0;have q1:=g4.cell 1;have q2:=g4.cell 2;have d:=HX.o w8 (H.o.trans (Z.o.mono H.o.size));have r0:=d.cell 0;have r1:=d.cell 1;have r2:=d.cell 2;have r3:=d.cell 3;simp only[J6,Yk] at g0 g1 g2 g3 q0 q1 q2 r0 r1 r2 r3;obtain⟨f0,f1,f2,f3⟩:=d.f4;have x4:w.heap.size≠w1.heap.size:=by omega
       clear o3 hu hv E b9 g4 d))
   all_goals
    try simp only[Yg,Yb,J0,Act.put,Ja,Jb,Jc]
    go_wp2
    have d:=HX.o w8 (H.o.trans (Z.o.mono H.o.size));have h6:Kh w8 w.heap.size:=Ep d (by simp);have hE:=RK (D.o.trans (Z.o.mono D.o.size)) w.heap.size O1 (.bool s5) (.slice p5 l5 c5) (.bool s6) (.slice p6 l6 c6);have s3:=(n7.o w8 Z.o).put4 h6 (.bool s5) (.slice p5 l5 c5) (.bool s6) (.slice p6 l6 c6);have hZ:Bx ((((w8.setCell ⟨w.heap.size,0,none⟩ (.bool s5)).setCell ⟨w.heap.size,1,none⟩ (.slice p5 l5 c5)).setCell ⟨w.heap.size,2,none⟩ (.bool s6)).setCell ⟨w.heap.size,3,none⟩ (.slice p6 l6 c6)) w.heap.size [.bool s5,.slice p5 l5 c5,.bool s6,.slice p6 l6 c6]:=(((d.set 0 _).set 1 _).set 2 _).set 3 _;generalize (((w8.setCell ⟨w.heap.size,0,none⟩ (.bool s5)).setCell ⟨w.heap.size,1,none⟩ (.slice p5 l5 c5)).setCell ⟨w.heap.size,2,none⟩ (.bool s6)).setCell ⟨w.heap.size,3,none⟩ (.slice p6 l6 c6)=WE at *;obtain⟨m0,m1,m2,m3⟩:=hZ.k4;refine Jh (v:=.tuple #[.agg #[.bool s5,.slice p5 l5 c5,.bool s6,.slice p6 l6 c6],.bool ok]) ?_ rfl ⟨_,ok,rfl,FR _ _ s p q u v i b bb ok _ xn xd HP.o a6.o n3.o n0.o q9.o n4.o s3,hE⟩;simp[results,results48,go_sem,m0,m1,m2,m3]
end Go.Proofs.YtjjgilacnocigaaGreatDoor.Q
namespace Go.Proofs.YtjjgilacnocigaaGreatDoor.Q
open ChangeShapes WideShapes ChangeAt RowKit
variable {s:ByteArray}
def UI (s u:ByteArray):Prop:=∃ k,Nq s k/\((∃ x y q r,Qx s k x y/\Nf x y q r/\Ec q u)∨((¬ ∃ x y,Qx s k x y)/\u=Kq []))
theorem Lv {k:Option Nat}{x y x' y':Int}(h:Qx s k x y)(h':Qx s k x' y'):x=x'/\y=y':=by
 cases k with
 | none=>exact⟨h.2.1.trans h'.2.1.symm,h.2.2.trans h'.2.2.symm⟩
 | some i=>exact⟨h.2.2.1.trans h'.2.2.1.symm,h.2.2.2.trans h'.2.2.2.symm⟩
theorem FX {k:Option Nat}{x y:Int}(h:Qx s k x y):0<y:=by
 cases k with
 | none=>rw[h.2.2];decide
 | some i=>
   have d:=ZA _ h.2.1.2.2.2.1;have j:=h.2.1.1;rw[h.2.2.2];omega
theorem UI.eq {u v:ByteArray}(h:UI s u)(h':UI s v):u=v:=by
 obtain⟨k,G,h⟩:=h;obtain⟨m,hm,h'⟩:=h';obtain rfl:=E3 G hm
 rcases h with⟨x,y,q,r,D,E,h3⟩|⟨D,E⟩<;>rcases h' with⟨H,I,J,K,d,j,F⟩|⟨d,j⟩
 ·obtain⟨rfl,rfl⟩:=Lv D d;obtain⟨rfl,_⟩:=Cn E j;exact h3.eq F
 ·exact absurd ⟨x,y,D⟩ d
 ·exact absurd ⟨H,I,d⟩ D
 rw[E,j]
end Go.Proofs.YtjjgilacnocigaaGreatDoor.Q
namespace Go.Proofs.YtjjgilacnocigaaGreatDoor.Q
open ChangeShapes WideShapes ChangeAt RowKit Proofs.Tryz
variable {B n:Nat}{W w:World}{x:Int}{z:Value}
def C0 (B:Nat)(w:World)(z:Value)(x y:Int):Prop:=∃ (p0:Int) (pn:Bool) (pa:Option Addr) (pl pc:Nat) (q0:Int) (qn:Bool) (qa:Option Addr) (ql qc:Nat),z=.agg #[.int .i64 p0,.bool pn,.slice pa pl pc,.int .i64 q0,.bool qn,.slice qa ql qc] /\
 E0 B w (.agg #[.int .i64 p0,.bool pn,.slice pa pl pc]) x 1000/\E0 B w (.agg #[.int .i64 q0,.bool qn,.slice qa ql qc]) y 1000
theorem E0.keeps {g h:Nat}(hl:E0 B w z x n)(n1:Kh w g)(n2:Kh w h)(k:K0 g h w W):E0 B W z x n:=by
 obtain⟨neg,t,⟨d,j,D⟩,H⟩:=hl;refine⟨neg,t,⟨d,j,?_⟩,H⟩
 rcases D with⟨E,v,G,F⟩|D
 ·exact .inl ⟨E,v,G,F.keeps n1 n2 k⟩
 exact .inr D
theorem E0.mono' {B':Nat}{n':Nat}(h:E0 B w z x n)(hb:B'<=B)(hn:n<=n'):E0 B' w z x n':=by
 obtain⟨neg,t,d,j,h3⟩:=h;exact⟨neg,t,d.mono hb,j,by omega⟩
theorem E0.shape' (h:E0 B w z x n):∃ (z0:Int) (zn:Bool) (za:Option Addr) (zl zc:Nat),z=.agg #[.int .i64 z0,.bool zn,.slice za zl zc]:=by
 obtain⟨neg,t,d,_⟩:=h;exact d.shape
def W6 (W:World)(g:Nat)(u0 u1 u2 u3 u4 u5:Value):World:=(((((W.setCell ⟨g,0,none⟩ u0).setCell ⟨g,1,none⟩ u1).setCell ⟨g,2,none⟩ u2).setCell ⟨g,3,none⟩ u3).setCell ⟨g,4,none⟩ u4).setCell ⟨g,5,none⟩ u5
theorem Qt (W:World)(g:Nat)(u0 u1 u2 u3 u4 u5:Value):K0 g g W (W6 W g u0 u1 u2 u3 u4 u5):=
 K0.setCell (K0.setCell (K0.setCell (K0.setCell (K0.setCell (K0.setCell (K0.refl g g W) ⟨g,0,none⟩ u0 (Or.inl rfl)) ⟨g,1,none⟩ u1 (Or.inl rfl)) ⟨g,2,none⟩ u2 (Or.inl rfl)) ⟨g,3,none⟩ u3 (Or.inl rfl)) ⟨g,4,none⟩ u4 (Or.inl rfl)) ⟨g,5,none⟩ u5 (Or.inl rfl)
theorem Wh {N:Nat}(h:Below N w W)(g:Nat)(hg:N<=g)(u0 u1 u2 u3 u4 u5:Value):Below N w (W6 W g u0 u1 u2 u3 u4 u5):=
 (((((h.setCell (p:=⟨g,0,none⟩) hg u0).setCell (p:=⟨g,1,none⟩) hg u1).setCell (p:=⟨g,2,none⟩) hg u2).setCell (p:=⟨g,3,none⟩) hg u3).setCell (p:=⟨g,4,none⟩) hg u4).setCell (p:=⟨g,5,none⟩) hg u5
theorem Bx.put6 {g:Nat}{a b c d e f:Value}(h:Bx W g [a,b,c,d,e,f])(u0 u1 u2 u3 u4 u5:Value):Bx (W6 W g u0 u1 u2 u3 u4 u5) g [u0,u1,u2,u3,u4,u5]:=(((((h.set 0 u0).set 1 u1).set 2 u2).set 3 u3).set 4 u4).set 5 u5
theorem XT (B:Nat)(a0:Int)(an:Bool)(aa:Option Addr)(al ac:Nat)(x:Int)(w:World)(hBw:B<=w.heap.size)(h:E0 B w (.agg #[.int .i64 a0,.bool an,.slice aa al ac]) x 1000) :
 Calls prog 111 #[.agg #[.int .i64 a0,.bool an,.slice aa al ac]] w fun e w'=>∃ z,e=.returned z/\C0 B w' z x 1/\Up w w':=by
 have HN:=Hd h;have a6:=Hd hBw;clear h hBw;obtain⟨O,j⟩:=O2 ((w.alloc (.cells #[.int .i64 a0,.bool an,.slice aa al ac] 72)).alloc (.cells #[.int .i64 0,.bool false,.slice none 0 0,.int .i64 0,.bool false,.slice none 0 0] 120));have a7:=Hd j;have d:Hid (Up w O):=by
  unfold Hid
  rw[<-j];exact Ou (Oo _ _) _
 have F:Bx O w.heap.size [.int .i64 a0,.bool an,.slice aa al ac]:=by rw[<-j];exact (Ox w _ _).alloc _
 have T:Bx O (w.heap.size+1) [.int .i64 0,.bool false,.slice none 0 0,.int .i64 0,.bool false,.slice none 0 0]:=by
  rw[<-j];have h:=Ox (w.alloc (.cells #[.int .i64 a0,.bool an,.slice aa al ac] 72)) [.int .i64 0,.bool false,.slice none 0 0,.int .i64 0,.bool false,.slice none 0 0] 120;rw[J4] at h;exact h
 have HX:Hid (∀ W,Up O W->Bx W w.heap.size [.int .i64 a0,.bool an,.slice aa al ac]/\Bx W (w.heap.size+1) [.int .i64 0,.bool false,.slice none 0 0,.int .i64 0,.bool false,.slice none 0 0]):=fun W hW=>⟨F.bl F.lt hW,T.bl T.lt hW⟩;clear j;obtain⟨k0,k1,k2⟩:=F.k3;clear F T
 go_in
 go_upto_region 1 with fail
 rw[a7.o]
 go_region_with (first
  | (go_at_call 39
     refine (Nl 1 _ (by decide) (by decide)).mono ?_;rintro e K ⟨z,rfl,hz,V⟩;have D:Hid (Up O K):=(Jj _ O).drew.trans V;obtain⟨q0,J,G,I,H,rfl⟩:=hz.shape';have HZ:Hid (E0 O.heap.size K (.agg #[.int .i64 q0,.bool J,.slice G I H]) 1 3):=hz;obtain⟨Z,U⟩:=HX.o K D.o;obtain⟨j0,j1,j2⟩:=Z.k3;obtain⟨r0,r1,r2,r3,r4,r5⟩:=U.k6;obtain⟨f0,f1,f2,f3,f4,f5⟩:=U.f6;clear hz V Z U))
 all_goals
  try simp only[Yg,Yb,J0,Act.put,Ja,Jb,Jc]
  go_wp2
  have Y:=(HX.o K D.o).2;have E:Kh K (w.heap.size+1):=Ep Y (by simp);have hk:=Qt K (w.heap.size+1) (.int .i64 a0) (.bool an) (.slice aa al ac) (.int .i64 q0) (.bool J) (.slice G I H);have b3:=(HN.o.bl (d.o.trans (D.o.mono d.o.size))).keeps E E hk;have b4:=(HZ.o.mono' (B':=B) (n':=1000) (by have:=a6.o;have:=d.o.size;omega) (by omega)).keeps E E hk;have a8:=Wh (d.o.trans (D.o.mono d.o.size)) (w.heap.size+1) (Ze _) (.int .i64 a0) (.bool an) (.slice aa al ac) (.int .i64 q0) (.bool J) (.slice G I H);have hZ:=Y.put6 (.int .i64 a0) (.bool an) (.slice aa al ac) (.int .i64 q0) (.bool J) (.slice G I H);have b5:(((((K.setCell ⟨w.heap.size+1,0,none⟩ (.int .i64 a0)).setCell ⟨w.heap.size+1,1,none⟩ (.bool an)).setCell ⟨w.heap.size+1,2,none⟩ (.slice aa al ac)).setCell ⟨w.heap.size+1,3,none⟩ (.int .i64 q0)).setCell ⟨w.heap.size+1,4,none⟩ (.bool J)).setCell ⟨w.heap.size+1,5,none⟩ (.slice G I H)=W6 K (w.heap.size+1) (.int .i64 a0) (.bool an) (.slice aa al ac) (.int .i64 q0) (.bool J) (.slice G I H):=rfl;rw[b5];generalize W6 K (w.heap.size+1) (.int .i64 a0) (.bool an) (.slice aa al ac) (.int .i64 q0) (.bool J) (.slice G I H)=W9 at *;obtain⟨m0,m1,m2,m3,m4,m5⟩:=hZ.k6;refine Jh (v:=.agg #[.int .i64 a0,.bool an,.slice aa al ac,.int .i64 q0,.bool J,.slice G I H]) ?_ rfl ⟨_,rfl,⟨a0,an,aa,al,ac,q0,J,G,I,H,rfl,b3,b4⟩,a8⟩;simp[results,results111,go_sem,m0,m1,m2,m3,m4,m5]
end Go.Proofs.YtjjgilacnocigaaGreatDoor.Q
