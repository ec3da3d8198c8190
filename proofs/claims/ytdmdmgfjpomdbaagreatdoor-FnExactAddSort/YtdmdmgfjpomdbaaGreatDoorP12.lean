import Derived.Test.YtdmdmgfjpomdbaaGreatDoorP11
set_option maxRecDepth 100000
set_option maxHeartbeats 2000000
namespace Go.Proofs.YtdmdmgfjpomdbaaGreatDoor.Q
open ChangeShapes WideShapes ChangeAt RowKit Proofs.Tryz
theorem GP (s:ByteArray)(k:Option Nat):(cutP s k).size<=s.size:=by
 cases k with
 | none=>exact leR
 | some i=>show (s.extract 0 i).size<=s.size;rw[Yo];omega
theorem GC (s:ByteArray)(k:Option Nat):(cutQ s k).size<=s.size:=by
 cases k with
 | none=>exact Jr _
 | some i=>show (s.extract (i+1) s.size).size<=s.size;rw[Yo];omega
theorem readRational_any (s:ByteArray)(k:Option Nat)(w:World)(hs:s.size<=maxLen)(hk:IsCut s k)(hSP:SP w)(hNS:NS w)(hLT:LT w) :
 Calls prog 132 #[.string s] w fun e w'=>∃ z ok,e=.returned (.tuple #[z,.bool ok])/\RK w.heap.size w' s k z ok/\Up w w':=by
 have HK:=Hd hk;have o2:=Hd hSP;have q9:=Hd hNS;have q8:=Hd hLT;clear hk hSP hNS hLT;obtain⟨p,hp⟩:=Oa (cutP s k);obtain⟨q,hq⟩:=Oa (cutQ s k);obtain⟨b,hb⟩:=Oa k.isSome;have HP:Hid (cutP s k=p/\cutQ s k=q/\k.isSome=b):=⟨hp,hq,hb⟩;have p0:p.size<=maxLen:=by rw[<-hp];exact Yc (GP s k) hs
 have p1:q.size<=maxLen:=by rw[<-hq];exact Yc (GC s k) hs
 have g6:Hid (s.size<=maxLen/\p.size<=maxLen/\q.size<=maxLen):=⟨hs,p0,p1⟩;clear hp hq hb p0 p1;obtain⟨W0,h6⟩:=Oa (w.alloc (.cells #[.bool false,.slice none 0 0,.bool false,.slice none 0 0] 159));have r5:=Hd h6;have G:Hid (Up w W0):=by unfold Hid;rw[<-h6];exact Oz _ _
 have m5:Bx W0 w.heap.size [.bool false,.slice none 0 0,.bool false,.slice none 0 0]:=by rw[<-h6];exact Oi w _ _
 have HX:Hid (∀ W,Up W0 W->Bx W w.heap.size [.bool false,.slice none 0 0,.bool false,.slice none 0 0]):=fun W hW=>m5.bl m5.lt hW;clear h6 m5
 go_in
 go_wp2_with fail
 rw[r5.o];refine (Wl s k _ g6.o.1 HK.o).mono ?_;rintro e w1 ⟨rfl,h8⟩;rw[HP.o.1,HP.o.2.1,HP.o.2.2];obtain⟨W2,c8⟩:=Oa ((w1.alloc (.cells #[.string p,.bool b,.string q] 171)).alloc (.cells #[.string p,.bool false,.string ⟨#[]⟩] 171));have r6:=Hd c8;have j7:Up w1 W2:=by rw[<-c8];exact Ob (Oz _ _) _
 have h9:Bx W2 w1.heap.size [.string p,.bool b,.string q]:=by rw[<-c8];exact (Oi w1 _ _).alloc _
 have o8:Bx W2 (w1.heap.size+1) [.string p,.bool false,.string ⟨#[]⟩]:=by
  rw[<-c8];have h:=Oi (w1.alloc (.cells #[.string p,.bool b,.string q] 171)) [.string p,.bool false,.string ⟨#[]⟩] 171;rw[Jf] at h;exact h
 have K:Hid (Up W0 W2):=h8.trans (j7.mono h8.size);have n3:Hid (∀ W,Up W2 W->Bx W w1.heap.size [.string p,.bool b,.string q]):=fun W hW=>h9.bl h9.lt hW;have x5:w.heap.size<w1.heap.size:=by have:=h8.size;have:=(HX.o W0 (Je _ _)).lt;omega
 clear c8 j7 h8;obtain⟨k0,k1,k2⟩:=h9.k3;obtain⟨j0,j1,j2⟩:=o8.k3;clear h9 o8
 go_upto_region 3 with fail
 rw[r6.o];have I:Hid (Up w W2):=G.o.trans (K.o.mono G.o.size)
 cases k with
 | none=>
   have i7:∀ W,(Op.equalIn 10000 171 (.agg #[.string p,.bool b,.string q]) (.agg #[.string p,.bool false,.string ⟨#[]⟩])).run prog W=.ok true W:=fun W=>by
    rw[VH,<-HP.o.2.1,<-HP.o.2.2];have:(cutQ s none).toList=(⟨#[]⟩:ByteArray).toList:=rfl;rw[this];simp
   have o0:Hid (p=s):=HP.o.1.symm
   go_wp2_with fail
   refine (readInteger_any p _ g6.o.2.1).mono ?_;rintro e O ⟨n,a,l,c,rfl,hI,d6⟩;have HI:=Hd hI;have a7:=Hd d6;obtain⟨ok,E⟩:=Oa (isIntB p);have b8:=Hd E;rw[E];clear hI d6 E k0 k1 k2 j0 j1 j2 i7
   go_wp2_with fail
   refine (Df n a l c _).mono ?_;rintro e w4 ⟨s2,p2,l2,c2,rfl,k7,o6⟩;have d7:Up O w4:=(Oz O _).trans (o6.mono (by simp));have q6:=a7.up d7;have j:Hid (Up W0 w4):=K.o.trans (q6.o.mono K.o.size);have n9:Hid (Hr w.heap.size w4 (.agg #[.bool s2,.slice p2 l2 c2]) 1 300):=k7.mono (by have:=I.o.size;have:=a7.o.size;simp;omega) (by omega);have b7:Hid (ok=true->Hr w.heap.size w4 (.agg #[.bool n,.slice a l c]) (numT s) 300):=fun e=>by
    have hi:isIntB p=true:=b8.o.trans e;obtain⟨hn,hL⟩:=HI.o hi;have Z:Hr W2.heap.size O (.agg #[.bool n,.slice a l c]) (numT p) 280:=⟨isNeg p,_,lim p,by rw[hn];rfl,hL,trimL_trim _,rfl,Xw p hi⟩;rw[o0.o] at Z;exact (Z.bl d7).mono I.o.size (by omega)
   have d:=HX.o w4 j.o;obtain⟨r0,r1,r2,r3⟩:=d.k4;obtain⟨f0,f1,f2,f3⟩:=d.f4;clear k7 o6 d7 d
   go_wp2
   have d:=HX.o w4 j.o;have i6:Nh w4 w.heap.size:=Hh d (by simp);have hE:=Di (G.o.trans (j.o.mono G.o.size)) w.heap.size leR (.bool n) (.slice a l c) (.bool s2) (.slice p2 l2 c2);have Z:=n9.o.put4 i6 (.bool n) (.slice a l c) (.bool s2) (.slice p2 l2 c2);have h2:=fun e=>(b7.o e).put4 i6 (.bool n) (.slice a l c) (.bool s2) (.slice p2 l2 c2);have hZ:Bx ((((w4.setCell ⟨w.heap.size,0,none⟩ (.bool n)).setCell ⟨w.heap.size,1,none⟩ (.slice a l c)).setCell ⟨w.heap.size,2,none⟩ (.bool s2)).setCell ⟨w.heap.size,3,none⟩ (.slice p2 l2 c2)) w.heap.size [.bool n,.slice a l c,.bool s2,.slice p2 l2 c2]:=(((d.set 0 _).set 1 _).set 2 _).set 3 _;generalize (((w4.setCell ⟨w.heap.size,0,none⟩ (.bool n)).setCell ⟨w.heap.size,1,none⟩ (.slice a l c)).setCell ⟨w.heap.size,2,none⟩ (.bool s2)).setCell ⟨w.heap.size,3,none⟩ (.slice p2 l2 c2)=WE at *;obtain⟨m0,m1,m2,m3⟩:=hZ.k4;have s7:RK w.heap.size WE s none (.agg #[.bool n,.slice a l c,.bool s2,.slice p2 l2 c2]) ok:=by
    have l8:isIntB s=ok:=by rw[<-o0.o];exact b8.o
    refine⟨⟨n,a,l,c,s2,p2,l2,c2,rfl⟩,?_,?_⟩
    ·constructor
     ·intro e;exact⟨numT s,1,l8.trans e,rfl,rfl⟩
     rintro⟨x,y,h,_⟩;rw[<-l8];exact h
    intro e;exact⟨numT s,1,⟨l8.trans e,rfl,rfl⟩,n,_,s2,_,rfl,h2 e,Z⟩
   refine Jg (v:=.tuple #[.agg #[.bool n,.slice a l c,.bool s2,.slice p2 l2 c2],.bool ok]) ?_ rfl ⟨_,ok,rfl,s7,hE⟩;simp[results,results132,go_sem,m0,m1,m2,m3]
 | some i=>
   have i7:∀ W,(Op.equalIn 10000 171 (.agg #[.string p,.bool b,.string q]) (.agg #[.string p,.bool false,.string ⟨#[]⟩])).run prog W=.ok false W:=fun W=>by
    rw[VH,<-HP.o.2.2];simp
   go_wp2_with fail
   refine (Te p q _ g6.o.2.1 g6.o.2.2).mono ?_;rintro e O ⟨n1,a1,l1,c1,n2,a2,l2,c2,rfl,o4,o5,d6⟩;have q7:=Hd o4;have n4:=Hd o5;have a7:=Hd d6;obtain⟨ok,E⟩:=Oa (isIntB p&&isIntB q);have b8:=Hd E;rw[E];clear o4 o5 d6 E j0 j1 j2 i7;obtain⟨W4,d4⟩:=Oa ((O.alloc (.cells #[.bool n1,.slice a1 l1 c1] 155)).alloc (.cells #[.bool n2,.slice a2 l2 c2] 155));have r7:=Hd d4;have g9:Up O W4:=by rw[<-d4];exact Ob (Oz _ _) _
   have l9:Bx W4 O.heap.size [.bool n1,.slice a1 l1 c1]:=by rw[<-d4];exact (Oi O _ _).alloc _
   have hn2:Bx W4 (O.heap.size+1) [.bool n2,.slice a2 l2 c2]:=by
    rw[<-d4];have h:=Oi (O.alloc (.cells #[.bool n1,.slice a1 l1 c1] 155)) [.bool n2,.slice a2 l2 c2] 155;rw[Jf] at h;exact h
   have HN:Hid (∀ W,Up W4 W->Bx W O.heap.size [.bool n1,.slice a1 l1 c1]/\Bx W (O.heap.size+1) [.bool n2,.slice a2 l2 c2]):=fun W hW=>⟨l9.bl l9.lt hW,hn2.bl hn2.lt hW⟩;have j6:=Hd g9;have j:Hid (Up W0 W4):=K.o.trans ((a7.o.trans (g9.mono a7.o.size)).mono K.o.size);have j4:=a7.up g9;obtain⟨d0,d1⟩:=hn2.k2;clear d4 g9 l9 hn2
   go_upto_region 7 with fail
   rw[r7.o];clear k0 k1 k2
   cases ok
   ·have k8:Hid (∀ x y,¬ RatV s (some i) x y):=fun x y h=>by
     have Z:=h.1.1;have h2:=h.1.2;rw[HP.o.1] at Z;rw[HP.o.2.1] at h2;have:=b8.o;rw[Z,h2] at this
     cases this
    have d:=HX.o W4 j.o;obtain⟨r0,r1,r2,r3⟩:=d.k4;obtain⟨f0,f1,f2,f3⟩:=d.f4;clear d
    go_wp2
    have d:=HX.o W4 j.o;have hE:=Di (G.o.trans (j.o.mono G.o.size)) w.heap.size leR (.bool false) (.slice none 0 0) (.bool false) (.slice none 0 0);have hZ:Bx ((((W4.setCell ⟨w.heap.size,0,none⟩ (.bool false)).setCell ⟨w.heap.size,1,none⟩ (.slice none 0 0)).setCell ⟨w.heap.size,2,none⟩ (.bool false)).setCell ⟨w.heap.size,3,none⟩ (.slice none 0 0)) w.heap.size [.bool false,.slice none 0 0,.bool false,.slice none 0 0]:=(((d.set 0 _).set 1 _).set 2 _).set 3 _;generalize (((W4.setCell ⟨w.heap.size,0,none⟩ (.bool false)).setCell ⟨w.heap.size,1,none⟩ (.slice none 0 0)).setCell ⟨w.heap.size,2,none⟩ (.bool false)).setCell ⟨w.heap.size,3,none⟩ (.slice none 0 0)=WE at *;obtain⟨m0,m1,m2,m3⟩:=hZ.k4;refine Jg (v:=.tuple #[.agg #[.bool false,.slice none 0 0,.bool false,.slice none 0 0],.bool false]) ?_ rfl ⟨_,false,rfl,⟨⟨false,none,0,0,false,none,0,0,rfl⟩,⟨(fun e=>by cases e),fun ⟨x,y,h⟩=>(k8.o x y h).elim⟩,(fun e=>by cases e)⟩,hE⟩;simp[results,results132,go_sem,m0,m1,m2,m3]
   have b3:Hid (isIntB p=true/\isIntB q=true):=by
    unfold Hid
    have:=b8.o
    simpa using this
   go_wp2_with fail
   refine (Pg _ _ _ _ _).mono ?_;rintro e w5 ⟨rfl,p3⟩;have V:Hid (Up W4 w5):=by unfold Hid;rw[p3];exact Oz _ _
   have b5:Hid (Up W0 w5):=j.o.trans (V.o.mono j.o.size);have o9:l2=(lim q).length:=by
    obtain⟨_,hL⟩:=n4.o b3.o.2;obtain⟨_,_,e,_⟩:=hL;simp only[Value.slice.injEq] at e;exact e.2.1
   have n5:=Hd o9;clear p3 o9 d0 d1
   by_cases hz:l2=0
   ·have z:((l2:Int)==0)=true:=by rw[Yf];omega
    have k8:Hid (∀ x y,¬ RatV s (some i) x y):=fun x y h=>by
     have Z:=h.2.1.1;rw[HP.o.2.1] at Z;exact Z ((Xx _ _ (trimL_trim _)).2 (Jw (n5.o.symm.trans hz)))
    rw[z];have d:=HX.o w5 b5.o;obtain⟨r0,r1,r2,r3⟩:=d.k4;obtain⟨f0,f1,f2,f3⟩:=d.f4;clear d
    go_wp2
    have d:=HX.o w5 b5.o;have hE:=Di (G.o.trans (b5.o.mono G.o.size)) w.heap.size leR (.bool false) (.slice none 0 0) (.bool false) (.slice none 0 0);have hZ:Bx ((((w5.setCell ⟨w.heap.size,0,none⟩ (.bool false)).setCell ⟨w.heap.size,1,none⟩ (.slice none 0 0)).setCell ⟨w.heap.size,2,none⟩ (.bool false)).setCell ⟨w.heap.size,3,none⟩ (.slice none 0 0)) w.heap.size [.bool false,.slice none 0 0,.bool false,.slice none 0 0]:=(((d.set 0 _).set 1 _).set 2 _).set 3 _;generalize (((w5.setCell ⟨w.heap.size,0,none⟩ (.bool false)).setCell ⟨w.heap.size,1,none⟩ (.slice none 0 0)).setCell ⟨w.heap.size,2,none⟩ (.bool false)).setCell ⟨w.heap.size,3,none⟩ (.slice none 0 0)=WE at *;obtain⟨m0,m1,m2,m3⟩:=hZ.k4;refine Jg (v:=.tuple #[.agg #[.bool false,.slice none 0 0,.bool false,.slice none 0 0],.bool false]) ?_ rfl ⟨_,false,rfl,⟨⟨false,none,0,0,false,none,0,0,rfl⟩,⟨(fun e=>by cases e),fun ⟨x,y,h⟩=>(k8.o x y h).elim⟩,(fun e=>by cases e)⟩,hE⟩;simp[results,results132,go_sem,m0,m1,m2,m3]
   have z:((l2:Int)==0)=false:=by rw[Jb];omega
   rw[z];have m6:=HN.o w5 V.o;obtain⟨d0,d1⟩:=m6.1.k2;obtain⟨d2,d3⟩:=m6.2.k2;clear m6;have j5:Hid (Up W2 w5):=j4.o.trans (V.o.mono j4.o.size);have b6:Hid (Up w w5):=I.o.trans (j5.o.mono I.o.size);have d8:Up O w5:=j6.o.trans (V.o.mono j6.o.size);have b7:Hid (Hr w.heap.size w5 (.agg #[.bool n1,.slice a1 l1 c1]) (numT p) 280):=by
    obtain⟨hn,hL⟩:=q7.o b3.o.1;have Z:Hr W2.heap.size O (.agg #[.bool n1,.slice a1 l1 c1]) (numT p) 280:=⟨isNeg p,_,lim p,by rw[hn];rfl,hL,trimL_trim _,rfl,Xw p b3.o.1⟩;exact (Z.bl d8).mono I.o.size leR
   have n0:Hid (Hr w.heap.size w5 (.agg #[.bool n2,.slice a2 l2 c2]) (numT q) 280):=by
    obtain⟨hn,hL⟩:=n4.o b3.o.2;have Z:Hr W2.heap.size O (.agg #[.bool n2,.slice a2 l2 c2]) (numT q) 280:=⟨isNeg q,_,lim q,by rw[hn];rfl,hL,trimL_trim _,rfl,Xw q b3.o.2⟩;exact (Z.bl d8).mono I.o.size leR
   have n7:Hid (numT q≠0):=fun h=>hz (by
    have h2:lim q=[]:=(Xx _ _ (trimL_trim _)).1 h;rw[n5.o,h2];rfl)
   clear d8
   go_wp2_with fail
   refine (D5 w.heap.size _ _ (numT p) (numT q) 280 _ b6.o.size b7.o n0.o n7.o (by omega) (o2.o.bl b6.o) (q9.o.bl b6.o)).mono ?_;rintro e w6 ⟨z,xn,xd,rfl,hR,j9,l4⟩;have n6:=Hd j9;obtain⟨s5,p5,l5,c5,s6,p6,l6,c6,rfl,_,_⟩:=hR.shape;obtain⟨Y,h7⟩:=Oa (w6.alloc (.cells #[.bool s5,.slice p5 l5 c5,.bool s6,.slice p6 l6 c6] 159));have r8:=Hd h7;have l7:Up w6 Y:=by rw[<-h7];exact Oz _ _
   have M:Bx Y w6.heap.size [.bool s5,.slice p5 l5 c5,.bool s6,.slice p6 l6 c6]:=by rw[<-h7];exact Oi w6 _ _
   have o1:Hid (∀ W,Up Y W->Q1 w.heap.size W (.agg #[.bool s5,.slice p5 l5 c5,.bool s6,.slice p6 l6 c6]) xn xd 283):=fun W hW=>(hR.bl l7).bl hW;have r9:Hid (∀ W,Up Y W->Bx W w6.heap.size [.bool s5,.slice p5 l5 c5,.bool s6,.slice p6 l6 c6]):=fun W hW=>M.bl M.lt hW;have j8:Up w5 Y:=l4.trans (l7.mono l4.size);have U:=j5.up j8;have J:Hid (Up W0 Y):=K.o.trans (U.o.mono K.o.size);have A:Hid (Up w Y):=G.o.trans (J.o.mono G.o.size);have e0:=M.cell 0;have e1:=M.cell 1;have e2:=M.cell 2;have e3:=M.cell 3;have i1:=n3.o Y U.o;have k0:=i1.cell 0;have k1:=i1.cell 1;have k2:=i1.cell 2;simp only[Jm,Js] at e0 e1 e2 e3 k0 k1 k2;clear hR j9 l4 h7 l7 M j8 i1 d0 d1 d2 d3
   go_upto_region 10 with fail
   rw[r8.o]
   go_region_with (first
    | (go_at_call 154
       refine (PO w.heap.size _ xn xd 283 Y.drew A.o.size (o1.o _ (Je _ Y).drew) (by omega) (o2.o.bl (A.o.trans ((Je _ Y).drew.mono A.o.size))) (q8.o.bl (A.o.trans ((Je _ Y).drew.mono A.o.size)))).mono ?_;rintro e w8 ⟨r,rfl,s8,o7⟩;obtain⟨u,v,bb,rfl,hu,hv⟩:=s8;have a8:Hid (Up Y w8):=(Je _ Y).drew.trans o7;have r4:Hid (No xn u/\(if xd=1 then bb=false/\v=⟨#[]⟩ else bb=true/\No xd v)):=⟨hu,hv⟩;obtain⟨ok,E⟩:=Oa (u.toList==p.toList&&bb==b&&v.toList==q.toList);have n8:=Hd E;have i7:∀ W,(Op.equalIn 10000 171 (.agg #[.string u,.bool bb,.string v]) (.agg #[.string p,.bool b,.string q])).run prog W=.ok ok W:=fun W=>by rw[VH,E]
       have d5:=r9.o w8 a8.o;have g0:=d5.cell 0;have g1:=d5.cell 1;have g2:=d5.cell 2;have g3:=d5.cell 3;have h0:=n3.o w8 (U.o.trans (a8.o.mono U.o.size));have q0:=h0.cell 0;have q1:=h0.cell 1;have q2:=h0.cell 2;have d:=HX.o w8 (J.o.trans (a8.o.mono J.o.size));have r0:=d.cell 0;have r1:=d.cell 1;have r2:=d.cell 2;have r3:=d.cell 3;simp only[Jm,Js] at g0 g1 g2 g3 q0 q1 q2 r0 r1 r2 r3;obtain⟨f0,f1,f2,f3⟩:=d.f4;have x6:w.heap.size≠w1.heap.size:=by omega
       clear o7 hu hv E d5 h0 d))
   all_goals
    try simp only[Y3,Yv,Yp,Act.put,Jp,Jz,J0]
    go_wp2
    have d:=HX.o w8 (J.o.trans (a8.o.mono J.o.size));have i6:Nh w8 w.heap.size:=Hh d (by simp);have hE:=Di (A.o.trans (a8.o.mono A.o.size)) w.heap.size leR (.bool s5) (.slice p5 l5 c5) (.bool s6) (.slice p6 l6 c6);have s4:=(o1.o w8 a8.o).put4 i6 (.bool s5) (.slice p5 l5 c5) (.bool s6) (.slice p6 l6 c6);have hZ:Bx ((((w8.setCell ⟨w.heap.size,0,none⟩ (.bool s5)).setCell ⟨w.heap.size,1,none⟩ (.slice p5 l5 c5)).setCell ⟨w.heap.size,2,none⟩ (.bool s6)).setCell ⟨w.heap.size,3,none⟩ (.slice p6 l6 c6)) w.heap.size [.bool s5,.slice p5 l5 c5,.bool s6,.slice p6 l6 c6]:=(((d.set 0 _).set 1 _).set 2 _).set 3 _;generalize (((w8.setCell ⟨w.heap.size,0,none⟩ (.bool s5)).setCell ⟨w.heap.size,1,none⟩ (.slice p5 l5 c5)).setCell ⟨w.heap.size,2,none⟩ (.bool s6)).setCell ⟨w.heap.size,3,none⟩ (.slice p6 l6 c6)=WE at *;obtain⟨m0,m1,m2,m3⟩:=hZ.k4;refine Jg (v:=.tuple #[.agg #[.bool s5,.slice p5 l5 c5,.bool s6,.slice p6 l6 c6],.bool ok]) ?_ rfl ⟨_,ok,rfl,DD _ _ s p q u v i b bb ok _ xn xd HP.o b3.o n7.o n6.o r4.o n8.o s4,hE⟩;simp[results,results132,go_sem,m0,m1,m2,m3]
end Go.Proofs.YtdmdmgfjpomdbaaGreatDoor.Q
