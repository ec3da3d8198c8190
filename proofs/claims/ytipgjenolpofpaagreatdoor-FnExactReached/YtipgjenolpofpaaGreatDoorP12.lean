import Derived.Test.YtipgjenolpofpaaGreatDoorP11
set_option maxRecDepth 100000
set_option maxHeartbeats 2000000
namespace Go.Proofs.YtipgjenolpofpaaGreatDoor.Q
open ChangeShapes WideShapes ChangeAt RowKit Proofs.Tryz
theorem KG (s:ByteArray)(k:Option Nat):(cutP s k).size<=s.size:=by
 cases k with
 | none=>exact Of
 | some i=>show (s.extract 0 i).size<=s.size;rw[Ym];omega
theorem KI (s:ByteArray)(k:Option Nat):(cutQ s k).size<=s.size:=by
 cases k with
 | none=>exact Jy _
 | some i=>show (s.extract (i+1) s.size).size<=s.size;rw[Ym];omega
theorem readRational_any (s:ByteArray)(k:Option Nat)(w:World)(hs:s.size<=maxLen)(hk:IsCut s k)(hSP:SP w)(hNS:NS w)(hLT:LT w) :
 Calls prog 140 #[.string s] w fun e w'=>∃ z ok,e=.returned (.tuple #[z,.bool ok])/\IY w.heap.size w' s k z ok/\Up w w':=by
 have HK:=Hd hk;have o3:=Hd hSP;have r4:=Hd hNS;have q9:=Hd hLT;clear hk hSP hNS hLT;obtain⟨p,hp⟩:=O1 (cutP s k);obtain⟨q,hq⟩:=O1 (cutQ s k);obtain⟨b,hb⟩:=O1 k.isSome;have HP:Hid (cutP s k=p/\cutQ s k=q/\k.isSome=b):=⟨hp,hq,hb⟩;have p1:p.size<=maxLen:=by rw[<-hp];exact Yk (KG s k) hs
 have p3:q.size<=maxLen:=by rw[<-hq];exact Yk (KI s k) hs
 have g5:Hid (s.size<=maxLen/\p.size<=maxLen/\q.size<=maxLen):=⟨hs,p1,p3⟩;clear hp hq hb p1 p3;obtain⟨W0,h0⟩:=O1 (w.alloc (.cells #[.bool false,.slice none 0 0,.bool false,.slice none 0 0] 166));have r6:=Hd h0;have G:Hid (Up w W0):=by unfold Hid;rw[<-h0];exact Oy _ _
 have m5:Bx W0 w.heap.size [.bool false,.slice none 0 0,.bool false,.slice none 0 0]:=by rw[<-h0];exact Oi w _ _
 have HX:Hid (∀ W,Up W0 W->Bx W w.heap.size [.bool false,.slice none 0 0,.bool false,.slice none 0 0]):=fun W hW=>m5.bl m5.lt hW;clear h0 m5
 go_in
 go_wp2_with fail
 rw[r6.o];refine (Sg s k _ g5.o.1 HK.o).mono ?_;rintro e w1 ⟨rfl,h7⟩;rw[HP.o.1,HP.o.2.1,HP.o.2.2];obtain⟨W2,c8⟩:=O1 ((w1.alloc (.cells #[.string p,.bool b,.string q] 179)).alloc (.cells #[.string p,.bool false,.string ⟨#[]⟩] 179));have r7:=Hd c8;have j7:Up w1 W2:=by rw[<-c8];exact Om (Oy _ _) _
 have h8:Bx W2 w1.heap.size [.string p,.bool b,.string q]:=by rw[<-c8];exact (Oi w1 _ _).alloc _
 have o9:Bx W2 (w1.heap.size+1) [.string p,.bool false,.string ⟨#[]⟩]:=by
  rw[<-c8];have h:=Oi (w1.alloc (.cells #[.string p,.bool b,.string q] 179)) [.string p,.bool false,.string ⟨#[]⟩] 179;rw[Ji] at h;exact h
 have K:Hid (Up W0 W2):=h7.trans (j7.mono h7.size);have n4:Hid (∀ W,Up W2 W->Bx W w1.heap.size [.string p,.bool b,.string q]):=fun W hW=>h8.bl h8.lt hW;have x6:w.heap.size<w1.heap.size:=by have:=h7.size;have:=(HX.o W0 (Jh _ _)).lt;omega
 clear c8 j7 h7;obtain⟨k0,k1,k2⟩:=h8.k3;obtain⟨j0,j1,j2⟩:=o9.k3;clear h8 o9
 go_upto_region 3 with fail
 rw[r7.o];have I:Hid (Up w W2):=G.o.trans (K.o.mono G.o.size)
 cases k with
 | none=>
   have i7:∀ W,(Op.equalIn 10000 179 (.agg #[.string p,.bool b,.string q]) (.agg #[.string p,.bool false,.string ⟨#[]⟩])).run prog W=.ok true W:=fun W=>by
    rw[OZ,<-HP.o.2.1,<-HP.o.2.2];have:(cutQ s none).toList=(⟨#[]⟩:ByteArray).toList:=rfl;rw[this];simp
   have o1:Hid (p=s):=HP.o.1.symm
   go_wp2_with fail
   refine (readInteger_any p _ g5.o.2.1).mono ?_;rintro e O ⟨n,a,l,c,rfl,hI,d6⟩;have HI:=Hd hI;have a7:=Hd d6;obtain⟨ok,E⟩:=O1 (isIntB p);have b8:=Hd E;rw[E];clear hI d6 E k0 k1 k2 j0 j1 j2 i7
   go_wp2_with fail
   refine (Px n a l c _).mono ?_;rintro e w4 ⟨s2,p2,l2,c2,rfl,k7,o7⟩;have d7:Up O w4:=(Oy O _).trans (o7.mono (by simp));have q7:=a7.up d7;have j:Hid (Up W0 w4):=K.o.trans (q7.o.mono K.o.size);have o0:Hid (Gt w.heap.size w4 (.agg #[.bool s2,.slice p2 l2 c2]) 1 300):=k7.mono (by have:=I.o.size;have:=a7.o.size;simp;omega) (by omega);have b7:Hid (ok=true->Gt w.heap.size w4 (.agg #[.bool n,.slice a l c]) (numT s) 300):=fun e=>by
    have hi:isIntB p=true:=b8.o.trans e;obtain⟨hn,hL⟩:=HI.o hi;have Z:Gt W2.heap.size O (.agg #[.bool n,.slice a l c]) (numT p) 280:=⟨isNeg p,_,lim p,by rw[hn];rfl,hL,trimL_trim _,rfl,I0 p hi⟩;rw[o1.o] at Z;exact (Z.bl d7).mono I.o.size (by omega)
   have d:=HX.o w4 j.o;obtain⟨r0,r1,r2,r3⟩:=d.k4;obtain⟨f0,f1,f2,f3⟩:=d.f4;clear k7 o7 d7 d
   go_wp2
   have d:=HX.o w4 j.o;have i6:Ew w4 w.heap.size:=Gm d (by simp);have hE:=Pu (G.o.trans (j.o.mono G.o.size)) w.heap.size Of (.bool n) (.slice a l c) (.bool s2) (.slice p2 l2 c2);have Z:=o0.o.put4 i6 (.bool n) (.slice a l c) (.bool s2) (.slice p2 l2 c2);have h2:=fun e=>(b7.o e).put4 i6 (.bool n) (.slice a l c) (.bool s2) (.slice p2 l2 c2);have hZ:Bx ((((w4.setCell ⟨w.heap.size,0,none⟩ (.bool n)).setCell ⟨w.heap.size,1,none⟩ (.slice a l c)).setCell ⟨w.heap.size,2,none⟩ (.bool s2)).setCell ⟨w.heap.size,3,none⟩ (.slice p2 l2 c2)) w.heap.size [.bool n,.slice a l c,.bool s2,.slice p2 l2 c2]:=(((d.set 0 _).set 1 _).set 2 _).set 3 _;generalize (((w4.setCell ⟨w.heap.size,0,none⟩ (.bool n)).setCell ⟨w.heap.size,1,none⟩ (.slice a l c)).setCell ⟨w.heap.size,2,none⟩ (.bool s2)).setCell ⟨w.heap.size,3,none⟩ (.slice p2 l2 c2)=WE at *;obtain⟨m0,m1,m2,m3⟩:=hZ.k4;have s8:IY w.heap.size WE s none (.agg #[.bool n,.slice a l c,.bool s2,.slice p2 l2 c2]) ok:=by
    have l8:isIntB s=ok:=by rw[<-o1.o];exact b8.o
    refine⟨⟨n,a,l,c,s2,p2,l2,c2,rfl⟩,?_,?_⟩
    ·constructor
     ·intro e;exact⟨numT s,1,l8.trans e,rfl,rfl⟩
     rintro⟨x,y,h,_⟩;rw[<-l8];exact h
    intro e;exact⟨numT s,1,⟨l8.trans e,rfl,rfl⟩,n,_,s2,_,rfl,h2 e,Z⟩
   refine Jj (v:=.tuple #[.agg #[.bool n,.slice a l c,.bool s2,.slice p2 l2 c2],.bool ok]) ?_ rfl ⟨_,ok,rfl,s8,hE⟩;simp[results,results140,go_sem,m0,m1,m2,m3]
 | some i=>
   have i7:∀ W,(Op.equalIn 10000 179 (.agg #[.string p,.bool b,.string q]) (.agg #[.string p,.bool false,.string ⟨#[]⟩])).run prog W=.ok false W:=fun W=>by
    rw[OZ,<-HP.o.2.2];simp
   go_wp2_with fail
   refine (Au p q _ g5.o.2.1 g5.o.2.2).mono ?_;rintro e O ⟨n1,a1,l1,c1,n2,a2,l2,c2,rfl,o5,o6,d6⟩;have q8:=Hd o5;have n5:=Hd o6;have a7:=Hd d6;obtain⟨ok,E⟩:=O1 (isIntB p&&isIntB q);have b8:=Hd E;rw[E];clear o5 o6 d6 E j0 j1 j2 i7;obtain⟨W4,d4⟩:=O1 ((O.alloc (.cells #[.bool n1,.slice a1 l1 c1] 162)).alloc (.cells #[.bool n2,.slice a2 l2 c2] 162));have r8:=Hd d4;have g8:Up O W4:=by rw[<-d4];exact Om (Oy _ _) _
   have l9:Bx W4 O.heap.size [.bool n1,.slice a1 l1 c1]:=by rw[<-d4];exact (Oi O _ _).alloc _
   have i1:Bx W4 (O.heap.size+1) [.bool n2,.slice a2 l2 c2]:=by
    rw[<-d4];have h:=Oi (O.alloc (.cells #[.bool n1,.slice a1 l1 c1] 162)) [.bool n2,.slice a2 l2 c2] 162;rw[Ji] at h;exact h
   have HN:Hid (∀ W,Up W4 W->Bx W O.heap.size [.bool n1,.slice a1 l1 c1]/\Bx W (O.heap.size+1) [.bool n2,.slice a2 l2 c2]):=fun W hW=>⟨l9.bl l9.lt hW,i1.bl i1.lt hW⟩;have j6:=Hd g8;have j:Hid (Up W0 W4):=K.o.trans ((a7.o.trans (g8.mono a7.o.size)).mono K.o.size);have j4:=a7.up g8;obtain⟨d0,d1⟩:=i1.k2;clear d4 g8 l9 i1
   go_upto_region 7 with fail
   rw[r8.o];clear k0 k1 k2
   cases ok
   ·have k8:Hid (∀ x y,¬ RatV s (some i) x y):=fun x y h=>by
     have Z:=h.1.1;have h2:=h.1.2;rw[HP.o.1] at Z;rw[HP.o.2.1] at h2;have:=b8.o;rw[Z,h2] at this
     cases this
    have d:=HX.o W4 j.o;obtain⟨r0,r1,r2,r3⟩:=d.k4;obtain⟨f0,f1,f2,f3⟩:=d.f4;clear d
    go_wp2
    have d:=HX.o W4 j.o;have hE:=Pu (G.o.trans (j.o.mono G.o.size)) w.heap.size Of (.bool false) (.slice none 0 0) (.bool false) (.slice none 0 0);have hZ:Bx ((((W4.setCell ⟨w.heap.size,0,none⟩ (.bool false)).setCell ⟨w.heap.size,1,none⟩ (.slice none 0 0)).setCell ⟨w.heap.size,2,none⟩ (.bool false)).setCell ⟨w.heap.size,3,none⟩ (.slice none 0 0)) w.heap.size [.bool false,.slice none 0 0,.bool false,.slice none 0 0]:=(((d.set 0 _).set 1 _).set 2 _).set 3 _;generalize (((W4.setCell ⟨w.heap.size,0,none⟩ (.bool false)).setCell ⟨w.heap.size,1,none⟩ (.slice none 0 0)).setCell ⟨w.heap.size,2,none⟩ (.bool false)).setCell ⟨w.heap.size,3,none⟩ (.slice none 0 0)=WE at *;obtain⟨m0,m1,m2,m3⟩:=hZ.k4;refine Jj (v:=.tuple #[.agg #[.bool false,.slice none 0 0,.bool false,.slice none 0 0],.bool false]) ?_ rfl ⟨_,false,rfl,⟨⟨false,none,0,0,false,none,0,0,rfl⟩,⟨(fun e=>by cases e),fun ⟨x,y,h⟩=>(k8.o x y h).elim⟩,(fun e=>by cases e)⟩,hE⟩;simp[results,results140,go_sem,m0,m1,m2,m3]
   have b3:Hid (isIntB p=true/\isIntB q=true):=by
    unfold Hid
    have:=b8.o
    simpa using this
   go_wp2_with fail
   refine (Rv _ _ _ _ _).mono ?_;rintro e w5 ⟨rfl,p4⟩;have V:Hid (Up W4 w5):=by unfold Hid;rw[p4];exact Oy _ _
   have b5:Hid (Up W0 w5):=j.o.trans (V.o.mono j.o.size);have p0:l2=(lim q).length:=by
    obtain⟨_,hL⟩:=n5.o b3.o.2;obtain⟨_,_,e,_⟩:=hL;simp only[Value.slice.injEq] at e;exact e.2.1
   have n6:=Hd p0;clear p4 p0 d0 d1
   by_cases hz:l2=0
   ·have z:((l2:Int)==0)=true:=by rw[Yc];omega
    have k8:Hid (∀ x y,¬ RatV s (some i) x y):=fun x y h=>by
     have Z:=h.2.1.1;rw[HP.o.2.1] at Z;exact Z ((Id _ _ (trimL_trim _)).2 (Jv (n6.o.symm.trans hz)))
    rw[z];have d:=HX.o w5 b5.o;obtain⟨r0,r1,r2,r3⟩:=d.k4;obtain⟨f0,f1,f2,f3⟩:=d.f4;clear d
    go_wp2
    have d:=HX.o w5 b5.o;have hE:=Pu (G.o.trans (b5.o.mono G.o.size)) w.heap.size Of (.bool false) (.slice none 0 0) (.bool false) (.slice none 0 0);have hZ:Bx ((((w5.setCell ⟨w.heap.size,0,none⟩ (.bool false)).setCell ⟨w.heap.size,1,none⟩ (.slice none 0 0)).setCell ⟨w.heap.size,2,none⟩ (.bool false)).setCell ⟨w.heap.size,3,none⟩ (.slice none 0 0)) w.heap.size [.bool false,.slice none 0 0,.bool false,.slice none 0 0]:=(((d.set 0 _).set 1 _).set 2 _).set 3 _;generalize (((w5.setCell ⟨w.heap.size,0,none⟩ (.bool false)).setCell ⟨w.heap.size,1,none⟩ (.slice none 0 0)).setCell ⟨w.heap.size,2,none⟩ (.bool false)).setCell ⟨w.heap.size,3,none⟩ (.slice none 0 0)=WE at *;obtain⟨m0,m1,m2,m3⟩:=hZ.k4;refine Jj (v:=.tuple #[.agg #[.bool false,.slice none 0 0,.bool false,.slice none 0 0],.bool false]) ?_ rfl ⟨_,false,rfl,⟨⟨false,none,0,0,false,none,0,0,rfl⟩,⟨(fun e=>by cases e),fun ⟨x,y,h⟩=>(k8.o x y h).elim⟩,(fun e=>by cases e)⟩,hE⟩;simp[results,results140,go_sem,m0,m1,m2,m3]
   have z:((l2:Int)==0)=false:=by rw[Jc];omega
   rw[z];have m6:=HN.o w5 V.o;obtain⟨d0,d1⟩:=m6.1.k2;obtain⟨d2,d3⟩:=m6.2.k2;clear m6;have j5:Hid (Up W2 w5):=j4.o.trans (V.o.mono j4.o.size);have b6:Hid (Up w w5):=I.o.trans (j5.o.mono I.o.size);have d8:Up O w5:=j6.o.trans (V.o.mono j6.o.size);have b7:Hid (Gt w.heap.size w5 (.agg #[.bool n1,.slice a1 l1 c1]) (numT p) 280):=by
    obtain⟨hn,hL⟩:=q8.o b3.o.1;have Z:Gt W2.heap.size O (.agg #[.bool n1,.slice a1 l1 c1]) (numT p) 280:=⟨isNeg p,_,lim p,by rw[hn];rfl,hL,trimL_trim _,rfl,I0 p b3.o.1⟩;exact (Z.bl d8).mono I.o.size Of
   have n3:Hid (Gt w.heap.size w5 (.agg #[.bool n2,.slice a2 l2 c2]) (numT q) 280):=by
    obtain⟨hn,hL⟩:=n5.o b3.o.2;have Z:Gt W2.heap.size O (.agg #[.bool n2,.slice a2 l2 c2]) (numT q) 280:=⟨isNeg q,_,lim q,by rw[hn];rfl,hL,trimL_trim _,rfl,I0 q b3.o.2⟩;exact (Z.bl d8).mono I.o.size Of
   have n8:Hid (numT q≠0):=fun h=>hz (by
    have h2:lim q=[]:=(Id _ _ (trimL_trim _)).1 h;rw[n6.o,h2];rfl)
   clear d8
   go_wp2_with fail
   refine (Pa w.heap.size _ _ (numT p) (numT q) 280 _ b6.o.size b7.o n3.o n8.o (by omega) (o3.o.bl b6.o) (r4.o.bl b6.o)).mono ?_;rintro e w6 ⟨z,xn,xd,rfl,hR,j9,l4⟩;have n7:=Hd j9;obtain⟨s5,p5,l5,c5,s6,p6,l6,c6,rfl,_,_⟩:=hR.shape;obtain⟨Y,h6⟩:=O1 (w6.alloc (.cells #[.bool s5,.slice p5 l5 c5,.bool s6,.slice p6 l6 c6] 166));have r9:=Hd h6;have l7:Up w6 Y:=by rw[<-h6];exact Oy _ _
   have M:Bx Y w6.heap.size [.bool s5,.slice p5 l5 c5,.bool s6,.slice p6 l6 c6]:=by rw[<-h6];exact Oi w6 _ _
   have o2:Hid (∀ W,Up Y W->Xb w.heap.size W (.agg #[.bool s5,.slice p5 l5 c5,.bool s6,.slice p6 l6 c6]) xn xd 283):=fun W hW=>(hR.bl l7).bl hW;have s0:Hid (∀ W,Up Y W->Bx W w6.heap.size [.bool s5,.slice p5 l5 c5,.bool s6,.slice p6 l6 c6]):=fun W hW=>M.bl M.lt hW;have j8:Up w5 Y:=l4.trans (l7.mono l4.size);have U:=j5.up j8;have J:Hid (Up W0 Y):=K.o.trans (U.o.mono K.o.size);have A:Hid (Up w Y):=G.o.trans (J.o.mono G.o.size);have e0:=M.cell 0;have e1:=M.cell 1;have e2:=M.cell 2;have e3:=M.cell 3;have h9:=n4.o Y U.o;have k0:=h9.cell 0;have k1:=h9.cell 1;have k2:=h9.cell 2;simp only[Jo,Jr] at e0 e1 e2 e3 k0 k1 k2;clear hR j9 l4 h6 l7 M j8 h9 d0 d1 d2 d3
   go_upto_region 10 with fail
   rw[r9.o]
   go_region_with (first
    | (go_at_call 163
       refine (IB w.heap.size _ xn xd 283 Y.drew A.o.size (o2.o _ (Jh _ Y).drew) (by omega) (o3.o.bl (A.o.trans ((Jh _ Y).drew.mono A.o.size))) (q9.o.bl (A.o.trans ((Jh _ Y).drew.mono A.o.size)))).mono ?_;rintro e w8 ⟨r,rfl,s9,o8⟩;obtain⟨u,v,bb,rfl,hu,hv⟩:=s9;have a8:Hid (Up Y w8):=(Jh _ Y).drew.trans o8;have r5:Hid (Ef xn u/\(if xd=1 then bb=false/\v=⟨#[]⟩ else bb=true/\Ef xd v)):=⟨hu,hv⟩;obtain⟨ok,E⟩:=O1 (u.toList==p.toList&&bb==b&&v.toList==q.toList);have n9:=Hd E;have i7:∀ W,(Op.equalIn 10000 179 (.agg #[.string u,.bool bb,.string v]) (.agg #[.string p,.bool b,.string q])).run prog W=.ok ok W:=fun W=>by rw[OZ,E]
       have d5:=s0.o w8 a8.o;have g0:=d5.cell 0;have g1:=d5.cell 1;have g2:=d5.cell 2;have g3:=d5.cell 3;have g9:=n4.o w8 (U.o.trans (a8.o.mono U.o.size));have q0:=g9.cell 0;have q1:=g9.cell 1;have q2:=g9.cell 2;have d:=HX.o w8 (J.o.trans (a8.o.mono J.o.size));have r0:=d.cell 0;have r1:=d.cell 1;have r2:=d.cell 2;have r3:=d.cell 3;simp only[Jo,Jr] at g0 g1 g2 g3 q0 q1 q2 r0 r1 r2 r3;obtain⟨f0,f1,f2,f3⟩:=d.f4;have x7:w.heap.size≠w1.heap.size:=by omega
       clear o8 hu hv E d5 g9 d))
   all_goals
    try simp only[Yz,Ys,Yn,Act.put,Ja,Jd,Je]
    go_wp2
    have d:=HX.o w8 (J.o.trans (a8.o.mono J.o.size));have i6:Ew w8 w.heap.size:=Gm d (by simp);have hE:=Pu (A.o.trans (a8.o.mono A.o.size)) w.heap.size Of (.bool s5) (.slice p5 l5 c5) (.bool s6) (.slice p6 l6 c6);have s7:=(o2.o w8 a8.o).put4 i6 (.bool s5) (.slice p5 l5 c5) (.bool s6) (.slice p6 l6 c6);have hZ:Bx ((((w8.setCell ⟨w.heap.size,0,none⟩ (.bool s5)).setCell ⟨w.heap.size,1,none⟩ (.slice p5 l5 c5)).setCell ⟨w.heap.size,2,none⟩ (.bool s6)).setCell ⟨w.heap.size,3,none⟩ (.slice p6 l6 c6)) w.heap.size [.bool s5,.slice p5 l5 c5,.bool s6,.slice p6 l6 c6]:=(((d.set 0 _).set 1 _).set 2 _).set 3 _;generalize (((w8.setCell ⟨w.heap.size,0,none⟩ (.bool s5)).setCell ⟨w.heap.size,1,none⟩ (.slice p5 l5 c5)).setCell ⟨w.heap.size,2,none⟩ (.bool s6)).setCell ⟨w.heap.size,3,none⟩ (.slice p6 l6 c6)=WE at *;obtain⟨m0,m1,m2,m3⟩:=hZ.k4;refine Jj (v:=.tuple #[.agg #[.bool s5,.slice p5 l5 c5,.bool s6,.slice p6 l6 c6],.bool ok]) ?_ rfl ⟨_,ok,rfl,QN _ _ s p q u v i b bb ok _ xn xd HP.o b3.o n8.o n7.o r5.o n9.o s7,hE⟩;simp[results,results140,go_sem,m0,m1,m2,m3]
end Go.Proofs.YtipgjenolpofpaaGreatDoor.Q
