import Derived.Test.YtipgjenolpofpaaGreatDoorP11
set_option maxRecDepth 100000
set_option maxHeartbeats 2000000
namespace Go.Proofs.YtipgjenolpofpaaGreatDoor.Q
open Go.ChangeShapes Go.WideShapes Go.ChangeAt Go.RowKit Go.Proofs.Tryz
theorem NC (s:ByteArray)(k:Option Nat):(cutP s k).size<=s.size:=by
 cases k with
 | none=>exact Of
 | some i=>show (s.extract 0 i).size<=s.size;rw[Yn];omega
theorem NY (s:ByteArray)(k:Option Nat):(cutQ s k).size<=s.size:=by
 cases k with
 | none=>exact Jy _
 | some i=>show (s.extract (i+1) s.size).size<=s.size;rw[Yn];omega
theorem readRational_any (s:ByteArray)(k:Option Nat)(w:World)(hs:s.size<=maxLen)(hk:IsCut s k)(hSP:SP w)(hNS:NS w)(hLT:LT w) :
 Calls prog 140 #[.string s] w fun e w'=>∃ z ok,e=.returned (.tuple #[z,.bool ok])/\XX w.heap.size w' s k z ok/\Up w w':=by
 have HK:=Hd hk;have o2:=Hd hSP;have r6:=Hd hNS;have s9:=Hd hLT;clear hk hSP hNS hLT;obtain⟨p,hp⟩:=O1 (cutP s k);obtain⟨q,hq⟩:=O1 (cutQ s k);obtain⟨b,hb⟩:=O1 k.isSome;have HP:Hid (cutP s k=p/\cutQ s k=q/\k.isSome=b):=⟨hp,hq,hb⟩;have p1:p.size<=maxLen:=by rw[<-hp];exact Yk (NC s k) hs
 have o7:q.size<=maxLen:=by rw[<-hq];exact Yk (NY s k) hs
 have i1:Hid (s.size<=maxLen/\p.size<=maxLen/\q.size<=maxLen):=⟨hs,p1,o7⟩;clear hp hq hb p1 o7;obtain⟨W0,g5⟩:=O1 (w.alloc (.cells #[.bool false,.slice none 0 0,.bool false,.slice none 0 0] 166));have r9:=Hd g5;have G:Hid (Up w W0):=by unfold Hid;rw[<-g5];exact Oy _ _
 have m5:Bx W0 w.heap.size [.bool false,.slice none 0 0,.bool false,.slice none 0 0]:=by rw[<-g5];exact Ox w _ _
 have HX:Hid (∀ W,Up W0 W->Bx W w.heap.size [.bool false,.slice none 0 0,.bool false,.slice none 0 0]):=fun W hW=>m5.below m5.lt hW;clear g5 m5
 go_enter func140,ntmps140
 go_wp2_with fail
 rw[r9.o];refine (Wr s k _ i1.o.1 HK.o).mono ?_;rintro e w1 ⟨rfl,h8⟩;rw[HP.o.1,HP.o.2.1,HP.o.2.2];obtain⟨W2,c8⟩:=O1 ((w1.alloc (.cells #[.string p,.bool b,.string q] 179)).alloc (.cells #[.string p,.bool false,.string ⟨#[]⟩] 179));have r7:=Hd c8;have j9:Up w1 W2:=by rw[<-c8];exact Om (Oy _ _) _
 have g7:Bx W2 w1.heap.size [.string p,.bool b,.string q]:=by rw[<-c8];exact (Ox w1 _ _).alloc _
 have o3:Bx W2 (w1.heap.size+1) [.string p,.bool false,.string ⟨#[]⟩]:=by
  rw[<-c8];have h:=Ox (w1.alloc (.cells #[.string p,.bool b,.string q] 179)) [.string p,.bool false,.string ⟨#[]⟩] 179;rw[Ji] at h;exact h
 have O:Hid (Up W0 W2):=h8.trans (j9.mono h8.size);have n3:Hid (∀ W,Up W2 W->Bx W w1.heap.size [.string p,.bool b,.string q]):=fun W hW=>g7.below g7.lt hW;have y0:w.heap.size<w1.heap.size:=by have:=h8.size;have:=(HX.o W0 (Jh _ _)).lt;omega
 clear c8 j9 h8;obtain⟨k0,k1,k2⟩:=g7.k3;obtain⟨j0,j1,j2⟩:=o3.k3;clear g7 o3
 go_upto_region 3 with fail
 rw[r7.o];have I:Hid (Up w W2):=G.o.trans (O.o.mono G.o.size)
 cases k with
 | none=>
   have i8:∀ W,(Op.equalIn 10000 179 (.agg #[.string p,.bool b,.string q]) (.agg #[.string p,.bool false,.string ⟨#[]⟩])).run prog W=.ok true W:=fun W=>by
    rw[ON,<-HP.o.2.1,<-HP.o.2.2];have:(cutQ s none).toList=(⟨#[]⟩:ByteArray).toList:=rfl;rw[this];simp
   have n7:Hid (p=s):=HP.o.1.symm
   go_wp2_with fail
   refine (readInteger_any p _ i1.o.2.1).mono ?_;rintro e M ⟨n,a,l,c,rfl,hI,d5⟩;have HI:=Hd hI;have a8:=Hd d5;obtain⟨ok,A⟩:=O1 (isIntB p);have b7:=Hd A;rw[A];clear hI d5 A k0 k1 k2 j0 j1 j2 i8
   go_wp2_with fail
   refine (Pk n a l c _).mono ?_;rintro e w4 ⟨s2,p2,l2,c2,rfl,j8,n6⟩;have d4:Up M w4:=(Oy M _).trans (n6.mono (by simp));have t6:=a8.up d4;have j:Hid (Up W0 w4):=O.o.trans (t6.o.mono O.o.size);have p4:Hid (Gt w.heap.size w4 (.agg #[.bool s2,.slice p2 l2 c2]) 1 300):=j8.mono (by have:=I.o.size;have:=a8.o.size;simp;omega) (by omega);have d7:Hid (ok=true->Gt w.heap.size w4 (.agg #[.bool n,.slice a l c]) (numT s) 300):=fun e=>by
    have hi:isIntB p=true:=b7.o.trans e;obtain⟨hn,hL⟩:=HI.o hi;have Z:Gt W2.heap.size M (.agg #[.bool n,.slice a l c]) (numT p) 280:=⟨isNeg p,_,lim p,by rw[hn];rfl,hL,trimL_trim _,rfl,I1 p hi⟩;rw[n7.o] at Z;exact (Z.below d4).mono I.o.size (by omega)
   have d:=HX.o w4 j.o;obtain⟨r0,r1,r2,r3⟩:=d.k4;obtain⟨f0,f1,f2,f3⟩:=d.f4;clear j8 n6 d4 d
   go_wp2
   have d:=HX.o w4 j.o;have h9:Ej w4 w.heap.size:=Gs d (by simp);have hE:=Rf (G.o.trans (j.o.mono G.o.size)) w.heap.size Of (.bool n) (.slice a l c) (.bool s2) (.slice p2 l2 c2);have Z:=p4.o.put4 h9 (.bool n) (.slice a l c) (.bool s2) (.slice p2 l2 c2);have h2:=fun e=>(d7.o e).put4 h9 (.bool n) (.slice a l c) (.bool s2) (.slice p2 l2 c2);have hZ:Bx ((((w4.setCell ⟨w.heap.size,0,none⟩ (.bool n)).setCell ⟨w.heap.size,1,none⟩ (.slice a l c)).setCell ⟨w.heap.size,2,none⟩ (.bool s2)).setCell ⟨w.heap.size,3,none⟩ (.slice p2 l2 c2)) w.heap.size [.bool n,.slice a l c,.bool s2,.slice p2 l2 c2]:=(((d.set 0 _).set 1 _).set 2 _).set 3 _;generalize (((w4.setCell ⟨w.heap.size,0,none⟩ (.bool n)).setCell ⟨w.heap.size,1,none⟩ (.slice a l c)).setCell ⟨w.heap.size,2,none⟩ (.bool s2)).setCell ⟨w.heap.size,3,none⟩ (.slice p2 l2 c2)=WE at *;obtain⟨m0,m1,m2,m3⟩:=hZ.k4;have s1:XX w.heap.size WE s none (.agg #[.bool n,.slice a l c,.bool s2,.slice p2 l2 c2]) ok:=by
    have l3:isIntB s=ok:=by rw[<-n7.o];exact b7.o
    refine⟨⟨n,a,l,c,s2,p2,l2,c2,rfl⟩,?_,?_⟩
    ·constructor
     ·intro e;exact⟨numT s,1,l3.trans e,rfl,rfl⟩
     ·rintro⟨x,y,h,_⟩;rw[<-l3];exact h
    ·intro e;exact⟨numT s,1,⟨l3.trans e,rfl,rfl⟩,n,_,s2,_,rfl,h2 e,Z⟩
   refine Jj (v:=.tuple #[.agg #[.bool n,.slice a l c,.bool s2,.slice p2 l2 c2],.bool ok]) ?_ rfl ⟨_,ok,rfl,s1,hE⟩;simp[results,results140,go_sem,m0,m1,m2,m3]
 | some i=>
   have i8:∀ W,(Op.equalIn 10000 179 (.agg #[.string p,.bool b,.string q]) (.agg #[.string p,.bool false,.string ⟨#[]⟩])).run prog W=.ok false W:=fun W=>by
    rw[ON,<-HP.o.2.2];simp
   go_wp2_with fail
   refine (B0 p q _ i1.o.2.1 i1.o.2.2).mono ?_;rintro e M ⟨n1,a1,l1,c1,n2,a2,l2,c2,rfl,p8,p0,d5⟩;have s8:=Hd p8;have n9:=Hd p0;have a8:=Hd d5;obtain⟨ok,A⟩:=O1 (isIntB p&&isIntB q);have b7:=Hd A;rw[A];clear p8 p0 d5 A j0 j1 j2 i8;obtain⟨W4,d9⟩:=O1 ((M.alloc (.cells #[.bool n1,.slice a1 l1 c1] 162)).alloc (.cells #[.bool n2,.slice a2 l2 c2] 162));have s7:=Hd d9;have i6:Up M W4:=by rw[<-d9];exact Om (Oy _ _) _
   have l4:Bx W4 M.heap.size [.bool n1,.slice a1 l1 c1]:=by rw[<-d9];exact (Ox M _ _).alloc _
   have i7:Bx W4 (M.heap.size+1) [.bool n2,.slice a2 l2 c2]:=by
    rw[<-d9];have h:=Ox (M.alloc (.cells #[.bool n1,.slice a1 l1 c1] 162)) [.bool n2,.slice a2 l2 c2] 162;rw[Ji] at h;exact h
   have HN:Hid (∀ W,Up W4 W->Bx W M.heap.size [.bool n1,.slice a1 l1 c1]/\Bx W (M.heap.size+1) [.bool n2,.slice a2 l2 c2]):=fun W hW=>⟨l4.below l4.lt hW,i7.below i7.lt hW⟩;have j5:=Hd i6;have j:Hid (Up W0 W4):=O.o.trans ((a8.o.trans (i6.mono a8.o.size)).mono O.o.size);have k7:=a8.up i6;obtain⟨d0,d1⟩:=i7.k2;clear d9 i6 l4 i7
   go_upto_region 7 with fail
   rw[s7.o];clear k0 k1 k2
   cases ok
   ·have l7:Hid (∀ x y,¬ RatV s (some i) x y):=fun x y h=>by
     have Z:=h.1.1;have h2:=h.1.2;rw[HP.o.1] at Z;rw[HP.o.2.1] at h2;have:=b7.o;rw[Z,h2] at this
     cases this
    have d:=HX.o W4 j.o;obtain⟨r0,r1,r2,r3⟩:=d.k4;obtain⟨f0,f1,f2,f3⟩:=d.f4;clear d
    go_wp2
    have d:=HX.o W4 j.o;have hE:=Rf (G.o.trans (j.o.mono G.o.size)) w.heap.size Of (.bool false) (.slice none 0 0) (.bool false) (.slice none 0 0);have hZ:Bx ((((W4.setCell ⟨w.heap.size,0,none⟩ (.bool false)).setCell ⟨w.heap.size,1,none⟩ (.slice none 0 0)).setCell ⟨w.heap.size,2,none⟩ (.bool false)).setCell ⟨w.heap.size,3,none⟩ (.slice none 0 0)) w.heap.size [.bool false,.slice none 0 0,.bool false,.slice none 0 0]:=(((d.set 0 _).set 1 _).set 2 _).set 3 _;generalize (((W4.setCell ⟨w.heap.size,0,none⟩ (.bool false)).setCell ⟨w.heap.size,1,none⟩ (.slice none 0 0)).setCell ⟨w.heap.size,2,none⟩ (.bool false)).setCell ⟨w.heap.size,3,none⟩ (.slice none 0 0)=WE at *;obtain⟨m0,m1,m2,m3⟩:=hZ.k4;refine Jj (v:=.tuple #[.agg #[.bool false,.slice none 0 0,.bool false,.slice none 0 0],.bool false]) ?_ rfl ⟨_,false,rfl,⟨⟨false,none,0,0,false,none,0,0,rfl⟩,⟨(fun e=>by cases e),fun ⟨x,y,h⟩=>(l7.o x y h).elim⟩,(fun e=>by cases e)⟩,hE⟩;simp[results,results140,go_sem,m0,m1,m2,m3]
   ·have a7:Hid (isIntB p=true/\isIntB q=true):=by
     unfold Hid
     have:=b7.o
     simpa using this
    go_wp2_with fail
    refine (Q9 _ _ _ _ _).mono ?_;rintro e w5 ⟨rfl,o4⟩;have U:Hid (Up W4 w5):=by unfold Hid;rw[o4];exact Oy _ _
    have d6:Hid (Up W0 w5):=j.o.trans (U.o.mono j.o.size);have p7:l2=(lim q).length:=by
     obtain⟨_,hL⟩:=n9.o a7.o.2;obtain⟨_,_,e,_⟩:=hL;simp only[Value.slice.injEq] at e;exact e.2.1
    have n4:=Hd p7;clear o4 p7 d0 d1
    by_cases hz:l2=0
    ·have z:((l2:Int)==0)=true:=by rw[Yc];omega
     have l7:Hid (∀ x y,¬ RatV s (some i) x y):=fun x y h=>by
      have Z:=h.2.1.1;rw[HP.o.2.1] at Z;exact Z ((Id _ _ (trimL_trim _)).2 (Jv (n4.o.symm.trans hz)))
     rw[z];have d:=HX.o w5 d6.o;obtain⟨r0,r1,r2,r3⟩:=d.k4;obtain⟨f0,f1,f2,f3⟩:=d.f4;clear d
     go_wp2
     have d:=HX.o w5 d6.o;have hE:=Rf (G.o.trans (d6.o.mono G.o.size)) w.heap.size Of (.bool false) (.slice none 0 0) (.bool false) (.slice none 0 0);have hZ:Bx ((((w5.setCell ⟨w.heap.size,0,none⟩ (.bool false)).setCell ⟨w.heap.size,1,none⟩ (.slice none 0 0)).setCell ⟨w.heap.size,2,none⟩ (.bool false)).setCell ⟨w.heap.size,3,none⟩ (.slice none 0 0)) w.heap.size [.bool false,.slice none 0 0,.bool false,.slice none 0 0]:=(((d.set 0 _).set 1 _).set 2 _).set 3 _;generalize (((w5.setCell ⟨w.heap.size,0,none⟩ (.bool false)).setCell ⟨w.heap.size,1,none⟩ (.slice none 0 0)).setCell ⟨w.heap.size,2,none⟩ (.bool false)).setCell ⟨w.heap.size,3,none⟩ (.slice none 0 0)=WE at *;obtain⟨m0,m1,m2,m3⟩:=hZ.k4;refine Jj (v:=.tuple #[.agg #[.bool false,.slice none 0 0,.bool false,.slice none 0 0],.bool false]) ?_ rfl ⟨_,false,rfl,⟨⟨false,none,0,0,false,none,0,0,rfl⟩,⟨(fun e=>by cases e),fun ⟨x,y,h⟩=>(l7.o x y h).elim⟩,(fun e=>by cases e)⟩,hE⟩;simp[results,results140,go_sem,m0,m1,m2,m3]
    ·have z:((l2:Int)==0)=false:=by rw[Jc];omega
     rw[z];have l9:=HN.o w5 U.o;obtain⟨d0,d1⟩:=l9.1.k2;obtain⟨d2,d3⟩:=l9.2.k2;clear l9;have j7:Hid (Up W2 w5):=k7.o.trans (U.o.mono k7.o.size);have b6:Hid (Up w w5):=I.o.trans (j7.o.mono I.o.size);have b8:Up M w5:=j5.o.trans (U.o.mono j5.o.size);have d7:Hid (Gt w.heap.size w5 (.agg #[.bool n1,.slice a1 l1 c1]) (numT p) 280):=by
      obtain⟨hn,hL⟩:=s8.o a7.o.1;have Z:Gt W2.heap.size M (.agg #[.bool n1,.slice a1 l1 c1]) (numT p) 280:=⟨isNeg p,_,lim p,by rw[hn];rfl,hL,trimL_trim _,rfl,I1 p a7.o.1⟩;exact (Z.below b8).mono I.o.size Of
     have o8:Hid (Gt w.heap.size w5 (.agg #[.bool n2,.slice a2 l2 c2]) (numT q) 280):=by
      obtain⟨hn,hL⟩:=n9.o a7.o.2;have Z:Gt W2.heap.size M (.agg #[.bool n2,.slice a2 l2 c2]) (numT q) 280:=⟨isNeg q,_,lim q,by rw[hn];rfl,hL,trimL_trim _,rfl,I1 q a7.o.2⟩;exact (Z.below b8).mono I.o.size Of
     have o9:Hid (numT q≠0):=fun h=>hz (by
      have h2:lim q=[]:=(Id _ _ (trimL_trim _)).1 h;rw[n4.o,h2];rfl)
     clear b8
     go_wp2_with fail
     refine (Pb w.heap.size _ _ (numT p) (numT q) 280 _ b6.o.size d7.o o8.o o9.o (by omega) (o2.o.below b6.o) (r6.o.below b6.o)).mono ?_;rintro e w6 ⟨z,xn,xd,rfl,hR,j6,k8⟩;have o6:=Hd j6;obtain⟨s5,p5,l5,c5,s6,p6,l6,c6,rfl,_,_⟩:=hR.shape;obtain⟨Y,h0⟩:=O1 (w6.alloc (.cells #[.bool s5,.slice p5 l5 c5,.bool s6,.slice p6 l6 c6] 166));have r5:=Hd h0;have m6:Up w6 Y:=by rw[<-h0];exact Oy _ _
     have K:Bx Y w6.heap.size [.bool s5,.slice p5 l5 c5,.bool s6,.slice p6 l6 c6]:=by rw[<-h0];exact Ox w6 _ _
     have o5:Hid (∀ W,Up Y W->Qy w.heap.size W (.agg #[.bool s5,.slice p5 l5 c5,.bool s6,.slice p6 l6 c6]) xn xd 283):=fun W hW=>(hR.below m6).below hW;have t7:Hid (∀ W,Up Y W->Bx W w6.heap.size [.bool s5,.slice p5 l5 c5,.bool s6,.slice p6 l6 c6]):=fun W hW=>K.below K.lt hW;have j4:Up w5 Y:=k8.trans (m6.mono k8.size);have V:=j7.up j4;have J:Hid (Up W0 Y):=O.o.trans (V.o.mono O.o.size);have E:Hid (Up w Y):=G.o.trans (J.o.mono G.o.size);have e0:=K.cell 0;have e1:=K.cell 1;have e2:=K.cell 2;have e3:=K.cell 3;have g9:=n3.o Y V.o;have k0:=g9.cell 0;have k1:=g9.cell 1;have k2:=g9.cell 2;simp only[Jo,Jr] at e0 e1 e2 e3 k0 k1 k2;clear hR j6 k8 h0 m6 K j4 g9 d0 d1 d2 d3
     go_upto_region 10 with fail
     rw[r5.o]
     go_region_with (first
      | (go_at_call 163
         refine (QB w.heap.size _ xn xd 283 Y.drew E.o.size (o5.o _ (Jh _ Y).drew) (by omega) (o2.o.below (E.o.trans ((Jh _ Y).drew.mono E.o.size))) (s9.o.below (E.o.trans ((Jh _ Y).drew.mono E.o.size)))).mono ?_;rintro e w8 ⟨r,rfl,q9,n5⟩;obtain⟨u,v,bb,rfl,hu,hv⟩:=q9;have b4:Hid (Up Y w8):=(Jh _ Y).drew.trans n5;have r4:Hid (Ef xn u/\(if xd=1 then bb=false/\v=⟨#[]⟩ else bb=true/\Ef xd v)):=⟨hu,hv⟩;obtain⟨ok,A⟩:=O1 (u.toList==p.toList&&bb==b&&v.toList==q.toList);have o1:=Hd A;have i8:∀ W,(Op.equalIn 10000 179 (.agg #[.string u,.bool bb,.string v]) (.agg #[.string p,.bool b,.string q])).run prog W=.ok ok W:=fun W=>by rw[ON,A]
         have b5:=t7.o w8 b4.o;have g0:=b5.cell 0;have g1:=b5.cell 1;have g2:=b5.cell 2;have g3:=b5.cell 3;have g8:=n3.o w8 (V.o.trans (b4.o.mono V.o.size));have q0:=g8.cell 0;have q1:=g8.cell 1;have q2:=g8.cell 2;have d:=HX.o w8 (J.o.trans (b4.o.mono J.o.size));have r0:=d.cell 0;have r1:=d.cell 1;have r2:=d.cell 2;have r3:=d.cell 3;simp only[Jo,Jr] at g0 g1 g2 g3 q0 q1 q2 r0 r1 r2 r3;obtain⟨f0,f1,f2,f3⟩:=d.f4;have x5:w.heap.size≠w1.heap.size:=by omega
         clear n5 hu hv A b5 g8 d))
     all_goals
      try simp only[Yz,Ys,Ym,Act.put,Ja,Jd,Je]
      go_wp2
      have d:=HX.o w8 (J.o.trans (b4.o.mono J.o.size));have h9:Ej w8 w.heap.size:=Gs d (by simp);have hE:=Rf (E.o.trans (b4.o.mono E.o.size)) w.heap.size Of (.bool s5) (.slice p5 l5 c5) (.bool s6) (.slice p6 l6 c6);have s0:=(o5.o w8 b4.o).put4 h9 (.bool s5) (.slice p5 l5 c5) (.bool s6) (.slice p6 l6 c6);have hZ:Bx ((((w8.setCell ⟨w.heap.size,0,none⟩ (.bool s5)).setCell ⟨w.heap.size,1,none⟩ (.slice p5 l5 c5)).setCell ⟨w.heap.size,2,none⟩ (.bool s6)).setCell ⟨w.heap.size,3,none⟩ (.slice p6 l6 c6)) w.heap.size [.bool s5,.slice p5 l5 c5,.bool s6,.slice p6 l6 c6]:=(((d.set 0 _).set 1 _).set 2 _).set 3 _;generalize (((w8.setCell ⟨w.heap.size,0,none⟩ (.bool s5)).setCell ⟨w.heap.size,1,none⟩ (.slice p5 l5 c5)).setCell ⟨w.heap.size,2,none⟩ (.bool s6)).setCell ⟨w.heap.size,3,none⟩ (.slice p6 l6 c6)=WE at *;obtain⟨m0,m1,m2,m3⟩:=hZ.k4;refine Jj (v:=.tuple #[.agg #[.bool s5,.slice p5 l5 c5,.bool s6,.slice p6 l6 c6],.bool ok]) ?_ rfl ⟨_,ok,rfl,XI _ _ s p q u v i b bb ok _ xn xd HP.o a7.o o9.o o6.o r4.o o1.o s0,hE⟩;simp[results,results140,go_sem,m0,m1,m2,m3]
end Go.Proofs.YtipgjenolpofpaaGreatDoor.Q
