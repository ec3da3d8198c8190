import Derived.Test.YtipgjenolpofpaaGreatDoorP10
set_option maxRecDepth 100000
set_option maxHeartbeats 4000000
namespace Go.Proofs.YtipgjenolpofpaaGreatDoor.Q
open Go.ChangeShapes Go.WideShapes Go.ChangeAt Go.RowKit Go.Proofs.Tryz
theorem OF (x z:Int)(y:Bool)(w:World):(Instr.field 215 (.agg #[.int .i64 x,.bool y,.int .i64 z]) 1).run prog w=.ok (.bool y) w:=by kernel_rfl
theorem Tq (B:Nat)(s t:Bool)(va vb:Value)(a b:List Nat)(w:World)(hBw:B<=w.heap.size)(ha:U1 B w va a)(hb:U1 B w vb b)(hla:a.length<=90000)(hlb:b.length<=90000)(hta:isTrim a)(htb:isTrim b)(hne:b≠[])(hSP:SP w) :
 Calls prog 189 #[.agg #[.bool s,va],.agg #[.bool t,vb]] w fun e w'=>∃ z1 z2 q r,e=.returned (.tuple #[z1,z2])/\Gt B w' z1 q (a.length+2)/\Gt B w' z2 r (b.length+3)/\Ny (sg s (val a)) (sg t (val b)) q r/\Up w w':=by
 have HA:Hid (∀ W,Up w W->U1 B W va a):=fun W hW=>ha.below hW;have HB:Hid (∀ W,Up w W->U1 B W vb b):=fun W hW=>hb.below hW;obtain⟨pa,ca,rfl,_,_,e4,_⟩:=ha;obtain⟨pb,cb,rfl,_,_,d8,_⟩:=hb;have HX:=OJ w s pa a.length ca t pb b.length cb 162;obtain⟨W0,b9⟩:=O1 ((((w.alloc (.cells #[.bool s,.slice pa a.length ca] 162)).alloc (.cells #[.bool t,.slice pb b.length cb] 162)).alloc (.cells #[.bool false,.slice none 0 0] 162)).alloc (.cells #[.bool false,.slice none 0 0] 162));have l4:=Ec b9;have g0:Up w W0:=by rw[<-b9];exact Om (Om (Om (Oy _ _) _) _) _
 have j2:=Ec g0;have i8:W0.heap.size=w.heap.size+4:=by rw[<-b9];simp
 rw[b9] at HX;have HS:=Ec i8;have K:Hid (∀ W,Up W0 W->BoxD w.heap.size W s pa a.length ca t pb b.length cb):=fun W hW=>HX.below (by omega) hW;have HF:Hid (∀ W,Up W0 W->Up w W):=fun W hW=>g0.trans (hW.mono (by omega));have e6:Hid (∀ W,Up w W->SP W):=fun W hW=>hSP.below hW;have HT:Hid (isTrim a/\isTrim b/\b≠[]/\B<=w.heap.size):=⟨hta,htb,hne,hBw⟩;have j8:Hid (okL a/\okL b):=⟨e4,d8⟩;obtain⟨a0,a1,b0,b1,r0,r1,t0,t1,f⟩:=HX;clear f b9 i8 g0 hta htb hne hBw e4 d8 hSP;have n3:=OF
 go_enter func189,ntmps189
 go_wp2_with fail
 rw[l4.o];refine (Rd B _ _ a b _ (by have:=HS.o;have:=HT.o;omega) (HA.o _ j2.o) (HB.o _ j2.o) (by omega) HT.o.1 HT.o.2.1 HT.o.2.2.1).mono ?_;rintro e wx ⟨v,u,Q,U,rfl,hD,h0⟩;have d:=Hd h0;have b4:Hid (∀ W,Up wx W->U1 B W v Q):=fun W hW=>hD.1.1.below hW;have b3:Hid (∀ W,Up wx W->U1 B W u U):=fun W hW=>hD.1.2.below hW;have k9:okL U:=by obtain⟨_,_,_,_,_,h,_⟩:=hD.1.2;exact h
 have j1:U.length<=b.length:=Ru U b hD.2.1.2 j8.o.2 hD.2.2.2.2;have A:Hid (Q.length<=a.length/\U.length<=b.length):=⟨hD.2.2.1.1,j1⟩;have b7:Hid (val a=val Q*val b+val U/\val U<val b/\isTrim U):=⟨hD.2.2.2.1,hD.2.2.2.2,hD.2.1.2⟩;obtain⟨pv,cv,hv,_⟩:=id hD.1.1;obtain⟨pu,cu,hu,_⟩:=id hD.1.2;obtain⟨lv,f8⟩:=O1 Q.length;obtain⟨lu,e5⟩:=O1 U.length;subst hv hu;rw[f8] at b4 A ⊢;rw[e5] at b3 A ⊢;have M:Hid (Q.length=lv/\U.length=lu):=⟨f8,e5⟩;clear a0 a1 b0 b1 r0 r1 t0 t1 h0 hD j1 f8 e5 k9
 cases s
 ·have c8:Hid (Ny (sg false (val a)) (sg t (val b)) (sg t (val Q)) (sg false (val U))):=by
   have h:=Mn t _ _ _ _ b7.o.1 b7.o.2.1;rw[show (false != t)=t by cases t<;>rfl] at h;exact h
  have A:Hid (Q.length<=a.length+2/\U.length<=b.length+3):=by have:=A.o;have:=M.o;exact⟨by omega,by omega⟩
  obtain⟨k0,k1,l0,l1,m0,m1,n0,n1,f,z⟩:=K.o wx d.o;clear f z
  go_wp2_with fail
  refine (Ix _ _ _ _ _ _ _ _ _ (e6.o _ (HF.o _ d.o))).mono ?_;rintro e ws ⟨rfl,J⟩;have O:=Hd J;clear J k0 k1 l0 l1 m0 m1 n0 n1
  go_wp2_with fail
  refine (Kc B t _ Q _ (b4.o _ O.o)).mono ?_;rintro e wm ⟨v',rfl,hcut,V⟩;have E:=O.up V;have I:Hid (∀ W,Up wx W->U1 B W v' (Oe Q)):=fun W hW=>hcut _ _ (b4.o W hW);obtain⟨pq,cq,hq,_⟩:=I.o wm E.o;subst hq;clear hcut V
  go_wp2_with fail
  refine (Kc B false _ U _ (b3.o _ E.o)).mono ?_;rintro e G ⟨u',rfl,hcut,Y⟩;have j:=E.up Y;have Z:Hid (∀ W,Up wx W->U1 B W u' (Oe U)):=fun W hW=>hcut _ _ (b3.o W hW);obtain⟨pr,cr,hr,_⟩:=Z.o G j.o;subst hr;obtain⟨_,_,_,_,u0,u1,w0,w1,f,z⟩:=K.o G (d.o.trans (j.o.mono d.o.size));have i20:=f 2 (by omega) 0;have i21:=f 2 (by omega) 1;have j3:=f 3 (by omega) 0;have g5:=f 3 (by omega) 1;have HZ:Hid (Ej G (w.heap.size+2)/\Ej G (w.heap.size+3)):=⟨z 2 (by omega),z 3 (by omega)⟩;clear hcut Y f z
  go_wp2
  have d1:Hid (Up w G):=HF.o _ (d.o.trans (j.o.mono d.o.size));refine Jj ?_ rfl ⟨_,_,_,_,rfl,⟨t,_,Oe Q,rfl,(I.o _ j.o).keeps HZ.o.1 HZ.o.2 (((((Kq.refl _ _ G).setCell _ _ ?_).setCell _ _ ?_).setCell _ _ ?_).setCell _ _ ?_),trimL_trim _,rfl,?_⟩,⟨false,_,Oe U,rfl,(Z.o _ j.o).keeps HZ.o.1 HZ.o.2 (((((Kq.refl _ _ G).setCell _ _ ?_).setCell _ _ ?_).setCell _ _ ?_).setCell _ _ ?_),trimL_trim _,rfl,?_⟩,?_,(((d1.o.setCell ?_ _).setCell ?_ _).setCell ?_ _).setCell ?_ _⟩
  all_goals first
   | (simp[results,results189,go_sem,u0,u1,w0,w1];done)
   | (simp;omega)
   | (have:=Ku Q;have:=A.o;omega)
   | (have:=Ku U;have:=A.o;omega)
   | (rw[O3,O3];exact c8.o)
 by_cases l7:lu=0
 ·subst l7;have c8:Hid (Ny (sg true (val a)) (sg t (val b)) (sg (!t) (val Q)) (sg false (val U))):=by
   have e:U=[]:=Jv M.o.2;have h:=b7.o;rw[e] at h ⊢;have h2:=Cg t _ _ _ h.1 (by have:=h.2.1;simp[val] at this;omega);rw[show (true != t)=!t by cases t<;>rfl] at h2;exact h2
  have A:Hid (Q.length<=a.length+2/\U.length<=b.length+3):=by have:=A.o;have:=M.o;exact⟨by omega,by omega⟩
  obtain⟨k0,k1,l0,l1,m0,m1,n0,n1,f,z⟩:=K.o wx d.o;clear f z
  go_wp2_with fail
  refine (Ix _ _ _ _ _ _ _ _ _ (e6.o _ (HF.o _ d.o))).mono ?_;rintro e ws ⟨rfl,J⟩;have O:=Hd J;clear J k0 k1 l0 l1 m0 m1 n0 n1
  go_wp2_with fail
  refine (Kc B (!t) _ Q _ (b4.o _ O.o)).mono ?_;rintro e wm ⟨v',rfl,hcut,V⟩;have E:=O.up V;have I:Hid (∀ W,Up wx W->U1 B W v' (Oe Q)):=fun W hW=>hcut _ _ (b4.o W hW);obtain⟨pq,cq,hq,_⟩:=I.o wm E.o;subst hq;clear hcut V
  go_wp2_with fail
  refine (Kc B false _ U _ (b3.o _ E.o)).mono ?_;rintro e G ⟨u',rfl,hcut,Y⟩;have j:=E.up Y;have Z:Hid (∀ W,Up wx W->U1 B W u' (Oe U)):=fun W hW=>hcut _ _ (b3.o W hW);obtain⟨pr,cr,hr,_⟩:=Z.o G j.o;subst hr;obtain⟨_,_,_,_,u0,u1,w0,w1,f,z⟩:=K.o G (d.o.trans (j.o.mono d.o.size));have i20:=f 2 (by omega) 0;have i21:=f 2 (by omega) 1;have j3:=f 3 (by omega) 0;have g5:=f 3 (by omega) 1;have HZ:Hid (Ej G (w.heap.size+2)/\Ej G (w.heap.size+3)):=⟨z 2 (by omega),z 3 (by omega)⟩;clear hcut Y f z
  go_wp2
  have d1:Hid (Up w G):=HF.o _ (d.o.trans (j.o.mono d.o.size));refine Jj ?_ rfl ⟨_,_,_,_,rfl,⟨(!t),_,Oe Q,rfl,(I.o _ j.o).keeps HZ.o.1 HZ.o.2 (((((Kq.refl _ _ G).setCell _ _ ?_).setCell _ _ ?_).setCell _ _ ?_).setCell _ _ ?_),trimL_trim _,rfl,?_⟩,⟨false,_,Oe U,rfl,(Z.o _ j.o).keeps HZ.o.1 HZ.o.2 (((((Kq.refl _ _ G).setCell _ _ ?_).setCell _ _ ?_).setCell _ _ ?_).setCell _ _ ?_),trimL_trim _,rfl,?_⟩,?_,(((d1.o.setCell ?_ _).setCell ?_ _).setCell ?_ _).setCell ?_ _⟩
  all_goals first
   | (simp[results,results189,go_sem,u0,u1,w0,w1];done)
   | (simp;omega)
   | (have:=Ku Q;have:=A.o;omega)
   | (have:=Ku U;have:=A.o;omega)
   | (rw[O3,O3];exact c8.o)
 have hp:0<lu:=by omega
 have l8:Hid (0<val U):=by
  have e:U≠[]:=by intro e;rw[e] at M;have:=M.o.2;simp at this;omega
  exact Nj U b7.o.2.2 e
 obtain⟨k0,k1,l0,l1,m0,m1,n0,n1,f,z⟩:=K.o wx d.o;clear f z
 go_wp2_with fail
 have e1:U1 wx.heap.size (wx.alloc (.cells #[.int .u32 1] 154)) (.slice (some ⟨wx.heap.size,0,none⟩) 1 1) [1]:=UY _ _ 1 _ (by omega) rfl rfl Of;refine (Ar B _ _ Q [1] _ (b4.o _ (Oy _ _)) (e1.mono (by have:=d.o.size;have:=HS.o;have:=HT.o.2.2.2;omega)) (by have:=A.o;have:=M.o;omega) (by simp)).mono ?_;clear e1;rintro e wy ⟨v2,Q2,rfl,f9,h9,i7,j7,i6⟩;have b6:Hid (Up wx wy):=(Oy wx (.cells #[.int .u32 1] 154)).trans (i6.mono (by simp));have d0:Hid (U1 B wy v2 Q2/\val Q2=val Q+1/\Q2.length<=a.length+2):=⟨f9.mono (by have:=d.o.size;have:=HS.o;have:=HT.o.2.2.2;simp;omega),by rw[h9];simp[val],by have:=A.o;have:=M.o;simp at i7;omega⟩;obtain⟨j6,l9,l3,_⟩:=id f9;subst l3;clear f9 h9 i7 j7 i6 k0 k1 l0 l1 m0 m1 n0 n1;obtain⟨k0,k1,l0,l1,m0,m1,n0,n1,f,z⟩:=K.o wy (d.o.trans (b6.o.mono d.o.size));clear f z
 go_wp2_with fail
 refine (B8 B _ _ b U _ (HB.o _ (HF.o _ (d.o.trans (b6.o.mono d.o.size)))) (b3.o _ b6.o) HT.o.2.2.1 (by omega) (by have:=A.o;have:=M.o;omega) (by have:=b7.o;omega)).mono ?_;rintro e wz ⟨u2,U2,rfl,e9,g6,g8,j9,e7⟩;have b5:Hid (Up W0 wz):=d.o.trans ((b6.o.trans (e7.mono b6.o.size)).mono d.o.size);have e0:Hid (∀ W,Up wz W->U1 B W (.slice j6 Q2.length l9) Q2):=fun W hW=>(d0.o.1.below e7).below hW;have d9:Hid (∀ W,Up wz W->U1 B W u2 U2):=fun W hW=>(e9.mono (by have:=b6.o.size;have:=d.o.size;have:=HS.o;have:=HT.o.2.2.2;omega)).below hW;have c8:Hid (Ny (sg true (val a)) (sg t (val b)) (sg (!t) (val Q2)) (sg false (val U2))):=by
  rw[d0.o.2.1];have h2:=Pr t _ _ _ _ _ b7.o.1 g6 l8.o;rw[show (true != t)=!t by cases t<;>rfl] at h2;exact h2
 have e3:Hid (Q2.length<=a.length+2/\U2.length<=b.length+3):=⟨d0.o.2.2,by omega⟩;obtain⟨o0,n7,h6,_⟩:=id e9;subst h6;clear e9 g6 g8 j9 e7 k0 k1 l0 l1 m0 m1 n0 n1;obtain⟨k0,k1,l0,l1,m0,m1,n0,n1,f,z⟩:=K.o wz b5.o;clear f z
 go_wp2_with fail
 refine (Ix _ _ _ _ _ _ _ _ _ (e6.o _ (HF.o _ b5.o))).mono ?_;rintro e ws ⟨rfl,J⟩;have O:=Hd J;clear J k0 k1 l0 l1 m0 m1 n0 n1
 go_wp2_with fail
 refine (Kc B (!t) _ Q2 _ (e0.o _ O.o)).mono ?_;rintro e wm ⟨v',rfl,hcut,V⟩;have E:=O.up V;have I:Hid (∀ W,Up wz W->U1 B W v' (Oe Q2)):=fun W hW=>hcut _ _ (e0.o W hW);obtain⟨pq,cq,hq,_⟩:=I.o wm E.o;subst hq;clear hcut V
 go_wp2_with fail
 refine (Kc B false _ U2 _ (d9.o _ E.o)).mono ?_;rintro e G ⟨u',rfl,hcut,Y⟩;have j:=E.up Y;have Z:Hid (∀ W,Up wz W->U1 B W u' (Oe U2)):=fun W hW=>hcut _ _ (d9.o W hW);obtain⟨pr,cr,hr,_⟩:=Z.o G j.o;subst hr;obtain⟨_,_,_,_,u0,u1,w0,w1,f,z⟩:=K.o G (b5.o.trans (j.o.mono b5.o.size));have i20:=f 2 (by omega) 0;have i21:=f 2 (by omega) 1;have j3:=f 3 (by omega) 0;have g5:=f 3 (by omega) 1;have HZ:Hid (Ej G (w.heap.size+2)/\Ej G (w.heap.size+3)):=⟨z 2 (by omega),z 3 (by omega)⟩;clear hcut Y f z
 go_wp2
 have d1:Hid (Up w G):=HF.o _ (b5.o.trans (j.o.mono b5.o.size));refine Jj ?_ rfl ⟨_,_,_,_,rfl,⟨(!t),_,Oe Q2,rfl,(I.o _ j.o).keeps HZ.o.1 HZ.o.2 (((((Kq.refl _ _ G).setCell _ _ ?_).setCell _ _ ?_).setCell _ _ ?_).setCell _ _ ?_),trimL_trim _,rfl,?_⟩,⟨false,_,Oe U2,rfl,(Z.o _ j.o).keeps HZ.o.1 HZ.o.2 (((((Kq.refl _ _ G).setCell _ _ ?_).setCell _ _ ?_).setCell _ _ ?_).setCell _ _ ?_),trimL_trim _,rfl,?_⟩,?_,(((d1.o.setCell ?_ _).setCell ?_ _).setCell ?_ _).setCell ?_ _⟩
 all_goals first
  | (simp[results,results189,go_sem,u0,u1,w0,w1];done)
  | (simp;omega)
  | (have:=Ku Q2;have:=e3.o;omega)
  | (have:=Ku U2;have:=e3.o;omega)
  | (rw[O3,O3];exact c8.o)
structure BoxQ (g:Nat)(W:World)(x:Int)(xn:Bool)(pa:Option Addr)(la ca:Nat)(y:Int)(yn:Bool)(pb:Option Addr)(lb cb:Nat):Prop where
 a0:W.cell? ⟨g,0,none⟩=some (.int .i64 x)
 a1:W.cell? ⟨g,1,none⟩=some (.bool xn)
 a2:W.cell? ⟨g,2,none⟩=some (.slice pa la ca)
 b0:W.cell? ⟨g+1,0,none⟩=some (.int .i64 y)
 b1:W.cell? ⟨g+1,1,none⟩=some (.bool yn)
 b2:W.cell? ⟨g+1,2,none⟩=some (.slice pb lb cb)
 r0:W.cell? ⟨g+2,0,none⟩=some (.int .i64 0)
 r1:W.cell? ⟨g+2,1,none⟩=some (.bool false)
 r2:W.cell? ⟨g+2,2,none⟩=some (.slice none 0 0)
 t0:W.cell? ⟨g+3,0,none⟩=some (.int .i64 0)
 t1:W.cell? ⟨g+3,1,none⟩=some (.bool false)
 t2:W.cell? ⟨g+3,2,none⟩=some (.slice none 0 0)
 f:∀ k,k<4->∀ i,W.frozen? ⟨g+k,i,none⟩=false
theorem BoxQ.below {g:Nat}{W W':World}{x:Int}{xn:Bool}{pa:Option Addr}{la ca:Nat}{y:Int}{yn:Bool}{pb:Option Addr}{lb cb:Nat}(h:BoxQ g W x xn pa la ca y yn pb lb cb){N:Nat}(hN:g+4<=N)(hb:Below N W W'):BoxQ g W' x xn pa la ca y yn pb lb cb:=by
 have q:∀ k,k<4->∀ i,W'.cell? ⟨g+k,i,none⟩=W.cell? ⟨g+k,i,none⟩:=fun k hk i=>hb.cell (p:=⟨g+k,i,none⟩) (by show g+k<N;omega);have f:∀ k,k<4->∀ i,W'.frozen? ⟨g+k,i,none⟩=W.frozen? ⟨g+k,i,none⟩:=fun k hk i=>hb.frozen (p:=⟨g+k,i,none⟩) (by show g+k<N;omega);exact⟨(q 0 (by omega) 0).trans h.a0,(q 0 (by omega) 1).trans h.a1,(q 0 (by omega) 2).trans h.a2,(q 1 (by omega) 0).trans h.b0,(q 1 (by omega) 1).trans h.b1,(q 1 (by omega) 2).trans h.b2,(q 2 (by omega) 0).trans h.r0,(q 2 (by omega) 1).trans h.r1,(q 2 (by omega) 2).trans h.r2,(q 3 (by omega) 0).trans h.t0,(q 3 (by omega) 1).trans h.t1,(q 3 (by omega) 2).trans h.t2,fun k hk i=>(f k hk i).trans (h.f k hk i)⟩
theorem F6 (w:World)(x:Int)(xn:Bool)(pa:Option Addr)(la ca:Nat)(y:Int)(yn:Bool)(pb:Option Addr)(lb cb:Nat)(ty:TypeId) :
 BoxQ w.heap.size ((((w.alloc (.cells #[.int .i64 x,.bool xn,.slice pa la ca] ty)).alloc (.cells #[.int .i64 y,.bool yn,.slice pb lb cb] ty)).alloc (.cells #[.int .i64 0,.bool false,.slice none 0 0] ty)).alloc (.cells #[.int .i64 0,.bool false,.slice none 0 0] ty)) x xn pa la ca y yn pb lb cb:=by
 refine⟨?_,?_,?_,?_,?_,?_,?_,?_,?_,?_,?_,?_,?_⟩
 iterate 3 · rw[Jt _ _ _ (by simp<;>omega),Jt _ _ _ (by simp<;>omega),Jt _ _ _ (by simp),Jp _ _ _ _ rfl];rfl
 iterate 3 · rw[Jt _ _ _ (by simp<;>omega),Jt _ _ _ (by simp<;>omega),Jp _ _ _ _ (by simp)];rfl
 iterate 3 · rw[Jt _ _ _ (by simp<;>omega),Jp _ _ _ _ (by simp)];rfl
 iterate 3 · rw[Jp _ _ _ _ (by simp)];rfl
 intro k d i
 match k,d with
 | 0,_=>rw[Yq _ _ _ (by simp<;>omega),Yq _ _ _ (by simp<;>omega),Yq _ _ _ (by simp),J7 _ _ _ _ (by simp)]
 | 1,_=>rw[Yq _ _ _ (by simp<;>omega),Yq _ _ _ (by simp<;>omega),J7 _ _ _ _ (by simp)]
 | 2,_=>rw[Yq _ _ _ (by simp<;>omega),J7 _ _ _ _ (by simp)]
 | 3,_=>rw[J7 _ _ _ _ (by simp)]
theorem VD (x y:Int)(hx1 : -1000000000000000000<x)(hx2:x<1000000000000000000)(hy:y≠0) :
 y*x.tdiv y+x.tmod y=x/\(x.tmod y).natAbs<y.natAbs/\(x.tdiv y).natAbs<=999999999999999999/\(x.tmod y≠0->(x.tdiv y).natAbs<=499999999999999999):=by
 have d:(x.tmod y).natAbs<y.natAbs:=by rw[Int.natAbs_tmod];exact Zx _ (by omega)
 refine⟨Int.mul_tdiv_add_tmod x y,d,?_,fun hr=>?_⟩
 ·rw[Int.natAbs_tdiv];exact Yk (Nat.div_le_self _ _) (by omega)
 rw[Int.natAbs_tdiv];have h:2<=y.natAbs:=by omega
 have h3:x.natAbs / y.natAbs<=x.natAbs / 2:=Nat.div_le_div_left h (by omega);exact Yk h3 (by omega)
theorem PP (x y q r:Int)(h:y*q+r=x)(hr:0<=r)(hl:r.natAbs<y.natAbs):Ny x y q r:=⟨by rw[Int.mul_comm];exact h.symm,hr,by omega⟩
theorem PH (x y q r:Int)(h:y*q+r=x)(hr:r<0)(hl:r.natAbs<y.natAbs)(hy:0<y):Ny x y (q - 1) (r+y):=⟨by rw[Int.sub_mul,Int.mul_comm q];omega,by omega,by omega⟩
theorem DV (x y q r:Int)(h:y*q+r=x)(hr:r<0)(hl:r.natAbs<y.natAbs)(hy:y<0):Ny x y (q+1) (r - y):=⟨by rw[Int.add_mul,Int.mul_comm q];omega,by omega,by omega⟩
theorem Ti (x y:Int)(w:World)(hx1 : -1000000000000000000<x)(hx2:x<1000000000000000000)(hy1 : -1000000000000000000<y)(hy2:y<1000000000000000000)(hy:y≠0) :
 Calls prog 129 #[.agg #[.int .i64 x,.bool false,.slice none 0 0],.agg #[.int .i64 y,.bool false,.slice none 0 0]] w fun e w'=>∃ z1 z2 q r,e=.returned (.tuple #[z1,z2])/\(N5 w.heap.size w' z1 q/\N5 w.heap.size w' z2 r)/\Ny x y q r/\Up w w':=by
 have Y:=F6 w x false none 0 0 y false none 0 0 123;obtain⟨J,h⟩:=O1 ((((w.alloc (.cells #[.int .i64 x,.bool false,.slice none 0 0] 123)).alloc (.cells #[.int .i64 y,.bool false,.slice none 0 0] 123)).alloc (.cells #[.int .i64 0,.bool false,.slice none 0 0] 123)).alloc (.cells #[.int .i64 0,.bool false,.slice none 0 0] 123));have a8:=Ec h;have a7:Hid (Up w J):=by rw[<-h];exact Om (Om (Om (Oy _ _) _) _) _
 have M:J.heap.size=w.heap.size+4:=by rw[<-h];simp
 rw[h] at Y;have HS:=Ec M;have O:Hid (∀ W,Up J W->BoxQ w.heap.size W x false none 0 0 y false none 0 0):=fun W hW=>Y.below (by omega) hW;obtain⟨a0,a1,a2,b0,b1,b2,r0,r1,r2,t0,t1,t2,_⟩:=Y;clear h M;obtain⟨U,Z,d3,V⟩:=VD x y hx1 hx2 hy;obtain⟨q,hq⟩:=O1 (x.tdiv y);obtain⟨r,hr⟩:=O1 (x.tmod y);rw[hq] at U d3 V;rw[hr] at U Z V;have I:Hid (y*q+r=x/\r.natAbs<y.natAbs):=⟨U,Z⟩;have q1 : -1000000000000000000<q:=by omega
 have q2:q<1000000000000000000:=by omega
 have s1 : -1000000000000000000<r:=by omega
 have s2:r<1000000000000000000:=by omega
 have d:Hid (r≠0->q.natAbs<=499999999999999999):=V;clear U Z d3 V;have G:0<=r∨(r<0/\0<y)∨(r<0/\y<0):=by omega
 rcases G with hc|⟨hc,A⟩|⟨hc,A⟩
 all_goals
  go_enter func129,ntmps129
  go_wp2_with fail
  rw[a8.o];refine (U5 _ _ _ _ _ _).mono ?_;rintro e wA ⟨rfl,hA⟩;have E:Hid (Up J wA):=by rw[hA];exact Oy _ _
  clear hA a0 a1 a2 b0 b1 b2 r0 r1 r2 t0 t1 t2;obtain⟨a0,a1,a2,b0,b1,b2,r0,r1,r2,t0,t1,t2,f⟩:=O.o wA E.o;clear f
  go_wp2_with fail
  refine (U5 _ _ _ _ _ _).mono ?_;rintro e wB ⟨rfl,hB⟩;have K:Hid (Up J wB):=by rw[hB];exact E.o.alloc E.o.size _
  have j:Hid (Up w wB):=a7.o.trans (K.o.mono (by have:=HS.o;omega));clear hB a0 a1 a2 b0 b1 b2 r0 r1 r2 t0 t1 t2;obtain⟨a0,a1,a2,b0,b1,b2,r0,r1,r2,t0,t1,t2,f⟩:=O.o wB K.o;have d8:=f 2 (by omega) 0;have d5:=f 2 (by omega) 1;have c6:=f 2 (by omega) 2;have d6:=f 3 (by omega) 0;have b8:=f 3 (by omega) 1;have d0:=f 3 (by omega) 2;clear f
  go_wp2
 ·refine Jj ?_ rfl ⟨_,_,q,r,rfl,⟨Hf _ _ q (by omega) (by omega),Hf _ _ r (by omega) (by omega)⟩,PP x y q r I.o.1 hc I.o.2,(((((j.o.setCell ?_ _).setCell ?_ _).setCell ?_ _).setCell ?_ _).setCell ?_ _).setCell ?_ _⟩
  all_goals first
   | (simp[results,results129,go_sem,r0,r1,r2,t0,t1,t2];done)
   | (simp;omega)
 ·go_region
  all_goals
   go_wp2
   refine Jj ?_ rfl ⟨_,_,(q - 1),(r+y),rfl,⟨Hf _ _ (q - 1) (by have:=d.o;omega) (by have:=d.o;omega),Hf _ _ (r+y) (by have:=d.o;omega) (by have:=d.o;omega)⟩,PH x y q r I.o.1 hc I.o.2 A,((((((j.o.setCell ?_ _).setCell ?_ _).setCell ?_ _).setCell ?_ _).setCell ?_ _).setCell ?_ _).drew⟩
   all_goals first
    | (simp[results,results129,go_sem,r0,r1,r2,t0,t1,t2];done)
    | (simp;omega)
 go_region
 all_goals
  go_wp2
  refine Jj ?_ rfl ⟨_,_,(q+1),(r - y),rfl,⟨Hf _ _ (q+1) (by have:=d.o;omega) (by have:=d.o;omega),Hf _ _ (r - y) (by have:=d.o;omega) (by have:=d.o;omega)⟩,DV x y q r I.o.1 hc I.o.2 A,((((((j.o.setCell ?_ _).setCell ?_ _).setCell ?_ _).setCell ?_ _).setCell ?_ _).setCell ?_ _).drew⟩
  all_goals first
   | (simp[results,results129,go_sem,r0,r1,r2,t0,t1,t2];done)
   | (simp;omega)
structure BoxV (g:Nat)(W:World)(z0:Int)(zn:Bool)(za:Option Addr)(zl zc:Nat):Prop where
 lt:g<W.heap.size
 c0:W.cell? ⟨g,0,none⟩=some (.int .i64 z0)
 c1:W.cell? ⟨g,1,none⟩=some (.bool zn)
 c2:W.cell? ⟨g,2,none⟩=some (.slice za zl zc)
 f:∀ i,W.frozen? ⟨g,i,none⟩=false
 n:Ej W g
theorem BoxV.below {g N:Nat}{W W':World}{z0:Int}{zn:Bool}{za:Option Addr}{zl zc:Nat}(h:BoxV g W z0 zn za zl zc)(hN:g<N)(hb:Below N W W'):BoxV g W' z0 zn za zl zc:=
 ⟨Jz h.lt hb.size,(hb.cell (p:=⟨g,0,none⟩) hN).trans h.c0,(hb.cell (p:=⟨g,1,none⟩) hN).trans h.c1,(hb.cell (p:=⟨g,2,none⟩) hN).trans h.c2,fun i=>(hb.frozen (p:=⟨g,i,none⟩) hN).trans (h.f i),fun i x e=>h.n i x ((hb.cell (p:=⟨g,i,none⟩) hN).symm.trans e)⟩
theorem LZ (p q r:Value)(i:Nat)(x:Int)(hp:∀ x,p≠.int .u32 x)(hq:∀ x,q≠.int .u32 x)(hr:∀ x,r≠.int .u32 x):(#[p,q,r]:Array Value)[i]? ≠ some (.int .u32 x):=by
 match i with
 | 0=>simpa using hp x
 | 1=>simpa using hq x
 | 2=>simpa using hr x
 | i+3=>simp
theorem H6 (w:World)(z0:Int)(zn:Bool)(za:Option Addr)(zl zc:Nat)(ty:TypeId):BoxV w.heap.size (w.alloc (.cells #[.int .i64 z0,.bool zn,.slice za zl zc] ty)) z0 zn za zl zc:=by
 refine⟨by simp,?_,?_,?_,fun i=>?_,fun i x=>?_⟩
 ·rw[Jp _ _ _ _ rfl];rfl
 ·rw[Jp _ _ _ _ rfl];rfl
 ·rw[Jp _ _ _ _ rfl];rfl
 ·rw[J7 _ _ _ _ rfl]
 rw[Jp _ _ _ _ rfl];exact LZ _ _ _ i x (by simp) (by simp) (by simp)
theorem Hm (w:World)(g:Nat)(hg:w.heap.size=g)(z0:Int)(zn:Bool)(za:Option Addr)(zl zc:Nat)(ty:TypeId):BoxV g (w.alloc (.cells #[.int .i64 z0,.bool zn,.slice za zl zc] ty)) z0 zn za zl zc:=by
 subst hg;exact H6 w z0 zn za zl zc ty
theorem BoxV.alloc {g:Nat}{W:World}{z0:Int}{zn:Bool}{za:Option Addr}{zl zc:Nat}(h:BoxV g W z0 zn za zl zc)(o:Obj):BoxV g (W.alloc o) z0 zn za zl zc:=h.below h.lt (Oy W o)
theorem BoxV.drew {g:Nat}{W:World}{z0:Int}{zn:Bool}{za:Option Addr}{zl zc:Nat}(h:BoxV g W z0 zn za zl zc):BoxV g W.drew z0 zn za zl zc:=h.below h.lt (Jh _ W).drew
theorem BoxV.put {g:Nat}{W:World}{z0:Int}{zn:Bool}{za:Option Addr}{zl zc:Nat}(h:BoxV g W z0 zn za zl zc)(y0:Int)(yn:Bool)(ya:Option Addr)(yl yc:Nat) :
 BoxV g (((W.setCell ⟨g,0,none⟩ (.int .i64 y0)).setCell ⟨g,1,none⟩ (.bool yn)).setCell ⟨g,2,none⟩ (.slice ya yl yc)) y0 yn ya yl yc:=by
 obtain⟨lt,c0,c1,c2,f,n⟩:=h;refine⟨by simpa using lt,by simp[go_sem,c0],by simp[go_sem,c1],by simp[go_sem,c2],fun i=>by have:=f i;simp[go_sem,this],fun i x=>?_⟩
 by_cases i0:i=0
 ·subst i0;simp[go_sem,c0]
 by_cases d:i=1
 ·subst d;simp[go_sem,c1]
 by_cases i2:i=2
 ·subst i2;simp[go_sem,c2]
 have e:(((W.setCell ⟨g,0,none⟩ (.int .i64 y0)).setCell ⟨g,1,none⟩ (.bool yn)).setCell ⟨g,2,none⟩ (.slice ya yl yc)).cell? ⟨g,i,none⟩=W.cell? ⟨g,i,none⟩:=by
  have A:(0:Nat)≠i:=by omega
  have E:(1:Nat)≠i:=by omega
  have j:(2:Nat)≠i:=by omega
  simp[go_sem, *]
 rw[e];exact n i x
theorem BoxV.other {g h:Nat}{W:World}{z0:Int}{zn:Bool}{za:Option Addr}{zl zc:Nat}(hb:BoxV g W z0 zn za zl zc)(hne:g≠h){W':World}(k:Kq h h W W'):BoxV g W' z0 zn za zl zc:=by
 have q:∀ i,W'.cell? ⟨g,i,none⟩=W.cell? ⟨g,i,none⟩:=fun i=>Vf (k.2 g hne hne);have f:∀ i,W'.frozen? ⟨g,i,none⟩=W.frozen? ⟨g,i,none⟩:=fun i=>World.frozen?_of_block (k.2 g hne hne);exact⟨Jz hb.lt k.1,(q 0).trans hb.c0,(q 1).trans hb.c1,(q 2).trans hb.c2,fun i=>(f i).trans (hb.f i),fun i x e=>hb.n i x ((q i).symm.trans e)⟩
theorem N5.keeps {B:Nat}{w W:World}{z:Value}{x:Int}{g h:Nat}(hl:N5 B w z x)(n1:Ej w g)(n2:Ej w h)(k:Kq g h w W):N5 B W z x:=by
 obtain⟨neg,t,⟨A,d,j⟩,G⟩:=hl;refine⟨neg,t,⟨A,d,?_⟩,G⟩
 rcases j with⟨I,v,J,E⟩|j
 ·exact .inl ⟨I,v,J,E.keeps n1 n2 k⟩
 exact .inr j
theorem BoxQ.far {g:Nat}{W:World}{x:Int}{xn:Bool}{pa:Option Addr}{la ca:Nat}{y:Int}{yn:Bool}{pb:Option Addr}{lb cb:Nat}(h:BoxQ g W x xn pa la ca y yn pb lb cb)(p:Addr)(hp:g+4<=p.block)(u:Value):BoxQ g (W.setCell p u) x xn pa la ca y yn pb lb cb:=
 h.below (N:=g+4) Of ((Jh _ W).setCell hp u)
theorem Kq.three (w:World)(g:Nat)(u0 u1 u2:Value):Kq g g w (((w.setCell ⟨g,0,none⟩ u0).setCell ⟨g,1,none⟩ u1).setCell ⟨g,2,none⟩ u2):=by
 have d:Kq g g w (w.setCell ⟨g,0,none⟩ u0):=(Kq.refl g g w).setCell ⟨g,0,none⟩ u0 (Or.inl rfl);have h:Kq g g w ((w.setCell ⟨g,0,none⟩ u0).setCell ⟨g,1,none⟩ u1):=d.setCell ⟨g,1,none⟩ u1 (Or.inl rfl);exact h.setCell ⟨g,2,none⟩ u2 (Or.inl rfl)
theorem N5.drew {B:Nat}{w:World}{z:Value}{x:Int}(h:N5 B w z x):N5 B w.drew z x:=h.below (Jh _ w).drew
theorem D4 {B:Nat}{w:World}{y0:Int}{yn:Bool}{ya:Option Addr}{yl yc:Nat}{neg:Bool}{t:List Nat}(h:Nu B w (.agg #[.int .i64 y0,.bool yn,.slice ya yl yc]) neg t):(((yl:Int)==0)&&(y0==0))=decide (val t=0):=by
 obtain⟨K,j,h⟩:=h
 rcases h with⟨G,v,d,⟨p,c,rfl,_⟩⟩|⟨G,d⟩
 ·simp only[Value.agg.injEq,Array.mk.injEq,List.cons.injEq,Value.int.injEq,true_and,Value.bool.injEq,Value.slice.injEq,and_true] at d;obtain⟨_,_,_,hl,_⟩:=d;have E:t≠[]:=by intro e;rw[e] at G;simp at G
  have M:=Nj t j E;have J:((yl:Int)==0)=false:=by rw[Jc];omega
  have A:decide (val t=0)=false:=dF (by omega)
  rw[J,A];rfl
 simp only[Value.agg.injEq,Array.mk.injEq,List.cons.injEq,Value.int.injEq,true_and,Value.bool.injEq,Value.slice.injEq,and_true] at d;obtain⟨rfl,_,_,rfl,_⟩:=d
 by_cases I:val t=0
 ·rw[I];cases neg<;>simp[sg]
 have A:decide (val t=0)=false:=by rw[Jm];exact I
 rw[A]
 cases neg<;>simp[sg]<;>omega
theorem Id (n:Bool)(l:List Nat)(ht:isTrim l):sg n (val l)=0↔l=[]:=by
 constructor
 ·intro h;apply Classical.byContradiction;intro d;have:=Nj l ht d
  cases n<;>simp[sg] at h<;>omega
 rintro rfl
 cases n<;>simp[sg,val]
theorem G6 (B:Nat)(za zb:Value)(x y:Int)(n m:Nat)(w:World)(hBw:B<=w.heap.size)(ha:Gt B w za x n)(hb:Gt B w zb y m)(hy:y≠0)(hn:n<=90000)(hm:m<=90000)(hSP:SP w) :
 Calls prog 189 #[za,zb] w fun e w'=>∃ z1 z2 q r,e=.returned (.tuple #[z1,z2])/\Gt B w' z1 q (n+2)/\Gt B w' z2 r (m+3)/\Ny x y q r/\Up w w':=by
 obtain⟨M,J,a,rfl,A,U,rfl,O⟩:=ha;obtain⟨E,I,b,rfl,d,G,rfl,K⟩:=hb;have j:b≠[]:=fun h=>hy ((Id E b G).2 h);rw[<-Hj M a,<-Hj E b];refine (Tq B _ _ J I a b w hBw A d (by omega) (by omega) U G j hSP).mono ?_;rintro e w' ⟨z1,z2,q,r,V,Y,h3,h4,h5⟩;exact⟨z1,z2,q,r,V,Y.mono Of (by omega),h3.mono Of (by omega),h4,h5⟩
def Bm (s t u v:ByteArray):Prop:=if isIntB s=true/\isIntB t=true/\numT t≠0 then ∃ q r,Ny (numT s) (numT t) q r/\Ef q u/\Ef r v else u=strB []/\v=strB []
theorem Bm.eq {s t u v u' v':ByteArray}(h:Bm s t u v)(h':Bm s t u' v'):u=u'/\v=v':=by
 unfold Bm at h h'
 split at h
 ·rename_i hc;rw[if_pos hc] at h';obtain⟨q,r,j,A,h3⟩:=h;obtain⟨G,E,d,k2,k3⟩:=h';obtain⟨rfl,rfl⟩:=Pi j d;exact⟨A.eq k2,h3.eq k3⟩
 rename_i hc;rw[if_neg hc] at h';exact⟨by rw[h.1,h'.1],by rw[h.2,h'.2]⟩
theorem Gs {W:World}{g:Nat}{l:List Value}(h:Bx W g l)(hl:∀ v∈l,∀ x,v≠.int .u32 x):Ej W g:=fun i x=>by
 rw[h.cell i]
 intro e
 exact hl _ (Ve e) x rfl
theorem U1.put2 {B:Nat}{W:World}{v:Value}{l:List Nat}(h:U1 B W v l){g:Nat}(n:Ej W g)(u0 u1:Value):U1 B ((W.setCell ⟨g,0,none⟩ u0).setCell ⟨g,1,none⟩ u1) v l:=
 h.keeps n n (Kq.setCell (Kq.setCell (Kq.refl g g W) ⟨g,0,none⟩ u0 (Or.inl rfl)) ⟨g,1,none⟩ u1 (Or.inl rfl))
theorem ZE {N:Nat}{w W:World}(h:Below N w W)(g:Nat)(hg:N<=g)(u0 u1:Value):Below N w ((W.setCell ⟨g,0,none⟩ u0).setCell ⟨g,1,none⟩ u1):=
 (h.setCell (p:=⟨g,0,none⟩) hg u0).setCell (p:=⟨g,1,none⟩) hg u1
theorem Xc (n:Nat)(w:World)(hn:n<18446744073709551616) :
 Calls prog 186 #[.int .u64 (n:Nat)] w fun e w'=>∃ z,e=.returned z/\Gt w.heap.size w' z (n:Nat) 3/\Up w w':=by
 obtain⟨J,d⟩:=O1 (w.alloc (.cells #[.bool false,.slice none 0 0] 162));have b5:=Hd d;have j:Bx J w.heap.size [.bool false,.slice none 0 0]:=by rw[<-d];exact Ox w _ _
 have A:Hid (Up w J):=by unfold Hid;rw[<-d];exact Oy _ _
 have a7:Hid (∀ W,Up J W->Bx W w.heap.size [.bool false,.slice none 0 0]):=fun W hW=>j.below j.lt hW;clear d j
 go_enter func186,ntmps186
 go_wp2_with fail
 rw[b5.o];refine (Xi n _ hn).mono ?_;rintro e w1 ⟨v,t,rfl,hv,ht,M,K,Z⟩;have HV:=Hd hv;have Y:=Hd Z;have HT:Hid (isTrim t/\val t=n/\t.length<=3):=⟨ht,M,K⟩;obtain⟨pv,cv,b7,_⟩:=hv;subst b7;clear ht M K Z
 go_wp2_with fail
 refine (Kc J.heap.size false _ t _ HV.o).mono ?_;rintro e U ⟨v',rfl,hcut,G⟩;have O:Hid (U1 J.heap.size U v' t):=by
  have h:=hcut _ _ (HV.o.below G);rw[Qa t HT.o.1] at h;exact h
 have E:=Hd (Y.o.trans (G.mono Y.o.size));have e1:U0 false (Oe t)=false:=by unfold U0;rfl
 rw[e1];have hb:=a7.o U E.o;obtain⟨k0,k1⟩:=hb.k2;obtain⟨r0,r1⟩:=hb.f2;obtain⟨I,c2,b3,_⟩:=O.o;subst b3;clear hcut G hb e1
 go_wp2
 have V:=a7.o U E.o;have b6:=Gs V (by simp);have b4:=(O.o.mono A.o.size).put2 b6 (.bool false) (.slice I t.length c2);have hZ:Bx ((U.setCell ⟨w.heap.size,0,none⟩ (.bool false)).setCell ⟨w.heap.size,1,none⟩ (.slice I t.length c2)) w.heap.size [.bool false,.slice I t.length c2]:=(V.set 0 _).set 1 _;have hE:=ZE (A.o.trans (E.o.mono A.o.size)) w.heap.size Of (.bool false) (.slice I t.length c2);generalize (U.setCell ⟨w.heap.size,0,none⟩ (.bool false)).setCell ⟨w.heap.size,1,none⟩ (.slice I t.length c2)=WE at *;obtain⟨m0,m1⟩:=hZ.k2;refine Jj (v:=.agg #[.bool false,.slice I t.length c2]) ?_ rfl ⟨_,rfl,⟨false,_,t,by unfold U0;rfl,b4,HT.o.1,by rw[HT.o.2.1];rfl,HT.o.2.2⟩,hE⟩;simp[results,results186,go_sem,m0,m1]
def Qy (B:Nat)(w:World)(z:Value)(x y:Int)(n:Nat):Prop:=∃ s1 v1 s2 v2,z=.agg #[.bool s1,v1,.bool s2,v2]/\Gt B w (.agg #[.bool s1,v1]) x n/\Gt B w (.agg #[.bool s2,v2]) y n
theorem Qy.below {B:Nat}{w w':World}{z:Value}{x y:Int}{n:Nat}(h:Qy B w z x y n)(hb:Up w w'):Qy B w' z x y n:=by
 obtain⟨d,E,j,v2,e,A,G⟩:=h;exact⟨d,E,j,v2,e,A.below hb,G.below hb⟩
theorem Gt.parts {B:Nat}{w:World}{s:Bool}{v:Value}{x:Int}{n:Nat}(h:Gt B w (.agg #[.bool s,v]) x n):∃ neg t,s=U0 neg t/\U1 B w v t/\isTrim t/\sg neg (val t)=x/\t.length<=n:=by
 obtain⟨neg,A,t,e,d,j,h3,h4⟩:=h;simp only[Value.agg.injEq,Array.mk.injEq,List.cons.injEq,Value.bool.injEq,and_true] at e;obtain⟨rfl,rfl⟩:=e;exact⟨neg,t,rfl,d,j,h3,h4⟩
theorem NF (x y:Int):(RC x y==0)=decide (x=y):=by
 unfold RC
 split
 ·rename_i h;have:x≠y:=by omega
  simp[this]
 split
 ·rename_i h;have:x≠y:=by omega
  simp[this]
 rename_i h1 h2;have:x=y:=by omega
 simp[this]
theorem Tu (B:Nat)(z:Value)(x y:Int)(n:Nat)(w:World)(hBw:B<=w.heap.size)(h:Qy B w z x y n)(hSP:SP w) :
 Calls prog 190 #[z] w fun e w'=>e=.returned (.bool (decide (y=1)))/\Up w w':=by
 obtain⟨s1,v1,s2,v2,rfl,h1,h2⟩:=h;obtain⟨n1,t1,rfl,d1,_,_,_⟩:=h1.parts;obtain⟨O,t2,rfl,V,Y,e2,_⟩:=h2.parts;have b8:=Hd V;have b4:=Hd hSP;have b6:=Hd hBw;have HT:Hid (isTrim t2/\sg O (val t2)=y):=⟨Y,e2⟩;obtain⟨p1,c1,rfl,_,_,o1,_⟩:=d1;obtain⟨p2,c2,rfl,_,_,o2,_⟩:=V;have HO:Hid (okL t2):=o2;clear hSP hBw Y e2 h1 h2 o1 o2;obtain⟨G,E⟩:=O1 (w.alloc (.cells #[.bool (U0 n1 t1),.slice p1 t1.length c1,.bool (U0 O t2),.slice p2 t2.length c2] 166));have d0:=Hd E;have I:Bx G w.heap.size [.bool (U0 n1 t1),.slice p1 t1.length c1,.bool (U0 O t2),.slice p2 t2.length c2]:=by rw[<-E];exact Ox w _ _
 have d:Hid (Up w G):=by unfold Hid;rw[<-E];exact Oy _ _
 have a8:Hid (∀ W,Up G W->Bx W w.heap.size [.bool (U0 n1 t1),.slice p1 t1.length c1,.bool (U0 O t2),.slice p2 t2.length c2]):=fun W hW=>I.below I.lt hW;clear E I
 go_enter func190,ntmps190
 go_upto_region 1 with fail
 rw[d0.o];have j:=a8.o G (Jh _ _);obtain⟨k0,k1,k2,k3⟩:=j.k4;clear j
 go_region_with (first
  | (go_at_call 186
     refine (Xc 1 _ (by decide)).mono ?_;rintro e w1 ⟨z,rfl,hz,a7⟩;have A:Hid (Up G w1):=(Jh _ G).drew.trans a7;obtain⟨nz,vz,J,rfl,M,K,U,_⟩:=hz;have HZ:Hid (U1 G.heap.size w1 vz J/\isTrim J/\sg nz (val J)=1):=⟨M,K,U⟩;obtain⟨pz,cz,rfl,_,_,oz,_⟩:=M;have c6:Hid (okL J):=oz;have j:=a8.o w1 A.o;have j2:=j.cell 2;have j3:=j.cell 3;simp only[Jo,Jr] at j2 j3;clear K U a7 oz j)
  | (go_at_call 208
     refine (Sm B _ _ _ _ t2 J _ (b8.o.below (d.o.trans (A.o.mono d.o.size))) (HZ.o.1.mono (by have:=b6.o;have:=d.o.size;omega)) (b4.o.below (d.o.trans (A.o.mono d.o.size)))).mono ?_;rintro e w2 ⟨rfl,Z⟩;have c8:Hid (Up w w2):=d.o.trans ((A.o.trans (Z.mono A.o.size)).mono d.o.size);rw[IS O nz t2 J HO.o c6.o HT.o.1 HZ.o.2.1,HT.o.2,HZ.o.2.2];clear Z))
 all_goals
  try simp only[Yz,Ys,Ym,Act.put,Ja,Jd,Je]
  go_wp2
  go_ret
  exact⟨Oz (NF y 1),c8.o⟩
theorem Gt.put2 {B:Nat}{W:World}{z:Value}{x:Int}{n:Nat}(h:Gt B W z x n){g:Nat}(no:Ej W g)(u0 u1:Value):Gt B ((W.setCell ⟨g,0,none⟩ u0).setCell ⟨g,1,none⟩ u1) z x n:=by
 obtain⟨neg,v,t,e,d,j,h3,h4⟩:=h;exact⟨neg,v,t,e,d.put2 no u0 u1,j,h3,h4⟩
theorem U1.put4 {B:Nat}{W:World}{v:Value}{l:List Nat}(h:U1 B W v l){g:Nat}(n:Ej W g)(u0 u1 u2 u3:Value):U1 B ((((W.setCell ⟨g,0,none⟩ u0).setCell ⟨g,1,none⟩ u1).setCell ⟨g,2,none⟩ u2).setCell ⟨g,3,none⟩ u3) v l:=
 h.keeps n n (Kq.setCell (Kq.setCell (Kq.setCell (Kq.setCell (Kq.refl g g W) ⟨g,0,none⟩ u0 (Or.inl rfl)) ⟨g,1,none⟩ u1 (Or.inl rfl)) ⟨g,2,none⟩ u2 (Or.inl rfl)) ⟨g,3,none⟩ u3 (Or.inl rfl))
theorem Gt.put4 {B:Nat}{W:World}{z:Value}{x:Int}{n:Nat}(h:Gt B W z x n){g:Nat}(no:Ej W g)(u0 u1 u2 u3:Value):Gt B ((((W.setCell ⟨g,0,none⟩ u0).setCell ⟨g,1,none⟩ u1).setCell ⟨g,2,none⟩ u2).setCell ⟨g,3,none⟩ u3) z x n:=by
 obtain⟨neg,v,t,e,d,j,h3,h4⟩:=h;exact⟨neg,v,t,e,d.put4 no u0 u1 u2 u3,j,h3,h4⟩
theorem Rf {N:Nat}{w W:World}(h:Below N w W)(g:Nat)(hg:N<=g)(u0 u1 u2 u3:Value):Below N w ((((W.setCell ⟨g,0,none⟩ u0).setCell ⟨g,1,none⟩ u1).setCell ⟨g,2,none⟩ u2).setCell ⟨g,3,none⟩ u3):=
 (ZE h g hg u0 u1).setCell (p:=⟨g,2,none⟩) hg u2 |>.setCell (p:=⟨g,3,none⟩) hg u3
theorem Bx.put2 {W:World}{g:Nat}{a b:Value}(h:Bx W g [a,b])(u0 u1:Value):Bx ((W.setCell ⟨g,0,none⟩ u0).setCell ⟨g,1,none⟩ u1) g [u0,u1]:=(h.set 0 u0).set 1 u1
theorem Bx.off2 {W:World}{g:Nat}{l:List Value}(h:Bx W g l){k:Nat}(hk:k≠g)(u0 u1:Value):Bx ((W.setCell ⟨k,0,none⟩ u0).setCell ⟨k,1,none⟩ u1) g l:=(h.other ⟨k,0,none⟩ hk u0).other ⟨k,1,none⟩ hk u1
structure BxM (h hc:Nat)(W:World)(s1:Bool)(v1:Value)(s2:Bool)(v2:Value)(s3:Bool)(v3:Value):Prop where
 a:Bx W h [.bool s1,v1]
 b:Bx W (h+1) [.bool s2,v2]
 r:Bx W (h+1+1) [.bool false,.slice none 0 0,.bool false,.slice none 0 0]
 c:Bx W hc [.bool s3,v3]
theorem BxM.below {h hc N:Nat}{W W':World}{s1 s2 s3:Bool}{v1 v2 v3:Value}(m:BxM h hc W s1 v1 s2 v2 s3 v3)(hN:h+3<=N)(hc':hc<N)(hb:Below N W W'):BxM h hc W' s1 v1 s2 v2 s3 v3:=
 ⟨m.a.below (by omega) hb,m.b.below (by omega) hb,m.r.below (by omega) hb,m.c.below hc' hb⟩
theorem BxM.cells {h hc:Nat}{W:World}{s1 s2 s3:Bool}{v1 v2 v3:Value}(m:BxM h hc W s1 v1 s2 v2 s3 v3) :
 (W.cell? ⟨h,0,none⟩=some (.bool s1)/\W.cell? ⟨h,1,none⟩=some v1/\∀ i,W.frozen? ⟨h,i,none⟩=false)/\(W.cell? ⟨h+1,0,none⟩=some (.bool s2)/\W.cell? ⟨h+1,1,none⟩=some v2/\∀ i,W.frozen? ⟨h+1,i,none⟩=false) /\
 (W.cell? ⟨hc,0,none⟩=some (.bool s3)/\W.cell? ⟨hc,1,none⟩=some v3/\∀ i,W.frozen? ⟨hc,i,none⟩=false):=
 ⟨⟨m.a.cell 0,m.a.cell 1,m.a.frozen⟩,⟨m.b.cell 0,m.b.cell 1,m.b.frozen⟩,⟨m.c.cell 0,m.c.cell 1,m.c.frozen⟩⟩
theorem Fd {W:World}{g:Nat}{s:Bool}{p:Option Addr}{l c:Nat}(h:Bx W g [.bool s,.slice p l c]):Ej W g:=Gs h (by simp)
theorem PW (neg:Bool)(t:List Nat)(y:Int)(ht:isTrim t)(h:sg neg (val t)=y):U0 neg t=decide (y<0):=by
 unfold U0
 by_cases hl:t=[]
 ·subst hl;have:y=0:=by rw[<-h];cases neg<;>simp[sg,val]
  subst this;simp
 have j:=Nj t ht hl;have d:0<t.length:=Zf.2 hl
 cases neg
 ·have:¬ y<0:=by rw[<-h];simp[sg]
  simp[this]
 have:y<0:=by rw[<-h];simp[sg];omega
 simp[this,d]
theorem Pb (B:Nat)(za zb:Value)(x y:Int)(n:Nat)(w:World)(hBw:B<=w.heap.size)(ha:Gt B w za x n)(hb:Gt B w zb y n)(hy:y≠0)(hn:n<=80000)(hSP:SP w)(hNS:NS w) :
 Calls prog 162 #[za,zb] w fun e w'=>∃ z p q,e=.returned z/\Qy B w' z p q (n+3)/\Pu x y p q/\Up w w':=by
 obtain⟨s1,p1,l1,c1,rfl⟩:=ha.shape;obtain⟨s2,p2,l2,c2,rfl⟩:=hb.shape;have o5:s2=decide (y<0):=by
  obtain⟨neg,t,e,_,ht,hv,_⟩:=hb.parts;rw[e];exact PW neg t y ht hv
 have n4:=Hd o5;clear o5;have HA:=Hd ha;have HB:=Hd hb;have f5:=Hd hSP;have q3:=Hd hNS;have e3:=Hd hBw;have HC:Hid (∀ c,c=(if y<0 then -E8 x y else E8 x y)->c≠0):=fun c e=>by
  have hg:0<Int.gcd x y:=Int.gcd_pos_of_ne_zero_right _ hy;rw[e];unfold E8;split<;>omega
 have h0:Hid (∀ c q r d r',c=(if y<0 then -E8 x y else E8 x y)->Ny x c q r->Ny y c d r'->Pu x y q d):=fun c q r d r' e h1 h2=>YV x y c q r d r' hy e h1 h2;clear ha hb hSP hNS hBw;obtain⟨W0,b7⟩:=O1 (((w.alloc (.cells #[.bool s1,.slice p1 l1 c1] 162)).alloc (.cells #[.bool s2,.slice p2 l2 c2] 162)).alloc (.cells #[.bool false,.slice none 0 0,.bool false,.slice none 0 0] 166));have q8:=Hd b7;have o0:W0.heap.size=w.heap.size+3:=by rw[<-b7];simp
 have n7:=Hd o0;have g6:Hid (Up w W0):=by
  unfold Hid
  rw[<-b7];exact Om (Om (Oy _ _) _) _
 have o2:Bx W0 w.heap.size [.bool s1,.slice p1 l1 c1]:=by rw[<-b7];exact ((Ox w _ _).alloc _).alloc _
 have n3:Bx W0 (w.heap.size+1) [.bool s2,.slice p2 l2 c2]:=by
  rw[<-b7];have h:=Ox (w.alloc (.cells #[.bool s1,.slice p1 l1 c1] 162)) [.bool s2,.slice p2 l2 c2] 162;rw[Ji] at h;exact h.alloc _
 have n6:Bx W0 (w.heap.size+1+1) [.bool false,.slice none 0 0,.bool false,.slice none 0 0]:=by
  rw[<-b7];have h:=Ox ((w.alloc (.cells #[.bool s1,.slice p1 l1 c1] 162)).alloc (.cells #[.bool s2,.slice p2 l2 c2] 162)) [.bool false,.slice none 0 0,.bool false,.slice none 0 0] 166;rw[Ji,Ji] at h;exact h
 have HX:Hid (Bx W0 w.heap.size [.bool s1,.slice p1 l1 c1]/\Bx W0 (w.heap.size+1) [.bool s2,.slice p2 l2 c2]/\Bx W0 (w.heap.size+1+1) [.bool false,.slice none 0 0,.bool false,.slice none 0 0]):=⟨o2,n3,n6⟩;clear b7 o0 o2 n3 n6
 go_enter func162,ntmps162
 go_wp2_with fail
 rw[q8.o];refine (Px B _ _ x y n _ (by have:=e3.o;have:=n7.o;omega) (HA.o.below g6.o) (HB.o.below g6.o) (by omega) (q3.o.below g6.o)).mono ?_;rintro e O ⟨z,rfl,hz,f9⟩;obtain⟨s3,p3,l3,c3,rfl⟩:=hz.shape;obtain⟨W1,g5⟩:=O1 (O.alloc (.cells #[.bool s3,.slice p3 l3 c3] 162));have n8:=Hd g5;have d8:Up O W1:=by rw[<-g5];exact Oy _ _
 have j5:Bx W1 O.heap.size [.bool s3,.slice p3 l3 c3]:=by rw[<-g5];exact Ox O _ _
 have b6:Up W0 W1:=f9.trans (d8.mono f9.size);have HM:Hid (BxM w.heap.size O.heap.size W1 s1 (.slice p1 l1 c1) s2 (.slice p2 l2 c2) s3 (.slice p3 l3 c3)):=⟨HX.o.1.below HX.o.1.lt b6,HX.o.2.1.below HX.o.2.1.lt b6,HX.o.2.2.below HX.o.2.2.lt b6,j5⟩;have HZ:Hid (Gt B W1 (.agg #[.bool s3,.slice p3 l3 c3]) (E8 x y) n):=hz.below d8;have d1:=g6.up b6;have u8:w.heap.size+3<=O.heap.size:=by have:=n7.o;have:=f9.size;omega
 have w3:O.heap.size<W1.heap.size:=j5.lt;clear hz f9 g5 d8 j5 b6
 cases s2
 case' _=>
  have b9:Hid (E8 x y=if y<0 then -E8 x y else E8 x y):=by
   have h:¬ y<0:=by simpa using n4.o
   show E8 x y=if y<0 then -E8 x y else E8 x y
   rw[if_neg h]
  have k0:=HM.o.b.cell 0;simp only[Jo] at k0
  go_upto_region 2 with fail
  rw[n8.o];clear k0;have m1:=HM.o.cells;obtain⟨⟨a0,a1,af⟩,⟨b0,b1,bf⟩,⟨q0,q1,qf⟩⟩:=m1
  go_upto_region 5 with fail
  go_wp2_with fail
  refine (G6 B _ _ x (E8 x y) n n _ (by have:=e3.o;have:=d1.o.size;omega) (HA.o.below d1.o) HZ.o (HC.o _ b9.o) (by omega) (by omega) (f5.o.below d1.o)).mono ?_;rintro e w5 ⟨z1,z2,qn,qr,rfl,d0,e7,Y,b4⟩;obtain⟨j,E,A,c5,rfl⟩:=d0.shape;obtain⟨s6,p6,l6,c6,rfl⟩:=e7.shape;have j8:=Hd Y;have I:=Hd (HM.o.below (N:=W1.heap.size) (by omega) (by omega) b4);have j0:=Hd d0;have j6:=Hd (HZ.o.below b4);have e1:=Hd (d1.o.trans (b4.mono d1.o.size));have q2:O.heap.size<w5.heap.size:=I.o.c.lt;clear d0 e7 Y b4 a0 a1 af b0 b1 bf q0 q1 qf;obtain⟨⟨a0,a1,af⟩,⟨b0,b1,bf⟩,⟨q0,q1,qf⟩⟩:=I.o.cells;have j7:=af 0;have j2:=af 1;clear af bf qf;have b3:=Fd I.o.a;obtain⟨W6,G⟩:=O1 ((w5.setCell ⟨w.heap.size,0,none⟩ (.bool j)).setCell ⟨w.heap.size,1,none⟩ (.slice E A c5));have k1:=Hd G;have h9:Hid (Gt B W6 (.agg #[.bool j,.slice E A c5]) qn (n+2)):=by have h:=j0.o.put2 b3 (.bool j) (.slice E A c5);rw[G] at h;exact h
  have i6:Hid (Gt B W6 (.agg #[.bool s3,.slice p3 l3 c3]) (E8 x y) n):=by have h:=j6.o.put2 b3 (.bool j) (.slice E A c5);rw[G] at h;exact h
  have j3:Hid (Gt B W6 (.agg #[.bool false,.slice p2 l2 c2]) y n):=by have h:=(HB.o.below e1.o).put2 b3 (.bool j) (.slice E A c5);rw[G] at h;exact h
  have a8:Hid (Up w W6):=by have h:=ZE e1.o w.heap.size Of (.bool j) (.slice E A c5);rw[G] at h;exact h
  have e4:Hid (BxM w.heap.size O.heap.size W6 j (.slice E A c5) false (.slice p2 l2 c2) s3 (.slice p3 l3 c3)):=by
   have h1:=I.o.a.put2 (.bool j) (.slice E A c5);have h2:=I.o.b.off2 (k:=w.heap.size) (by omega) (.bool j) (.slice E A c5);have h3:=I.o.r.off2 (k:=w.heap.size) (by omega) (.bool j) (.slice E A c5);have h4:=I.o.c.off2 (k:=w.heap.size) (by omega) (.bool j) (.slice E A c5);rw[G] at h1 h2 h3 h4;exact⟨h1,h2,h3,h4⟩
  have o8:O.heap.size<W6.heap.size:=e4.o.c.lt;clear G b3
  go_upto_region 6 with fail
  go_wp2_with fail
  rw[k1.o];refine (G6 B _ _ y (E8 x y) n n _ (by have:=e3.o;have:=a8.o.size;omega) j3.o i6.o (HC.o _ b9.o) (by omega) (by omega) (f5.o.below a8.o)).mono ?_;rintro e w7 ⟨z3,z4,dn,dr,rfl,b8,a7,Y,b5⟩;obtain⟨J,M,K,c7,rfl⟩:=b8.shape;obtain⟨s8,p8,l8,c8,rfl⟩:=a7.shape;have m5:=Hd (h0.o _ _ _ _ _ b9.o j8.o Y);have U:=Hd (e4.o.below (N:=W6.heap.size) (by omega) (by omega) b5);have j9:=Hd (h9.o.below b5);have h8:=Hd b8;have i7:=Hd (a8.o.trans (b5.mono a8.o.size));clear b8 a7 Y b5 a0 a1 b0 b1 q0 q1 j7 j2;have d3:=Fd U.o.b;obtain⟨W8,V⟩:=O1 ((w7.setCell ⟨w.heap.size+1,0,none⟩ (.bool J)).setCell ⟨w.heap.size+1,1,none⟩ (.slice M K c7));have n2:=Hd V;have m9:Hid (Gt B W8 (.agg #[.bool j,.slice E A c5]) qn (n+2)):=by have h:=j9.o.put2 d3 (.bool J) (.slice M K c7);rw[V] at h;exact h
  have n9:Hid (Gt B W8 (.agg #[.bool J,.slice M K c7]) dn (n+2)):=by have h:=h8.o.put2 d3 (.bool J) (.slice M K c7);rw[V] at h;exact h
  have o4:Hid (Up w W8):=by have h:=ZE i7.o (w.heap.size+1) (Y1 _) (.bool J) (.slice M K c7);rw[V] at h;exact h
  have d2:Hid (BxM w.heap.size O.heap.size W8 j (.slice E A c5) J (.slice M K c7) s3 (.slice p3 l3 c3)):=by
   have h1:=U.o.a.off2 (k:=w.heap.size+1) (by omega) (.bool J) (.slice M K c7);have h2:=U.o.b.put2 (.bool J) (.slice M K c7);have h3:=U.o.r.off2 (k:=w.heap.size+1) (by omega) (.bool J) (.slice M K c7);have h4:=U.o.c.off2 (k:=w.heap.size+1) (by omega) (.bool J) (.slice M K c7);rw[V] at h1 h2 h3 h4;exact⟨h1,h2,h3,h4⟩
 rotate_left
 case' _=>
  have b9:Hid (-E8 x y=if y<0 then -E8 x y else E8 x y):=by
   have h:y<0:=by simpa using n4.o
   show -E8 x y=if y<0 then -E8 x y else E8 x y
   rw[if_pos h]
  have k0:=HM.o.b.cell 0;simp only[Jo] at k0;obtain⟨_,_,⟨q0,q1,_⟩⟩:=HM.o.cells
  go_upto_region 2 with fail
  rw[n8.o]
  go_wp2_with fail
  refine (Te B _ _ n _ HZ.o).mono ?_;rintro e w2 ⟨z4,rfl,a7,k7⟩;obtain⟨s4,p4,l4,c4,rfl⟩:=a7.shape;have Z:=HM.o.below (N:=W1.heap.size) (by omega) (by omega) k7;have m6:=Fd Z.c;obtain⟨W2,e5⟩:=O1 ((w2.setCell ⟨O.heap.size,0,none⟩ (.bool s4)).setCell ⟨O.heap.size,1,none⟩ (.slice p4 l4 c4));have q4:=Hd e5;have o3:Hid (Gt B W2 (.agg #[.bool s4,.slice p4 l4 c4]) (-E8 x y) n):=by have h:=a7.put2 m6 (.bool s4) (.slice p4 l4 c4);rw[e5] at h;exact h
  have e8:Hid (Up w W2):=by have h:=ZE (d1.o.trans (k7.mono d1.o.size)) O.heap.size (by omega) (.bool s4) (.slice p4 l4 c4);rw[e5] at h;exact h
  have i8:Hid (BxM w.heap.size O.heap.size W2 s1 (.slice p1 l1 c1) true (.slice p2 l2 c2) s4 (.slice p4 l4 c4)):=by
   have h1:=Z.a.off2 (k:=O.heap.size) (by omega) (.bool s4) (.slice p4 l4 c4);have h2:=Z.b.off2 (k:=O.heap.size) (by omega) (.bool s4) (.slice p4 l4 c4);have h3:=Z.r.off2 (k:=O.heap.size) (by omega) (.bool s4) (.slice p4 l4 c4);have h4:=Z.c.put2 (.bool s4) (.slice p4 l4 c4);rw[e5] at h1 h2 h3 h4;exact⟨h1,h2,h3,h4⟩
  have r7:O.heap.size<W2.heap.size:=i8.o.c.lt;have o1:Hid (w2.frozen? ⟨O.heap.size,0,none⟩=false/\w2.frozen? ⟨O.heap.size,1,none⟩=false/\w2.cell? ⟨O.heap.size,0,none⟩=some (.bool s3)/\w2.cell? ⟨O.heap.size,1,none⟩=some (.slice p3 l3 c3)):=⟨Z.c.frozen 0,Z.c.frozen 1,Z.c.cell 0,Z.c.cell 1⟩;obtain⟨g0,g1,g2,g3⟩:=o1.o;clear a7 k7 Z m6 e5 k0 q0 q1 o1
  go_upto_region 4 with fail
  rw[q4.o];clear g0 g1 g2 g3;have m1:=i8.o.cells;obtain⟨⟨a0,a1,af⟩,⟨b0,b1,bf⟩,⟨q0,q1,qf⟩⟩:=m1
  go_upto_region 5 with fail
  go_wp2_with fail
  refine (G6 B _ _ x (-E8 x y) n n _ (by have:=e3.o;have:=e8.o.size;omega) (HA.o.below e8.o) o3.o (HC.o _ b9.o) (by omega) (by omega) (f5.o.below e8.o)).mono ?_;rintro e w5 ⟨z1,z2,qn,qr,rfl,d0,e7,Y,b4⟩;obtain⟨j,E,A,c5,rfl⟩:=d0.shape;obtain⟨s6,p6,l6,c6,rfl⟩:=e7.shape;have j8:=Hd Y;have I:=Hd (i8.o.below (N:=W2.heap.size) (by omega) (by omega) b4);have j0:=Hd d0;have j6:=Hd (o3.o.below b4);have e1:=Hd (e8.o.trans (b4.mono e8.o.size));have q2:O.heap.size<w5.heap.size:=I.o.c.lt;clear d0 e7 Y b4 a0 a1 af b0 b1 bf q0 q1 qf;obtain⟨⟨a0,a1,af⟩,⟨b0,b1,bf⟩,⟨q0,q1,qf⟩⟩:=I.o.cells;have j7:=af 0;have j2:=af 1;clear af bf qf;have b3:=Fd I.o.a;obtain⟨W6,G⟩:=O1 ((w5.setCell ⟨w.heap.size,0,none⟩ (.bool j)).setCell ⟨w.heap.size,1,none⟩ (.slice E A c5));have k1:=Hd G;have h9:Hid (Gt B W6 (.agg #[.bool j,.slice E A c5]) qn (n+2)):=by have h:=j0.o.put2 b3 (.bool j) (.slice E A c5);rw[G] at h;exact h
  have i6:Hid (Gt B W6 (.agg #[.bool s4,.slice p4 l4 c4]) (-E8 x y) n):=by have h:=j6.o.put2 b3 (.bool j) (.slice E A c5);rw[G] at h;exact h
  have j3:Hid (Gt B W6 (.agg #[.bool true,.slice p2 l2 c2]) y n):=by have h:=(HB.o.below e1.o).put2 b3 (.bool j) (.slice E A c5);rw[G] at h;exact h
  have a8:Hid (Up w W6):=by have h:=ZE e1.o w.heap.size Of (.bool j) (.slice E A c5);rw[G] at h;exact h
  have e4:Hid (BxM w.heap.size O.heap.size W6 j (.slice E A c5) true (.slice p2 l2 c2) s4 (.slice p4 l4 c4)):=by
   have h1:=I.o.a.put2 (.bool j) (.slice E A c5);have h2:=I.o.b.off2 (k:=w.heap.size) (by omega) (.bool j) (.slice E A c5);have h3:=I.o.r.off2 (k:=w.heap.size) (by omega) (.bool j) (.slice E A c5);have h4:=I.o.c.off2 (k:=w.heap.size) (by omega) (.bool j) (.slice E A c5);rw[G] at h1 h2 h3 h4;exact⟨h1,h2,h3,h4⟩
  have o8:O.heap.size<W6.heap.size:=e4.o.c.lt;clear G b3
  go_upto_region 6 with fail
  go_wp2_with fail
  rw[k1.o];refine (G6 B _ _ y (-E8 x y) n n _ (by have:=e3.o;have:=a8.o.size;omega) j3.o i6.o (HC.o _ b9.o) (by omega) (by omega) (f5.o.below a8.o)).mono ?_;rintro e w7 ⟨z3,z4,dn,dr,rfl,b8,a7,Y,b5⟩;obtain⟨J,M,K,c7,rfl⟩:=b8.shape;obtain⟨s8,p8,l8,c8,rfl⟩:=a7.shape;have m5:=Hd (h0.o _ _ _ _ _ b9.o j8.o Y);have U:=Hd (e4.o.below (N:=W6.heap.size) (by omega) (by omega) b5);have j9:=Hd (h9.o.below b5);have h8:=Hd b8;have i7:=Hd (a8.o.trans (b5.mono a8.o.size));clear b8 a7 Y b5 a0 a1 b0 b1 q0 q1 j7 j2;have d3:=Fd U.o.b;obtain⟨W8,V⟩:=O1 ((w7.setCell ⟨w.heap.size+1,0,none⟩ (.bool J)).setCell ⟨w.heap.size+1,1,none⟩ (.slice M K c7));have n2:=Hd V;have m9:Hid (Gt B W8 (.agg #[.bool j,.slice E A c5]) qn (n+2)):=by have h:=j9.o.put2 d3 (.bool J) (.slice M K c7);rw[V] at h;exact h
  have n9:Hid (Gt B W8 (.agg #[.bool J,.slice M K c7]) dn (n+2)):=by have h:=h8.o.put2 d3 (.bool J) (.slice M K c7);rw[V] at h;exact h
  have o4:Hid (Up w W8):=by have h:=ZE i7.o (w.heap.size+1) (Y1 _) (.bool J) (.slice M K c7);rw[V] at h;exact h
  have d2:Hid (BxM w.heap.size O.heap.size W8 j (.slice E A c5) J (.slice M K c7) s4 (.slice p4 l4 c4)):=by
   have h1:=U.o.a.off2 (k:=w.heap.size+1) (by omega) (.bool J) (.slice M K c7);have h2:=U.o.b.put2 (.bool J) (.slice M K c7);have h3:=U.o.r.off2 (k:=w.heap.size+1) (by omega) (.bool J) (.slice M K c7);have h4:=U.o.c.off2 (k:=w.heap.size+1) (by omega) (.bool J) (.slice M K c7);rw[V] at h1 h2 h3 h4;exact⟨h1,h2,h3,h4⟩
 rotate_left
 all_goals
  clear V d3;obtain⟨_,⟨b0,b1,bf⟩,_⟩:=U.o.cells;have q6:=bf 0;have q9:=bf 1;clear bf
  go_upto_region 6 with fail
  rw[n2.o];clear b0 b1 q6 q9;obtain⟨⟨a0,a1,_⟩,⟨b0,b1,_⟩,_⟩:=d2.o.cells;obtain⟨r0,r1,r2,r3⟩:=d2.o.r.k4;obtain⟨f0,f1,f2,f3⟩:=d2.o.r.f4
  go_wp2
  have n1:Ej W8 (w.heap.size+1+1):=Gs d2.o.r (by simp);have o9:=m9.o.put4 n1 (.bool j) (.slice E A c5) (.bool J) (.slice M K c7);have q7:=n9.o.put4 n1 (.bool j) (.slice E A c5) (.bool J) (.slice M K c7);have p0:=Rf o4.o (w.heap.size+1+1) (by omega) (.bool j) (.slice E A c5) (.bool J) (.slice M K c7);have hZ:Bx ((((W8.setCell ⟨w.heap.size+1+1,0,none⟩ (.bool j)).setCell ⟨w.heap.size+1+1,1,none⟩ (.slice E A c5)).setCell ⟨w.heap.size+1+1,2,none⟩ (.bool J)).setCell ⟨w.heap.size+1+1,3,none⟩ (.slice M K c7)) (w.heap.size+1+1) [.bool j,.slice E A c5,.bool J,.slice M K c7]:=(((d2.o.r.set 0 _).set 1 _).set 2 _).set 3 _;generalize (((W8.setCell ⟨w.heap.size+1+1,0,none⟩ (.bool j)).setCell ⟨w.heap.size+1+1,1,none⟩ (.slice E A c5)).setCell ⟨w.heap.size+1+1,2,none⟩ (.bool J)).setCell ⟨w.heap.size+1+1,3,none⟩ (.slice M K c7)=W9 at *;obtain⟨m0,m1,m2,m3⟩:=hZ.k4;refine Jj (v:=.agg #[.bool j,.slice E A c5,.bool J,.slice M K c7]) ?_ rfl ⟨_,qn,dn,rfl,⟨j,_,J,_,rfl,o9.mono Of (by omega),q7.mono Of (by omega)⟩,m5.o,p0⟩;simp[results,results162,go_sem,m0,m1,m2,m3]
def CV (x y:Int)(z:Value):Prop:=∃ u v b,z=.agg #[.string u,.bool b,.string v]/\Ef x u/\(if y=1 then b=false/\v=⟨#[]⟩ else b=true/\Ef y v)
theorem Qy.shape {B:Nat}{w:World}{z:Value}{x y:Int}{n:Nat}(h:Qy B w z x y n):∃ s1 p1 l1 c1 s2 p2 l2 c2,z=.agg #[.bool s1,.slice p1 l1 c1,.bool s2,.slice p2 l2 c2]/\Gt B w (.agg #[.bool s1,.slice p1 l1 c1]) x n/\Gt B w (.agg #[.bool s2,.slice p2 l2 c2]) y n:=by
 obtain⟨s1,A,s2,v2,rfl,d,j⟩:=h;obtain⟨_,t1,_,⟨p1,c1,rfl,_⟩,_⟩:=d.parts;obtain⟨_,t2,_,⟨p2,c2,rfl,_⟩,_⟩:=j.parts;exact⟨s1,p1,_,c1,s2,p2,_,c2,rfl,d,j⟩
theorem QB (B:Nat)(z:Value)(x y:Int)(n:Nat)(w:World)(hBw:B<=w.heap.size)(h:Qy B w z x y n)(hn:n<=600)(hSP:SP w)(hLT:LT w) :
 Calls prog 163 #[z] w fun e w'=>∃ r,e=.returned r/\CV x y r/\Up w w':=by
 have HR:=Hd h;obtain⟨s1,p1,l1,c1,s2,p2,l2,c2,rfl,h1,h2⟩:=h.shape;have d5:=Hd hSP;have Z:=Hd hLT;have d6:=Hd hBw;have H1:=Hd h1;have H2:=Hd h2;clear h hSP hLT hBw h1 h2;obtain⟨W0,I⟩:=O1 ((w.alloc (.cells #[.bool s1,.slice p1 l1 c1,.bool s2,.slice p2 l2 c2] 166)).alloc (.cells #[.string ⟨#[]⟩,.bool false,.string ⟨#[]⟩] 179));have e1:=Hd I;have A:Hid (Up w W0):=by
  unfold Hid
  rw[<-I];exact Om (Oy _ _) _
 have K:Bx W0 w.heap.size [.bool s1,.slice p1 l1 c1,.bool s2,.slice p2 l2 c2]:=by rw[<-I];exact (Ox w _ _).alloc _
 have U:Bx W0 (w.heap.size+1) [.string ⟨#[]⟩,.bool false,.string ⟨#[]⟩]:=by
  rw[<-I];have h:=Ox (w.alloc (.cells #[.bool s1,.slice p1 l1 c1,.bool s2,.slice p2 l2 c2] 166)) [.string ⟨#[]⟩,.bool false,.string ⟨#[]⟩] 179;rw[Ji] at h;exact h
 have HX:Hid (∀ W,Up W0 W->Bx W w.heap.size [.bool s1,.slice p1 l1 c1,.bool s2,.slice p2 l2 c2]/\Bx W (w.heap.size+1) [.string ⟨#[]⟩,.bool false,.string ⟨#[]⟩]):=fun W hW=>⟨K.below K.lt hW,U.below U.lt hW⟩;clear I;obtain⟨k0,k1,k2,k3⟩:=K.k4;clear K U
 go_enter func163,ntmps163
 go_upto_region 1 with fail
 rw[e1.o]
 go_wp2_with fail
 refine (Tu B _ x y n _ (by have:=d6.o;have:=A.o.size;omega) (HR.o.below A.o) (d5.o.below A.o)).mono ?_;rintro e w1 ⟨rfl,M⟩;have G:=Hd M;have b8:=A.o.trans (M.mono A.o.size);have j:=Hd b8;obtain⟨d1,e2⟩:=HX.o w1 M;clear k0 k1 k2 k3;obtain⟨k0,k1,k2,k3⟩:=d1.k4;clear M b8 d1 e2
 by_cases hy:y=1
 ·have hd:decide (y=1)=true:=Jb hy;have HY:=Hd hy;rw[hd];clear hd hy
  go_wp2_with fail
  refine (Ps B _ x n _ (H1.o.below j.o) hn (Z.o.below j.o)).mono ?_;rintro e Y ⟨u,rfl,hu,J⟩;have HU:=Hd hu;have E:=Hd (G.o.trans (J.mono G.o.size));have d:=(HX.o Y E.o).2;obtain⟨r0,r1,r2⟩:=d.k3;obtain⟨f0,f1,f2⟩:=d.f3;clear hu J d
  go_wp2
  have d:=(HX.o Y E.o).2;have hZ:Bx (((Y.setCell ⟨w.heap.size+1,0,none⟩ (.string u)).setCell ⟨w.heap.size+1,1,none⟩ (.bool false)).setCell ⟨w.heap.size+1,2,none⟩ (.string ⟨#[]⟩)) (w.heap.size+1) [.string u,.bool false,.string ⟨#[]⟩]:=((d.set 0 _).set 1 _).set 2 _;have hE:=P5 (A.o.trans (E.o.mono A.o.size)) (w.heap.size+1) (Y1 _) (.string u) (.bool false) (.string ⟨#[]⟩);generalize ((Y.setCell ⟨w.heap.size+1,0,none⟩ (.string u)).setCell ⟨w.heap.size+1,1,none⟩ (.bool false)).setCell ⟨w.heap.size+1,2,none⟩ (.string ⟨#[]⟩)=WE at *;obtain⟨m0,m1,m2⟩:=hZ.k3;refine Jj (v:=.agg #[.string u,.bool false,.string ⟨#[]⟩]) ?_ rfl ⟨_,rfl,⟨u,_,_,rfl,HU.o,by rw[if_pos HY.o];exact⟨rfl,rfl⟩⟩,hE⟩;simp[results,results163,go_sem,m0,m1,m2]
 have hd:decide (y=1)=false:=Jg hy;have HY:=Hd hy;rw[hd];clear hd hy
 go_wp2_with fail
 go_region_with (first
  | (go_at_call_of 191 (Value.slice p1 l1 c1)
     refine (Ps B _ x n _ (H1.o.below (j.o.trans ((Jh _ w1).drew.mono j.o.size))) hn (Z.o.below (j.o.trans ((Jh _ w1).drew.mono j.o.size)))).mono ?_;rintro e Y ⟨u,rfl,hu,J⟩;have HU:=Hd hu;have E:Hid (Up w1 Y):=(Jh _ w1).drew.trans J;have O:=(HX.o Y (G.o.trans (E.o.mono G.o.size))).1;have j2:=O.cell 2;have j3:=O.cell 3;simp only[Jo,Jr] at j2 j3;clear hu J O)
  | (go_at_call_of 191 (Value.slice p2 l2 c2)
     refine (Ps B _ y n _ (H2.o.below (j.o.trans (E.o.mono j.o.size))) hn (Z.o.below (j.o.trans (E.o.mono j.o.size)))).mono ?_;rintro e w3 ⟨v,rfl,hv,c8⟩;have HV:=Hd hv;have V:Hid (Up W0 w3):=G.o.trans ((E.o.trans (c8.mono E.o.size)).mono G.o.size);have d:=(HX.o w3 V.o).2;obtain⟨r0,r1,r2⟩:=d.k3;obtain⟨f0,f1,f2⟩:=d.f3;clear hv c8 d))
 all_goals
  try simp only[Yz,Ys,Ym,Act.put,Ja,Jd,Je]
  go_wp2
  have d:=(HX.o w3 V.o).2;have hZ:Bx (((w3.setCell ⟨w.heap.size+1,0,none⟩ (.string u)).setCell ⟨w.heap.size+1,1,none⟩ (.bool true)).setCell ⟨w.heap.size+1,2,none⟩ (.string v)) (w.heap.size+1) [.string u,.bool true,.string v]:=((d.set 0 _).set 1 _).set 2 _;have hE:=P5 (A.o.trans (V.o.mono A.o.size)) (w.heap.size+1) (Y1 _) (.string u) (.bool true) (.string v);generalize ((w3.setCell ⟨w.heap.size+1,0,none⟩ (.string u)).setCell ⟨w.heap.size+1,1,none⟩ (.bool true)).setCell ⟨w.heap.size+1,2,none⟩ (.string v)=WE at *;obtain⟨m0,m1,m2⟩:=hZ.k3;refine Jj (v:=.agg #[.string u,.bool true,.string v]) ?_ rfl ⟨_,rfl,⟨u,_,_,rfl,HU.o,by rw[if_neg HY.o];exact⟨rfl,HV.o⟩⟩,hE⟩;simp[results,results163,go_sem,m0,m1,m2]
theorem ON (a c a' c':ByteArray)(b b':Bool)(w:World):(Op.equalIn 10000 179 (.agg #[.string a,.bool b,.string c]) (.agg #[.string a',.bool b',.string c'])).run prog w=.ok (a.toList==a'.toList&&b==b'&&c.toList==c'.toList) w:=by
 have u3:=underlying9;have u4:=underlying4;have a3:=Tryz.isAgg9;have a4:=Tryz.isAgg4;have z3:=Tryz.sizeOf9;have z4:=Tryz.sizeOf4;have d:prog.underlying 179=some (.struct (prog.fieldsOf 179)):=by kernel_rfl
 rw[show (10000:Nat)=9999+1 from rfl,run_equalIn_agg w 9999 179 _ _ d (by kernel_rfl)];simp only[Program.fieldsOf,underlying179]
 go_simp
 by_cases j:a.toList=a'.toList<;>by_cases h:b=b'<;>by_cases h3:c.toList=c'.toList<;>simp[j,h,h3]
theorem toList_inj {a b:ByteArray}:(a.toList==b.toList)=decide (a=b):=by
 by_cases h:a=b
 ·subst h;simp
 have:a.toList≠b.toList:=fun e=>h (by
  rw[Jl,Jl] at e;exact ByteArray.ext (Array.toList_inj.1 e))
 simp[h,this]
def RatV (s:ByteArray)(k:Option Nat)(x y:Int):Prop:=
 match k with
 | none=>isIntB s=true/\x=numT s/\y=1
 | some i=>(isIntB (cutP s (some i))=true/\isIntB (cutQ s (some i))=true)/\(numT (cutQ s (some i))≠0/\cutP s (some i)≠strB [48]/\cutQ s (some i)≠strB [49]/\isNeg (cutQ s (some i))=false/\Int.gcd (numT (cutP s (some i))) (numT (cutQ s (some i)))=1) /\
  x=numT (cutP s (some i))/\y=numT (cutQ s (some i))
def Xo (s:ByteArray)(b:Bool):Prop:=∃ k,IsCut s k/\(b=true↔∃ x y,RatV s k x y)
theorem Pk (s1:Bool)(p1:Option Addr)(l1 c1:Nat)(w:World) :
 Calls prog 159 #[.agg #[.bool s1,.slice p1 l1 c1]] w fun e w'=>∃ s2 p2 l2 c2,e=.returned (.agg #[.bool s1,.slice p1 l1 c1,.bool s2,.slice p2 l2 c2])/\Gt w.heap.size w' (.agg #[.bool s2,.slice p2 l2 c2]) 1 3/\Up w w':=by
 obtain⟨J,d⟩:=O1 ((w.alloc (.cells #[.bool s1,.slice p1 l1 c1] 162)).alloc (.cells #[.bool false,.slice none 0 0,.bool false,.slice none 0 0] 166));have Z:=Hd d;have E:Hid (Up w J):=by
  unfold Hid
  rw[<-d];exact Om (Oy _ _) _
 have j:Bx J w.heap.size [.bool s1,.slice p1 l1 c1]:=by rw[<-d];exact (Ox w _ _).alloc _
 have A:Bx J (w.heap.size+1) [.bool false,.slice none 0 0,.bool false,.slice none 0 0]:=by
  rw[<-d];have h:=Ox (w.alloc (.cells #[.bool s1,.slice p1 l1 c1] 162)) [.bool false,.slice none 0 0,.bool false,.slice none 0 0] 166;rw[Ji] at h;exact h
 have HX:Hid (∀ W,Up J W->Bx W w.heap.size [.bool s1,.slice p1 l1 c1]/\Bx W (w.heap.size+1) [.bool false,.slice none 0 0,.bool false,.slice none 0 0]):=fun W hW=>⟨j.below j.lt hW,A.below A.lt hW⟩;clear d;obtain⟨k0,k1⟩:=j.k2;clear j A
 go_enter func159,ntmps159
 go_upto_region 1 with fail
 rw[Z.o]
 go_region_with (first
  | (go_at_call 186
     refine (Xc 1 _ (by decide)).mono ?_;rintro e K ⟨z,rfl,hz,O⟩;have I:Hid (Up J K):=(Jh _ J).drew.trans O;obtain⟨s2,p2,l2,c2,rfl⟩:=hz.shape;have HZ:=Hd hz;obtain⟨U,G⟩:=HX.o K I.o;obtain⟨j0,j1⟩:=U.k2;obtain⟨r0,r1,r2,r3⟩:=G.k4;obtain⟨f0,f1,f2,f3⟩:=G.f4;clear hz O U G))
 all_goals
  try simp only[Yz,Ys,Ym,Act.put,Ja,Jd,Je]
  go_wp2
  have M:=(HX.o K I.o).2;have a8:Ej K (w.heap.size+1):=Gs M (by simp);have Y:=(HZ.o.mono (B':=w.heap.size) (n':=3) E.o.size Of).put4 a8 (.bool s1) (.slice p1 l1 c1) (.bool s2) (.slice p2 l2 c2);have V:=Rf (E.o.trans (I.o.mono E.o.size)) (w.heap.size+1) (Y1 _) (.bool s1) (.slice p1 l1 c1) (.bool s2) (.slice p2 l2 c2);have hZ:Bx ((((K.setCell ⟨w.heap.size+1,0,none⟩ (.bool s1)).setCell ⟨w.heap.size+1,1,none⟩ (.slice p1 l1 c1)).setCell ⟨w.heap.size+1,2,none⟩ (.bool s2)).setCell ⟨w.heap.size+1,3,none⟩ (.slice p2 l2 c2)) (w.heap.size+1) [.bool s1,.slice p1 l1 c1,.bool s2,.slice p2 l2 c2]:=(((M.set 0 _).set 1 _).set 2 _).set 3 _;generalize (((K.setCell ⟨w.heap.size+1,0,none⟩ (.bool s1)).setCell ⟨w.heap.size+1,1,none⟩ (.slice p1 l1 c1)).setCell ⟨w.heap.size+1,2,none⟩ (.bool s2)).setCell ⟨w.heap.size+1,3,none⟩ (.slice p2 l2 c2)=W9 at *;obtain⟨m0,m1,m2,m3⟩:=hZ.k4;refine Jj (v:=.agg #[.bool s1,.slice p1 l1 c1,.bool s2,.slice p2 l2 c2]) ?_ rfl ⟨s2,p2,l2,c2,rfl,Y,V⟩;simp[results,results159,go_sem,m0,m1,m2,m3]
end Go.Proofs.YtipgjenolpofpaaGreatDoor.Q
namespace Go.Proofs.YtipgjenolpofpaaGreatDoor.Q
open Go.ChangeShapes Go.WideShapes Go.ChangeAt Go.RowKit
def QM (z:Value):Prop:=∃ s1 p1 l1 c1 s2 p2 l2 c2,z=.agg #[.bool s1,.slice p1 l1 c1,.bool s2,.slice p2 l2 c2]
def XX (B:Nat)(w:World)(s:ByteArray)(k:Option Nat)(z:Value)(ok:Bool):Prop:=
 QM z/\(ok=true↔∃ x y,RatV s k x y)/\(ok=true->∃ x y,RatV s k x y/\Qy B w z x y 300)
theorem Qy.mono {B B':Nat}{w:World}{z:Value}{x y:Int}{n n':Nat}(h:Qy B w z x y n)(hb:B'<=B)(hn:n<=n'):Qy B' w z x y n':=by
 obtain⟨d,E,j,v2,e,A,G⟩:=h;exact⟨d,E,j,v2,e,A.mono hb hn,G.mono hb hn⟩
theorem Qy.put4 {B:Nat}{W:World}{z:Value}{x y:Int}{n:Nat}(h:Qy B W z x y n){g:Nat}(no:Ej W g)(u0 u1 u2 u3:Value):Qy B ((((W.setCell ⟨g,0,none⟩ u0).setCell ⟨g,1,none⟩ u1).setCell ⟨g,2,none⟩ u2).setCell ⟨g,3,none⟩ u3) z x y n:=by
 obtain⟨d,E,j,v2,e,A,G⟩:=h;exact⟨d,E,j,v2,e,A.put4 no u0 u1 u2 u3,G.put4 no u0 u1 u2 u3⟩
theorem XI (B:Nat)(W:World)(s p q u v:ByteArray)(i:Nat)(b bb ok:Bool)(z:Value)(xn xd:Int)(hP:cutP s (some i)=p/\cutQ s (some i)=q/\(some i).isSome=b)(hI:isIntB p=true/\isIntB q=true)(h0:numT q≠0)(hl:Pu (numT p) (numT q) xn xd)
 (hu:Ef xn u/\(if xd=1 then bb=false/\v=⟨#[]⟩ else bb=true/\Ef xd v)) (hok:(u.toList==p.toList&&bb==b&&v.toList==q.toList)=ok) (hR:Qy B W z xn xd 283):XX B W s (some i) z ok:=by
 obtain⟨rfl,rfl,hb⟩:=hP;have E:b=true:=hb.symm;subst E;have d:ok=true↔(xd≠1/\Ef xn (cutP s (some i))/\Ef xd (cutQ s (some i))):=by
  rw[<-hok,toList_inj,toList_inj];simp only[J4,Yg,Yc];constructor
  ·rintro⟨⟨rfl,rfl⟩,rfl⟩
   by_cases A:xd=1
   ·rw[if_pos A] at hu;exact absurd hu.2.1 (by decide)
   rw[if_neg A] at hu;exact⟨A,hu.1,hu.2.2⟩
  rintro⟨A,h2,h3⟩;rw[if_neg A] at hu;exact⟨⟨hu.1.eq h2,hu.2.1⟩,hu.2.2.eq h3⟩
 have j:=XU _ _ xn xd hI.1 hI.2 h0 hl;have I:ok=true->RatV s (some i) (numT (cutP s (some i))) (numT (cutQ s (some i))):=fun e=>by
  obtain⟨a1,a2,a3,a4⟩:=j.1 (d.1 e);exact⟨hI,⟨h0,a1,a2,a3,a4⟩,rfl,rfl⟩
 have G:QM z:=by
  obtain⟨J,U,Z,c1,M,O,Y,c2,h,_⟩:=hR.shape;exact⟨J,U,Z,c1,M,O,Y,c2,h⟩
 refine⟨G,⟨fun e=>⟨_,_,I e⟩,?_⟩,fun e=>?_⟩
 ·rintro⟨x,y,_,⟨_,a1,a2,a3,a4⟩,_,_⟩;exact d.2 (j.2 ⟨a1,a2,a3,a4⟩)
 obtain⟨_,t1,t2⟩:=d.1 e;have K:=Rw t1 (Gq _ hI.1) (Rq _ hI.1);have V:=Rw t2 (Gq _ hI.2) (Rq _ hI.2);refine⟨_,_,I e,?_⟩;rw[<-K,<-V];exact hR.mono Of (by omega)
end Go.Proofs.YtipgjenolpofpaaGreatDoor.Q
