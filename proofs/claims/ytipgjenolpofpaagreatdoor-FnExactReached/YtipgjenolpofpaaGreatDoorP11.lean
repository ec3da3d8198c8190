import Derived.Test.YtipgjenolpofpaaGreatDoorP10
set_option maxRecDepth 100000
set_option maxHeartbeats 4000000
namespace Go.Proofs.YtipgjenolpofpaaGreatDoor.Q
open ChangeShapes WideShapes ChangeAt RowKit Proofs.Tryz
theorem OK (x z:Int)(y:Bool)(w:World):(Instr.field 215 (.agg #[.int .i64 x,.bool y,.int .i64 z]) 1).run prog w=.ok (.bool y) w:=by kernel_rfl
theorem Sc (B:Nat)(s t:Bool)(va vb:Value)(a b:List Nat)(w:World)(hBw:B<=w.heap.size)(ha:U1 B w va a)(hb:U1 B w vb b)(hla:a.length<=90000)(hlb:b.length<=90000)(hta:isTrim a)(htb:isTrim b)(hne:b≠[])(hSP:SP w) :
 Calls prog 189 #[.agg #[.bool s,va],.agg #[.bool t,vb]] w fun e w'=>∃ z1 z2 q r,e=.returned (.tuple #[z1,z2])/\Gt B w' z1 q (a.length+2)/\Gt B w' z2 r (b.length+3)/\No (sg s (val a)) (sg t (val b)) q r/\Up w w':=by
 have HA:Hid (∀ W,Up w W->U1 B W va a):=fun W hW=>ha.bl hW;have HB:Hid (∀ W,Up w W->U1 B W vb b):=fun W hW=>hb.bl hW;obtain⟨pa,ca,rfl,_,_,e2,_⟩:=ha;obtain⟨pb,cb,rfl,_,_,e3,_⟩:=hb;have HX:=Ws w s pa a.length ca t pb b.length cb 162;obtain⟨W0,d1⟩:=O1 ((((w.alloc (.cells #[.bool s,.slice pa a.length ca] 162)).alloc (.cells #[.bool t,.slice pb b.length cb] 162)).alloc (.cells #[.bool false,.slice none 0 0] 162)).alloc (.cells #[.bool false,.slice none 0 0] 162));have j7:=Ec d1;have e8:Up w W0:=by rw[<-d1];exact Om (Om (Om (Oy _ _) _) _) _
 have g2:=Ec e8;have h6:W0.heap.size=w.heap.size+4:=by rw[<-d1];simp
 rw[d1] at HX;have HS:=Ec h6;have J:Hid (∀ W,Up W0 W->BoxD w.heap.size W s pa a.length ca t pb b.length cb):=fun W hW=>HX.bl (by omega) hW;have HF:Hid (∀ W,Up W0 W->Up w W):=fun W hW=>e8.trans (hW.mono (by omega));have e6:Hid (∀ W,Up w W->SP W):=fun W hW=>hSP.bl hW;have HT:Hid (isTrim a/\isTrim b/\b≠[]/\B<=w.heap.size):=⟨hta,htb,hne,hBw⟩;have j5:Hid (okL a/\okL b):=⟨e2,e3⟩;obtain⟨a0,a1,b0,b1,r0,r1,t0,t1,f⟩:=HX;clear f d1 h6 e8 hta htb hne hBw e2 e3 hSP;have n5:=OK
 go_in
 go_wp2_with fail
 rw[j7.o];refine (Rm B _ _ a b _ (by have:=HS.o;have:=HT.o;omega) (HA.o _ g2.o) (HB.o _ g2.o) (by omega) HT.o.1 HT.o.2.1 HT.o.2.2.1).mono ?_;rintro e wx ⟨v,u,Q,U,rfl,hD,g6⟩;have d:=Hd g6;have b4:Hid (∀ W,Up wx W->U1 B W v Q):=fun W hW=>hD.1.1.bl hW;have b5:Hid (∀ W,Up wx W->U1 B W u U):=fun W hW=>hD.1.2.bl hW;have l2:okL U:=by obtain⟨_,_,_,_,_,h,_⟩:=hD.1.2;exact h
 have g5:U.length<=b.length:=Ru U b hD.2.1.2 j5.o.2 hD.2.2.2.2;have A:Hid (Q.length<=a.length/\U.length<=b.length):=⟨hD.2.2.1.1,g5⟩;have b6:Hid (val a=val Q*val b+val U/\val U<val b/\isTrim U):=⟨hD.2.2.2.1,hD.2.2.2.2,hD.2.1.2⟩;obtain⟨pv,cv,hv,_⟩:=id hD.1.1;obtain⟨pu,cu,hu,_⟩:=id hD.1.2;obtain⟨lv,f8⟩:=O1 Q.length;obtain⟨lu,f5⟩:=O1 U.length;subst hv hu;rw[f8] at b4 A ⊢;rw[f5] at b5 A ⊢;have K:Hid (Q.length=lv/\U.length=lu):=⟨f8,f5⟩;clear a0 a1 b0 b1 r0 r1 t0 t1 g6 hD g5 f8 f5 l2
 cases s
 ·have b9:Hid (No (sg false (val a)) (sg t (val b)) (sg t (val Q)) (sg false (val U))):=by
   have h:=Mx t _ _ _ _ b6.o.1 b6.o.2.1;rw[show (false != t)=t by cases t<;>rfl] at h;exact h
  have A:Hid (Q.length<=a.length+2/\U.length<=b.length+3):=by have:=A.o;have:=K.o;exact⟨by omega,by omega⟩
  obtain⟨k0,k1,l0,l1,m0,m1,n0,n1,f,z⟩:=J.o wx d.o;clear f z
  go_wp2_with fail
  refine (Ic _ _ _ _ _ _ _ _ _ (e6.o _ (HF.o _ d.o))).mono ?_;rintro e ws ⟨rfl,Z⟩;have I:=Hd Z;clear Z k0 k1 l0 l1 m0 m1 n0 n1
  go_wp2_with fail
  refine (Kd B t _ Q _ (b4.o _ I.o)).mono ?_;rintro e wm ⟨v',rfl,hcut,V⟩;have E:=I.up V;have M:Hid (∀ W,Up wx W->U1 B W v' (Oe Q)):=fun W hW=>hcut _ _ (b4.o W hW);obtain⟨pq,cq,hq,_⟩:=M.o wm E.o;subst hq;clear hcut V
  go_wp2_with fail
  refine (Kd B false _ U _ (b5.o _ E.o)).mono ?_;rintro e G ⟨u',rfl,hcut,Y⟩;have j:=E.up Y;have O:Hid (∀ W,Up wx W->U1 B W u' (Oe U)):=fun W hW=>hcut _ _ (b5.o W hW);obtain⟨pr,cr,hr,_⟩:=O.o G j.o;subst hr;obtain⟨_,_,_,_,u0,u1,w0,w1,f,z⟩:=J.o G (d.o.trans (j.o.mono d.o.size));have i20:=f 2 (by omega) 0;have i21:=f 2 (by omega) 1;have i1:=f 3 (by omega) 0;have i6:=f 3 (by omega) 1;have HZ:Hid (Ew G (w.heap.size+2)/\Ew G (w.heap.size+3)):=⟨z 2 (by omega),z 3 (by omega)⟩;clear hcut Y f z
  go_wp2
  have c6:Hid (Up w G):=HF.o _ (d.o.trans (j.o.mono d.o.size));refine Jj ?_ rfl ⟨_,_,_,_,rfl,⟨t,_,Oe Q,rfl,(M.o _ j.o).keeps HZ.o.1 HZ.o.2 (((((Kq.refl _ _ G).setCell _ _ ?_).setCell _ _ ?_).setCell _ _ ?_).setCell _ _ ?_),trimL_trim _,rfl,?_⟩,⟨false,_,Oe U,rfl,(O.o _ j.o).keeps HZ.o.1 HZ.o.2 (((((Kq.refl _ _ G).setCell _ _ ?_).setCell _ _ ?_).setCell _ _ ?_).setCell _ _ ?_),trimL_trim _,rfl,?_⟩,?_,(((c6.o.setCell ?_ _).setCell ?_ _).setCell ?_ _).setCell ?_ _⟩
  all_goals first
   | (simp[results,results189,go_sem,u0,u1,w0,w1];done)
   | (simp;omega)
   | (have:=Ku Q;have:=A.o;omega)
   | (have:=Ku U;have:=A.o;omega)
   | (rw[O3,O3];exact b9.o)
 by_cases k9:lu=0
 ·subst k9;have b9:Hid (No (sg true (val a)) (sg t (val b)) (sg (!t) (val Q)) (sg false (val U))):=by
   have e:U=[]:=Jv K.o.2;have h:=b6.o;rw[e] at h ⊢;have h2:=C2 t _ _ _ h.1 (by have:=h.2.1;simp[val] at this;omega);rw[show (true != t)=!t by cases t<;>rfl] at h2;exact h2
  have A:Hid (Q.length<=a.length+2/\U.length<=b.length+3):=by have:=A.o;have:=K.o;exact⟨by omega,by omega⟩
  obtain⟨k0,k1,l0,l1,m0,m1,n0,n1,f,z⟩:=J.o wx d.o;clear f z
  go_wp2_with fail
  refine (Ic _ _ _ _ _ _ _ _ _ (e6.o _ (HF.o _ d.o))).mono ?_;rintro e ws ⟨rfl,Z⟩;have I:=Hd Z;clear Z k0 k1 l0 l1 m0 m1 n0 n1
  go_wp2_with fail
  refine (Kd B (!t) _ Q _ (b4.o _ I.o)).mono ?_;rintro e wm ⟨v',rfl,hcut,V⟩;have E:=I.up V;have M:Hid (∀ W,Up wx W->U1 B W v' (Oe Q)):=fun W hW=>hcut _ _ (b4.o W hW);obtain⟨pq,cq,hq,_⟩:=M.o wm E.o;subst hq;clear hcut V
  go_wp2_with fail
  refine (Kd B false _ U _ (b5.o _ E.o)).mono ?_;rintro e G ⟨u',rfl,hcut,Y⟩;have j:=E.up Y;have O:Hid (∀ W,Up wx W->U1 B W u' (Oe U)):=fun W hW=>hcut _ _ (b5.o W hW);obtain⟨pr,cr,hr,_⟩:=O.o G j.o;subst hr;obtain⟨_,_,_,_,u0,u1,w0,w1,f,z⟩:=J.o G (d.o.trans (j.o.mono d.o.size));have i20:=f 2 (by omega) 0;have i21:=f 2 (by omega) 1;have i1:=f 3 (by omega) 0;have i6:=f 3 (by omega) 1;have HZ:Hid (Ew G (w.heap.size+2)/\Ew G (w.heap.size+3)):=⟨z 2 (by omega),z 3 (by omega)⟩;clear hcut Y f z
  go_wp2
  have c6:Hid (Up w G):=HF.o _ (d.o.trans (j.o.mono d.o.size));refine Jj ?_ rfl ⟨_,_,_,_,rfl,⟨(!t),_,Oe Q,rfl,(M.o _ j.o).keeps HZ.o.1 HZ.o.2 (((((Kq.refl _ _ G).setCell _ _ ?_).setCell _ _ ?_).setCell _ _ ?_).setCell _ _ ?_),trimL_trim _,rfl,?_⟩,⟨false,_,Oe U,rfl,(O.o _ j.o).keeps HZ.o.1 HZ.o.2 (((((Kq.refl _ _ G).setCell _ _ ?_).setCell _ _ ?_).setCell _ _ ?_).setCell _ _ ?_),trimL_trim _,rfl,?_⟩,?_,(((c6.o.setCell ?_ _).setCell ?_ _).setCell ?_ _).setCell ?_ _⟩
  all_goals first
   | (simp[results,results189,go_sem,u0,u1,w0,w1];done)
   | (simp;omega)
   | (have:=Ku Q;have:=A.o;omega)
   | (have:=Ku U;have:=A.o;omega)
   | (rw[O3,O3];exact b9.o)
 have hp:0<lu:=by omega
 have j6:Hid (0<val U):=by
  have e:U≠[]:=by intro e;rw[e] at K;have:=K.o.2;simp at this;omega
  exact N2 U b6.o.2.2 e
 obtain⟨k0,k1,l0,l1,m0,m1,n0,n1,f,z⟩:=J.o wx d.o;clear f z
 go_wp2_with fail
 have e4:U1 wx.heap.size (wx.alloc (.cells #[.int .u32 1] 154)) (.slice (some ⟨wx.heap.size,0,none⟩) 1 1) [1]:=UQ _ _ 1 _ (by omega) rfl rfl Of;refine (Bh B _ _ Q [1] _ (b4.o _ (Oy _ _)) (e4.mono (by have:=d.o.size;have:=HS.o;have:=HT.o.2.2.2;omega)) (by have:=A.o;have:=K.o;omega) (by simp)).mono ?_;clear e4;rintro e wy ⟨v2,Q2,rfl,f9,h8,g8,l3,g7⟩;have b3:Hid (Up wx wy):=(Oy wx (.cells #[.int .u32 1] 154)).trans (g7.mono (by simp));have c8:Hid (U1 B wy v2 Q2/\val Q2=val Q+1/\Q2.length<=a.length+2):=⟨f9.mono (by have:=d.o.size;have:=HS.o;have:=HT.o.2.2.2;simp;omega),by rw[h8];simp[val],by have:=A.o;have:=K.o;simp at g8;omega⟩;obtain⟨l9,k8,l5,_⟩:=id f9;subst l5;clear f9 h8 g8 l3 g7 k0 k1 l0 l1 m0 m1 n0 n1;obtain⟨k0,k1,l0,l1,m0,m1,n0,n1,f,z⟩:=J.o wy (d.o.trans (b3.o.mono d.o.size));clear f z
 go_wp2_with fail
 refine (Ar B _ _ b U _ (HB.o _ (HF.o _ (d.o.trans (b3.o.mono d.o.size)))) (b5.o _ b3.o) HT.o.2.2.1 (by omega) (by have:=A.o;have:=K.o;omega) (by have:=b6.o;omega)).mono ?_;rintro e wz ⟨u2,U2,rfl,g0,h9,g9,l4,e9⟩;have b7:Hid (Up W0 wz):=d.o.trans ((b3.o.trans (e9.mono b3.o.size)).mono d.o.size);have d9:Hid (∀ W,Up wz W->U1 B W (.slice l9 Q2.length k8) Q2):=fun W hW=>(c8.o.1.bl e9).bl hW;have e1:Hid (∀ W,Up wz W->U1 B W u2 U2):=fun W hW=>(g0.mono (by have:=b3.o.size;have:=d.o.size;have:=HS.o;have:=HT.o.2.2.2;omega)).bl hW;have b9:Hid (No (sg true (val a)) (sg t (val b)) (sg (!t) (val Q2)) (sg false (val U2))):=by
  rw[c8.o.2.1];have h2:=Pd t _ _ _ _ _ b6.o.1 h9 j6.o;rw[show (true != t)=!t by cases t<;>rfl] at h2;exact h2
 have d8:Hid (Q2.length<=a.length+2/\U2.length<=b.length+3):=⟨c8.o.2.2,by omega⟩;obtain⟨n9,n4,h7,_⟩:=id g0;subst h7;clear g0 h9 g9 l4 e9 k0 k1 l0 l1 m0 m1 n0 n1;obtain⟨k0,k1,l0,l1,m0,m1,n0,n1,f,z⟩:=J.o wz b7.o;clear f z
 go_wp2_with fail
 refine (Ic _ _ _ _ _ _ _ _ _ (e6.o _ (HF.o _ b7.o))).mono ?_;rintro e ws ⟨rfl,Z⟩;have I:=Hd Z;clear Z k0 k1 l0 l1 m0 m1 n0 n1
 go_wp2_with fail
 refine (Kd B (!t) _ Q2 _ (d9.o _ I.o)).mono ?_;rintro e wm ⟨v',rfl,hcut,V⟩;have E:=I.up V;have M:Hid (∀ W,Up wz W->U1 B W v' (Oe Q2)):=fun W hW=>hcut _ _ (d9.o W hW);obtain⟨pq,cq,hq,_⟩:=M.o wm E.o;subst hq;clear hcut V
 go_wp2_with fail
 refine (Kd B false _ U2 _ (e1.o _ E.o)).mono ?_;rintro e G ⟨u',rfl,hcut,Y⟩;have j:=E.up Y;have O:Hid (∀ W,Up wz W->U1 B W u' (Oe U2)):=fun W hW=>hcut _ _ (e1.o W hW);obtain⟨pr,cr,hr,_⟩:=O.o G j.o;subst hr;obtain⟨_,_,_,_,u0,u1,w0,w1,f,z⟩:=J.o G (b7.o.trans (j.o.mono b7.o.size));have i20:=f 2 (by omega) 0;have i21:=f 2 (by omega) 1;have i1:=f 3 (by omega) 0;have i6:=f 3 (by omega) 1;have HZ:Hid (Ew G (w.heap.size+2)/\Ew G (w.heap.size+3)):=⟨z 2 (by omega),z 3 (by omega)⟩;clear hcut Y f z
 go_wp2
 have c6:Hid (Up w G):=HF.o _ (b7.o.trans (j.o.mono b7.o.size));refine Jj ?_ rfl ⟨_,_,_,_,rfl,⟨(!t),_,Oe Q2,rfl,(M.o _ j.o).keeps HZ.o.1 HZ.o.2 (((((Kq.refl _ _ G).setCell _ _ ?_).setCell _ _ ?_).setCell _ _ ?_).setCell _ _ ?_),trimL_trim _,rfl,?_⟩,⟨false,_,Oe U2,rfl,(O.o _ j.o).keeps HZ.o.1 HZ.o.2 (((((Kq.refl _ _ G).setCell _ _ ?_).setCell _ _ ?_).setCell _ _ ?_).setCell _ _ ?_),trimL_trim _,rfl,?_⟩,?_,(((c6.o.setCell ?_ _).setCell ?_ _).setCell ?_ _).setCell ?_ _⟩
 all_goals first
  | (simp[results,results189,go_sem,u0,u1,w0,w1];done)
  | (simp;omega)
  | (have:=Ku Q2;have:=d8.o;omega)
  | (have:=Ku U2;have:=d8.o;omega)
  | (rw[O3,O3];exact b9.o)
structure BoxQ (g:Nat)(W:World)(x:Int)(xn:Bool)(pa:Option Addr)(la ca:Nat)(y:Int)(yn:Bool)(pb:Option Addr)(lb cb:Nat):Prop where
 a0:W.cell? ⟨g,0,none⟩=some (.int .i64 x)
 a1:W.cell? ⟨g,1,none⟩=some (.bool xn)
 a2:W.cell? ⟨g,2,none⟩=some (.slice pa la ca)
 b0:W.cell? ⟨g+1,0,none⟩=some (.int .i64 y)
 b1:W.cell? ⟨g+1,1,none⟩=some (.bool yn)
 b2:W.cell? ⟨g+1,2,none⟩=some (.slice pb lb cb)
 r0:W.cell? ⟨g+2,0,none⟩=some (.int .i64 0)
 r1:W.cell? ⟨g+2,1,none⟩=some (.bool false)
 r2:W.cell? ⟨g+2,2,none⟩=some (.slice none 0 0)
 t0:W.cell? ⟨g+3,0,none⟩=some (.int .i64 0)
 t1:W.cell? ⟨g+3,1,none⟩=some (.bool false)
 t2:W.cell? ⟨g+3,2,none⟩=some (.slice none 0 0)
 f:∀ k,k<4->∀ i,W.frozen? ⟨g+k,i,none⟩=false
theorem BoxQ.bl {g:Nat}{W W':World}{x:Int}{xn:Bool}{pa:Option Addr}{la ca:Nat}{y:Int}{yn:Bool}{pb:Option Addr}{lb cb:Nat}(h:BoxQ g W x xn pa la ca y yn pb lb cb){N:Nat}(hN:g+4<=N)(hb:Below N W W'):BoxQ g W' x xn pa la ca y yn pb lb cb:=by
 have q:∀ k,k<4->∀ i,W'.cell? ⟨g+k,i,none⟩=W.cell? ⟨g+k,i,none⟩:=fun k hk i=>hb.cell (p:=⟨g+k,i,none⟩) (by show g+k<N;omega);have f:∀ k,k<4->∀ i,W'.frozen? ⟨g+k,i,none⟩=W.frozen? ⟨g+k,i,none⟩:=fun k hk i=>hb.frozen (p:=⟨g+k,i,none⟩) (by show g+k<N;omega);exact⟨(q 0 (by omega) 0).trans h.a0,(q 0 (by omega) 1).trans h.a1,(q 0 (by omega) 2).trans h.a2,(q 1 (by omega) 0).trans h.b0,(q 1 (by omega) 1).trans h.b1,(q 1 (by omega) 2).trans h.b2,(q 2 (by omega) 0).trans h.r0,(q 2 (by omega) 1).trans h.r1,(q 2 (by omega) 2).trans h.r2,(q 3 (by omega) 0).trans h.t0,(q 3 (by omega) 1).trans h.t1,(q 3 (by omega) 2).trans h.t2,fun k hk i=>(f k hk i).trans (h.f k hk i)⟩
theorem Cl (w:World)(x:Int)(xn:Bool)(pa:Option Addr)(la ca:Nat)(y:Int)(yn:Bool)(pb:Option Addr)(lb cb:Nat)(ty:TypeId) :
 BoxQ w.heap.size ((((w.alloc (.cells #[.int .i64 x,.bool xn,.slice pa la ca] ty)).alloc (.cells #[.int .i64 y,.bool yn,.slice pb lb cb] ty)).alloc (.cells #[.int .i64 0,.bool false,.slice none 0 0] ty)).alloc (.cells #[.int .i64 0,.bool false,.slice none 0 0] ty)) x xn pa la ca y yn pb lb cb:=by
 refine⟨?_,?_,?_,?_,?_,?_,?_,?_,?_,?_,?_,?_,?_⟩
 iterate 3 · rw[Jt _ _ _ (by simp<;>omega),Jt _ _ _ (by simp<;>omega),Jt _ _ _ (by simp),Jp _ _ _ _ rfl];rfl
 iterate 3 · rw[Jt _ _ _ (by simp<;>omega),Jt _ _ _ (by simp<;>omega),Jp _ _ _ _ (by simp)];rfl
 iterate 3 · rw[Jt _ _ _ (by simp<;>omega),Jp _ _ _ _ (by simp)];rfl
 iterate 3 · rw[Jp _ _ _ _ (by simp)];rfl
 intro k d i
 match k,d with
 | 0,_=>rw[Yr _ _ _ (by simp<;>omega),Yr _ _ _ (by simp<;>omega),Yr _ _ _ (by simp),J7 _ _ _ _ (by simp)]
 | 1,_=>rw[Yr _ _ _ (by simp<;>omega),Yr _ _ _ (by simp<;>omega),J7 _ _ _ _ (by simp)]
 | 2,_=>rw[Yr _ _ _ (by simp<;>omega),J7 _ _ _ _ (by simp)]
 | 3,_=>rw[J7 _ _ _ _ (by simp)]
theorem VH (x y:Int)(hx1 : -1000000000000000000<x)(hx2:x<1000000000000000000)(hy:y≠0) :
 y*x.tdiv y+x.tmod y=x/\(x.tmod y).natAbs<y.natAbs/\(x.tdiv y).natAbs<=999999999999999999/\(x.tmod y≠0->(x.tdiv y).natAbs<=499999999999999999):=by
 have d:(x.tmod y).natAbs<y.natAbs:=by rw[Int.natAbs_tmod];exact Zx _ (by omega)
 refine⟨Int.mul_tdiv_add_tmod x y,d,?_,fun hr=>?_⟩
 ·rw[Int.natAbs_tdiv];exact Yk (Nat.div_le_self _ _) (by omega)
 rw[Int.natAbs_tdiv];have h:2<=y.natAbs:=by omega
 have h3:x.natAbs / y.natAbs<=x.natAbs / 2:=Nat.div_le_div_left h (by omega);exact Yk h3 (by omega)
theorem PH (x y q r:Int)(h:y*q+r=x)(hr:0<=r)(hl:r.natAbs<y.natAbs):No x y q r:=⟨by rw[Int.mul_comm];exact h.symm,hr,by omega⟩
theorem PI (x y q r:Int)(h:y*q+r=x)(hr:r<0)(hl:r.natAbs<y.natAbs)(hy:0<y):No x y (q - 1) (r+y):=⟨by rw[Int.sub_mul,Int.mul_comm q];omega,by omega,by omega⟩
theorem PX (x y q r:Int)(h:y*q+r=x)(hr:r<0)(hl:r.natAbs<y.natAbs)(hy:y<0):No x y (q+1) (r - y):=⟨by rw[Int.add_mul,Int.mul_comm q];omega,by omega,by omega⟩
theorem Tk (x y:Int)(w:World)(hx1 : -1000000000000000000<x)(hx2:x<1000000000000000000)(hy1 : -1000000000000000000<y)(hy2:y<1000000000000000000)(hy:y≠0) :
 Calls prog 129 #[.agg #[.int .i64 x,.bool false,.slice none 0 0],.agg #[.int .i64 y,.bool false,.slice none 0 0]] w fun e w'=>∃ z1 z2 q r,e=.returned (.tuple #[z1,z2])/\(N5 w.heap.size w' z1 q/\N5 w.heap.size w' z2 r)/\No x y q r/\Up w w':=by
 have HX:=Cl w x false none 0 0 y false none 0 0 123;obtain⟨M,h⟩:=O1 ((((w.alloc (.cells #[.int .i64 x,.bool false,.slice none 0 0] 123)).alloc (.cells #[.int .i64 y,.bool false,.slice none 0 0] 123)).alloc (.cells #[.int .i64 0,.bool false,.slice none 0 0] 123)).alloc (.cells #[.int .i64 0,.bool false,.slice none 0 0] 123));have Z:=Ec h;have Y:Hid (Up w M):=by rw[<-h];exact Om (Om (Om (Oy _ _) _) _) _
 have O:M.heap.size=w.heap.size+4:=by rw[<-h];simp
 rw[h] at HX;have HS:=Ec O;have K:Hid (∀ W,Up M W->BoxQ w.heap.size W x false none 0 0 y false none 0 0):=fun W hW=>HX.bl (by omega) hW;obtain⟨a0,a1,a2,b0,b1,b2,r0,r1,r2,t0,t1,t2,_⟩:=HX;clear h O;obtain⟨U,d2,d3,V⟩:=VH x y hx1 hx2 hy;obtain⟨q,hq⟩:=O1 (x.tdiv y);obtain⟨r,hr⟩:=O1 (x.tmod y);rw[hq] at U d3 V;rw[hr] at U d2 V;have I:Hid (y*q+r=x/\r.natAbs<y.natAbs):=⟨U,d2⟩;have q1 : -1000000000000000000<q:=by omega
 have q2:q<1000000000000000000:=by omega
 have s1 : -1000000000000000000<r:=by omega
 have s2:r<1000000000000000000:=by omega
 have d:Hid (r≠0->q.natAbs<=499999999999999999):=V;clear U d2 d3 V;have G:0<=r∨(r<0/\0<y)∨(r<0/\y<0):=by omega
 rcases G with hc|⟨hc,E⟩|⟨hc,E⟩
 all_goals
  go_in
  go_wp2_with fail
  rw[Z.o];refine (U6 _ _ _ _ _ _).mono ?_;rintro e wA ⟨rfl,hA⟩;have j:Hid (Up M wA):=by rw[hA];exact Oy _ _
  clear hA a0 a1 a2 b0 b1 b2 r0 r1 r2 t0 t1 t2;obtain⟨a0,a1,a2,b0,b1,b2,r0,r1,r2,t0,t1,t2,f⟩:=K.o wA j.o;clear f
  go_wp2_with fail
  refine (U6 _ _ _ _ _ _).mono ?_;rintro e wB ⟨rfl,hB⟩;have J:Hid (Up M wB):=by rw[hB];exact j.o.alloc j.o.size _
  have A:Hid (Up w wB):=Y.o.trans (J.o.mono (by have:=HS.o;omega));clear hB a0 a1 a2 b0 b1 b2 r0 r1 r2 t0 t1 t2;obtain⟨a0,a1,a2,b0,b1,b2,r0,r1,r2,t0,t1,t2,f⟩:=K.o wB J.o;have b9:=f 2 (by omega) 0;have c6:=f 2 (by omega) 1;have c8:=f 2 (by omega) 2;have d0:=f 3 (by omega) 0;have d5:=f 3 (by omega) 1;have d6:=f 3 (by omega) 2;clear f
  go_wp2
 ·refine Jj ?_ rfl ⟨_,_,q,r,rfl,⟨Hl _ _ q (by omega) (by omega),Hl _ _ r (by omega) (by omega)⟩,PH x y q r I.o.1 hc I.o.2,(((((A.o.setCell ?_ _).setCell ?_ _).setCell ?_ _).setCell ?_ _).setCell ?_ _).setCell ?_ _⟩
  all_goals first
   | (simp[results,results129,go_sem,r0,r1,r2,t0,t1,t2];done)
   | (simp;omega)
 ·go_region
  all_goals
   go_wp2
   refine Jj ?_ rfl ⟨_,_,(q - 1),(r+y),rfl,⟨Hl _ _ (q - 1) (by have:=d.o;omega) (by have:=d.o;omega),Hl _ _ (r+y) (by have:=d.o;omega) (by have:=d.o;omega)⟩,PI x y q r I.o.1 hc I.o.2 E,((((((A.o.setCell ?_ _).setCell ?_ _).setCell ?_ _).setCell ?_ _).setCell ?_ _).setCell ?_ _).drew⟩
   all_goals first
    | (simp[results,results129,go_sem,r0,r1,r2,t0,t1,t2];done)
    | (simp;omega)
 go_region
 all_goals
  go_wp2
  refine Jj ?_ rfl ⟨_,_,(q+1),(r - y),rfl,⟨Hl _ _ (q+1) (by have:=d.o;omega) (by have:=d.o;omega),Hl _ _ (r - y) (by have:=d.o;omega) (by have:=d.o;omega)⟩,PX x y q r I.o.1 hc I.o.2 E,((((((A.o.setCell ?_ _).setCell ?_ _).setCell ?_ _).setCell ?_ _).setCell ?_ _).setCell ?_ _).drew⟩
  all_goals first
   | (simp[results,results129,go_sem,r0,r1,r2,t0,t1,t2];done)
   | (simp;omega)
structure BoxV (g:Nat)(W:World)(z0:Int)(zn:Bool)(za:Option Addr)(zl zc:Nat):Prop where
 lt:g<W.heap.size
 c0:W.cell? ⟨g,0,none⟩=some (.int .i64 z0)
 c1:W.cell? ⟨g,1,none⟩=some (.bool zn)
 c2:W.cell? ⟨g,2,none⟩=some (.slice za zl zc)
 f:∀ i,W.frozen? ⟨g,i,none⟩=false
 n:Ew W g
theorem BoxV.bl {g N:Nat}{W W':World}{z0:Int}{zn:Bool}{za:Option Addr}{zl zc:Nat}(h:BoxV g W z0 zn za zl zc)(hN:g<N)(hb:Below N W W'):BoxV g W' z0 zn za zl zc:=
 ⟨Jz h.lt hb.size,(hb.cell (p:=⟨g,0,none⟩) hN).trans h.c0,(hb.cell (p:=⟨g,1,none⟩) hN).trans h.c1,(hb.cell (p:=⟨g,2,none⟩) hN).trans h.c2,fun i=>(hb.frozen (p:=⟨g,i,none⟩) hN).trans (h.f i),fun i x e=>h.n i x ((hb.cell (p:=⟨g,i,none⟩) hN).symm.trans e)⟩
theorem LZ (p q r:Value)(i:Nat)(x:Int)(hp:∀ x,p≠.int .u32 x)(hq:∀ x,q≠.int .u32 x)(hr:∀ x,r≠.int .u32 x):(#[p,q,r]:Array Value)[i]? ≠ some (.int .u32 x):=by
 match i with
 | 0=>simpa using hp x
 | 1=>simpa using hq x
 | 2=>simpa using hr x
 | i+3=>simp
theorem Ht (w:World)(z0:Int)(zn:Bool)(za:Option Addr)(zl zc:Nat)(ty:TypeId):BoxV w.heap.size (w.alloc (.cells #[.int .i64 z0,.bool zn,.slice za zl zc] ty)) z0 zn za zl zc:=by
 refine⟨by simp,?_,?_,?_,fun i=>?_,fun i x=>?_⟩
 ·rw[Jp _ _ _ _ rfl];rfl
 ·rw[Jp _ _ _ _ rfl];rfl
 ·rw[Jp _ _ _ _ rfl];rfl
 ·rw[J7 _ _ _ _ rfl]
 rw[Jp _ _ _ _ rfl];exact LZ _ _ _ i x (by simp) (by simp) (by simp)
theorem Hp (w:World)(g:Nat)(hg:w.heap.size=g)(z0:Int)(zn:Bool)(za:Option Addr)(zl zc:Nat)(ty:TypeId):BoxV g (w.alloc (.cells #[.int .i64 z0,.bool zn,.slice za zl zc] ty)) z0 zn za zl zc:=by
 subst hg;exact Ht w z0 zn za zl zc ty
theorem BoxV.alloc {g:Nat}{W:World}{z0:Int}{zn:Bool}{za:Option Addr}{zl zc:Nat}(h:BoxV g W z0 zn za zl zc)(o:Obj):BoxV g (W.alloc o) z0 zn za zl zc:=h.bl h.lt (Oy W o)
theorem BoxV.drew {g:Nat}{W:World}{z0:Int}{zn:Bool}{za:Option Addr}{zl zc:Nat}(h:BoxV g W z0 zn za zl zc):BoxV g W.drew z0 zn za zl zc:=h.bl h.lt (Jh _ W).drew
theorem BoxV.put {g:Nat}{W:World}{z0:Int}{zn:Bool}{za:Option Addr}{zl zc:Nat}(h:BoxV g W z0 zn za zl zc)(y0:Int)(yn:Bool)(ya:Option Addr)(yl yc:Nat) :
 BoxV g (((W.setCell ⟨g,0,none⟩ (.int .i64 y0)).setCell ⟨g,1,none⟩ (.bool yn)).setCell ⟨g,2,none⟩ (.slice ya yl yc)) y0 yn ya yl yc:=by
 obtain⟨lt,c0,c1,c2,f,n⟩:=h;refine⟨by simpa using lt,by simp[go_sem,c0],by simp[go_sem,c1],by simp[go_sem,c2],fun i=>by have:=f i;simp[go_sem,this],fun i x=>?_⟩
 by_cases i0:i=0
 ·subst i0;simp[go_sem,c0]
 by_cases d:i=1
 ·subst d;simp[go_sem,c1]
 by_cases i2:i=2
 ·subst i2;simp[go_sem,c2]
 have e:(((W.setCell ⟨g,0,none⟩ (.int .i64 y0)).setCell ⟨g,1,none⟩ (.bool yn)).setCell ⟨g,2,none⟩ (.slice ya yl yc)).cell? ⟨g,i,none⟩=W.cell? ⟨g,i,none⟩:=by
  have j:(0:Nat)≠i:=by omega
  have A:(1:Nat)≠i:=by omega
  have E:(2:Nat)≠i:=by omega
  simp[go_sem, *]
 rw[e];exact n i x
theorem BoxV.other {g h:Nat}{W:World}{z0:Int}{zn:Bool}{za:Option Addr}{zl zc:Nat}(hb:BoxV g W z0 zn za zl zc)(hne:g≠h){W':World}(k:Kq h h W W'):BoxV g W' z0 zn za zl zc:=by
 have q:∀ i,W'.cell? ⟨g,i,none⟩=W.cell? ⟨g,i,none⟩:=fun i=>Vf (k.2 g hne hne);have f:∀ i,W'.frozen? ⟨g,i,none⟩=W.frozen? ⟨g,i,none⟩:=fun i=>World.frozen?_of_block (k.2 g hne hne);exact⟨Jz hb.lt k.1,(q 0).trans hb.c0,(q 1).trans hb.c1,(q 2).trans hb.c2,fun i=>(f i).trans (hb.f i),fun i x e=>hb.n i x ((q i).symm.trans e)⟩
theorem N5.keeps {B:Nat}{w W:World}{z:Value}{x:Int}{g h:Nat}(hl:N5 B w z x)(n1:Ew w g)(n2:Ew w h)(k:Kq g h w W):N5 B W z x:=by
 obtain⟨neg,t,⟨d,j,A⟩,J⟩:=hl;refine⟨neg,t,⟨d,j,?_⟩,J⟩
 rcases A with⟨E,v,I,G⟩|A
 ·exact .inl ⟨E,v,I,G.keeps n1 n2 k⟩
 exact .inr A
theorem BoxQ.far {g:Nat}{W:World}{x:Int}{xn:Bool}{pa:Option Addr}{la ca:Nat}{y:Int}{yn:Bool}{pb:Option Addr}{lb cb:Nat}(h:BoxQ g W x xn pa la ca y yn pb lb cb)(p:Addr)(hp:g+4<=p.block)(u:Value):BoxQ g (W.setCell p u) x xn pa la ca y yn pb lb cb:=
 h.bl (N:=g+4) Of ((Jh _ W).setCell hp u)
theorem Kq.three (w:World)(g:Nat)(u0 u1 u2:Value):Kq g g w (((w.setCell ⟨g,0,none⟩ u0).setCell ⟨g,1,none⟩ u1).setCell ⟨g,2,none⟩ u2):=by
 have d:Kq g g w (w.setCell ⟨g,0,none⟩ u0):=(Kq.refl g g w).setCell ⟨g,0,none⟩ u0 (Or.inl rfl);have h:Kq g g w ((w.setCell ⟨g,0,none⟩ u0).setCell ⟨g,1,none⟩ u1):=d.setCell ⟨g,1,none⟩ u1 (Or.inl rfl);exact h.setCell ⟨g,2,none⟩ u2 (Or.inl rfl)
theorem N5.drew {B:Nat}{w:World}{z:Value}{x:Int}(h:N5 B w z x):N5 B w.drew z x:=h.bl (Jh _ w).drew
theorem D4 {B:Nat}{w:World}{y0:Int}{yn:Bool}{ya:Option Addr}{yl yc:Nat}{neg:Bool}{t:List Nat}(h:Nz B w (.agg #[.int .i64 y0,.bool yn,.slice ya yl yc]) neg t):(((yl:Int)==0)&&(y0==0))=decide (val t=0):=by
 obtain⟨K,G,h⟩:=h
 rcases h with⟨A,v,d,⟨p,c,rfl,_⟩⟩|⟨A,d⟩
 ·simp only[Value.agg.injEq,Array.mk.injEq,List.cons.injEq,Value.int.injEq,true_and,Value.bool.injEq,Value.slice.injEq,and_true] at d;obtain⟨_,_,_,hl,_⟩:=d;have E:t≠[]:=by intro e;rw[e] at A;simp at A
  have M:=N2 t G E;have J:((yl:Int)==0)=false:=by rw[Jc];omega
  have j:decide (val t=0)=false:=dF (by omega)
  rw[J,j];rfl
 simp only[Value.agg.injEq,Array.mk.injEq,List.cons.injEq,Value.int.injEq,true_and,Value.bool.injEq,Value.slice.injEq,and_true] at d;obtain⟨rfl,_,_,rfl,_⟩:=d
 by_cases I:val t=0
 ·rw[I];cases neg<;>simp[sg]
 have j:decide (val t=0)=false:=by rw[Jm];exact I
 rw[j]
 cases neg<;>simp[sg]<;>omega
theorem Id (n:Bool)(l:List Nat)(ht:isTrim l):sg n (val l)=0↔l=[]:=by
 constructor
 ·intro h;apply Classical.byContradiction;intro d;have:=N2 l ht d
  cases n<;>simp[sg] at h<;>omega
 rintro rfl
 cases n<;>simp[sg,val]
theorem G4 (B:Nat)(za zb:Value)(x y:Int)(n m:Nat)(w:World)(hBw:B<=w.heap.size)(ha:Gt B w za x n)(hb:Gt B w zb y m)(hy:y≠0)(hn:n<=90000)(hm:m<=90000)(hSP:SP w) :
 Calls prog 189 #[za,zb] w fun e w'=>∃ z1 z2 q r,e=.returned (.tuple #[z1,z2])/\Gt B w' z1 q (n+2)/\Gt B w' z2 r (m+3)/\No x y q r/\Up w w':=by
 obtain⟨O,V,a,rfl,j,U,rfl,K⟩:=ha;obtain⟨E,Y,b,rfl,A,G,rfl,M⟩:=hb;have d:b≠[]:=fun h=>hy ((Id E b G).2 h);rw[<-Io O a,<-Io E b];refine (Sc B _ _ V Y a b w hBw j A (by omega) (by omega) U G d hSP).mono ?_;rintro e w' ⟨z1,z2,q,r,I,J,h3,h4,h5⟩;exact⟨z1,z2,q,r,I,J.mono Of (by omega),h3.mono Of (by omega),h4,h5⟩
def Bn (s t u v:ByteArray):Prop:=if isIntB s=true/\isIntB t=true/\numT t≠0 then ∃ q r,No (numT s) (numT t) q r/\Ef q u/\Ef r v else u=strB []/\v=strB []
theorem Bn.eq {s t u v u' v':ByteArray}(h:Bn s t u v)(h':Bn s t u' v'):u=u'/\v=v':=by
 unfold Bn at h h'
 split at h
 ·rename_i hc;rw[if_pos hc] at h';obtain⟨q,r,d,j,h3⟩:=h;obtain⟨E,G,A,k2,k3⟩:=h';obtain⟨rfl,rfl⟩:=R2 d A;exact⟨j.eq k2,h3.eq k3⟩
 rename_i hc;rw[if_neg hc] at h';exact⟨by rw[h.1,h'.1],by rw[h.2,h'.2]⟩
theorem Gm {W:World}{g:Nat}{l:List Value}(h:Bx W g l)(hl:∀ v∈l,∀ x,v≠.int .u32 x):Ew W g:=fun i x=>by
 rw[h.cell i]
 intro e
 exact hl _ (Ve e) x rfl
theorem U1.put2 {B:Nat}{W:World}{v:Value}{l:List Nat}(h:U1 B W v l){g:Nat}(n:Ew W g)(u0 u1:Value):U1 B ((W.setCell ⟨g,0,none⟩ u0).setCell ⟨g,1,none⟩ u1) v l:=
 h.keeps n n (Kq.setCell (Kq.setCell (Kq.refl g g W) ⟨g,0,none⟩ u0 (Or.inl rfl)) ⟨g,1,none⟩ u1 (Or.inl rfl))
theorem ZS {N:Nat}{w W:World}(h:Below N w W)(g:Nat)(hg:N<=g)(u0 u1:Value):Below N w ((W.setCell ⟨g,0,none⟩ u0).setCell ⟨g,1,none⟩ u1):=
 (h.setCell (p:=⟨g,0,none⟩) hg u0).setCell (p:=⟨g,1,none⟩) hg u1
theorem Xl (n:Nat)(w:World)(hn:n<18446744073709551616) :
 Calls prog 186 #[.int .u64 (n:Nat)] w fun e w'=>∃ z,e=.returned z/\Gt w.heap.size w' z (n:Nat) 3/\Up w w':=by
 obtain⟨O,d⟩:=O1 (w.alloc (.cells #[.bool false,.slice none 0 0] 162));have b3:=Hd d;have G:Bx O w.heap.size [.bool false,.slice none 0 0]:=by rw[<-d];exact Oi w _ _
 have j:Hid (Up w O):=by unfold Hid;rw[<-d];exact Oy _ _
 have K:Hid (∀ W,Up O W->Bx W w.heap.size [.bool false,.slice none 0 0]):=fun W hW=>G.bl G.lt hW;clear d G
 go_in
 go_wp2_with fail
 rw[b3.o];refine (Xg n _ hn).mono ?_;rintro e w1 ⟨v,t,rfl,hv,ht,Z,Y,U⟩;have HV:=Hd hv;have J:=Hd U;have HT:Hid (isTrim t/\val t=n/\t.length<=3):=⟨ht,Z,Y⟩;obtain⟨pv,cv,b7,_⟩:=hv;subst b7;clear ht Z Y U
 go_wp2_with fail
 refine (Kd O.heap.size false _ t _ HV.o).mono ?_;rintro e w2 ⟨v',rfl,hcut,E⟩;have M:Hid (U1 O.heap.size w2 v' t):=by
  have h:=hcut _ _ (HV.o.bl E);rw[Q6 t HT.o.1] at h;exact h
 have A:=Hd (J.o.trans (E.mono J.o.size));have e1:U0 false (Oe t)=false:=by unfold U0;rfl
 rw[e1];have hb:=K.o w2 A.o;obtain⟨k0,k1⟩:=hb.k2;obtain⟨r0,r1⟩:=hb.f2;obtain⟨I,c2,b6,_⟩:=M.o;subst b6;clear hcut E hb e1
 go_wp2
 have V:=K.o w2 A.o;have b5:=Gm V (by simp);have b4:=(M.o.mono j.o.size).put2 b5 (.bool false) (.slice I t.length c2);have hZ:Bx ((w2.setCell ⟨w.heap.size,0,none⟩ (.bool false)).setCell ⟨w.heap.size,1,none⟩ (.slice I t.length c2)) w.heap.size [.bool false,.slice I t.length c2]:=(V.set 0 _).set 1 _;have hE:=ZS (j.o.trans (A.o.mono j.o.size)) w.heap.size Of (.bool false) (.slice I t.length c2);generalize (w2.setCell ⟨w.heap.size,0,none⟩ (.bool false)).setCell ⟨w.heap.size,1,none⟩ (.slice I t.length c2)=WE at *;obtain⟨m0,m1⟩:=hZ.k2;refine Jj (v:=.agg #[.bool false,.slice I t.length c2]) ?_ rfl ⟨_,rfl,⟨false,_,t,by unfold U0;rfl,b4,HT.o.1,by rw[HT.o.2.1];rfl,HT.o.2.2⟩,hE⟩;simp[results,results186,go_sem,m0,m1]
def Xb (B:Nat)(w:World)(z:Value)(x y:Int)(n:Nat):Prop:=∃ s1 v1 s2 v2,z=.agg #[.bool s1,v1,.bool s2,v2]/\Gt B w (.agg #[.bool s1,v1]) x n/\Gt B w (.agg #[.bool s2,v2]) y n
theorem Xb.bl {B:Nat}{w w':World}{z:Value}{x y:Int}{n:Nat}(h:Xb B w z x y n)(hb:Up w w'):Xb B w' z x y n:=by
 obtain⟨A,G,E,v2,e,d,j⟩:=h;exact⟨A,G,E,v2,e,d.bl hb,j.bl hb⟩
theorem Gt.parts {B:Nat}{w:World}{s:Bool}{v:Value}{x:Int}{n:Nat}(h:Gt B w (.agg #[.bool s,v]) x n):∃ neg t,s=U0 neg t/\U1 B w v t/\isTrim t/\sg neg (val t)=x/\t.length<=n:=by
 obtain⟨neg,A,t,e,d,j,h3,h4⟩:=h;simp only[Value.agg.injEq,Array.mk.injEq,List.cons.injEq,Value.bool.injEq,and_true] at e;obtain⟨rfl,rfl⟩:=e;exact⟨neg,t,rfl,d,j,h3,h4⟩
theorem NK (x y:Int):(PJ x y==0)=decide (x=y):=by
 unfold PJ
 split
 ·rename_i h;have:x≠y:=by omega
  simp[this]
 split
 ·rename_i h;have:x≠y:=by omega
  simp[this]
 rename_i h1 h2;have:x=y:=by omega
 simp[this]
theorem To (B:Nat)(z:Value)(x y:Int)(n:Nat)(w:World)(hBw:B<=w.heap.size)(h:Xb B w z x y n)(hSP:SP w) :
 Calls prog 190 #[z] w fun e w'=>e=.returned (.bool (decide (y=1)))/\Up w w':=by
 obtain⟨s1,v1,s2,v2,rfl,h1,h2⟩:=h;obtain⟨n1,t1,rfl,c6,_,_,_⟩:=h1.parts;obtain⟨n2,t2,rfl,M,a8,e2,_⟩:=h2.parts;have b5:=Hd M;have b7:=Hd hSP;have b4:=Hd hBw;have HT:Hid (isTrim t2/\sg n2 (val t2)=y):=⟨a8,e2⟩;obtain⟨p1,c1,rfl,_,_,o1,_⟩:=c6;obtain⟨p2,c2,rfl,_,_,o2,_⟩:=M;have HO:Hid (okL t2):=o2;clear hSP hBw a8 e2 h1 h2 o1 o2;obtain⟨G,E⟩:=O1 (w.alloc (.cells #[.bool (U0 n1 t1),.slice p1 t1.length c1,.bool (U0 n2 t2),.slice p2 t2.length c2] 166));have b8:=Hd E;have I:Bx G w.heap.size [.bool (U0 n1 t1),.slice p1 t1.length c1,.bool (U0 n2 t2),.slice p2 t2.length c2]:=by rw[<-E];exact Oi w _ _
 have d:Hid (Up w G):=by unfold Hid;rw[<-E];exact Oy _ _
 have K:Hid (∀ W,Up G W->Bx W w.heap.size [.bool (U0 n1 t1),.slice p1 t1.length c1,.bool (U0 n2 t2),.slice p2 t2.length c2]):=fun W hW=>I.bl I.lt hW;clear E I
 go_in
 go_upto_region 1 with fail
 rw[b8.o];have j:=K.o G (Jh _ _);obtain⟨k0,k1,k2,k3⟩:=j.k4;clear j
 go_region_with (first
  | (go_at_call 186
     refine (Xl 1 _ (by decide)).mono ?_;rintro e w1 ⟨z,rfl,hz,O⟩;have A:Hid (Up G w1):=(Jh _ G).drew.trans O;obtain⟨nz,vz,J,rfl,V,Y,Z,_⟩:=hz;have HZ:Hid (U1 G.heap.size w1 vz J/\isTrim J/\sg nz (val J)=1):=⟨V,Y,Z⟩;obtain⟨pz,cz,rfl,_,_,oz,_⟩:=V;have b6:Hid (okL J):=oz;have j:=K.o w1 A.o;have j2:=j.cell 2;have j3:=j.cell 3;simp only[Jo,Jr] at j2 j3;clear Y Z O oz j)
  | (go_at_call 208
     refine (Sv B _ _ _ _ t2 J _ (b5.o.bl (d.o.trans (A.o.mono d.o.size))) (HZ.o.1.mono (by have:=b4.o;have:=d.o.size;omega)) (b7.o.bl (d.o.trans (A.o.mono d.o.size)))).mono ?_;rintro e w2 ⟨rfl,U⟩;have b3:Hid (Up w w2):=d.o.trans ((A.o.trans (U.mono A.o.size)).mono d.o.size);rw[IX n2 nz t2 J HO.o b6.o HT.o.1 HZ.o.2.1,HT.o.2,HZ.o.2.2];clear U))
 all_goals
  try simp only[Yz,Ys,Yn,Act.put,Ja,Jd,Je]
  go_wp2
  go_ret
  exact⟨Oz (NK y 1),b3.o⟩
theorem Gt.put2 {B:Nat}{W:World}{z:Value}{x:Int}{n:Nat}(h:Gt B W z x n){g:Nat}(no:Ew W g)(u0 u1:Value):Gt B ((W.setCell ⟨g,0,none⟩ u0).setCell ⟨g,1,none⟩ u1) z x n:=by
 obtain⟨neg,v,t,e,d,j,h3,h4⟩:=h;exact⟨neg,v,t,e,d.put2 no u0 u1,j,h3,h4⟩
theorem U1.put4 {B:Nat}{W:World}{v:Value}{l:List Nat}(h:U1 B W v l){g:Nat}(n:Ew W g)(u0 u1 u2 u3:Value):U1 B ((((W.setCell ⟨g,0,none⟩ u0).setCell ⟨g,1,none⟩ u1).setCell ⟨g,2,none⟩ u2).setCell ⟨g,3,none⟩ u3) v l:=
 h.keeps n n (Kq.setCell (Kq.setCell (Kq.setCell (Kq.setCell (Kq.refl g g W) ⟨g,0,none⟩ u0 (Or.inl rfl)) ⟨g,1,none⟩ u1 (Or.inl rfl)) ⟨g,2,none⟩ u2 (Or.inl rfl)) ⟨g,3,none⟩ u3 (Or.inl rfl))
theorem Gt.put4 {B:Nat}{W:World}{z:Value}{x:Int}{n:Nat}(h:Gt B W z x n){g:Nat}(no:Ew W g)(u0 u1 u2 u3:Value):Gt B ((((W.setCell ⟨g,0,none⟩ u0).setCell ⟨g,1,none⟩ u1).setCell ⟨g,2,none⟩ u2).setCell ⟨g,3,none⟩ u3) z x n:=by
 obtain⟨neg,v,t,e,d,j,h3,h4⟩:=h;exact⟨neg,v,t,e,d.put4 no u0 u1 u2 u3,j,h3,h4⟩
theorem Pu {N:Nat}{w W:World}(h:Below N w W)(g:Nat)(hg:N<=g)(u0 u1 u2 u3:Value):Below N w ((((W.setCell ⟨g,0,none⟩ u0).setCell ⟨g,1,none⟩ u1).setCell ⟨g,2,none⟩ u2).setCell ⟨g,3,none⟩ u3):=
 (ZS h g hg u0 u1).setCell (p:=⟨g,2,none⟩) hg u2 |>.setCell (p:=⟨g,3,none⟩) hg u3
theorem Bx.put2 {W:World}{g:Nat}{a b:Value}(h:Bx W g [a,b])(u0 u1:Value):Bx ((W.setCell ⟨g,0,none⟩ u0).setCell ⟨g,1,none⟩ u1) g [u0,u1]:=(h.set 0 u0).set 1 u1
theorem Bx.off2 {W:World}{g:Nat}{l:List Value}(h:Bx W g l){k:Nat}(hk:k≠g)(u0 u1:Value):Bx ((W.setCell ⟨k,0,none⟩ u0).setCell ⟨k,1,none⟩ u1) g l:=(h.other ⟨k,0,none⟩ hk u0).other ⟨k,1,none⟩ hk u1
structure BxM (h hc:Nat)(W:World)(s1:Bool)(v1:Value)(s2:Bool)(v2:Value)(s3:Bool)(v3:Value):Prop where
 a:Bx W h [.bool s1,v1]
 b:Bx W (h+1) [.bool s2,v2]
 r:Bx W (h+1+1) [.bool false,.slice none 0 0,.bool false,.slice none 0 0]
 c:Bx W hc [.bool s3,v3]
theorem BxM.bl {h hc N:Nat}{W W':World}{s1 s2 s3:Bool}{v1 v2 v3:Value}(m:BxM h hc W s1 v1 s2 v2 s3 v3)(hN:h+3<=N)(hc':hc<N)(hb:Below N W W'):BxM h hc W' s1 v1 s2 v2 s3 v3:=
 ⟨m.a.bl (by omega) hb,m.b.bl (by omega) hb,m.r.bl (by omega) hb,m.c.bl hc' hb⟩
theorem BxM.cells {h hc:Nat}{W:World}{s1 s2 s3:Bool}{v1 v2 v3:Value}(m:BxM h hc W s1 v1 s2 v2 s3 v3) :
 (W.cell? ⟨h,0,none⟩=some (.bool s1)/\W.cell? ⟨h,1,none⟩=some v1/\∀ i,W.frozen? ⟨h,i,none⟩=false)/\(W.cell? ⟨h+1,0,none⟩=some (.bool s2)/\W.cell? ⟨h+1,1,none⟩=some v2/\∀ i,W.frozen? ⟨h+1,i,none⟩=false) /\
 (W.cell? ⟨hc,0,none⟩=some (.bool s3)/\W.cell? ⟨hc,1,none⟩=some v3/\∀ i,W.frozen? ⟨hc,i,none⟩=false):=
 ⟨⟨m.a.cell 0,m.a.cell 1,m.a.frozen⟩,⟨m.b.cell 0,m.b.cell 1,m.b.frozen⟩,⟨m.c.cell 0,m.c.cell 1,m.c.frozen⟩⟩
theorem Fg {W:World}{g:Nat}{s:Bool}{p:Option Addr}{l c:Nat}(h:Bx W g [.bool s,.slice p l c]):Ew W g:=Gm h (by simp)
theorem PW (neg:Bool)(t:List Nat)(y:Int)(ht:isTrim t)(h:sg neg (val t)=y):U0 neg t=decide (y<0):=by
 unfold U0
 by_cases hl:t=[]
 ·subst hl;have:y=0:=by rw[<-h];cases neg<;>simp[sg,val]
  subst this;simp
 have j:=N2 t ht hl;have d:0<t.length:=Zf.2 hl
 cases neg
 ·have:¬ y<0:=by rw[<-h];simp[sg]
  simp[this]
 have:y<0:=by rw[<-h];simp[sg];omega
 simp[this,d]
theorem Pa (B:Nat)(za zb:Value)(x y:Int)(n:Nat)(w:World)(hBw:B<=w.heap.size)(ha:Gt B w za x n)(hb:Gt B w zb y n)(hy:y≠0)(hn:n<=80000)(hSP:SP w)(hNS:NS w) :
 Calls prog 162 #[za,zb] w fun e w'=>∃ z p q,e=.returned z/\Xb B w' z p q (n+3)/\Rq x y p q/\Up w w':=by
 obtain⟨s1,p1,l1,c1,rfl⟩:=ha.shape;obtain⟨s2,p2,l2,c2,rfl⟩:=hb.shape;have n9:s2=decide (y<0):=by
  obtain⟨neg,t,e,_,ht,hv,_⟩:=hb.parts;rw[e];exact PW neg t y ht hv
 have n1:=Hd n9;clear n9;have HA:=Hd ha;have HB:=Hd hb;have f5:=Hd hSP;have p0:=Hd hNS;have e0:=Hd hBw;have HC:Hid (∀ c,c=(if y<0 then -E8 x y else E8 x y)->c≠0):=fun c e=>by
  have hg:0<Int.gcd x y:=Int.gcd_pos_of_ne_zero_right _ hy;rw[e];unfold E8;split<;>omega
 have g7:Hid (∀ c q r d r',c=(if y<0 then -E8 x y else E8 x y)->No x c q r->No y c d r'->Rq x y q d):=fun c q r d r' e h1 h2=>YJ x y c q r d r' hy e h1 h2;clear ha hb hSP hNS hBw;obtain⟨W0,b9⟩:=O1 (((w.alloc (.cells #[.bool s1,.slice p1 l1 c1] 162)).alloc (.cells #[.bool s2,.slice p2 l2 c2] 162)).alloc (.cells #[.bool false,.slice none 0 0,.bool false,.slice none 0 0] 166));have p9:=Hd b9;have n8:W0.heap.size=w.heap.size+3:=by rw[<-b9];simp
 have n0:=Hd n8;have e9:Hid (Up w W0):=by
  unfold Hid
  rw[<-b9];exact Om (Om (Oy _ _) _) _
 have o0:Bx W0 w.heap.size [.bool s1,.slice p1 l1 c1]:=by rw[<-b9];exact ((Oi w _ _).alloc _).alloc _
 have o1:Bx W0 (w.heap.size+1) [.bool s2,.slice p2 l2 c2]:=by
  rw[<-b9];have h:=Oi (w.alloc (.cells #[.bool s1,.slice p1 l1 c1] 162)) [.bool s2,.slice p2 l2 c2] 162;rw[Ji] at h;exact h.alloc _
 have o2:Bx W0 (w.heap.size+1+1) [.bool false,.slice none 0 0,.bool false,.slice none 0 0]:=by
  rw[<-b9];have h:=Oi ((w.alloc (.cells #[.bool s1,.slice p1 l1 c1] 162)).alloc (.cells #[.bool s2,.slice p2 l2 c2] 162)) [.bool false,.slice none 0 0,.bool false,.slice none 0 0] 166;rw[Ji,Ji] at h;exact h
 have HX:Hid (Bx W0 w.heap.size [.bool s1,.slice p1 l1 c1]/\Bx W0 (w.heap.size+1) [.bool s2,.slice p2 l2 c2]/\Bx W0 (w.heap.size+1+1) [.bool false,.slice none 0 0,.bool false,.slice none 0 0]):=⟨o0,o1,o2⟩;clear b9 n8 o0 o1 o2
 go_in
 go_wp2_with fail
 rw[p9.o];refine (Rc B _ _ x y n _ (by have:=e0.o;have:=n0.o;omega) (HA.o.bl e9.o) (HB.o.bl e9.o) (by omega) (p0.o.bl e9.o)).mono ?_;rintro e O ⟨z,rfl,hz,g4⟩;obtain⟨s3,p3,l3,c3,rfl⟩:=hz.shape;obtain⟨W1,f9⟩:=O1 (O.alloc (.cells #[.bool s3,.slice p3 l3 c3] 162));have n2:=Hd f9;have e4:Up O W1:=by rw[<-f9];exact Oy _ _
 have j8:Bx W1 O.heap.size [.bool s3,.slice p3 l3 c3]:=by rw[<-f9];exact Oi O _ _
 have b6:Up W0 W1:=g4.trans (e4.mono g4.size);have HM:Hid (BxM w.heap.size O.heap.size W1 s1 (.slice p1 l1 c1) s2 (.slice p2 l2 c2) s3 (.slice p3 l3 c3)):=⟨HX.o.1.bl HX.o.1.lt b6,HX.o.2.1.bl HX.o.2.1.lt b6,HX.o.2.2.bl HX.o.2.2.lt b6,j8⟩;have HZ:Hid (Gt B W1 (.agg #[.bool s3,.slice p3 l3 c3]) (E8 x y) n):=hz.bl e4;have b7:=e9.up b6;have u2:w.heap.size+3<=O.heap.size:=by have:=n0.o;have:=g4.size;omega
 have u1:O.heap.size<W1.heap.size:=j8.lt;clear hz g4 f9 e4 j8 b6
 cases s2
 case' _=>
  have b8:Hid (E8 x y=if y<0 then -E8 x y else E8 x y):=by
   have h:¬ y<0:=by simpa using n1.o
   show E8 x y=if y<0 then -E8 x y else E8 x y
   rw[if_neg h]
  have k0:=HM.o.b.cell 0;simp only[Jo] at k0
  go_upto_region 2 with fail
  rw[n2.o];clear k0;have m1:=HM.o.cells;obtain⟨⟨a0,a1,af⟩,⟨b0,b1,bf⟩,⟨q0,q1,qf⟩⟩:=m1
  go_upto_region 5 with fail
  go_wp2_with fail
  refine (G4 B _ _ x (E8 x y) n n _ (by have:=e0.o;have:=b7.o.size;omega) (HA.o.bl b7.o) HZ.o (HC.o _ b8.o) (by omega) (by omega) (f5.o.bl b7.o)).mono ?_;rintro e w5 ⟨z1,z2,qn,qr,rfl,d0,e6,Y,a8⟩;obtain⟨j,E,A,c5,rfl⟩:=d0.shape;obtain⟨s6,p6,l6,c6,rfl⟩:=e6.shape;have i6:=Hd Y;have G:=Hd (HM.o.bl (N:=W1.heap.size) (by omega) (by omega) a8);have j3:=Hd d0;have h9:=Hd (HZ.o.bl a8);have d9:=Hd (b7.o.trans (a8.mono b7.o.size));have q9:O.heap.size<w5.heap.size:=G.o.c.lt;clear d0 e6 Y a8 a0 a1 af b0 b1 bf q0 q1 qf;obtain⟨⟨a0,a1,af⟩,⟨b0,b1,bf⟩,⟨q0,q1,qf⟩⟩:=G.o.cells;have j5:=af 0;have j6:=af 1;clear af bf qf;have b4:=Fg G.o.a;obtain⟨W6,I⟩:=O1 ((w5.setCell ⟨w.heap.size,0,none⟩ (.bool j)).setCell ⟨w.heap.size,1,none⟩ (.slice E A c5));have j2:=Hd I;have j4:Hid (Gt B W6 (.agg #[.bool j,.slice E A c5]) qn (n+2)):=by have h:=j3.o.put2 b4 (.bool j) (.slice E A c5);rw[I] at h;exact h
  have i1:Hid (Gt B W6 (.agg #[.bool s3,.slice p3 l3 c3]) (E8 x y) n):=by have h:=h9.o.put2 b4 (.bool j) (.slice E A c5);rw[I] at h;exact h
  have i7:Hid (Gt B W6 (.agg #[.bool false,.slice p2 l2 c2]) y n):=by have h:=(HB.o.bl d9.o).put2 b4 (.bool j) (.slice E A c5);rw[I] at h;exact h
  have a7:Hid (Up w W6):=by have h:=ZS d9.o w.heap.size Of (.bool j) (.slice E A c5);rw[I] at h;exact h
  have e1:Hid (BxM w.heap.size O.heap.size W6 j (.slice E A c5) false (.slice p2 l2 c2) s3 (.slice p3 l3 c3)):=by
   have h1:=G.o.a.put2 (.bool j) (.slice E A c5);have h2:=G.o.b.off2 (k:=w.heap.size) (by omega) (.bool j) (.slice E A c5);have h3:=G.o.r.off2 (k:=w.heap.size) (by omega) (.bool j) (.slice E A c5);have h4:=G.o.c.off2 (k:=w.heap.size) (by omega) (.bool j) (.slice E A c5);rw[I] at h1 h2 h3 h4;exact⟨h1,h2,h3,h4⟩
  have r4:O.heap.size<W6.heap.size:=e1.o.c.lt;clear I b4
  go_upto_region 6 with fail
  go_wp2_with fail
  rw[j2.o];refine (G4 B _ _ y (E8 x y) n n _ (by have:=e0.o;have:=a7.o.size;omega) i7.o i1.o (HC.o _ b8.o) (by omega) (by omega) (f5.o.bl a7.o)).mono ?_;rintro e w7 ⟨z3,z4,dn,dr,rfl,d1,b5,Y,b3⟩;obtain⟨J,M,K,c7,rfl⟩:=d1.shape;obtain⟨s8,p8,l8,c8,rfl⟩:=b5.shape;have m8:=Hd (g7.o _ _ _ _ _ b8.o i6.o Y);have U:=Hd (e1.o.bl (N:=W6.heap.size) (by omega) (by omega) b3);have j1:=Hd (j4.o.bl b3);have i8:=Hd d1;have h8:=Hd (a7.o.trans (b3.mono a7.o.size));clear d1 b5 Y b3 a0 a1 b0 b1 q0 q1 j5 j6;have d3:=Fg U.o.b;obtain⟨W8,V⟩:=O1 ((w7.setCell ⟨w.heap.size+1,0,none⟩ (.bool J)).setCell ⟨w.heap.size+1,1,none⟩ (.slice M K c7));have n3:=Hd V;have m9:Hid (Gt B W8 (.agg #[.bool j,.slice E A c5]) qn (n+2)):=by have h:=j1.o.put2 d3 (.bool J) (.slice M K c7);rw[V] at h;exact h
  have m7:Hid (Gt B W8 (.agg #[.bool J,.slice M K c7]) dn (n+2)):=by have h:=i8.o.put2 d3 (.bool J) (.slice M K c7);rw[V] at h;exact h
  have m5:Hid (Up w W8):=by have h:=ZS h8.o (w.heap.size+1) (Y2 _) (.bool J) (.slice M K c7);rw[V] at h;exact h
  have d2:Hid (BxM w.heap.size O.heap.size W8 j (.slice E A c5) J (.slice M K c7) s3 (.slice p3 l3 c3)):=by
   have h1:=U.o.a.off2 (k:=w.heap.size+1) (by omega) (.bool J) (.slice M K c7);have h2:=U.o.b.put2 (.bool J) (.slice M K c7);have h3:=U.o.r.off2 (k:=w.heap.size+1) (by omega) (.bool J) (.slice M K c7);have h4:=U.o.c.off2 (k:=w.heap.size+1) (by omega) (.bool J) (.slice M K c7);rw[V] at h1 h2 h3 h4;exact⟨h1,h2,h3,h4⟩
 rotate_left
 case' _=>
  have b8:Hid (-E8 x y=if y<0 then -E8 x y else E8 x y):=by
   have h:y<0:=by simpa using n1.o
   show -E8 x y=if y<0 then -E8 x y else E8 x y
   rw[if_pos h]
  have k0:=HM.o.b.cell 0;simp only[Jo] at k0;obtain⟨_,_,⟨q0,q1,_⟩⟩:=HM.o.cells
  go_upto_region 2 with fail
  rw[n2.o]
  go_wp2_with fail
  refine (Tr B _ _ n _ HZ.o).mono ?_;rintro e w2 ⟨z4,rfl,b5,j7⟩;obtain⟨s4,p4,l4,c4,rfl⟩:=b5.shape;have Z:=HM.o.bl (N:=W1.heap.size) (by omega) (by omega) j7;have n6:=Fg Z.c;obtain⟨W2,e5⟩:=O1 ((w2.setCell ⟨O.heap.size,0,none⟩ (.bool s4)).setCell ⟨O.heap.size,1,none⟩ (.slice p4 l4 c4));have q2:=Hd e5;have n4:Hid (Gt B W2 (.agg #[.bool s4,.slice p4 l4 c4]) (-E8 x y) n):=by have h:=b5.put2 n6 (.bool s4) (.slice p4 l4 c4);rw[e5] at h;exact h
  have d8:Hid (Up w W2):=by have h:=ZS (b7.o.trans (j7.mono b7.o.size)) O.heap.size (by omega) (.bool s4) (.slice p4 l4 c4);rw[e5] at h;exact h
  have j0:Hid (BxM w.heap.size O.heap.size W2 s1 (.slice p1 l1 c1) true (.slice p2 l2 c2) s4 (.slice p4 l4 c4)):=by
   have h1:=Z.a.off2 (k:=O.heap.size) (by omega) (.bool s4) (.slice p4 l4 c4);have h2:=Z.b.off2 (k:=O.heap.size) (by omega) (.bool s4) (.slice p4 l4 c4);have h3:=Z.r.off2 (k:=O.heap.size) (by omega) (.bool s4) (.slice p4 l4 c4);have h4:=Z.c.put2 (.bool s4) (.slice p4 l4 c4);rw[e5] at h1 h2 h3 h4;exact⟨h1,h2,h3,h4⟩
  have r7:O.heap.size<W2.heap.size:=j0.o.c.lt;have m6:Hid (w2.frozen? ⟨O.heap.size,0,none⟩=false/\w2.frozen? ⟨O.heap.size,1,none⟩=false/\w2.cell? ⟨O.heap.size,0,none⟩=some (.bool s3)/\w2.cell? ⟨O.heap.size,1,none⟩=some (.slice p3 l3 c3)):=⟨Z.c.frozen 0,Z.c.frozen 1,Z.c.cell 0,Z.c.cell 1⟩;obtain⟨g0,g1,g2,g3⟩:=m6.o;clear b5 j7 Z n6 e5 k0 q0 q1 m6
  go_upto_region 4 with fail
  rw[q2.o];clear g0 g1 g2 g3;have m1:=j0.o.cells;obtain⟨⟨a0,a1,af⟩,⟨b0,b1,bf⟩,⟨q0,q1,qf⟩⟩:=m1
  go_upto_region 5 with fail
  go_wp2_with fail
  refine (G4 B _ _ x (-E8 x y) n n _ (by have:=e0.o;have:=d8.o.size;omega) (HA.o.bl d8.o) n4.o (HC.o _ b8.o) (by omega) (by omega) (f5.o.bl d8.o)).mono ?_;rintro e w5 ⟨z1,z2,qn,qr,rfl,d0,e6,Y,a8⟩;obtain⟨j,E,A,c5,rfl⟩:=d0.shape;obtain⟨s6,p6,l6,c6,rfl⟩:=e6.shape;have i6:=Hd Y;have G:=Hd (j0.o.bl (N:=W2.heap.size) (by omega) (by omega) a8);have j3:=Hd d0;have h9:=Hd (n4.o.bl a8);have d9:=Hd (d8.o.trans (a8.mono d8.o.size));have q9:O.heap.size<w5.heap.size:=G.o.c.lt;clear d0 e6 Y a8 a0 a1 af b0 b1 bf q0 q1 qf;obtain⟨⟨a0,a1,af⟩,⟨b0,b1,bf⟩,⟨q0,q1,qf⟩⟩:=G.o.cells;have j5:=af 0;have j6:=af 1;clear af bf qf;have b4:=Fg G.o.a;obtain⟨W6,I⟩:=O1 ((w5.setCell ⟨w.heap.size,0,none⟩ (.bool j)).setCell ⟨w.heap.size,1,none⟩ (.slice E A c5));have j2:=Hd I;have j4:Hid (Gt B W6 (.agg #[.bool j,.slice E A c5]) qn (n+2)):=by have h:=j3.o.put2 b4 (.bool j) (.slice E A c5);rw[I] at h;exact h
  have i1:Hid (Gt B W6 (.agg #[.bool s4,.slice p4 l4 c4]) (-E8 x y) n):=by have h:=h9.o.put2 b4 (.bool j) (.slice E A c5);rw[I] at h;exact h
  have i7:Hid (Gt B W6 (.agg #[.bool true,.slice p2 l2 c2]) y n):=by have h:=(HB.o.bl d9.o).put2 b4 (.bool j) (.slice E A c5);rw[I] at h;exact h
  have a7:Hid (Up w W6):=by have h:=ZS d9.o w.heap.size Of (.bool j) (.slice E A c5);rw[I] at h;exact h
  have e1:Hid (BxM w.heap.size O.heap.size W6 j (.slice E A c5) true (.slice p2 l2 c2) s4 (.slice p4 l4 c4)):=by
   have h1:=G.o.a.put2 (.bool j) (.slice E A c5);have h2:=G.o.b.off2 (k:=w.heap.size) (by omega) (.bool j) (.slice E A c5);have h3:=G.o.r.off2 (k:=w.heap.size) (by omega) (.bool j) (.slice E A c5);have h4:=G.o.c.off2 (k:=w.heap.size) (by omega) (.bool j) (.slice E A c5);rw[I] at h1 h2 h3 h4;exact⟨h1,h2,h3,h4⟩
  have r4:O.heap.size<W6.heap.size:=e1.o.c.lt;clear I b4
  go_upto_region 6 with fail
  go_wp2_with fail
  rw[j2.o];refine (G4 B _ _ y (-E8 x y) n n _ (by have:=e0.o;have:=a7.o.size;omega) i7.o i1.o (HC.o _ b8.o) (by omega) (by omega) (f5.o.bl a7.o)).mono ?_;rintro e w7 ⟨z3,z4,dn,dr,rfl,d1,b5,Y,b3⟩;obtain⟨J,M,K,c7,rfl⟩:=d1.shape;obtain⟨s8,p8,l8,c8,rfl⟩:=b5.shape;have m8:=Hd (g7.o _ _ _ _ _ b8.o i6.o Y);have U:=Hd (e1.o.bl (N:=W6.heap.size) (by omega) (by omega) b3);have j1:=Hd (j4.o.bl b3);have i8:=Hd d1;have h8:=Hd (a7.o.trans (b3.mono a7.o.size));clear d1 b5 Y b3 a0 a1 b0 b1 q0 q1 j5 j6;have d3:=Fg U.o.b;obtain⟨W8,V⟩:=O1 ((w7.setCell ⟨w.heap.size+1,0,none⟩ (.bool J)).setCell ⟨w.heap.size+1,1,none⟩ (.slice M K c7));have n3:=Hd V;have m9:Hid (Gt B W8 (.agg #[.bool j,.slice E A c5]) qn (n+2)):=by have h:=j1.o.put2 d3 (.bool J) (.slice M K c7);rw[V] at h;exact h
  have m7:Hid (Gt B W8 (.agg #[.bool J,.slice M K c7]) dn (n+2)):=by have h:=i8.o.put2 d3 (.bool J) (.slice M K c7);rw[V] at h;exact h
  have m5:Hid (Up w W8):=by have h:=ZS h8.o (w.heap.size+1) (Y2 _) (.bool J) (.slice M K c7);rw[V] at h;exact h
  have d2:Hid (BxM w.heap.size O.heap.size W8 j (.slice E A c5) J (.slice M K c7) s4 (.slice p4 l4 c4)):=by
   have h1:=U.o.a.off2 (k:=w.heap.size+1) (by omega) (.bool J) (.slice M K c7);have h2:=U.o.b.put2 (.bool J) (.slice M K c7);have h3:=U.o.r.off2 (k:=w.heap.size+1) (by omega) (.bool J) (.slice M K c7);have h4:=U.o.c.off2 (k:=w.heap.size+1) (by omega) (.bool J) (.slice M K c7);rw[V] at h1 h2 h3 h4;exact⟨h1,h2,h3,h4⟩
 rotate_left
 all_goals
  clear V d3;obtain⟨_,⟨b0,b1,bf⟩,_⟩:=U.o.cells;have q4:=bf 0;have q5:=bf 1;clear bf
  go_upto_region 6 with fail
  rw[n3.o];clear b0 b1 q4 q5;obtain⟨⟨a0,a1,_⟩,⟨b0,b1,_⟩,_⟩:=d2.o.cells;obtain⟨r0,r1,r2,r3⟩:=d2.o.r.k4;obtain⟨f0,f1,f2,f3⟩:=d2.o.r.f4
  go_wp2
  have n7:Ew W8 (w.heap.size+1+1):=Gm d2.o.r (by simp);have q8:=m9.o.put4 n7 (.bool j) (.slice E A c5) (.bool J) (.slice M K c7);have q7:=m7.o.put4 n7 (.bool j) (.slice E A c5) (.bool J) (.slice M K c7);have q6:=Pu m5.o (w.heap.size+1+1) (by omega) (.bool j) (.slice E A c5) (.bool J) (.slice M K c7);have hZ:Bx ((((W8.setCell ⟨w.heap.size+1+1,0,none⟩ (.bool j)).setCell ⟨w.heap.size+1+1,1,none⟩ (.slice E A c5)).setCell ⟨w.heap.size+1+1,2,none⟩ (.bool J)).setCell ⟨w.heap.size+1+1,3,none⟩ (.slice M K c7)) (w.heap.size+1+1) [.bool j,.slice E A c5,.bool J,.slice M K c7]:=(((d2.o.r.set 0 _).set 1 _).set 2 _).set 3 _;generalize (((W8.setCell ⟨w.heap.size+1+1,0,none⟩ (.bool j)).setCell ⟨w.heap.size+1+1,1,none⟩ (.slice E A c5)).setCell ⟨w.heap.size+1+1,2,none⟩ (.bool J)).setCell ⟨w.heap.size+1+1,3,none⟩ (.slice M K c7)=W9 at *;obtain⟨m0,m1,m2,m3⟩:=hZ.k4;refine Jj (v:=.agg #[.bool j,.slice E A c5,.bool J,.slice M K c7]) ?_ rfl ⟨_,qn,dn,rfl,⟨j,_,J,_,rfl,q8.mono Of (by omega),q7.mono Of (by omega)⟩,m8.o,q6⟩;simp[results,results162,go_sem,m0,m1,m2,m3]
def DT (x y:Int)(z:Value):Prop:=∃ u v b,z=.agg #[.string u,.bool b,.string v]/\Ef x u/\(if y=1 then b=false/\v=⟨#[]⟩ else b=true/\Ef y v)
theorem Xb.shape {B:Nat}{w:World}{z:Value}{x y:Int}{n:Nat}(h:Xb B w z x y n):∃ s1 p1 l1 c1 s2 p2 l2 c2,z=.agg #[.bool s1,.slice p1 l1 c1,.bool s2,.slice p2 l2 c2]/\Gt B w (.agg #[.bool s1,.slice p1 l1 c1]) x n/\Gt B w (.agg #[.bool s2,.slice p2 l2 c2]) y n:=by
 obtain⟨s1,A,s2,v2,rfl,d,j⟩:=h;obtain⟨_,t1,_,⟨p1,c1,rfl,_⟩,_⟩:=d.parts;obtain⟨_,t2,_,⟨p2,c2,rfl,_⟩,_⟩:=j.parts;exact⟨s1,p1,_,c1,s2,p2,_,c2,rfl,d,j⟩
theorem IB (B:Nat)(z:Value)(x y:Int)(n:Nat)(w:World)(hBw:B<=w.heap.size)(h:Xb B w z x y n)(hn:n<=600)(hSP:SP w)(hLT:LT w) :
 Calls prog 163 #[z] w fun e w'=>∃ r,e=.returned r/\DT x y r/\Up w w':=by
 have HR:=Hd h;obtain⟨s1,p1,l1,c1,s2,p2,l2,c2,rfl,h1,h2⟩:=h.shape;have d6:=Hd hSP;have U:=Hd hLT;have d5:=Hd hBw;have H1:=Hd h1;have H2:=Hd h2;clear h hSP hLT hBw h1 h2;obtain⟨W0,I⟩:=O1 ((w.alloc (.cells #[.bool s1,.slice p1 l1 c1,.bool s2,.slice p2 l2 c2] 166)).alloc (.cells #[.string ⟨#[]⟩,.bool false,.string ⟨#[]⟩] 179));have d8:=Hd I;have A:Hid (Up w W0):=by
  unfold Hid
  rw[<-I];exact Om (Oy _ _) _
 have M:Bx W0 w.heap.size [.bool s1,.slice p1 l1 c1,.bool s2,.slice p2 l2 c2]:=by rw[<-I];exact (Oi w _ _).alloc _
 have Y:Bx W0 (w.heap.size+1) [.string ⟨#[]⟩,.bool false,.string ⟨#[]⟩]:=by
  rw[<-I];have h:=Oi (w.alloc (.cells #[.bool s1,.slice p1 l1 c1,.bool s2,.slice p2 l2 c2] 166)) [.string ⟨#[]⟩,.bool false,.string ⟨#[]⟩] 179;rw[Ji] at h;exact h
 have HX:Hid (∀ W,Up W0 W->Bx W w.heap.size [.bool s1,.slice p1 l1 c1,.bool s2,.slice p2 l2 c2]/\Bx W (w.heap.size+1) [.string ⟨#[]⟩,.bool false,.string ⟨#[]⟩]):=fun W hW=>⟨M.bl M.lt hW,Y.bl Y.lt hW⟩;clear I;obtain⟨k0,k1,k2,k3⟩:=M.k4;clear M Y
 go_in
 go_upto_region 1 with fail
 rw[d8.o]
 go_wp2_with fail
 refine (To B _ x y n _ (by have:=d5.o;have:=A.o.size;omega) (HR.o.bl A.o) (d6.o.bl A.o)).mono ?_;rintro e w1 ⟨rfl,K⟩;have G:=Hd K;have b4:=A.o.trans (K.mono A.o.size);have j:=Hd b4;obtain⟨b8,e2⟩:=HX.o w1 K;clear k0 k1 k2 k3;obtain⟨k0,k1,k2,k3⟩:=b8.k4;clear K b4 b8 e2
 by_cases hy:y=1
 ·have hd:decide (y=1)=true:=Jb hy;have HY:=Hd hy;rw[hd];clear hd hy
  go_wp2_with fail
  refine (P7 B _ x n _ (H1.o.bl j.o) hn (U.o.bl j.o)).mono ?_;rintro e Z ⟨u,rfl,hu,J⟩;have HU:=Hd hu;have E:=Hd (G.o.trans (J.mono G.o.size));have d:=(HX.o Z E.o).2;obtain⟨r0,r1,r2⟩:=d.k3;obtain⟨f0,f1,f2⟩:=d.f3;clear hu J d
  go_wp2
  have d:=(HX.o Z E.o).2;have hZ:Bx (((Z.setCell ⟨w.heap.size+1,0,none⟩ (.string u)).setCell ⟨w.heap.size+1,1,none⟩ (.bool false)).setCell ⟨w.heap.size+1,2,none⟩ (.string ⟨#[]⟩)) (w.heap.size+1) [.string u,.bool false,.string ⟨#[]⟩]:=((d.set 0 _).set 1 _).set 2 _;have hE:=Pq (A.o.trans (E.o.mono A.o.size)) (w.heap.size+1) (Y2 _) (.string u) (.bool false) (.string ⟨#[]⟩);generalize ((Z.setCell ⟨w.heap.size+1,0,none⟩ (.string u)).setCell ⟨w.heap.size+1,1,none⟩ (.bool false)).setCell ⟨w.heap.size+1,2,none⟩ (.string ⟨#[]⟩)=WE at *;obtain⟨m0,m1,m2⟩:=hZ.k3;refine Jj (v:=.agg #[.string u,.bool false,.string ⟨#[]⟩]) ?_ rfl ⟨_,rfl,⟨u,_,_,rfl,HU.o,by rw[if_pos HY.o];exact⟨rfl,rfl⟩⟩,hE⟩;simp[results,results163,go_sem,m0,m1,m2]
 have hd:decide (y=1)=false:=Jg hy;have HY:=Hd hy;rw[hd];clear hd hy
 go_wp2
 go_region_with (first
  | (go_at_call_of 191 (Value.slice p1 l1 c1)
     refine (P7 B _ x n _ (H1.o.bl (j.o.trans ((Jh _ w1).drew.mono j.o.size))) hn (U.o.bl (j.o.trans ((Jh _ w1).drew.mono j.o.size)))).mono ?_;rintro e Z ⟨u,rfl,hu,J⟩;have HU:=Hd hu;have E:Hid (Up w1 Z):=(Jh _ w1).drew.trans J;have V:=(HX.o Z (G.o.trans (E.o.mono G.o.size))).1;have j2:=V.cell 2;have j3:=V.cell 3;simp only[Jo,Jr] at j2 j3;clear hu J V)
  | (go_at_call_of 191 (Value.slice p2 l2 c2)
     refine (P7 B _ y n _ (H2.o.bl (j.o.trans (E.o.mono j.o.size))) hn (U.o.bl (j.o.trans (E.o.mono j.o.size)))).mono ?_;rintro e w3 ⟨v,rfl,hv,b5⟩;have HV:=Hd hv;have O:Hid (Up W0 w3):=G.o.trans ((E.o.trans (b5.mono E.o.size)).mono G.o.size);have d:=(HX.o w3 O.o).2;obtain⟨r0,r1,r2⟩:=d.k3;obtain⟨f0,f1,f2⟩:=d.f3;clear hv b5 d))
 all_goals
  try simp only[Yz,Ys,Yn,Act.put,Ja,Jd,Je]
  go_wp2
  have d:=(HX.o w3 O.o).2;have hZ:Bx (((w3.setCell ⟨w.heap.size+1,0,none⟩ (.string u)).setCell ⟨w.heap.size+1,1,none⟩ (.bool true)).setCell ⟨w.heap.size+1,2,none⟩ (.string v)) (w.heap.size+1) [.string u,.bool true,.string v]:=((d.set 0 _).set 1 _).set 2 _;have hE:=Pq (A.o.trans (O.o.mono A.o.size)) (w.heap.size+1) (Y2 _) (.string u) (.bool true) (.string v);generalize ((w3.setCell ⟨w.heap.size+1,0,none⟩ (.string u)).setCell ⟨w.heap.size+1,1,none⟩ (.bool true)).setCell ⟨w.heap.size+1,2,none⟩ (.string v)=WE at *;obtain⟨m0,m1,m2⟩:=hZ.k3;refine Jj (v:=.agg #[.string u,.bool true,.string v]) ?_ rfl ⟨_,rfl,⟨u,_,_,rfl,HU.o,by rw[if_neg HY.o];exact⟨rfl,HV.o⟩⟩,hE⟩;simp[results,results163,go_sem,m0,m1,m2]
theorem OZ (a c a' c':ByteArray)(b b':Bool)(w:World):(Op.equalIn 10000 179 (.agg #[.string a,.bool b,.string c]) (.agg #[.string a',.bool b',.string c'])).run prog w=.ok (a.toList==a'.toList&&b==b'&&c.toList==c'.toList) w:=by
 have u3:=underlying9;have u4:=underlying4;have a3:=Tryz.isAgg9;have a4:=Tryz.isAgg4;have z3:=Tryz.sizeOf9;have z4:=Tryz.sizeOf4;have j:prog.underlying 179=some (.struct (prog.fieldsOf 179)):=by kernel_rfl
 rw[show (10000:Nat)=9999+1 from rfl,run_equalIn_agg w 9999 179 _ _ j (by kernel_rfl)];simp only[Program.fieldsOf,underlying179]
 go_simp
 by_cases d:a.toList=a'.toList<;>by_cases h:b=b'<;>by_cases h3:c.toList=c'.toList<;>simp[d,h,h3]
theorem toList_inj {a b:ByteArray}:(a.toList==b.toList)=decide (a=b):=by
 by_cases h:a=b
 ·subst h;simp
 have:a.toList≠b.toList:=fun e=>h (by
  rw[Jl,Jl] at e;exact ByteArray.ext (Array.toList_inj.1 e))
 simp[h,this]
def RatV (s:ByteArray)(k:Option Nat)(x y:Int):Prop:=
 match k with
 | none=>isIntB s=true/\x=numT s/\y=1
 | some i=>(isIntB (cutP s (some i))=true/\isIntB (cutQ s (some i))=true)/\(numT (cutQ s (some i))≠0/\cutP s (some i)≠strB [48]/\cutQ s (some i)≠strB [49]/\isNeg (cutQ s (some i))=false/\Int.gcd (numT (cutP s (some i))) (numT (cutQ s (some i)))=1) /\
  x=numT (cutP s (some i))/\y=numT (cutQ s (some i))
def I8 (s:ByteArray)(b:Bool):Prop:=∃ k,IsCut s k/\(b=true↔∃ x y,RatV s k x y)
theorem Px (s1:Bool)(p1:Option Addr)(l1 c1:Nat)(w:World) :
 Calls prog 159 #[.agg #[.bool s1,.slice p1 l1 c1]] w fun e w'=>∃ s2 p2 l2 c2,e=.returned (.agg #[.bool s1,.slice p1 l1 c1,.bool s2,.slice p2 l2 c2])/\Gt w.heap.size w' (.agg #[.bool s2,.slice p2 l2 c2]) 1 3/\Up w w':=by
 obtain⟨J,d⟩:=O1 ((w.alloc (.cells #[.bool s1,.slice p1 l1 c1] 162)).alloc (.cells #[.bool false,.slice none 0 0,.bool false,.slice none 0 0] 166));have V:=Hd d;have A:Hid (Up w J):=by
  unfold Hid
  rw[<-d];exact Om (Oy _ _) _
 have j:Bx J w.heap.size [.bool s1,.slice p1 l1 c1]:=by rw[<-d];exact (Oi w _ _).alloc _
 have G:Bx J (w.heap.size+1) [.bool false,.slice none 0 0,.bool false,.slice none 0 0]:=by
  rw[<-d];have h:=Oi (w.alloc (.cells #[.bool s1,.slice p1 l1 c1] 162)) [.bool false,.slice none 0 0,.bool false,.slice none 0 0] 166;rw[Ji] at h;exact h
 have HX:Hid (∀ W,Up J W->Bx W w.heap.size [.bool s1,.slice p1 l1 c1]/\Bx W (w.heap.size+1) [.bool false,.slice none 0 0,.bool false,.slice none 0 0]):=fun W hW=>⟨j.bl j.lt hW,G.bl G.lt hW⟩;clear d;obtain⟨k0,k1⟩:=j.k2;clear j G
 go_in
 go_upto_region 1 with fail
 rw[V.o]
 go_region_with (first
  | (go_at_call 186
     refine (Xl 1 _ (by decide)).mono ?_;rintro e K ⟨z,rfl,hz,M⟩;have E:Hid (Up J K):=(Jh _ J).drew.trans M;obtain⟨s2,p2,l2,c2,rfl⟩:=hz.shape;have HZ:=Hd hz;obtain⟨U,I⟩:=HX.o K E.o;obtain⟨j0,j1⟩:=U.k2;obtain⟨r0,r1,r2,r3⟩:=I.k4;obtain⟨f0,f1,f2,f3⟩:=I.f4;clear hz M U I))
 all_goals
  try simp only[Yz,Ys,Yn,Act.put,Ja,Jd,Je]
  go_wp2
  have O:=(HX.o K E.o).2;have a7:Ew K (w.heap.size+1):=Gm O (by simp);have Z:=(HZ.o.mono (B':=w.heap.size) (n':=3) A.o.size Of).put4 a7 (.bool s1) (.slice p1 l1 c1) (.bool s2) (.slice p2 l2 c2);have Y:=Pu (A.o.trans (E.o.mono A.o.size)) (w.heap.size+1) (Y2 _) (.bool s1) (.slice p1 l1 c1) (.bool s2) (.slice p2 l2 c2);have hZ:Bx ((((K.setCell ⟨w.heap.size+1,0,none⟩ (.bool s1)).setCell ⟨w.heap.size+1,1,none⟩ (.slice p1 l1 c1)).setCell ⟨w.heap.size+1,2,none⟩ (.bool s2)).setCell ⟨w.heap.size+1,3,none⟩ (.slice p2 l2 c2)) (w.heap.size+1) [.bool s1,.slice p1 l1 c1,.bool s2,.slice p2 l2 c2]:=(((O.set 0 _).set 1 _).set 2 _).set 3 _;generalize (((K.setCell ⟨w.heap.size+1,0,none⟩ (.bool s1)).setCell ⟨w.heap.size+1,1,none⟩ (.slice p1 l1 c1)).setCell ⟨w.heap.size+1,2,none⟩ (.bool s2)).setCell ⟨w.heap.size+1,3,none⟩ (.slice p2 l2 c2)=W9 at *;obtain⟨m0,m1,m2,m3⟩:=hZ.k4;refine Jj (v:=.agg #[.bool s1,.slice p1 l1 c1,.bool s2,.slice p2 l2 c2]) ?_ rfl ⟨s2,p2,l2,c2,rfl,Z,Y⟩;simp[results,results159,go_sem,m0,m1,m2,m3]
end Go.Proofs.YtipgjenolpofpaaGreatDoor.Q
namespace Go.Proofs.YtipgjenolpofpaaGreatDoor.Q
open ChangeShapes WideShapes ChangeAt RowKit
def IZ (z:Value):Prop:=∃ s1 p1 l1 c1 s2 p2 l2 c2,z=.agg #[.bool s1,.slice p1 l1 c1,.bool s2,.slice p2 l2 c2]
def IY (B:Nat)(w:World)(s:ByteArray)(k:Option Nat)(z:Value)(ok:Bool):Prop:=
 IZ z/\(ok=true↔∃ x y,RatV s k x y)/\(ok=true->∃ x y,RatV s k x y/\Xb B w z x y 300)
theorem Xb.mono {B B':Nat}{w:World}{z:Value}{x y:Int}{n n':Nat}(h:Xb B w z x y n)(hb:B'<=B)(hn:n<=n'):Xb B' w z x y n':=by
 obtain⟨A,G,E,v2,e,d,j⟩:=h;exact⟨A,G,E,v2,e,d.mono hb hn,j.mono hb hn⟩
theorem Xb.put4 {B:Nat}{W:World}{z:Value}{x y:Int}{n:Nat}(h:Xb B W z x y n){g:Nat}(no:Ew W g)(u0 u1 u2 u3:Value):Xb B ((((W.setCell ⟨g,0,none⟩ u0).setCell ⟨g,1,none⟩ u1).setCell ⟨g,2,none⟩ u2).setCell ⟨g,3,none⟩ u3) z x y n:=by
 obtain⟨A,G,E,v2,e,d,j⟩:=h;exact⟨A,G,E,v2,e,d.put4 no u0 u1 u2 u3,j.put4 no u0 u1 u2 u3⟩
theorem QN (B:Nat)(W:World)(s p q u v:ByteArray)(i:Nat)(b bb ok:Bool)(z:Value)(xn xd:Int)(hP:cutP s (some i)=p/\cutQ s (some i)=q/\(some i).isSome=b)(hI:isIntB p=true/\isIntB q=true)(h0:numT q≠0)(hl:Rq (numT p) (numT q) xn xd)
 (hu:Ef xn u/\(if xd=1 then bb=false/\v=⟨#[]⟩ else bb=true/\Ef xd v)) (hok:(u.toList==p.toList&&bb==b&&v.toList==q.toList)=ok) (hR:Xb B W z xn xd 283):IY B W s (some i) z ok:=by
 obtain⟨rfl,rfl,hb⟩:=hP;have E:b=true:=hb.symm;subst E;have d:ok=true↔(xd≠1/\Ef xn (cutP s (some i))/\Ef xd (cutQ s (some i))):=by
  rw[<-hok,toList_inj,toList_inj];simp only[J3,Yg,Yc];constructor
  ·rintro⟨⟨rfl,rfl⟩,rfl⟩
   by_cases j:xd=1
   ·rw[if_pos j] at hu;exact absurd hu.2.1 (by decide)
   rw[if_neg j] at hu;exact⟨j,hu.1,hu.2.2⟩
  rintro⟨j,M,h3⟩;rw[if_neg j] at hu;exact⟨⟨hu.1.eq M,hu.2.1⟩,hu.2.2.eq h3⟩
 have A:=QE _ _ xn xd hI.1 hI.2 h0 hl;have I:ok=true->RatV s (some i) (numT (cutP s (some i))) (numT (cutQ s (some i))):=fun e=>by
  obtain⟨a1,a2,a3,a4⟩:=A.1 (d.1 e);exact⟨hI,⟨h0,a1,a2,a3,a4⟩,rfl,rfl⟩
 have G:IZ z:=by
  obtain⟨Z,V,O,c1,s2,Y,U,c2,h,_⟩:=hR.shape;exact⟨Z,V,O,c1,s2,Y,U,c2,h⟩
 refine⟨G,⟨fun e=>⟨_,_,I e⟩,?_⟩,fun e=>?_⟩
 ·rintro⟨x,y,_,⟨_,a1,a2,a3,a4⟩,_,_⟩;exact d.2 (A.2 ⟨a1,a2,a3,a4⟩)
 obtain⟨_,t1,t2⟩:=d.1 e;have J:=Pg t1 (Gx _ hI.1) (Ph _ hI.1);have K:=Pg t2 (Gx _ hI.2) (Ph _ hI.2);refine⟨_,_,I e,?_⟩;rw[<-J,<-K];exact hR.mono Of (by omega)
end Go.Proofs.YtipgjenolpofpaaGreatDoor.Q
