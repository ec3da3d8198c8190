import Derived.Test.YtdmdmgfjpomdbaaGreatDoorP10
set_option maxRecDepth 100000
set_option maxHeartbeats 4000000
namespace Go.Proofs.YtdmdmgfjpomdbaaGreatDoor.Q
open ChangeShapes WideShapes ChangeAt RowKit Proofs.Tryz
variable {B N g h n zc zl:Nat}{W W' w:World}{v:Value}{y z0:Int}{yn zn:Bool}{za:Option Addr}
theorem VX (x z:Int)(y:Bool)(w:World):(Instr.field 209 (.agg #[.int .i64 x,.bool y,.int .i64 z]) 1).run prog w=.ok (.bool y) w:=by kernel_rfl
theorem OO (B:Nat)(s t:Bool)(va vb:Value)(a b:List Nat)(w:World)(hBw:B<=w.heap.size)(ha:Kz B w va a)(hb:Kz B w vb b)(hla:a.length<=90000)(hlb:b.length<=90000)(hta:isTrim a)(htb:isTrim b)(hne:b≠[])(hSP:SP w) :
 Calls prog 181 #[.agg #[.bool s,va],.agg #[.bool t,vb]] w fun e w'=>∃ z1 z2 q r,e=.returned (.tuple #[z1,z2])/\Hr B w' z1 q (a.length+2)/\Hr B w' z2 r (b.length+3)/\Nw (sg s (val a)) (sg t (val b)) q r/\Up w w':=by
 have HA:Hid (∀ W,Up w W->Kz B W va a):=fun W hW=>ha.bl hW;have HB:Hid (∀ W,Up w W->Kz B W vb b):=fun W hW=>hb.bl hW;obtain⟨pa,ca,rfl,_,_,e3,_⟩:=ha;obtain⟨pb,cb,rfl,_,_,e4,_⟩:=hb;have HX:=VY w s pa a.length ca t pb b.length cb 155;obtain⟨W0,d1⟩:=Oa ((((w.alloc (.cells #[.bool s,.slice pa a.length ca] 155)).alloc (.cells #[.bool t,.slice pb b.length cb] 155)).alloc (.cells #[.bool false,.slice none 0 0] 155)).alloc (.cells #[.bool false,.slice none 0 0] 155));have j8:=E8 d1;have e9:Up w W0:=by rw[<-d1];exact Ob (Ob (Ob (Oz _ _) _) _) _
 have g4:=E8 e9;have h7:W0.heap.size=w.heap.size+4:=by rw[<-d1];simp
 rw[d1] at HX;have HS:=E8 h7;have J:Hid (∀ W,Up W0 W->BoxD w.heap.size W s pa a.length ca t pb b.length cb):=fun W hW=>HX.bl (by omega) hW;have HF:Hid (∀ W,Up W0 W->Up w W):=fun W hW=>e9.trans (hW.mono (by omega));have e7:Hid (∀ W,Up w W->SP W):=fun W hW=>hSP.bl hW;have HT:Hid (isTrim a/\isTrim b/\b≠[]/\B<=w.heap.size):=⟨hta,htb,hne,hBw⟩;have j6:Hid (okL a/\okL b):=⟨e3,e4⟩;obtain⟨a0,a1,b0,b1,r0,r1,t0,t1,f⟩:=HX;clear f d1 h7 e9 hta htb hne hBw e3 e4 hSP;have n6:=VX
 go_in
 go_wp2_with fail
 rw[j8.o];refine (Pw B _ _ a b _ (by have:=HS.o;have:=HT.o;omega) (HA.o _ g4.o) (HB.o _ g4.o) (by omega) HT.o.1 HT.o.2.1 HT.o.2.2.1).mono ?_;rintro e wx ⟨v,u,Q,U,rfl,hD,g7⟩;have d:=Hd g7;have b4:Hid (∀ W,Up wx W->Kz B W v Q):=fun W hW=>hD.1.1.bl hW;have b5:Hid (∀ W,Up wx W->Kz B W u U):=fun W hW=>hD.1.2.bl hW;have l3:okL U:=by obtain⟨_,_,_,_,_,h,_⟩:=hD.1.2;exact h
 have g6:U.length<=b.length:=Pi U b hD.2.1.2 j6.o.2 hD.2.2.2.2;have A:Hid (Q.length<=a.length/\U.length<=b.length):=⟨hD.2.2.1.1,g6⟩;have b6:Hid (val a=val Q*val b+val U/\val U<val b/\isTrim U):=⟨hD.2.2.2.1,hD.2.2.2.2,hD.2.1.2⟩;obtain⟨pv,cv,hv,_⟩:=id hD.1.1;obtain⟨pu,cu,hu,_⟩:=id hD.1.2;obtain⟨lv,g0⟩:=Oa Q.length;obtain⟨lu,f9⟩:=Oa U.length;subst hv hu;rw[g0] at b4 A ⊢;rw[f9] at b5 A ⊢;have K:Hid (Q.length=lv/\U.length=lu):=⟨g0,f9⟩;clear a0 a1 b0 b1 r0 r1 t0 t1 g7 hD g6 g0 f9 l3
 cases s
 ·have b9:Hid (Nw (sg false (val a)) (sg t (val b)) (sg t (val Q)) (sg false (val U))):=by
   have h:=Al t _ _ _ _ b6.o.1 b6.o.2.1;rw[show (false != t)=t by cases t<;>rfl] at h;exact h
  have A:Hid (Q.length<=a.length+2/\U.length<=b.length+3):=by have:=A.o;have:=K.o;exact⟨by omega,by omega⟩
  obtain⟨k0,k1,l0,l1,m0,m1,n0,n1,f,z⟩:=J.o wx d.o;clear f z
  go_wp2_with fail
  refine (Xq _ _ _ _ _ _ _ _ _ (e7.o _ (HF.o _ d.o))).mono ?_;rintro e ws ⟨rfl,Z⟩;have I:=Hd Z;clear Z k0 k1 l0 l1 m0 m1 n0 n1
  go_wp2_with fail
  refine (K1 B t _ Q _ (b4.o _ I.o)).mono ?_;rintro e wm ⟨v',rfl,hcut,V⟩;have E:=I.up V;have M:Hid (∀ W,Up wx W->Kz B W v' (Og Q)):=fun W hW=>hcut _ _ (b4.o W hW);obtain⟨pq,cq,hq,_⟩:=M.o wm E.o;subst hq;clear hcut V
  go_wp2_with fail
  refine (K1 B false _ U _ (b5.o _ E.o)).mono ?_;rintro e G ⟨u',rfl,hcut,Y⟩;have j:=E.up Y;have O:Hid (∀ W,Up wx W->Kz B W u' (Og U)):=fun W hW=>hcut _ _ (b5.o W hW);obtain⟨pr,cr,hr,_⟩:=O.o G j.o;subst hr;obtain⟨_,_,_,_,u0,u1,w0,w1,f,z⟩:=J.o G (d.o.trans (j.o.mono d.o.size));have i20:=f 2 (by omega) 0;have i21:=f 2 (by omega) 1;have i6:=f 3 (by omega) 0;have i7:=f 3 (by omega) 1;have HZ:Hid (Nh G (w.heap.size+2)/\Nh G (w.heap.size+3)):=⟨z 2 (by omega),z 3 (by omega)⟩;clear hcut Y f z
  go_wp2
  have c6:Hid (Up w G):=HF.o _ (d.o.trans (j.o.mono d.o.size));refine Jg ?_ rfl ⟨_,_,_,_,rfl,⟨t,_,Og Q,rfl,(M.o _ j.o).keeps HZ.o.1 HZ.o.2 (((((Ka.refl _ _ G).setCell _ _ ?_).setCell _ _ ?_).setCell _ _ ?_).setCell _ _ ?_),trimL_trim _,rfl,?_⟩,⟨false,_,Og U,rfl,(O.o _ j.o).keeps HZ.o.1 HZ.o.2 (((((Ka.refl _ _ G).setCell _ _ ?_).setCell _ _ ?_).setCell _ _ ?_).setCell _ _ ?_),trimL_trim _,rfl,?_⟩,?_,(((c6.o.setCell ?_ _).setCell ?_ _).setCell ?_ _).setCell ?_ _⟩
  all_goals first
   | (simp[results,results181,go_sem,u0,u1,w0,w1];done)
   | (simp;omega)
   | (have:=Kd Q;have:=A.o;omega)
   | (have:=Kd U;have:=A.o;omega)
   | (rw[O4,O4];exact b9.o)
 by_cases l2:lu=0
 ·subst l2;have b9:Hid (Nw (sg true (val a)) (sg t (val b)) (sg (!t) (val Q)) (sg false (val U))):=by
   have e:U=[]:=Jw K.o.2;have h:=b6.o;rw[e] at h ⊢;have h2:=Lf t _ _ _ h.1 (by have:=h.2.1;simp[val] at this;omega);rw[show (true != t)=!t by cases t<;>rfl] at h2;exact h2
  have A:Hid (Q.length<=a.length+2/\U.length<=b.length+3):=by have:=A.o;have:=K.o;exact⟨by omega,by omega⟩
  obtain⟨k0,k1,l0,l1,m0,m1,n0,n1,f,z⟩:=J.o wx d.o;clear f z
  go_wp2_with fail
  refine (Xq _ _ _ _ _ _ _ _ _ (e7.o _ (HF.o _ d.o))).mono ?_;rintro e ws ⟨rfl,Z⟩;have I:=Hd Z;clear Z k0 k1 l0 l1 m0 m1 n0 n1
  go_wp2_with fail
  refine (K1 B (!t) _ Q _ (b4.o _ I.o)).mono ?_;rintro e wm ⟨v',rfl,hcut,V⟩;have E:=I.up V;have M:Hid (∀ W,Up wx W->Kz B W v' (Og Q)):=fun W hW=>hcut _ _ (b4.o W hW);obtain⟨pq,cq,hq,_⟩:=M.o wm E.o;subst hq;clear hcut V
  go_wp2_with fail
  refine (K1 B false _ U _ (b5.o _ E.o)).mono ?_;rintro e G ⟨u',rfl,hcut,Y⟩;have j:=E.up Y;have O:Hid (∀ W,Up wx W->Kz B W u' (Og U)):=fun W hW=>hcut _ _ (b5.o W hW);obtain⟨pr,cr,hr,_⟩:=O.o G j.o;subst hr;obtain⟨_,_,_,_,u0,u1,w0,w1,f,z⟩:=J.o G (d.o.trans (j.o.mono d.o.size));have i20:=f 2 (by omega) 0;have i21:=f 2 (by omega) 1;have i6:=f 3 (by omega) 0;have i7:=f 3 (by omega) 1;have HZ:Hid (Nh G (w.heap.size+2)/\Nh G (w.heap.size+3)):=⟨z 2 (by omega),z 3 (by omega)⟩;clear hcut Y f z
  go_wp2
  have c6:Hid (Up w G):=HF.o _ (d.o.trans (j.o.mono d.o.size));refine Jg ?_ rfl ⟨_,_,_,_,rfl,⟨(!t),_,Og Q,rfl,(M.o _ j.o).keeps HZ.o.1 HZ.o.2 (((((Ka.refl _ _ G).setCell _ _ ?_).setCell _ _ ?_).setCell _ _ ?_).setCell _ _ ?_),trimL_trim _,rfl,?_⟩,⟨false,_,Og U,rfl,(O.o _ j.o).keeps HZ.o.1 HZ.o.2 (((((Ka.refl _ _ G).setCell _ _ ?_).setCell _ _ ?_).setCell _ _ ?_).setCell _ _ ?_),trimL_trim _,rfl,?_⟩,?_,(((c6.o.setCell ?_ _).setCell ?_ _).setCell ?_ _).setCell ?_ _⟩
  all_goals first
   | (simp[results,results181,go_sem,u0,u1,w0,w1];done)
   | (simp;omega)
   | (have:=Kd Q;have:=A.o;omega)
   | (have:=Kd U;have:=A.o;omega)
   | (rw[O4,O4];exact b9.o)
 have hp:0<lu:=by omega
 have j7:Hid (0<val U):=by
  have e:U≠[]:=by intro e;rw[e] at K;have:=K.o.2;simp at this;omega
  exact Ga U b6.o.2.2 e
 obtain⟨k0,k1,l0,l1,m0,m1,n0,n1,f,z⟩:=J.o wx d.o;clear f z
 go_wp2_with fail
 have e5:Kz wx.heap.size (wx.alloc (.cells #[.int .u32 1] 149)) (.slice (some ⟨wx.heap.size,0,none⟩) 1 1) [1]:=NI _ _ 1 _ (by omega) rfl rfl leR;refine (Sd B _ _ Q [1] _ (b4.o _ (Oz _ _)) (e5.mono (by have:=d.o.size;have:=HS.o;have:=HT.o.2.2.2;omega)) (by have:=A.o;have:=K.o;omega) (by simp)).mono ?_;clear e5;rintro e wy ⟨v2,Q2,rfl,g1,h9,g9,l4,g8⟩;have b3:Hid (Up wx wy):=(Oz wx (.cells #[.int .u32 1] 149)).trans (g8.mono (by simp));have c8:Hid (Kz B wy v2 Q2/\val Q2=val Q+1/\Q2.length<=a.length+2):=⟨g1.mono (by have:=d.o.size;have:=HS.o;have:=HT.o.2.2.2;simp;omega),by rw[h9];simp[val],by have:=A.o;have:=K.o;simp at g9;omega⟩;obtain⟨m5,k9,l6,_⟩:=id g1;subst l6;clear g1 h9 g9 l4 g8 k0 k1 l0 l1 m0 m1 n0 n1;obtain⟨k0,k1,l0,l1,m0,m1,n0,n1,f,z⟩:=J.o wy (d.o.trans (b3.o.mono d.o.size));clear f z
 go_wp2_with fail
 refine (Tp B _ _ b U _ (HB.o _ (HF.o _ (d.o.trans (b3.o.mono d.o.size)))) (b5.o _ b3.o) HT.o.2.2.1 (by omega) (by have:=A.o;have:=K.o;omega) (by have:=b6.o;omega)).mono ?_;rintro e wz ⟨u2,U2,rfl,g2,i1,h0,l5,f8⟩;have b7:Hid (Up W0 wz):=d.o.trans ((b3.o.trans (f8.mono b3.o.size)).mono d.o.size);have d9:Hid (∀ W,Up wz W->Kz B W (.slice m5 Q2.length k9) Q2):=fun W hW=>(c8.o.1.bl f8).bl hW;have e1:Hid (∀ W,Up wz W->Kz B W u2 U2):=fun W hW=>(g2.mono (by have:=b3.o.size;have:=d.o.size;have:=HS.o;have:=HT.o.2.2.2;omega)).bl hW;have b9:Hid (Nw (sg true (val a)) (sg t (val b)) (sg (!t) (val Q2)) (sg false (val U2))):=by
  rw[c8.o.2.1];have h2:=Da t _ _ _ _ _ b6.o.1 i1 j7.o;rw[show (true != t)=!t by cases t<;>rfl] at h2;exact h2
 have d8:Hid (Q2.length<=a.length+2/\U2.length<=b.length+3):=⟨c8.o.2.2,by omega⟩;obtain⟨o0,n5,h8,_⟩:=id g2;subst h8;clear g2 i1 h0 l5 f8 k0 k1 l0 l1 m0 m1 n0 n1;obtain⟨k0,k1,l0,l1,m0,m1,n0,n1,f,z⟩:=J.o wz b7.o;clear f z
 go_wp2_with fail
 refine (Xq _ _ _ _ _ _ _ _ _ (e7.o _ (HF.o _ b7.o))).mono ?_;rintro e ws ⟨rfl,Z⟩;have I:=Hd Z;clear Z k0 k1 l0 l1 m0 m1 n0 n1
 go_wp2_with fail
 refine (K1 B (!t) _ Q2 _ (d9.o _ I.o)).mono ?_;rintro e wm ⟨v',rfl,hcut,V⟩;have E:=I.up V;have M:Hid (∀ W,Up wz W->Kz B W v' (Og Q2)):=fun W hW=>hcut _ _ (d9.o W hW);obtain⟨pq,cq,hq,_⟩:=M.o wm E.o;subst hq;clear hcut V
 go_wp2_with fail
 refine (K1 B false _ U2 _ (e1.o _ E.o)).mono ?_;rintro e G ⟨u',rfl,hcut,Y⟩;have j:=E.up Y;have O:Hid (∀ W,Up wz W->Kz B W u' (Og U2)):=fun W hW=>hcut _ _ (e1.o W hW);obtain⟨pr,cr,hr,_⟩:=O.o G j.o;subst hr;obtain⟨_,_,_,_,u0,u1,w0,w1,f,z⟩:=J.o G (b7.o.trans (j.o.mono b7.o.size));have i20:=f 2 (by omega) 0;have i21:=f 2 (by omega) 1;have i6:=f 3 (by omega) 0;have i7:=f 3 (by omega) 1;have HZ:Hid (Nh G (w.heap.size+2)/\Nh G (w.heap.size+3)):=⟨z 2 (by omega),z 3 (by omega)⟩;clear hcut Y f z
 go_wp2
 have c6:Hid (Up w G):=HF.o _ (b7.o.trans (j.o.mono b7.o.size));refine Jg ?_ rfl ⟨_,_,_,_,rfl,⟨(!t),_,Og Q2,rfl,(M.o _ j.o).keeps HZ.o.1 HZ.o.2 (((((Ka.refl _ _ G).setCell _ _ ?_).setCell _ _ ?_).setCell _ _ ?_).setCell _ _ ?_),trimL_trim _,rfl,?_⟩,⟨false,_,Og U2,rfl,(O.o _ j.o).keeps HZ.o.1 HZ.o.2 (((((Ka.refl _ _ G).setCell _ _ ?_).setCell _ _ ?_).setCell _ _ ?_).setCell _ _ ?_),trimL_trim _,rfl,?_⟩,?_,(((c6.o.setCell ?_ _).setCell ?_ _).setCell ?_ _).setCell ?_ _⟩
 all_goals first
  | (simp[results,results181,go_sem,u0,u1,w0,w1];done)
  | (simp;omega)
  | (have:=Kd Q2;have:=d8.o;omega)
  | (have:=Kd U2;have:=d8.o;omega)
  | (rw[O4,O4];exact b9.o)
structure BoxQ (g:Nat)(W:World)(x:Int)(xn:Bool)(pa:Option Addr)(la ca:Nat)(y:Int)(yn:Bool)(pb:Option Addr)(lb cb:Nat):Prop where
 a0:W.cell? ⟨g,0,none⟩=some (.int .i64 x)
 a1:W.cell? ⟨g,1,none⟩=some (.bool xn)
 a2:W.cell? ⟨g,2,none⟩=some (.slice pa la ca)
 b0:W.cell? ⟨g+1,0,none⟩=some (.int .i64 y)
 b1:W.cell? ⟨g+1,1,none⟩=some (.bool yn)
 b2:W.cell? ⟨g+1,2,none⟩=some (.slice pb lb cb)
 r0:W.cell? ⟨g+2,0,none⟩=some (.int .i64 0)
 r1:W.cell? ⟨g+2,1,none⟩=some (.bool false)
 r2:W.cell? ⟨g+2,2,none⟩=some (.slice none 0 0)
 t0:W.cell? ⟨g+3,0,none⟩=some (.int .i64 0)
 t1:W.cell? ⟨g+3,1,none⟩=some (.bool false)
 t2:W.cell? ⟨g+3,2,none⟩=some (.slice none 0 0)
 f:∀ k,k<4->∀ i,W.frozen? ⟨g+k,i,none⟩=false
theorem BoxQ.bl {x:Int}{xn:Bool}{pa:Option Addr}{la ca:Nat}{pb:Option Addr}{lb cb:Nat}(h:BoxQ g W x xn pa la ca y yn pb lb cb)(hN:g+4<=N)(hb:Below N W W'):BoxQ g W' x xn pa la ca y yn pb lb cb:=by
 have q:∀ k,k<4->∀ i,W'.cell? ⟨g+k,i,none⟩=W.cell? ⟨g+k,i,none⟩:=fun k hk i=>hb.cell (p:=⟨g+k,i,none⟩) (by show g+k<N;omega);have f:∀ k,k<4->∀ i,W'.frozen? ⟨g+k,i,none⟩=W.frozen? ⟨g+k,i,none⟩:=fun k hk i=>hb.frozen (p:=⟨g+k,i,none⟩) (by show g+k<N;omega);exact⟨(q 0 (by omega) 0).trans h.a0,(q 0 (by omega) 1).trans h.a1,(q 0 (by omega) 2).trans h.a2,(q 1 (by omega) 0).trans h.b0,(q 1 (by omega) 1).trans h.b1,(q 1 (by omega) 2).trans h.b2,(q 2 (by omega) 0).trans h.r0,(q 2 (by omega) 1).trans h.r1,(q 2 (by omega) 2).trans h.r2,(q 3 (by omega) 0).trans h.t0,(q 3 (by omega) 1).trans h.t1,(q 3 (by omega) 2).trans h.t2,fun k hk i=>(f k hk i).trans (h.f k hk i)⟩
theorem F9 (w:World)(x:Int)(xn:Bool)(pa:Option Addr)(la ca:Nat)(y:Int)(yn:Bool)(pb:Option Addr)(lb cb:Nat)(ty:TypeId) :
 BoxQ w.heap.size ((((w.alloc (.cells #[.int .i64 x,.bool xn,.slice pa la ca] ty)).alloc (.cells #[.int .i64 y,.bool yn,.slice pb lb cb] ty)).alloc (.cells #[.int .i64 0,.bool false,.slice none 0 0] ty)).alloc (.cells #[.int .i64 0,.bool false,.slice none 0 0] ty)) x xn pa la ca y yn pb lb cb:=by
 refine⟨?_,?_,?_,?_,?_,?_,?_,?_,?_,?_,?_,?_,?_⟩
 iterate 3 · rw[Jy _ _ _ (by simp<;>omega),Jy _ _ _ (by simp<;>omega),Jy _ _ _ (by simp),Jn _ _ _ _ rfl];rfl
 iterate 3 · rw[Jy _ _ _ (by simp<;>omega),Jy _ _ _ (by simp<;>omega),Jn _ _ _ _ (by simp)];rfl
 iterate 3 · rw[Jy _ _ _ (by simp<;>omega),Jn _ _ _ _ (by simp)];rfl
 iterate 3 · rw[Jn _ _ _ _ (by simp)];rfl
 intro k d i
 match k,d with
 | 0,_=>rw[Yu _ _ _ (by simp<;>omega),Yu _ _ _ (by simp<;>omega),Yu _ _ _ (by simp),Ya _ _ _ _ (by simp)]
 | 1,_=>rw[Yu _ _ _ (by simp<;>omega),Yu _ _ _ (by simp<;>omega),Ya _ _ _ _ (by simp)]
 | 2,_=>rw[Yu _ _ _ (by simp<;>omega),Ya _ _ _ _ (by simp)]
 | 3,_=>rw[Ya _ _ _ _ (by simp)]
theorem EX (x y:Int)(hx1 : -1000000000000000000<x)(hx2:x<1000000000000000000)(hy:y≠0) :
 y*x.tdiv y+x.tmod y=x/\(x.tmod y).natAbs<y.natAbs/\(x.tdiv y).natAbs<=999999999999999999/\(x.tmod y≠0->(x.tdiv y).natAbs<=499999999999999999):=by
 have d:(x.tmod y).natAbs<y.natAbs:=by rw[Int.natAbs_tmod];exact Z5 _ (by omega)
 refine⟨Int.mul_tdiv_add_tmod x y,d,?_,fun hr=>?_⟩
 ·rw[Int.natAbs_tdiv];exact Yc (Nat.div_le_self _ _) (by omega)
 rw[Int.natAbs_tdiv];have h2:2<=y.natAbs:=by omega
 have h3:x.natAbs / y.natAbs<=x.natAbs / 2:=Nat.div_le_div_left h2 (by omega);exact Yc h3 (by omega)
theorem FF (x y q r:Int)(h:y*q+r=x)(hr:0<=r)(hl:r.natAbs<y.natAbs):Nw x y q r:=⟨by rw[Int.mul_comm];exact h.symm,hr,by omega⟩
theorem FL (x y q r:Int)(h:y*q+r=x)(hr:r<0)(hl:r.natAbs<y.natAbs)(hy:0<y):Nw x y (q - 1) (r+y):=⟨by rw[Int.sub_mul,Int.mul_comm q];omega,by omega,by omega⟩
theorem FM (x y q r:Int)(h:y*q+r=x)(hr:r<0)(hl:r.natAbs<y.natAbs)(hy:y<0):Nw x y (q+1) (r - y):=⟨by rw[Int.add_mul,Int.mul_comm q];omega,by omega,by omega⟩
theorem OJ (x y:Int)(w:World)(hx1 : -1000000000000000000<x)(hx2:x<1000000000000000000)(hy1 : -1000000000000000000<y)(hy2:y<1000000000000000000)(hy:y≠0) :
 Calls prog 129 #[.agg #[.int .i64 x,.bool false,.slice none 0 0],.agg #[.int .i64 y,.bool false,.slice none 0 0]] w fun e w'=>∃ z1 z2 q r,e=.returned (.tuple #[z1,z2])/\(G0 w.heap.size w' z1 q/\G0 w.heap.size w' z2 r)/\Nw x y q r/\Up w w':=by
 have HX:=F9 w x false none 0 0 y false none 0 0 119;obtain⟨M,h⟩:=Oa ((((w.alloc (.cells #[.int .i64 x,.bool false,.slice none 0 0] 119)).alloc (.cells #[.int .i64 y,.bool false,.slice none 0 0] 119)).alloc (.cells #[.int .i64 0,.bool false,.slice none 0 0] 119)).alloc (.cells #[.int .i64 0,.bool false,.slice none 0 0] 119));have Z:=E8 h;have Y:Hid (Up w M):=by rw[<-h];exact Ob (Ob (Ob (Oz _ _) _) _) _
 have O:M.heap.size=w.heap.size+4:=by rw[<-h];simp
 rw[h] at HX;have HS:=E8 O;have K:Hid (∀ W,Up M W->BoxQ w.heap.size W x false none 0 0 y false none 0 0):=fun W hW=>HX.bl (by omega) hW;obtain⟨a0,a1,a2,b0,b1,b2,r0,r1,r2,t0,t1,t2,_⟩:=HX;clear h O;obtain⟨U,d2,d3,V⟩:=EX x y hx1 hx2 hy;obtain⟨q,hq⟩:=Oa (x.tdiv y);obtain⟨r,hr⟩:=Oa (x.tmod y);rw[hq] at U d3 V;rw[hr] at U d2 V;have I:Hid (y*q+r=x/\r.natAbs<y.natAbs):=⟨U,d2⟩;have q1 : -1000000000000000000<q:=by omega
 have q2:q<1000000000000000000:=by omega
 have s1 : -1000000000000000000<r:=by omega
 have s2:r<1000000000000000000:=by omega
 have d:Hid (r≠0->q.natAbs<=499999999999999999):=V;clear U d2 d3 V;have G:0<=r∨(r<0/\0<y)∨(r<0/\y<0):=by omega
 rcases G with hc|⟨hc,E⟩|⟨hc,E⟩
 all_goals
  go_in
  go_wp2_with fail
  rw[Z.o];refine (Ki _ _ _ _ _ _).mono ?_;rintro e wA ⟨rfl,hA⟩;have j:Hid (Up M wA):=by rw[hA];exact Oz _ _
  clear hA a0 a1 a2 b0 b1 b2 r0 r1 r2 t0 t1 t2;obtain⟨a0,a1,a2,b0,b1,b2,r0,r1,r2,t0,t1,t2,f⟩:=K.o wA j.o;clear f
  go_wp2_with fail
  refine (Ki _ _ _ _ _ _).mono ?_;rintro e wB ⟨rfl,hB⟩;have J:Hid (Up M wB):=by rw[hB];exact j.o.alloc j.o.size _
  have A:Hid (Up w wB):=Y.o.trans (J.o.mono (by have:=HS.o;omega));clear hB a0 a1 a2 b0 b1 b2 r0 r1 r2 t0 t1 t2;obtain⟨a0,a1,a2,b0,b1,b2,r0,r1,r2,t0,t1,t2,f⟩:=K.o wB J.o;have b9:=f 2 (by omega) 0;have c6:=f 2 (by omega) 1;have c8:=f 2 (by omega) 2;have d0:=f 3 (by omega) 0;have d5:=f 3 (by omega) 1;have d6:=f 3 (by omega) 2;clear f
  go_wp2
 ·refine Jg ?_ rfl ⟨_,_,q,r,rfl,⟨If _ _ q (by omega) (by omega),If _ _ r (by omega) (by omega)⟩,FF x y q r I.o.1 hc I.o.2,(((((A.o.setCell ?_ _).setCell ?_ _).setCell ?_ _).setCell ?_ _).setCell ?_ _).setCell ?_ _⟩
  all_goals first
   | (simp[results,results129,go_sem,r0,r1,r2,t0,t1,t2];done)
   | (simp;omega)
 ·go_region
  all_goals
   go_wp2
   refine Jg ?_ rfl ⟨_,_,(q - 1),(r+y),rfl,⟨If _ _ (q - 1) (by have:=d.o;omega) (by have:=d.o;omega),If _ _ (r+y) (by have:=d.o;omega) (by have:=d.o;omega)⟩,FL x y q r I.o.1 hc I.o.2 E,((((((A.o.setCell ?_ _).setCell ?_ _).setCell ?_ _).setCell ?_ _).setCell ?_ _).setCell ?_ _).drew⟩
   all_goals first
    | (simp[results,results129,go_sem,r0,r1,r2,t0,t1,t2];done)
    | (simp;omega)
 go_region
 all_goals
  go_wp2
  refine Jg ?_ rfl ⟨_,_,(q+1),(r - y),rfl,⟨If _ _ (q+1) (by have:=d.o;omega) (by have:=d.o;omega),If _ _ (r - y) (by have:=d.o;omega) (by have:=d.o;omega)⟩,FM x y q r I.o.1 hc I.o.2 E,((((((A.o.setCell ?_ _).setCell ?_ _).setCell ?_ _).setCell ?_ _).setCell ?_ _).setCell ?_ _).drew⟩
  all_goals first
   | (simp[results,results129,go_sem,r0,r1,r2,t0,t1,t2];done)
   | (simp;omega)
structure BoxV (g:Nat)(W:World)(z0:Int)(zn:Bool)(za:Option Addr)(zl zc:Nat):Prop where
 lt:g<W.heap.size
 c0:W.cell? ⟨g,0,none⟩=some (.int .i64 z0)
 c1:W.cell? ⟨g,1,none⟩=some (.bool zn)
 c2:W.cell? ⟨g,2,none⟩=some (.slice za zl zc)
 f:∀ i,W.frozen? ⟨g,i,none⟩=false
 n:Nh W g
theorem BoxV.bl (h:BoxV g W z0 zn za zl zc)(hN:g<N)(hb:Below N W W'):BoxV g W' z0 zn za zl zc:=
 ⟨Jq h.lt hb.size,(hb.cell (p:=⟨g,0,none⟩) hN).trans h.c0,(hb.cell (p:=⟨g,1,none⟩) hN).trans h.c1,(hb.cell (p:=⟨g,2,none⟩) hN).trans h.c2,fun i=>(hb.frozen (p:=⟨g,i,none⟩) hN).trans (h.f i),fun i x e=>h.n i x ((hb.cell (p:=⟨g,i,none⟩) hN).symm.trans e)⟩
theorem AF (p q r:Value)(i:Nat)(x:Int)(hp:∀ x,p≠.int .u32 x)(hq:∀ x,q≠.int .u32 x)(hr:∀ x,r≠.int .u32 x):(#[p,q,r]:Array Value)[i]? ≠ some (.int .u32 x):=by
 match i with
 | 0=>simpa using hp x
 | 1=>simpa using hq x
 | 2=>simpa using hr x
 | i+3=>simp
theorem Ia (w:World)(z0:Int)(zn:Bool)(za:Option Addr)(zl zc:Nat)(ty:TypeId):BoxV w.heap.size (w.alloc (.cells #[.int .i64 z0,.bool zn,.slice za zl zc] ty)) z0 zn za zl zc:=by
 refine⟨by simp,?_,?_,?_,fun i=>?_,fun i x=>?_⟩
 ·rw[Jn _ _ _ _ rfl];rfl
 ·rw[Jn _ _ _ _ rfl];rfl
 ·rw[Jn _ _ _ _ rfl];rfl
 ·rw[Ya _ _ _ _ rfl]
 rw[Jn _ _ _ _ rfl];exact AF _ _ _ i x (by simp) (by simp) (by simp)
theorem Ip (w:World)(g:Nat)(hg:w.heap.size=g)(z0:Int)(zn:Bool)(za:Option Addr)(zl zc:Nat)(ty:TypeId):BoxV g (w.alloc (.cells #[.int .i64 z0,.bool zn,.slice za zl zc] ty)) z0 zn za zl zc:=by
 subst hg;exact Ia w z0 zn za zl zc ty
theorem BoxV.alloc (h:BoxV g W z0 zn za zl zc)(o:Obj):BoxV g (W.alloc o) z0 zn za zl zc:=h.bl h.lt (Oz W o)
theorem BoxV.drew (h:BoxV g W z0 zn za zl zc):BoxV g W.drew z0 zn za zl zc:=h.bl h.lt (Je _ W).drew
theorem BoxV.put (h:BoxV g W z0 zn za zl zc)(y0:Int)(yn:Bool)(ya:Option Addr)(yl yc:Nat) :
 BoxV g (((W.setCell ⟨g,0,none⟩ (.int .i64 y0)).setCell ⟨g,1,none⟩ (.bool yn)).setCell ⟨g,2,none⟩ (.slice ya yl yc)) y0 yn ya yl yc:=by
 obtain⟨lt,c0,c1,c2,f,n⟩:=h;refine⟨by simpa using lt,by simp[go_sem,c0],by simp[go_sem,c1],by simp[go_sem,c2],fun i=>by have:=f i;simp[go_sem,this],fun i x=>?_⟩
 by_cases i0:i=0
 ·subst i0;simp[go_sem,c0]
 by_cases d:i=1
 ·subst d;simp[go_sem,c1]
 by_cases i2:i=2
 ·subst i2;simp[go_sem,c2]
 have e:(((W.setCell ⟨g,0,none⟩ (.int .i64 y0)).setCell ⟨g,1,none⟩ (.bool yn)).setCell ⟨g,2,none⟩ (.slice ya yl yc)).cell? ⟨g,i,none⟩=W.cell? ⟨g,i,none⟩:=by
  have j:(0:Nat)≠i:=by omega
  have A:(1:Nat)≠i:=by omega
  have e2:(2:Nat)≠i:=by omega
  simp[go_sem, *]
 rw[e];exact n i x
theorem BoxV.other (hb:BoxV g W z0 zn za zl zc)(hne:g≠h)(k:Ka h h W W'):BoxV g W' z0 zn za zl zc:=by
 have q:∀ i,W'.cell? ⟨g,i,none⟩=W.cell? ⟨g,i,none⟩:=fun i=>Vo (k.2 g hne hne);have f:∀ i,W'.frozen? ⟨g,i,none⟩=W.frozen? ⟨g,i,none⟩:=fun i=>World.frozen?_of_block (k.2 g hne hne);exact⟨Jq hb.lt k.1,(q 0).trans hb.c0,(q 1).trans hb.c1,(q 2).trans hb.c2,fun i=>(f i).trans (hb.f i),fun i x e=>hb.n i x ((q i).symm.trans e)⟩
theorem G0.keeps {z:Value}{x:Int}(hl:G0 B w z x)(n1:Nh w g)(n2:Nh w h)(k:Ka g h w W):G0 B W z x:=by
 obtain⟨neg,t,⟨d,j,A⟩,I⟩:=hl;refine⟨neg,t,⟨d,j,?_⟩,I⟩
 rcases A with⟨h2,v,G,E⟩|A
 ·exact .inl ⟨h2,v,G,E.keeps n1 n2 k⟩
 exact .inr A
theorem BoxQ.far {x:Int}{xn:Bool}{pa:Option Addr}{la ca:Nat}{pb:Option Addr}{lb cb:Nat}(h:BoxQ g W x xn pa la ca y yn pb lb cb)(p:Addr)(hp:g+4<=p.block)(u:Value):BoxQ g (W.setCell p u) x xn pa la ca y yn pb lb cb:=
 h.bl (N:=g+4) leR ((Je _ W).setCell hp u)
theorem Ka.three (w:World)(g:Nat)(u0 u1 u2:Value):Ka g g w (((w.setCell ⟨g,0,none⟩ u0).setCell ⟨g,1,none⟩ u1).setCell ⟨g,2,none⟩ u2):=by
 have d:Ka g g w (w.setCell ⟨g,0,none⟩ u0):=(Ka.refl g g w).setCell ⟨g,0,none⟩ u0 (Or.inl rfl);have h:Ka g g w ((w.setCell ⟨g,0,none⟩ u0).setCell ⟨g,1,none⟩ u1):=d.setCell ⟨g,1,none⟩ u1 (Or.inl rfl);exact h.setCell ⟨g,2,none⟩ u2 (Or.inl rfl)
theorem G0.drew {z:Value}{x:Int}(h:G0 B w z x):G0 B w.drew z x:=h.bl (Je _ w).drew
theorem Fh {y0:Int}{ya:Option Addr}{yl yc:Nat}{neg:Bool}{t:List Nat}(h:Gy B w (.agg #[.int .i64 y0,.bool yn,.slice ya yl yc]) neg t):(((yl:Int)==0)&&(y0==0))=decide (val t=0):=by
 obtain⟨I,A,h⟩:=h
 rcases h with⟨h2,v,d,⟨p,c,rfl,_⟩⟩|⟨h2,d⟩
 ·simp only[Value.agg.injEq,Array.mk.injEq,List.cons.injEq,Value.int.injEq,true_and,Value.bool.injEq,Value.slice.injEq,and_true] at d;obtain⟨_,_,_,hl,_⟩:=d;have j:t≠[]:=by intro e;rw[e] at h2;simp at h2
  have J:=Ga t A j;have G:((yl:Int)==0)=false:=by rw[Jb];omega
  have e2:decide (val t=0)=false:=dF (by omega)
  rw[G,e2];rfl
 simp only[Value.agg.injEq,Array.mk.injEq,List.cons.injEq,Value.int.injEq,true_and,Value.bool.injEq,Value.slice.injEq,and_true] at d;obtain⟨rfl,_,_,rfl,_⟩:=d
 by_cases E:val t=0
 ·rw[E];cases neg<;>simp[sg]
 have e2:decide (val t=0)=false:=by rw[Jj];exact E
 rw[e2]
 cases neg<;>simp[sg]<;>omega
theorem Xx (n:Bool)(l:List Nat)(ht:isTrim l):sg n (val l)=0↔l=[]:=by
 constructor
 ·intro h;apply Classical.byContradiction;intro d;have:=Ga l ht d
  cases n<;>simp[sg] at h<;>omega
 rintro rfl
 cases n<;>simp[sg,val]
theorem H8 (B:Nat)(za zb:Value)(x y:Int)(n m:Nat)(w:World)(hBw:B<=w.heap.size)(ha:Hr B w za x n)(hb:Hr B w zb y m)(hy:y≠0)(hn:n<=90000)(hm:m<=90000)(hSP:SP w) :
 Calls prog 181 #[za,zb] w fun e w'=>∃ z1 z2 q r,e=.returned (.tuple #[z1,z2])/\Hr B w' z1 q (n+2)/\Hr B w' z2 r (m+3)/\Nw x y q r/\Up w w':=by
 obtain⟨M,va,a,rfl,j,ta,rfl,J⟩:=ha;obtain⟨E,O,b,rfl,A,G,rfl,K⟩:=hb;have d:b≠[]:=fun h=>hy ((Xx E b G).2 h);rw[<-I6 M a,<-I6 E b];refine (OO B _ _ va O a b w hBw j A (by omega) (by omega) ta G d hSP).mono ?_;rintro e w' ⟨z1,z2,q,r,I,h2,h3,h4,h5⟩;exact⟨z1,z2,q,r,I,h2.mono leR (by omega),h3.mono leR (by omega),h4,h5⟩
def Sq (s t u v:ByteArray):Prop:=if isIntB s=true/\isIntB t=true/\numT t≠0 then ∃ q r,Nw (numT s) (numT t) q r/\No q u/\No r v else u=strB []/\v=strB []
theorem Sq.eq {s t u v u' v':ByteArray}(h:Sq s t u v)(h':Sq s t u' v'):u=u'/\v=v':=by
 unfold Sq at h h'
 split at h
 ·rename_i hc;rw[if_pos hc] at h';obtain⟨q,r,d,h2,h3⟩:=h;obtain⟨A,E,j,k2,k3⟩:=h';obtain⟨rfl,rfl⟩:=P8 d j;exact⟨h2.eq k2,h3.eq k3⟩
 rename_i hc;rw[if_neg hc] at h';exact⟨by rw[h.1,h'.1],by rw[h.2,h'.2]⟩
theorem Hh {l:List Value}(h:Bx W g l)(hl:∀ v∈l,∀ x,v≠.int .u32 x):Nh W g:=fun i x=>by
 rw[h.cell i]
 intro e
 exact hl _ (Vn e) x rfl
theorem Kz.put2 {l:List Nat}(h:Kz B W v l)(n:Nh W g)(u0 u1:Value):Kz B ((W.setCell ⟨g,0,none⟩ u0).setCell ⟨g,1,none⟩ u1) v l:=
 h.keeps n n (Ka.setCell (Ka.setCell (Ka.refl g g W) ⟨g,0,none⟩ u0 (Or.inl rfl)) ⟨g,1,none⟩ u1 (Or.inl rfl))
theorem KW (h:Below N w W)(g:Nat)(hg:N<=g)(u0 u1:Value):Below N w ((W.setCell ⟨g,0,none⟩ u0).setCell ⟨g,1,none⟩ u1):=
 (h.setCell (p:=⟨g,0,none⟩) hg u0).setCell (p:=⟨g,1,none⟩) hg u1
theorem Qs (n:Nat)(w:World)(hn:n<18446744073709551616) :
 Calls prog 178 #[.int .u64 (n:Nat)] w fun e w'=>∃ z,e=.returned z/\Hr w.heap.size w' z (n:Nat) 3/\Up w w':=by
 obtain⟨M,d⟩:=Oa (w.alloc (.cells #[.bool false,.slice none 0 0] 155));have a7:=Hd d;have E:Bx M w.heap.size [.bool false,.slice none 0 0]:=by rw[<-d];exact Oi w _ _
 have j:Hid (Up w M):=by unfold Hid;rw[<-d];exact Oz _ _
 have J:Hid (∀ W,Up M W->Bx W w.heap.size [.bool false,.slice none 0 0]):=fun W hW=>E.bl E.lt hW;clear d E
 go_in
 go_wp2_with fail
 rw[a7.o];refine (Qx n _ hn).mono ?_;rintro e w1 ⟨v,t,rfl,hv,ht,Y,V,O⟩;have HV:=Hd hv;have I:=Hd O;have Z:Hid (isTrim t/\val t=n/\t.length<=3):=⟨ht,Y,V⟩;obtain⟨pv,cv,b5,_⟩:=hv;subst b5;clear ht Y V O
 go_wp2_with fail
 refine (K1 M.heap.size false _ t _ HV.o).mono ?_;rintro e w2 ⟨v',rfl,hcut,hb2⟩;have K:Hid (Kz M.heap.size w2 v' t):=by
  have h:=hcut _ _ (HV.o.bl hb2);rw[Po t Z.o.1] at h;exact h
 have A:=Hd (I.o.trans (hb2.mono I.o.size));have e1:Ky false (Og t)=false:=by unfold Ky;rfl
 rw[e1];have hb:=J.o w2 A.o;obtain⟨k0,k1⟩:=hb.k2;obtain⟨r0,r1⟩:=hb.f2;obtain⟨G,c2,b4,_⟩:=K.o;subst b4;clear hcut hb2 hb e1
 go_wp2
 have U:=J.o w2 A.o;have b3:=Hh U (by simp);have a8:=(K.o.mono j.o.size).put2 b3 (.bool false) (.slice G t.length c2);have hZ:Bx ((w2.setCell ⟨w.heap.size,0,none⟩ (.bool false)).setCell ⟨w.heap.size,1,none⟩ (.slice G t.length c2)) w.heap.size [.bool false,.slice G t.length c2]:=(U.set 0 _).set 1 _;have hE:=KW (j.o.trans (A.o.mono j.o.size)) w.heap.size leR (.bool false) (.slice G t.length c2);generalize (w2.setCell ⟨w.heap.size,0,none⟩ (.bool false)).setCell ⟨w.heap.size,1,none⟩ (.slice G t.length c2)=WE at *;obtain⟨m0,m1⟩:=hZ.k2;refine Jg (v:=.agg #[.bool false,.slice G t.length c2]) ?_ rfl ⟨_,rfl,⟨false,_,t,by unfold Ky;rfl,a8,Z.o.1,by rw[Z.o.2.1];rfl,Z.o.2.2⟩,hE⟩;simp[results,results178,go_sem,m0,m1]
def Q1 (B:Nat)(w:World)(z:Value)(x y:Int)(n:Nat):Prop:=∃ s1 v1 s2 v2,z=.agg #[.bool s1,v1,.bool s2,v2]/\Hr B w (.agg #[.bool s1,v1]) x n/\Hr B w (.agg #[.bool s2,v2]) y n
theorem Q1.bl {w':World}{z:Value}{x:Int}(h:Q1 B w z x y n)(hb:Up w w'):Q1 B w' z x y n:=by
 obtain⟨j,E,A,v2,e,d,h2⟩:=h;exact⟨j,E,A,v2,e,d.bl hb,h2.bl hb⟩
theorem Hr.parts {s:Bool}{x:Int}(h:Hr B w (.agg #[.bool s,v]) x n):∃ neg t,s=Ky neg t/\Kz B w v t/\isTrim t/\sg neg (val t)=x/\t.length<=n:=by
 obtain⟨neg,j,t,e,d,h2,h3,h4⟩:=h;simp only[Value.agg.injEq,Array.mk.injEq,List.cons.injEq,Value.bool.injEq,and_true] at e;obtain⟨rfl,rfl⟩:=e;exact⟨neg,t,rfl,d,h2,h3,h4⟩
theorem XX (x y:Int):(LG x y==0)=decide (x=y):=by
 unfold LG
 split
 ·rename_i h;have:x≠y:=by omega
  simp[this]
 split
 ·rename_i h;have:x≠y:=by omega
  simp[this]
 rename_i h1 h2;have:x=y:=by omega
 simp[this]
theorem OB (B:Nat)(z:Value)(x y:Int)(n:Nat)(w:World)(hBw:B<=w.heap.size)(h:Q1 B w z x y n)(hSP:SP w) :
 Calls prog 182 #[z] w fun e w'=>e=.returned (.bool (decide (y=1)))/\Up w w':=by
 obtain⟨s1,v1,s2,v2,rfl,h1,h2⟩:=h;obtain⟨n1,t1,rfl,b9,_,_,_⟩:=h1.parts;obtain⟨Z,t2,rfl,M,a7,e2,_⟩:=h2.parts;have b4:=Hd M;have b6:=Hd hSP;have b3:=Hd hBw;have HT:Hid (isTrim t2/\sg Z (val t2)=y):=⟨a7,e2⟩;obtain⟨p1,c1,rfl,_,_,o1,_⟩:=b9;obtain⟨p2,c2,rfl,_,_,o2,_⟩:=M;have HO:Hid (okL t2):=o2;clear hSP hBw a7 e2 h1 h2 o1 o2;obtain⟨G,E⟩:=Oa (w.alloc (.cells #[.bool (Ky n1 t1),.slice p1 t1.length c1,.bool (Ky Z t2),.slice p2 t2.length c2] 159));have b7:=Hd E;have I:Bx G w.heap.size [.bool (Ky n1 t1),.slice p1 t1.length c1,.bool (Ky Z t2),.slice p2 t2.length c2]:=by rw[<-E];exact Oi w _ _
 have d:Hid (Up w G):=by unfold Hid;rw[<-E];exact Oz _ _
 have K:Hid (∀ W,Up G W->Bx W w.heap.size [.bool (Ky n1 t1),.slice p1 t1.length c1,.bool (Ky Z t2),.slice p2 t2.length c2]):=fun W hW=>I.bl I.lt hW;clear E I
 go_in
 go_upto_region 1 with fail
 rw[b7.o];have j:=K.o G (Je _ _);obtain⟨k0,k1,k2,k3⟩:=j.k4;clear j
 go_region_with (first
  | (go_at_call 178
     refine (Qs 1 _ (by decide)).mono ?_;rintro e w1 ⟨z,rfl,hz,O⟩;have A:Hid (Up G w1):=(Je _ G).drew.trans O;obtain⟨nz,vz,J,rfl,U,V,Y,_⟩:=hz;have HZ:Hid (Kz G.heap.size w1 vz J/\isTrim J/\sg nz (val J)=1):=⟨U,V,Y⟩;obtain⟨pz,cz,rfl,_,_,oz,_⟩:=U;have b5:Hid (okL J):=oz;have j:=K.o w1 A.o;have j2:=j.cell 2;have j3:=j.cell 3;simp only[Jm,Js] at j2 j3;clear V Y O oz j)
  | (go_at_call 201
     refine (Wq B _ _ _ _ t2 J _ (b4.o.bl (d.o.trans (A.o.mono d.o.size))) (HZ.o.1.mono (by have:=b3.o;have:=d.o.size;omega)) (b6.o.bl (d.o.trans (A.o.mono d.o.size)))).mono ?_;rintro e w2 ⟨rfl,hb2⟩;have a8:Hid (Up w w2):=d.o.trans ((A.o.trans (hb2.mono A.o.size)).mono d.o.size);rw[RC Z nz t2 J HO.o b5.o HT.o.1 HZ.o.2.1,HT.o.2,HZ.o.2.2];clear hb2))
 all_goals
  try simp only[Y3,Yv,Yp,Act.put,Jp,Jz,J0]
  go_wp2
  go_ret
  exact⟨Oy (XX y 1),a8.o⟩
theorem Hr.put2 {z:Value}{x:Int}(h:Hr B W z x n)(no:Nh W g)(u0 u1:Value):Hr B ((W.setCell ⟨g,0,none⟩ u0).setCell ⟨g,1,none⟩ u1) z x n:=by
 obtain⟨neg,v,t,e,d,h2,h3,h4⟩:=h;exact⟨neg,v,t,e,d.put2 no u0 u1,h2,h3,h4⟩
theorem Kz.put4 {l:List Nat}(h:Kz B W v l)(n:Nh W g)(u0 u1 u2 u3:Value):Kz B ((((W.setCell ⟨g,0,none⟩ u0).setCell ⟨g,1,none⟩ u1).setCell ⟨g,2,none⟩ u2).setCell ⟨g,3,none⟩ u3) v l:=
 h.keeps n n (Ka.setCell (Ka.setCell (Ka.setCell (Ka.setCell (Ka.refl g g W) ⟨g,0,none⟩ u0 (Or.inl rfl)) ⟨g,1,none⟩ u1 (Or.inl rfl)) ⟨g,2,none⟩ u2 (Or.inl rfl)) ⟨g,3,none⟩ u3 (Or.inl rfl))
theorem Hr.put4 {z:Value}{x:Int}(h:Hr B W z x n)(no:Nh W g)(u0 u1 u2 u3:Value):Hr B ((((W.setCell ⟨g,0,none⟩ u0).setCell ⟨g,1,none⟩ u1).setCell ⟨g,2,none⟩ u2).setCell ⟨g,3,none⟩ u3) z x n:=by
 obtain⟨neg,v,t,e,d,h2,h3,h4⟩:=h;exact⟨neg,v,t,e,d.put4 no u0 u1 u2 u3,h2,h3,h4⟩
theorem Di (h:Below N w W)(g:Nat)(hg:N<=g)(u0 u1 u2 u3:Value):Below N w ((((W.setCell ⟨g,0,none⟩ u0).setCell ⟨g,1,none⟩ u1).setCell ⟨g,2,none⟩ u2).setCell ⟨g,3,none⟩ u3):=
 (KW h g hg u0 u1).setCell (p:=⟨g,2,none⟩) hg u2 |>.setCell (p:=⟨g,3,none⟩) hg u3
theorem Bx.put2 {a b:Value}(h:Bx W g [a,b])(u0 u1:Value):Bx ((W.setCell ⟨g,0,none⟩ u0).setCell ⟨g,1,none⟩ u1) g [u0,u1]:=(h.set 0 u0).set 1 u1
theorem Bx.off2 {l:List Value}(h:Bx W g l){k:Nat}(hk:k≠g)(u0 u1:Value):Bx ((W.setCell ⟨k,0,none⟩ u0).setCell ⟨k,1,none⟩ u1) g l:=(h.other ⟨k,0,none⟩ hk u0).other ⟨k,1,none⟩ hk u1
structure BxM (h hc:Nat)(W:World)(s1:Bool)(v1:Value)(s2:Bool)(v2:Value)(s3:Bool)(v3:Value):Prop where
 a:Bx W h [.bool s1,v1]
 b:Bx W (h+1) [.bool s2,v2]
 r:Bx W (h+1+1) [.bool false,.slice none 0 0,.bool false,.slice none 0 0]
 c:Bx W hc [.bool s3,v3]
theorem BxM.bl {hc:Nat}{s1 s2 s3:Bool}{v1 v2 v3:Value}(m:BxM h hc W s1 v1 s2 v2 s3 v3)(hN:h+3<=N)(hc':hc<N)(hb:Below N W W'):BxM h hc W' s1 v1 s2 v2 s3 v3:=
 ⟨m.a.bl (by omega) hb,m.b.bl (by omega) hb,m.r.bl (by omega) hb,m.c.bl hc' hb⟩
theorem BxM.cells {hc:Nat}{s1 s2 s3:Bool}{v1 v2 v3:Value}(m:BxM h hc W s1 v1 s2 v2 s3 v3) :
 (W.cell? ⟨h,0,none⟩=some (.bool s1)/\W.cell? ⟨h,1,none⟩=some v1/\∀ i,W.frozen? ⟨h,i,none⟩=false)/\(W.cell? ⟨h+1,0,none⟩=some (.bool s2)/\W.cell? ⟨h+1,1,none⟩=some v2/\∀ i,W.frozen? ⟨h+1,i,none⟩=false) /\
 (W.cell? ⟨hc,0,none⟩=some (.bool s3)/\W.cell? ⟨hc,1,none⟩=some v3/\∀ i,W.frozen? ⟨hc,i,none⟩=false):=
 ⟨⟨m.a.cell 0,m.a.cell 1,m.a.frozen⟩,⟨m.b.cell 0,m.b.cell 1,m.b.frozen⟩,⟨m.c.cell 0,m.c.cell 1,m.c.frozen⟩⟩
theorem Mi {s:Bool}{p:Option Addr}{l c:Nat}(h:Bx W g [.bool s,.slice p l c]):Nh W g:=Hh h (by simp)
theorem LN (neg:Bool)(t:List Nat)(y:Int)(ht:isTrim t)(h:sg neg (val t)=y):Ky neg t=decide (y<0):=by
 unfold Ky
 by_cases hl:t=[]
 ·subst hl;have:y=0:=by rw[<-h];cases neg<;>simp[sg,val]
  subst this;simp
 have d:=Ga t ht hl;have h2:0<t.length:=Zj.2 hl
 cases neg
 ·have:¬ y<0:=by rw[<-h];simp[sg]
  simp[this]
 have:y<0:=by rw[<-h];simp[sg];omega
 simp[this,h2]
theorem D5 (B:Nat)(za zb:Value)(x y:Int)(n:Nat)(w:World)(hBw:B<=w.heap.size)(ha:Hr B w za x n)(hb:Hr B w zb y n)(hy:y≠0)(hn:n<=80000)(hSP:SP w)(hNS:NS w) :
 Calls prog 153 #[za,zb] w fun e w'=>∃ z p q,e=.returned z/\Q1 B w' z p q (n+3)/\Pc x y p q/\Up w w':=by
 obtain⟨s1,p1,l1,c1,rfl⟩:=ha.shape;obtain⟨s2,p2,l2,c2,rfl⟩:=hb.shape;have o0:s2=decide (y<0):=by
  obtain⟨neg,t,e,_,ht,hv,_⟩:=hb.parts;rw[e];exact LN neg t y ht hv
 have n2:=Hd o0;clear o0;have HA:=Hd ha;have HB:=Hd hb;have f9:=Hd hSP;have p0:=Hd hNS;have e0:=Hd hBw;have HC:Hid (∀ c,c=(if y<0 then -Ns x y else Ns x y)->c≠0):=fun c e=>by
  have hg:0<Int.gcd x y:=Int.gcd_pos_of_ne_zero_right _ hy;rw[e];unfold Ns;split<;>omega
 have g9:Hid (∀ c q r d r',c=(if y<0 then -Ns x y else Ns x y)->Nw x c q r->Nw y c d r'->Pc x y q d):=fun c q r d r' e h1 h2=>UT x y c q r d r' hy e h1 h2;clear ha hb hSP hNS hBw;obtain⟨W0,b9⟩:=Oa (((w.alloc (.cells #[.bool s1,.slice p1 l1 c1] 155)).alloc (.cells #[.bool s2,.slice p2 l2 c2] 155)).alloc (.cells #[.bool false,.slice none 0 0,.bool false,.slice none 0 0] 159));have p9:=Hd b9;have n9:W0.heap.size=w.heap.size+3:=by rw[<-b9];simp
 have n1:=Hd n9;have f8:Hid (Up w W0):=by
  unfold Hid
  rw[<-b9];exact Ob (Ob (Oz _ _) _) _
 have o1:Bx W0 w.heap.size [.bool s1,.slice p1 l1 c1]:=by rw[<-b9];exact ((Oi w _ _).alloc _).alloc _
 have o2:Bx W0 (w.heap.size+1) [.bool s2,.slice p2 l2 c2]:=by
  rw[<-b9];have h:=Oi (w.alloc (.cells #[.bool s1,.slice p1 l1 c1] 155)) [.bool s2,.slice p2 l2 c2] 155;rw[Jf] at h;exact h.alloc _
 have o3:Bx W0 (w.heap.size+1+1) [.bool false,.slice none 0 0,.bool false,.slice none 0 0]:=by
  rw[<-b9];have h:=Oi ((w.alloc (.cells #[.bool s1,.slice p1 l1 c1] 155)).alloc (.cells #[.bool s2,.slice p2 l2 c2] 155)) [.bool false,.slice none 0 0,.bool false,.slice none 0 0] 159;rw[Jf,Jf] at h;exact h
 have HX:Hid (Bx W0 w.heap.size [.bool s1,.slice p1 l1 c1]/\Bx W0 (w.heap.size+1) [.bool s2,.slice p2 l2 c2]/\Bx W0 (w.heap.size+1+1) [.bool false,.slice none 0 0,.bool false,.slice none 0 0]):=⟨o1,o2,o3⟩;clear b9 n9 o1 o2 o3
 go_in
 go_wp2_with fail
 rw[p9.o];refine (Pa B _ _ x y n _ (by have:=e0.o;have:=n1.o;omega) (HA.o.bl f8.o) (HB.o.bl f8.o) (by omega) (p0.o.bl f8.o)).mono ?_;rintro e O ⟨z,rfl,hz,g6⟩;obtain⟨s3,p3,l3,c3,rfl⟩:=hz.shape;obtain⟨W1,g5⟩:=Oa (O.alloc (.cells #[.bool s3,.slice p3 l3 c3] 155));have n3:=Hd g5;have e5:Up O W1:=by rw[<-g5];exact Oz _ _
 have j9:Bx W1 O.heap.size [.bool s3,.slice p3 l3 c3]:=by rw[<-g5];exact Oi O _ _
 have b6:Up W0 W1:=g6.trans (e5.mono g6.size);have HM:Hid (BxM w.heap.size O.heap.size W1 s1 (.slice p1 l1 c1) s2 (.slice p2 l2 c2) s3 (.slice p3 l3 c3)):=⟨HX.o.1.bl HX.o.1.lt b6,HX.o.2.1.bl HX.o.2.1.lt b6,HX.o.2.2.bl HX.o.2.2.lt b6,j9⟩;have HZ:Hid (Hr B W1 (.agg #[.bool s3,.slice p3 l3 c3]) (Ns x y) n):=hz.bl e5;have b7:=f8.up b6;have u2:w.heap.size+3<=O.heap.size:=by have:=n1.o;have:=g6.size;omega
 have u1:O.heap.size<W1.heap.size:=j9.lt;clear hz g6 g5 e5 j9 b6
 cases s2
 case' _=>
  have b8:Hid (Ns x y=if y<0 then -Ns x y else Ns x y):=by
   have h:¬ y<0:=by simpa using n2.o
   show Ns x y=if y<0 then -Ns x y else Ns x y
   rw[if_neg h]
  have k0:=HM.o.b.cell 0;simp only[Jm] at k0
  go_upto_region 2 with fail
  rw[n3.o];clear k0;have m1:=HM.o.cells;obtain⟨⟨a0,a1,af⟩,⟨b0,b1,bf⟩,⟨q0,q1,qf⟩⟩:=m1
  go_upto_region 5 with fail
  go_wp2_with fail
  refine (H8 B _ _ x (Ns x y) n n _ (by have:=e0.o;have:=b7.o.size;omega) (HA.o.bl b7.o) HZ.o (HC.o _ b8.o) (by omega) (by omega) (f9.o.bl b7.o)).mono ?_;rintro e w5 ⟨z1,z2,qn,qr,rfl,d0,e7,Y,a8⟩;obtain⟨j,E,A,c5,rfl⟩:=d0.shape;obtain⟨s6,p6,l6,c6,rfl⟩:=e7.shape;have i8:=Hd Y;have G:=Hd (HM.o.bl (N:=W1.heap.size) (by omega) (by omega) a8);have j5:=Hd d0;have i6:=Hd (HZ.o.bl a8);have d9:=Hd (b7.o.trans (a8.mono b7.o.size));have q9:O.heap.size<w5.heap.size:=G.o.c.lt;clear d0 e7 Y a8 a0 a1 af b0 b1 bf q0 q1 qf;obtain⟨⟨a0,a1,af⟩,⟨b0,b1,bf⟩,⟨q0,q1,qf⟩⟩:=G.o.cells;have j7:=af 0;have j8:=af 1;clear af bf qf;have b4:=Mi G.o.a;obtain⟨W6,I⟩:=Oa ((w5.setCell ⟨w.heap.size,0,none⟩ (.bool j)).setCell ⟨w.heap.size,1,none⟩ (.slice E A c5));have j4:=Hd I;have j6:Hid (Hr B W6 (.agg #[.bool j,.slice E A c5]) qn (n+2)):=by have h:=j5.o.put2 b4 (.bool j) (.slice E A c5);rw[I] at h;exact h
  have i7:Hid (Hr B W6 (.agg #[.bool s3,.slice p3 l3 c3]) (Ns x y) n):=by have h:=i6.o.put2 b4 (.bool j) (.slice E A c5);rw[I] at h;exact h
  have j0:Hid (Hr B W6 (.agg #[.bool false,.slice p2 l2 c2]) y n):=by have h:=(HB.o.bl d9.o).put2 b4 (.bool j) (.slice E A c5);rw[I] at h;exact h
  have a7:Hid (Up w W6):=by have h:=KW d9.o w.heap.size leR (.bool j) (.slice E A c5);rw[I] at h;exact h
  have e1:Hid (BxM w.heap.size O.heap.size W6 j (.slice E A c5) false (.slice p2 l2 c2) s3 (.slice p3 l3 c3)):=by
   have h1:=G.o.a.put2 (.bool j) (.slice E A c5);have h2:=G.o.b.off2 (k:=w.heap.size) (by omega) (.bool j) (.slice E A c5);have h3:=G.o.r.off2 (k:=w.heap.size) (by omega) (.bool j) (.slice E A c5);have h4:=G.o.c.off2 (k:=w.heap.size) (by omega) (.bool j) (.slice E A c5);rw[I] at h1 h2 h3 h4;exact⟨h1,h2,h3,h4⟩
  have r4:O.heap.size<W6.heap.size:=e1.o.c.lt;clear I b4
  go_upto_region 6 with fail
  go_wp2_with fail
  rw[j4.o];refine (H8 B _ _ y (Ns x y) n n _ (by have:=e0.o;have:=a7.o.size;omega) j0.o i7.o (HC.o _ b8.o) (by omega) (by omega) (f9.o.bl a7.o)).mono ?_;rintro e w7 ⟨z3,z4,dn,dr,rfl,d1,b5,Y,b3⟩;obtain⟨J,M,K,c7,rfl⟩:=d1.shape;obtain⟨s8,p8,l8,c8,rfl⟩:=b5.shape;have m9:=Hd (g9.o _ _ _ _ _ b8.o i8.o Y);have U:=Hd (e1.o.bl (N:=W6.heap.size) (by omega) (by omega) b3);have j3:=Hd (j6.o.bl b3);have j1:=Hd d1;have i1:=Hd (a7.o.trans (b3.mono a7.o.size));clear d1 b5 Y b3 a0 a1 b0 b1 q0 q1 j7 j8;have d3:=Mi U.o.b;obtain⟨W8,V⟩:=Oa ((w7.setCell ⟨w.heap.size+1,0,none⟩ (.bool J)).setCell ⟨w.heap.size+1,1,none⟩ (.slice M K c7));have n4:=Hd V;have n0:Hid (Hr B W8 (.agg #[.bool j,.slice E A c5]) qn (n+2)):=by have h:=j3.o.put2 d3 (.bool J) (.slice M K c7);rw[V] at h;exact h
  have m8:Hid (Hr B W8 (.agg #[.bool J,.slice M K c7]) dn (n+2)):=by have h:=j1.o.put2 d3 (.bool J) (.slice M K c7);rw[V] at h;exact h
  have m6:Hid (Up w W8):=by have h:=KW i1.o (w.heap.size+1) (Y4 _) (.bool J) (.slice M K c7);rw[V] at h;exact h
  have d2:Hid (BxM w.heap.size O.heap.size W8 j (.slice E A c5) J (.slice M K c7) s3 (.slice p3 l3 c3)):=by
   have h1:=U.o.a.off2 (k:=w.heap.size+1) (by omega) (.bool J) (.slice M K c7);have h2:=U.o.b.put2 (.bool J) (.slice M K c7);have h3:=U.o.r.off2 (k:=w.heap.size+1) (by omega) (.bool J) (.slice M K c7);have h4:=U.o.c.off2 (k:=w.heap.size+1) (by omega) (.bool J) (.slice M K c7);rw[V] at h1 h2 h3 h4;exact⟨h1,h2,h3,h4⟩
 rotate_left
 case' _=>
  have b8:Hid (-Ns x y=if y<0 then -Ns x y else Ns x y):=by
   have h:y<0:=by simpa using n2.o
   show -Ns x y=if y<0 then -Ns x y else Ns x y
   rw[if_pos h]
  have k0:=HM.o.b.cell 0;simp only[Jm] at k0;obtain⟨_,_,⟨q0,q1,_⟩⟩:=HM.o.cells
  go_upto_region 2 with fail
  rw[n3.o]
  go_wp2_with fail
  refine (YN B _ _ n _ HZ.o).mono ?_;rintro e w2 ⟨z4,rfl,b5,hb2⟩;obtain⟨s4,p4,l4,c4,rfl⟩:=b5.shape;have Z:=HM.o.bl (N:=W1.heap.size) (by omega) (by omega) hb2;have n7:=Mi Z.c;obtain⟨W2,e6⟩:=Oa ((w2.setCell ⟨O.heap.size,0,none⟩ (.bool s4)).setCell ⟨O.heap.size,1,none⟩ (.slice p4 l4 c4));have q2:=Hd e6;have n5:Hid (Hr B W2 (.agg #[.bool s4,.slice p4 l4 c4]) (-Ns x y) n):=by have h:=b5.put2 n7 (.bool s4) (.slice p4 l4 c4);rw[e6] at h;exact h
  have d8:Hid (Up w W2):=by have h:=KW (b7.o.trans (hb2.mono b7.o.size)) O.heap.size (by omega) (.bool s4) (.slice p4 l4 c4);rw[e6] at h;exact h
  have j2:Hid (BxM w.heap.size O.heap.size W2 s1 (.slice p1 l1 c1) true (.slice p2 l2 c2) s4 (.slice p4 l4 c4)):=by
   have h1:=Z.a.off2 (k:=O.heap.size) (by omega) (.bool s4) (.slice p4 l4 c4);have h2:=Z.b.off2 (k:=O.heap.size) (by omega) (.bool s4) (.slice p4 l4 c4);have h3:=Z.r.off2 (k:=O.heap.size) (by omega) (.bool s4) (.slice p4 l4 c4);have h4:=Z.c.put2 (.bool s4) (.slice p4 l4 c4);rw[e6] at h1 h2 h3 h4;exact⟨h1,h2,h3,h4⟩
  have r7:O.heap.size<W2.heap.size:=j2.o.c.lt;have m7:Hid (w2.frozen? ⟨O.heap.size,0,none⟩=false/\w2.frozen? ⟨O.heap.size,1,none⟩=false/\w2.cell? ⟨O.heap.size,0,none⟩=some (.bool s3)/\w2.cell? ⟨O.heap.size,1,none⟩=some (.slice p3 l3 c3)):=⟨Z.c.frozen 0,Z.c.frozen 1,Z.c.cell 0,Z.c.cell 1⟩;obtain⟨g0,g1,g2,g3⟩:=m7.o;clear b5 hb2 Z n7 e6 k0 q0 q1 m7
  go_upto_region 4 with fail
  rw[q2.o];clear g0 g1 g2 g3;have m1:=j2.o.cells;obtain⟨⟨a0,a1,af⟩,⟨b0,b1,bf⟩,⟨q0,q1,qf⟩⟩:=m1
  go_upto_region 5 with fail
  go_wp2_with fail
  refine (H8 B _ _ x (-Ns x y) n n _ (by have:=e0.o;have:=d8.o.size;omega) (HA.o.bl d8.o) n5.o (HC.o _ b8.o) (by omega) (by omega) (f9.o.bl d8.o)).mono ?_;rintro e w5 ⟨z1,z2,qn,qr,rfl,d0,e7,Y,a8⟩;obtain⟨j,E,A,c5,rfl⟩:=d0.shape;obtain⟨s6,p6,l6,c6,rfl⟩:=e7.shape;have i8:=Hd Y;have G:=Hd (j2.o.bl (N:=W2.heap.size) (by omega) (by omega) a8);have j5:=Hd d0;have i6:=Hd (n5.o.bl a8);have d9:=Hd (d8.o.trans (a8.mono d8.o.size));have q9:O.heap.size<w5.heap.size:=G.o.c.lt;clear d0 e7 Y a8 a0 a1 af b0 b1 bf q0 q1 qf;obtain⟨⟨a0,a1,af⟩,⟨b0,b1,bf⟩,⟨q0,q1,qf⟩⟩:=G.o.cells;have j7:=af 0;have j8:=af 1;clear af bf qf;have b4:=Mi G.o.a;obtain⟨W6,I⟩:=Oa ((w5.setCell ⟨w.heap.size,0,none⟩ (.bool j)).setCell ⟨w.heap.size,1,none⟩ (.slice E A c5));have j4:=Hd I;have j6:Hid (Hr B W6 (.agg #[.bool j,.slice E A c5]) qn (n+2)):=by have h:=j5.o.put2 b4 (.bool j) (.slice E A c5);rw[I] at h;exact h
  have i7:Hid (Hr B W6 (.agg #[.bool s4,.slice p4 l4 c4]) (-Ns x y) n):=by have h:=i6.o.put2 b4 (.bool j) (.slice E A c5);rw[I] at h;exact h
  have j0:Hid (Hr B W6 (.agg #[.bool true,.slice p2 l2 c2]) y n):=by have h:=(HB.o.bl d9.o).put2 b4 (.bool j) (.slice E A c5);rw[I] at h;exact h
  have a7:Hid (Up w W6):=by have h:=KW d9.o w.heap.size leR (.bool j) (.slice E A c5);rw[I] at h;exact h
  have e1:Hid (BxM w.heap.size O.heap.size W6 j (.slice E A c5) true (.slice p2 l2 c2) s4 (.slice p4 l4 c4)):=by
   have h1:=G.o.a.put2 (.bool j) (.slice E A c5);have h2:=G.o.b.off2 (k:=w.heap.size) (by omega) (.bool j) (.slice E A c5);have h3:=G.o.r.off2 (k:=w.heap.size) (by omega) (.bool j) (.slice E A c5);have h4:=G.o.c.off2 (k:=w.heap.size) (by omega) (.bool j) (.slice E A c5);rw[I] at h1 h2 h3 h4;exact⟨h1,h2,h3,h4⟩
  have r4:O.heap.size<W6.heap.size:=e1.o.c.lt;clear I b4
  go_upto_region 6 with fail
  go_wp2_with fail
  rw[j4.o];refine (H8 B _ _ y (-Ns x y) n n _ (by have:=e0.o;have:=a7.o.size;omega) j0.o i7.o (HC.o _ b8.o) (by omega) (by omega) (f9.o.bl a7.o)).mono ?_;rintro e w7 ⟨z3,z4,dn,dr,rfl,d1,b5,Y,b3⟩;obtain⟨J,M,K,c7,rfl⟩:=d1.shape;obtain⟨s8,p8,l8,c8,rfl⟩:=b5.shape;have m9:=Hd (g9.o _ _ _ _ _ b8.o i8.o Y);have U:=Hd (e1.o.bl (N:=W6.heap.size) (by omega) (by omega) b3);have j3:=Hd (j6.o.bl b3);have j1:=Hd d1;have i1:=Hd (a7.o.trans (b3.mono a7.o.size));clear d1 b5 Y b3 a0 a1 b0 b1 q0 q1 j7 j8;have d3:=Mi U.o.b;obtain⟨W8,V⟩:=Oa ((w7.setCell ⟨w.heap.size+1,0,none⟩ (.bool J)).setCell ⟨w.heap.size+1,1,none⟩ (.slice M K c7));have n4:=Hd V;have n0:Hid (Hr B W8 (.agg #[.bool j,.slice E A c5]) qn (n+2)):=by have h:=j3.o.put2 d3 (.bool J) (.slice M K c7);rw[V] at h;exact h
  have m8:Hid (Hr B W8 (.agg #[.bool J,.slice M K c7]) dn (n+2)):=by have h:=j1.o.put2 d3 (.bool J) (.slice M K c7);rw[V] at h;exact h
  have m6:Hid (Up w W8):=by have h:=KW i1.o (w.heap.size+1) (Y4 _) (.bool J) (.slice M K c7);rw[V] at h;exact h
  have d2:Hid (BxM w.heap.size O.heap.size W8 j (.slice E A c5) J (.slice M K c7) s4 (.slice p4 l4 c4)):=by
   have h1:=U.o.a.off2 (k:=w.heap.size+1) (by omega) (.bool J) (.slice M K c7);have h2:=U.o.b.put2 (.bool J) (.slice M K c7);have h3:=U.o.r.off2 (k:=w.heap.size+1) (by omega) (.bool J) (.slice M K c7);have h4:=U.o.c.off2 (k:=w.heap.size+1) (by omega) (.bool J) (.slice M K c7);rw[V] at h1 h2 h3 h4;exact⟨h1,h2,h3,h4⟩
 rotate_left
 all_goals
  clear V d3;obtain⟨_,⟨b0,b1,bf⟩,_⟩:=U.o.cells;have q4:=bf 0;have q5:=bf 1;clear bf
  go_upto_region 6 with fail
  rw[n4.o];clear b0 b1 q4 q5;obtain⟨⟨a0,a1,_⟩,⟨b0,b1,_⟩,_⟩:=d2.o.cells;obtain⟨r0,r1,r2,r3⟩:=d2.o.r.k4;obtain⟨f0,f1,f2,f3⟩:=d2.o.r.f4
  go_wp2
  have n8:Nh W8 (w.heap.size+1+1):=Hh d2.o.r (by simp);have q8:=n0.o.put4 n8 (.bool j) (.slice E A c5) (.bool J) (.slice M K c7);have q7:=m8.o.put4 n8 (.bool j) (.slice E A c5) (.bool J) (.slice M K c7);have q6:=Di m6.o (w.heap.size+1+1) (by omega) (.bool j) (.slice E A c5) (.bool J) (.slice M K c7);have hZ:Bx ((((W8.setCell ⟨w.heap.size+1+1,0,none⟩ (.bool j)).setCell ⟨w.heap.size+1+1,1,none⟩ (.slice E A c5)).setCell ⟨w.heap.size+1+1,2,none⟩ (.bool J)).setCell ⟨w.heap.size+1+1,3,none⟩ (.slice M K c7)) (w.heap.size+1+1) [.bool j,.slice E A c5,.bool J,.slice M K c7]:=(((d2.o.r.set 0 _).set 1 _).set 2 _).set 3 _;generalize (((W8.setCell ⟨w.heap.size+1+1,0,none⟩ (.bool j)).setCell ⟨w.heap.size+1+1,1,none⟩ (.slice E A c5)).setCell ⟨w.heap.size+1+1,2,none⟩ (.bool J)).setCell ⟨w.heap.size+1+1,3,none⟩ (.slice M K c7)=W9 at *;obtain⟨m0,m1,m2,m3⟩:=hZ.k4;refine Jg (v:=.agg #[.bool j,.slice E A c5,.bool J,.slice M K c7]) ?_ rfl ⟨_,qn,dn,rfl,⟨j,_,J,_,rfl,q8.mono leR (by omega),q7.mono leR (by omega)⟩,m9.o,q6⟩;simp[results,results153,go_sem,m0,m1,m2,m3]
def MG (x y:Int)(z:Value):Prop:=∃ u v b,z=.agg #[.string u,.bool b,.string v]/\No x u/\(if y=1 then b=false/\v=⟨#[]⟩ else b=true/\No y v)
theorem Q1.shape {z:Value}{x:Int}(h:Q1 B w z x y n):∃ s1 p1 l1 c1 s2 p2 l2 c2,z=.agg #[.bool s1,.slice p1 l1 c1,.bool s2,.slice p2 l2 c2]/\Hr B w (.agg #[.bool s1,.slice p1 l1 c1]) x n/\Hr B w (.agg #[.bool s2,.slice p2 l2 c2]) y n:=by
 obtain⟨s1,j,s2,v2,rfl,d,h2⟩:=h;obtain⟨_,t1,_,⟨p1,c1,rfl,_⟩,_⟩:=d.parts;obtain⟨_,t2,_,⟨p2,c2,rfl,_⟩,_⟩:=h2.parts;exact⟨s1,p1,_,c1,s2,p2,_,c2,rfl,d,h2⟩
theorem PO (B:Nat)(z:Value)(x y:Int)(n:Nat)(w:World)(hBw:B<=w.heap.size)(h:Q1 B w z x y n)(hn:n<=600)(hSP:SP w)(hLT:LT w) :
 Calls prog 154 #[z] w fun e w'=>∃ r,e=.returned r/\MG x y r/\Up w w':=by
 have HR:=Hd h;obtain⟨s1,p1,l1,c1,s2,p2,l2,c2,rfl,h1,h2⟩:=h.shape;have d4:=Hd hSP;have O:=Hd hLT;have d3:=Hd hBw;have H1:=Hd h1;have H2:=Hd h2;clear h hSP hLT hBw h1 h2;obtain⟨W0,I⟩:=Oa ((w.alloc (.cells #[.bool s1,.slice p1 l1 c1,.bool s2,.slice p2 l2 c2] 159)).alloc (.cells #[.string ⟨#[]⟩,.bool false,.string ⟨#[]⟩] 171));have d6:=Hd I;have A:Hid (Up w W0):=by
  unfold Hid
  rw[<-I];exact Ob (Oz _ _) _
 have K:Bx W0 w.heap.size [.bool s1,.slice p1 l1 c1,.bool s2,.slice p2 l2 c2]:=by rw[<-I];exact (Oi w _ _).alloc _
 have V:Bx W0 (w.heap.size+1) [.string ⟨#[]⟩,.bool false,.string ⟨#[]⟩]:=by
  rw[<-I];have h:=Oi (w.alloc (.cells #[.bool s1,.slice p1 l1 c1,.bool s2,.slice p2 l2 c2] 159)) [.string ⟨#[]⟩,.bool false,.string ⟨#[]⟩] 171;rw[Jf] at h;exact h
 have Y:Hid (∀ W,Up W0 W->Bx W w.heap.size [.bool s1,.slice p1 l1 c1,.bool s2,.slice p2 l2 c2]/\Bx W (w.heap.size+1) [.string ⟨#[]⟩,.bool false,.string ⟨#[]⟩]):=fun W hW=>⟨K.bl K.lt hW,V.bl V.lt hW⟩;clear I;obtain⟨k0,k1,k2,k3⟩:=K.k4;clear K V
 go_in
 go_upto_region 1 with fail
 rw[d6.o]
 go_wp2_with fail
 refine (OB B _ x y n _ (by have:=d3.o;have:=A.o.size;omega) (HR.o.bl A.o) (d4.o.bl A.o)).mono ?_;rintro e w1 ⟨rfl,J⟩;have G:=Hd J;have a8:=A.o.trans (J.mono A.o.size);have j:=Hd a8;obtain⟨b6,e0⟩:=Y.o w1 J;clear k0 k1 k2 k3;obtain⟨k0,k1,k2,k3⟩:=b6.k4;clear J a8 b6 e0
 by_cases Z:y=1
 ·have hd:decide (y=1)=true:=Ja Z;have HY:=Hd Z;rw[hd];clear hd Z
  go_wp2_with fail
  refine (Ce B _ x n _ (H1.o.bl j.o) hn (O.o.bl j.o)).mono ?_;rintro e w2 ⟨u,rfl,hu,hb2⟩;have HU:=Hd hu;have E:=Hd (G.o.trans (hb2.mono G.o.size));have d:=(Y.o w2 E.o).2;obtain⟨r0,r1,r2⟩:=d.k3;obtain⟨f0,f1,f2⟩:=d.f3;clear hu hb2 d
  go_wp2
  have d:=(Y.o w2 E.o).2;have hZ:Bx (((w2.setCell ⟨w.heap.size+1,0,none⟩ (.string u)).setCell ⟨w.heap.size+1,1,none⟩ (.bool false)).setCell ⟨w.heap.size+1,2,none⟩ (.string ⟨#[]⟩)) (w.heap.size+1) [.string u,.bool false,.string ⟨#[]⟩]:=((d.set 0 _).set 1 _).set 2 _;have hE:=Dm (A.o.trans (E.o.mono A.o.size)) (w.heap.size+1) (Y4 _) (.string u) (.bool false) (.string ⟨#[]⟩);generalize ((w2.setCell ⟨w.heap.size+1,0,none⟩ (.string u)).setCell ⟨w.heap.size+1,1,none⟩ (.bool false)).setCell ⟨w.heap.size+1,2,none⟩ (.string ⟨#[]⟩)=WE at *;obtain⟨m0,m1,m2⟩:=hZ.k3;refine Jg (v:=.agg #[.string u,.bool false,.string ⟨#[]⟩]) ?_ rfl ⟨_,rfl,⟨u,_,_,rfl,HU.o,by rw[if_pos HY.o];exact⟨rfl,rfl⟩⟩,hE⟩;simp[results,results154,go_sem,m0,m1,m2]
 have hd:decide (y=1)=false:=Jc Z;have HY:=Hd Z;rw[hd];clear hd Z
 go_wp2
 go_region_with (first
  | (go_at_call_of 183 (Value.slice p1 l1 c1)
     refine (Ce B _ x n _ (H1.o.bl (j.o.trans ((Je _ w1).drew.mono j.o.size))) hn (O.o.bl (j.o.trans ((Je _ w1).drew.mono j.o.size)))).mono ?_;rintro e w2 ⟨u,rfl,hu,hb2⟩;have HU:=Hd hu;have E:Hid (Up w1 w2):=(Je _ w1).drew.trans hb2;have U:=(Y.o w2 (G.o.trans (E.o.mono G.o.size))).1;have j2:=U.cell 2;have j3:=U.cell 3;simp only[Jm,Js] at j2 j3;clear hu hb2 U)
  | (go_at_call_of 183 (Value.slice p2 l2 c2)
     refine (Ce B _ y n _ (H2.o.bl (j.o.trans (E.o.mono j.o.size))) hn (O.o.bl (j.o.trans (E.o.mono j.o.size)))).mono ?_;rintro e w3 ⟨v,rfl,hv,b3⟩;have HV:=Hd hv;have M:Hid (Up W0 w3):=G.o.trans ((E.o.trans (b3.mono E.o.size)).mono G.o.size);have d:=(Y.o w3 M.o).2;obtain⟨r0,r1,r2⟩:=d.k3;obtain⟨f0,f1,f2⟩:=d.f3;clear hv b3 d))
 all_goals
  try simp only[Y3,Yv,Yp,Act.put,Jp,Jz,J0]
  go_wp2
  have d:=(Y.o w3 M.o).2;have hZ:Bx (((w3.setCell ⟨w.heap.size+1,0,none⟩ (.string u)).setCell ⟨w.heap.size+1,1,none⟩ (.bool true)).setCell ⟨w.heap.size+1,2,none⟩ (.string v)) (w.heap.size+1) [.string u,.bool true,.string v]:=((d.set 0 _).set 1 _).set 2 _;have hE:=Dm (A.o.trans (M.o.mono A.o.size)) (w.heap.size+1) (Y4 _) (.string u) (.bool true) (.string v);generalize ((w3.setCell ⟨w.heap.size+1,0,none⟩ (.string u)).setCell ⟨w.heap.size+1,1,none⟩ (.bool true)).setCell ⟨w.heap.size+1,2,none⟩ (.string v)=WE at *;obtain⟨m0,m1,m2⟩:=hZ.k3;refine Jg (v:=.agg #[.string u,.bool true,.string v]) ?_ rfl ⟨_,rfl,⟨u,_,_,rfl,HU.o,by rw[if_neg HY.o];exact⟨rfl,HV.o⟩⟩,hE⟩;simp[results,results154,go_sem,m0,m1,m2]
theorem VH (a c a' c':ByteArray)(b b':Bool)(w:World):(Op.equalIn 10000 171 (.agg #[.string a,.bool b,.string c]) (.agg #[.string a',.bool b',.string c'])).run prog w=.ok (a.toList==a'.toList&&b==b'&&c.toList==c'.toList) w:=by
 have u3:=underlying9;have u4:=underlying4;have a3:=Tryz.isAgg9;have a4:=Tryz.isAgg4;have z3:=Tryz.sizeOf9;have z4:=Tryz.sizeOf4;have h:prog.underlying 171=some (.struct (prog.fieldsOf 171)):=by kernel_rfl
 rw[show (10000:Nat)=9999+1 from rfl,run_equalIn_agg w 9999 171 _ _ h (by kernel_rfl)];simp only[Program.fieldsOf,underlying171]
 go_simp
 by_cases d:a.toList=a'.toList<;>by_cases h2:b=b'<;>by_cases h3:c.toList=c'.toList<;>simp[d,h2,h3]
theorem toList_inj {a b:ByteArray}:(a.toList==b.toList)=decide (a=b):=by
 by_cases h:a=b
 ·subst h;simp
 have:a.toList≠b.toList:=fun e=>h (by
  rw[Jk,Jk] at e;exact ByteArray.ext (Array.toList_inj.1 e))
 simp[h,this]
def RatV (s:ByteArray)(k:Option Nat)(x y:Int):Prop:=
 match k with
 | none=>isIntB s=true/\x=numT s/\y=1
 | some i=>(isIntB (cutP s (some i))=true/\isIntB (cutQ s (some i))=true)/\(numT (cutQ s (some i))≠0/\cutP s (some i)≠strB [48]/\cutQ s (some i)≠strB [49]/\isNeg (cutQ s (some i))=false/\Int.gcd (numT (cutP s (some i))) (numT (cutQ s (some i)))=1) /\
  x=numT (cutP s (some i))/\y=numT (cutQ s (some i))
def Qy (s:ByteArray)(b:Bool):Prop:=∃ k,IsCut s k/\(b=true↔∃ x y,RatV s k x y)
theorem Df (s1:Bool)(p1:Option Addr)(l1 c1:Nat)(w:World) :
 Calls prog 150 #[.agg #[.bool s1,.slice p1 l1 c1]] w fun e w'=>∃ s2 p2 l2 c2,e=.returned (.agg #[.bool s1,.slice p1 l1 c1,.bool s2,.slice p2 l2 c2])/\Hr w.heap.size w' (.agg #[.bool s2,.slice p2 l2 c2]) 1 3/\Up w w':=by
 obtain⟨J,d⟩:=Oa ((w.alloc (.cells #[.bool s1,.slice p1 l1 c1] 155)).alloc (.cells #[.bool false,.slice none 0 0,.bool false,.slice none 0 0] 159));have V:=Hd d;have A:Hid (Up w J):=by
  unfold Hid
  rw[<-d];exact Ob (Oz _ _) _
 have j:Bx J w.heap.size [.bool s1,.slice p1 l1 c1]:=by rw[<-d];exact (Oi w _ _).alloc _
 have G:Bx J (w.heap.size+1) [.bool false,.slice none 0 0,.bool false,.slice none 0 0]:=by
  rw[<-d];have h:=Oi (w.alloc (.cells #[.bool s1,.slice p1 l1 c1] 155)) [.bool false,.slice none 0 0,.bool false,.slice none 0 0] 159;rw[Jf] at h;exact h
 have HX:Hid (∀ W,Up J W->Bx W w.heap.size [.bool s1,.slice p1 l1 c1]/\Bx W (w.heap.size+1) [.bool false,.slice none 0 0,.bool false,.slice none 0 0]):=fun W hW=>⟨j.bl j.lt hW,G.bl G.lt hW⟩;clear d;obtain⟨k0,k1⟩:=j.k2;clear j G
 go_in
 go_upto_region 1 with fail
 rw[V.o]
 go_region_with (first
  | (go_at_call 178
     refine (Qs 1 _ (by decide)).mono ?_;rintro e K ⟨z,rfl,hz,M⟩;have E:Hid (Up J K):=(Je _ J).drew.trans M;obtain⟨s2,p2,l2,c2,rfl⟩:=hz.shape;have HZ:=Hd hz;obtain⟨U,I⟩:=HX.o K E.o;obtain⟨j0,j1⟩:=U.k2;obtain⟨r0,r1,r2,r3⟩:=I.k4;obtain⟨f0,f1,f2,f3⟩:=I.f4;clear hz M U I))
 all_goals
  try simp only[Y3,Yv,Yp,Act.put,Jp,Jz,J0]
  go_wp2
  have O:=(HX.o K E.o).2;have a7:Nh K (w.heap.size+1):=Hh O (by simp);have Z:=(HZ.o.mono (B':=w.heap.size) (n':=3) A.o.size leR).put4 a7 (.bool s1) (.slice p1 l1 c1) (.bool s2) (.slice p2 l2 c2);have Y:=Di (A.o.trans (E.o.mono A.o.size)) (w.heap.size+1) (Y4 _) (.bool s1) (.slice p1 l1 c1) (.bool s2) (.slice p2 l2 c2);have hZ:Bx ((((K.setCell ⟨w.heap.size+1,0,none⟩ (.bool s1)).setCell ⟨w.heap.size+1,1,none⟩ (.slice p1 l1 c1)).setCell ⟨w.heap.size+1,2,none⟩ (.bool s2)).setCell ⟨w.heap.size+1,3,none⟩ (.slice p2 l2 c2)) (w.heap.size+1) [.bool s1,.slice p1 l1 c1,.bool s2,.slice p2 l2 c2]:=(((O.set 0 _).set 1 _).set 2 _).set 3 _;generalize (((K.setCell ⟨w.heap.size+1,0,none⟩ (.bool s1)).setCell ⟨w.heap.size+1,1,none⟩ (.slice p1 l1 c1)).setCell ⟨w.heap.size+1,2,none⟩ (.bool s2)).setCell ⟨w.heap.size+1,3,none⟩ (.slice p2 l2 c2)=W9 at *;obtain⟨m0,m1,m2,m3⟩:=hZ.k4;refine Jg (v:=.agg #[.bool s1,.slice p1 l1 c1,.bool s2,.slice p2 l2 c2]) ?_ rfl ⟨s2,p2,l2,c2,rfl,Z,Y⟩;simp[results,results150,go_sem,m0,m1,m2,m3]
end Go.Proofs.YtdmdmgfjpomdbaaGreatDoor.Q
namespace Go.Proofs.YtdmdmgfjpomdbaaGreatDoor.Q
open ChangeShapes WideShapes ChangeAt RowKit
def RE (z:Value):Prop:=∃ s1 p1 l1 c1 s2 p2 l2 c2,z=.agg #[.bool s1,.slice p1 l1 c1,.bool s2,.slice p2 l2 c2]
def RK (B:Nat)(w:World)(s:ByteArray)(k:Option Nat)(z:Value)(ok:Bool):Prop:=
 RE z/\(ok=true↔∃ x y,RatV s k x y)/\(ok=true->∃ x y,RatV s k x y/\Q1 B w z x y 300)
theorem Q1.mono {B B':Nat}{w:World}{z:Value}{x y:Int}{n n':Nat}(h:Q1 B w z x y n)(hb:B'<=B)(hn:n<=n'):Q1 B' w z x y n':=by
 obtain⟨j,E,A,v2,e,d,h2⟩:=h;exact⟨j,E,A,v2,e,d.mono hb hn,h2.mono hb hn⟩
theorem Q1.put4 {B:Nat}{W:World}{z:Value}{x y:Int}{n:Nat}(h:Q1 B W z x y n){g:Nat}(no:Nh W g)(u0 u1 u2 u3:Value):Q1 B ((((W.setCell ⟨g,0,none⟩ u0).setCell ⟨g,1,none⟩ u1).setCell ⟨g,2,none⟩ u2).setCell ⟨g,3,none⟩ u3) z x y n:=by
 obtain⟨j,E,A,v2,e,d,h2⟩:=h;exact⟨j,E,A,v2,e,d.put4 no u0 u1 u2 u3,h2.put4 no u0 u1 u2 u3⟩
theorem DD (B:Nat)(W:World)(s p q u v:ByteArray)(i:Nat)(b bb ok:Bool)(z:Value)(xn xd:Int)(hP:cutP s (some i)=p/\cutQ s (some i)=q/\(some i).isSome=b)(hI:isIntB p=true/\isIntB q=true)(h0:numT q≠0)(hl:Pc (numT p) (numT q) xn xd)
 (hu:No xn u/\(if xd=1 then bb=false/\v=⟨#[]⟩ else bb=true/\No xd v)) (hok:(u.toList==p.toList&&bb==b&&v.toList==q.toList)=ok) (hR:Q1 B W z xn xd 283):RK B W s (some i) z ok:=by
 obtain⟨rfl,rfl,hb⟩:=hP;have E:b=true:=hb.symm;subst E;have d:ok=true↔(xd≠1/\No xn (cutP s (some i))/\No xd (cutQ s (some i))):=by
  rw[<-hok,toList_inj,toList_inj];simp only[J3,Yi,Yf];constructor
  ·rintro⟨⟨rfl,rfl⟩,rfl⟩
   by_cases j:xd=1
   ·rw[if_pos j] at hu;exact absurd hu.2.1 (by decide)
   rw[if_neg j] at hu;exact⟨j,hu.1,hu.2.2⟩
  rintro⟨j,h2,h3⟩;rw[if_neg j] at hu;exact⟨⟨hu.1.eq h2,hu.2.1⟩,hu.2.2.eq h3⟩
 have A:=DP _ _ xn xd hI.1 hI.2 h0 hl;have I:ok=true->RatV s (some i) (numT (cutP s (some i))) (numT (cutQ s (some i))):=fun e=>by
  obtain⟨a1,a2,a3,a4⟩:=A.1 (d.1 e);exact⟨hI,⟨h0,a1,a2,a3,a4⟩,rfl,rfl⟩
 have G:RE z:=by
  obtain⟨V,O,K,c1,Y,U,M,c2,h,_⟩:=hR.shape;exact⟨V,O,K,c1,Y,U,M,c2,h⟩
 refine⟨G,⟨fun e=>⟨_,_,I e⟩,?_⟩,fun e=>?_⟩
 ·rintro⟨x,y,_,⟨_,a1,a2,a3,a4⟩,_,_⟩;exact d.2 (A.2 ⟨a1,a2,a3,a4⟩)
 obtain⟨_,t1,t2⟩:=d.1 e;have J:=Dr t1 (Hz _ hI.1) (Dp _ hI.1);have e2:=Dr t2 (Hz _ hI.2) (Dp _ hI.2);refine⟨_,_,I e,?_⟩;rw[<-J,<-e2];exact hR.mono leR (by omega)
end Go.Proofs.YtdmdmgfjpomdbaaGreatDoor.Q
