import Derived.Test.YtjjgilacnocigaaGreatDoorP08
set_option maxRecDepth 100000
set_option maxHeartbeats 4000000
namespace Go.Proofs.YtjjgilacnocigaaGreatDoor.Q
open ChangeShapes WideShapes ChangeAt RowKit Proofs.Tryz
variable {B g zc zl:Nat}{W W' w:World}{x z0:Int}{yn zn:Bool}{za:Option Addr}
theorem KE (x z:Int)(y:Bool)(w:World):(Instr.field 179 (.agg #[.int .i64 x,.bool y,.int .i64 z]) 1).run prog w=.ok (.bool y) w:=by kernel_rfl
theorem YV (B:Nat)(s t:Bool)(va vb:Value)(a b:List Nat)(w:World)(hBw:B<=w.heap.size)(ha:Kn B w va a)(hb:Kn B w vb b)(hla:a.length<=90000)(hlb:b.length<=90000)(hta:Oq a)(htb:Oq b)(hne:b≠[])(hSP:SP w) :
 Calls prog 133 #[.agg #[.bool s,va],.agg #[.bool t,vb]] w fun e w'=>∃ z1 z2 q r,e=.returned (.tuple #[z1,z2])/\N8 B w' z1 q (a.length+2)/\N8 B w' z2 r (b.length+3)/\Nf (sg s (val a)) (sg t (val b)) q r/\Up w w':=by
 have HA:Hid (∀ W,Up w W->Kn B W va a):=fun W hW=>ha.bl hW;have HB:Hid (∀ W,Up w W->Kn B W vb b):=fun W hW=>hb.bl hW;obtain⟨pa,ca,rfl,_,_,d8,_⟩:=ha;obtain⟨pb,cb,rfl,_,_,d9,_⟩:=hb;have HX:=UF w s pa a.length ca t pb b.length cb 85;obtain⟨W0,c6⟩:=O2 ((((w.alloc (.cells #[.bool s,.slice pa a.length ca] 85)).alloc (.cells #[.bool t,.slice pb b.length cb] 85)).alloc (.cells #[.bool false,.slice none 0 0] 85)).alloc (.cells #[.bool false,.slice none 0 0] 85));have j3:=Em c6;have e4:Up w W0:=by rw[<-c6];exact Ou (Ou (Ou (Oo _ _) _) _) _
 have f7:=Em e4;have g7:W0.heap.size=w.heap.size+4:=by rw[<-c6];simp
 rw[c6] at HX;have HS:=Em g7;have H:Hid (∀ W,Up W0 W->BoxD w.heap.size W s pa a.length ca t pb b.length cb):=fun W hW=>HX.bl (by omega) hW;have HF:Hid (∀ W,Up W0 W->Up w W):=fun W hW=>e4.trans (hW.mono (by omega));have e2:Hid (∀ W,Up w W->SP W):=fun W hW=>hSP.bl hW;have HT:Hid (Oq a/\Oq b/\b≠[]/\B<=w.heap.size):=⟨hta,htb,hne,hBw⟩;have j1:Hid (Kx a/\Kx b):=⟨d8,d9⟩;obtain⟨a0,a1,b0,b1,r0,r1,t0,t1,f⟩:=HX;clear f c6 g7 e4 hta htb hne hBw d8 d9 hSP;have m9:=KE
 go_in
 go_wp2_with fail
 rw[j3.o];refine (D6 B _ _ a b _ (by have:=HS.o;have:=HT.o;omega) (HA.o _ f7.o) (HB.o _ f7.o) (by omega) HT.o.1 HT.o.2.1 HT.o.2.2.1).mono ?_;rintro e Z ⟨v,u,Q,U,rfl,hD,g1⟩;have d:=Hd g1;have a7:Hid (∀ W,Up Z W->Kn B W v Q):=fun W hW=>hD.1.1.bl hW;have a8:Hid (∀ W,Up Z W->Kn B W u U):=fun W hW=>hD.1.2.bl hW;have j9:Kx U:=by obtain⟨_,_,_,_,_,h,_⟩:=hD.1.2;exact h
 have g0:U.length<=b.length:=Dz U b hD.2.1.2 j1.o.2 hD.2.2.2.2;have D:Hid (Q.length<=a.length/\U.length<=b.length):=⟨hD.2.2.1.1,g0⟩;have b3:Hid (val a=val Q*val b+val U/\val U<val b/\Oq U):=⟨hD.2.2.2.1,hD.2.2.2.2,hD.2.1.2⟩;obtain⟨pv,cv,hv,_⟩:=id hD.1.1;obtain⟨pu,cu,hu,_⟩:=id hD.1.2;obtain⟨lv,e7⟩:=O2 Q.length;obtain⟨lu,e6⟩:=O2 U.length;subst hv hu;rw[e7] at a7 D ⊢;rw[e6] at a8 D ⊢;have I:Hid (Q.length=lv/\U.length=lu):=⟨e7,e6⟩;clear a0 a1 b0 b1 r0 r1 t0 t1 g1 hD g0 e7 e6 j9
 cases s
 ·have b6:Hid (Nf (sg false (val a)) (sg t (val b)) (sg t (val Q)) (sg false (val U))):=by
   have h:=Sr t _ _ _ _ b3.o.1 b3.o.2.1;rw[show (false != t)=t by cases t<;>rfl] at h;exact h
  have D:Hid (Q.length<=a.length+2/\U.length<=b.length+3):=by have:=D.o;have:=I.o;exact⟨by omega,by omega⟩
  obtain⟨k0,k1,l0,l1,m0,m1,n0,n1,f,z⟩:=H.o Z d.o;clear f z
  go_wp2_with fail
  refine (Iz _ _ _ _ _ _ _ _ _ (e2.o _ (HF.o _ d.o))).mono ?_;rintro e ws ⟨rfl,V⟩;have G:=Hd V;clear V k0 k1 l0 l1 m0 m1 n0 n1
  go_wp2_with fail
  refine (K4 B t _ Q _ (a7.o _ G.o)).mono ?_;rintro e wm ⟨v',rfl,hcut,O⟩;have E:=G.up O;have J:Hid (∀ W,Up Z W->Kn B W v' (Ov Q)):=fun W hW=>hcut _ _ (a7.o W hW);obtain⟨pq,cq,hq,_⟩:=J.o wm E.o;subst hq;clear hcut O
  go_wp2_with fail
  refine (K4 B false _ U _ (a8.o _ E.o)).mono ?_;rintro e F ⟨u',rfl,hcut,T⟩;have j:=E.up T;have K:Hid (∀ W,Up Z W->Kn B W u' (Ov U)):=fun W hW=>hcut _ _ (a8.o W hW);obtain⟨pr,cr,hr,_⟩:=K.o F j.o;subst hr;obtain⟨_,_,_,_,u0,u1,w0,w1,f,z⟩:=H.o F (d.o.trans (j.o.mono d.o.size));have i20:=f 2 (by omega) 0;have i21:=f 2 (by omega) 1;have h1:=f 3 (by omega) 0;have h6:=f 3 (by omega) 1;have Y:Hid (Kh F (w.heap.size+2)/\Kh F (w.heap.size+3)):=⟨z 2 (by omega),z 3 (by omega)⟩;clear hcut T f z
  go_wp2
  have b7:Hid (Up w F):=HF.o _ (d.o.trans (j.o.mono d.o.size));refine Jh ?_ rfl ⟨_,_,_,_,rfl,⟨t,_,Ov Q,rfl,(J.o _ j.o).keeps Y.o.1 Y.o.2 (((((K0.refl _ _ F).setCell _ _ ?_).setCell _ _ ?_).setCell _ _ ?_).setCell _ _ ?_),O8 _,rfl,?_⟩,⟨false,_,Ov U,rfl,(K.o _ j.o).keeps Y.o.1 Y.o.2 (((((K0.refl _ _ F).setCell _ _ ?_).setCell _ _ ?_).setCell _ _ ?_).setCell _ _ ?_),O8 _,rfl,?_⟩,?_,(((b7.o.setCell ?_ _).setCell ?_ _).setCell ?_ _).setCell ?_ _⟩
  all_goals first
   | (simp[results,results133,go_sem,u0,u1,w0,w1];done)
   | (simp;omega)
   | (have:=Kl Q;have:=D.o;omega)
   | (have:=Kl U;have:=D.o;omega)
   | (rw[O9,O9];exact b6.o)
 by_cases j8:lu=0
 ·subst j8;have b6:Hid (Nf (sg true (val a)) (sg t (val b)) (sg (!t) (val Q)) (sg false (val U))):=by
   have e:U=[]:=Jo I.o.2;have h:=b3.o;rw[e] at h ⊢;have h2:=By t _ _ _ h.1 (by have:=h.2.1;simp[val] at this;omega);rw[show (true != t)=!t by cases t<;>rfl] at h2;exact h2
  have D:Hid (Q.length<=a.length+2/\U.length<=b.length+3):=by have:=D.o;have:=I.o;exact⟨by omega,by omega⟩
  obtain⟨k0,k1,l0,l1,m0,m1,n0,n1,f,z⟩:=H.o Z d.o;clear f z
  go_wp2_with fail
  refine (Iz _ _ _ _ _ _ _ _ _ (e2.o _ (HF.o _ d.o))).mono ?_;rintro e ws ⟨rfl,V⟩;have G:=Hd V;clear V k0 k1 l0 l1 m0 m1 n0 n1
  go_wp2_with fail
  refine (K4 B (!t) _ Q _ (a7.o _ G.o)).mono ?_;rintro e wm ⟨v',rfl,hcut,O⟩;have E:=G.up O;have J:Hid (∀ W,Up Z W->Kn B W v' (Ov Q)):=fun W hW=>hcut _ _ (a7.o W hW);obtain⟨pq,cq,hq,_⟩:=J.o wm E.o;subst hq;clear hcut O
  go_wp2_with fail
  refine (K4 B false _ U _ (a8.o _ E.o)).mono ?_;rintro e F ⟨u',rfl,hcut,T⟩;have j:=E.up T;have K:Hid (∀ W,Up Z W->Kn B W u' (Ov U)):=fun W hW=>hcut _ _ (a8.o W hW);obtain⟨pr,cr,hr,_⟩:=K.o F j.o;subst hr;obtain⟨_,_,_,_,u0,u1,w0,w1,f,z⟩:=H.o F (d.o.trans (j.o.mono d.o.size));have i20:=f 2 (by omega) 0;have i21:=f 2 (by omega) 1;have h1:=f 3 (by omega) 0;have h6:=f 3 (by omega) 1;have Y:Hid (Kh F (w.heap.size+2)/\Kh F (w.heap.size+3)):=⟨z 2 (by omega),z 3 (by omega)⟩;clear hcut T f z
  go_wp2
  have b7:Hid (Up w F):=HF.o _ (d.o.trans (j.o.mono d.o.size));refine Jh ?_ rfl ⟨_,_,_,_,rfl,⟨(!t),_,Ov Q,rfl,(J.o _ j.o).keeps Y.o.1 Y.o.2 (((((K0.refl _ _ F).setCell _ _ ?_).setCell _ _ ?_).setCell _ _ ?_).setCell _ _ ?_),O8 _,rfl,?_⟩,⟨false,_,Ov U,rfl,(K.o _ j.o).keeps Y.o.1 Y.o.2 (((((K0.refl _ _ F).setCell _ _ ?_).setCell _ _ ?_).setCell _ _ ?_).setCell _ _ ?_),O8 _,rfl,?_⟩,?_,(((b7.o.setCell ?_ _).setCell ?_ _).setCell ?_ _).setCell ?_ _⟩
  all_goals first
   | (simp[results,results133,go_sem,u0,u1,w0,w1];done)
   | (simp;omega)
   | (have:=Kl Q;have:=D.o;omega)
   | (have:=Kl U;have:=D.o;omega)
   | (rw[O9,O9];exact b6.o)
 have hp:0<lu:=by omega
 have j2:Hid (0<val U):=by
  have e:U≠[]:=by intro e;rw[e] at I;have:=I.o.2;simp at this;omega
  exact Gp U b3.o.2.2 e
 obtain⟨k0,k1,l0,l1,m0,m1,n0,n1,f,z⟩:=H.o Z d.o;clear f z
 go_wp2_with fail
 have e0:Kn Z.heap.size (Z.alloc (.cells #[.int .u32 1] 127)) (.slice (some ⟨Z.heap.size,0,none⟩) 1 1) [1]:=GX _ _ 1 _ (by omega) rfl rfl O1;refine (Td B _ _ Q [1] _ (a7.o _ (Oo _ _)) (e0.mono (by have:=d.o.size;have:=HS.o;have:=HT.o.2.2.2;omega)) (by have:=D.o;have:=I.o;omega) (by simp)).mono ?_;clear e0;rintro e wy ⟨v2,Q2,rfl,e8,g9,g3,k5,g2⟩;have a6:Hid (Up Z wy):=(Oo Z (.cells #[.int .u32 1] 127)).trans (g2.mono (by simp));have b8:Hid (Kn B wy v2 Q2/\val Q2=val Q+1/\Q2.length<=a.length+2):=⟨e8.mono (by have:=d.o.size;have:=HS.o;have:=HT.o.2.2.2;simp;omega),by rw[g9];simp[val],by have:=D.o;have:=I.o;simp at g3;omega⟩;obtain⟨l4,j7,k8,_⟩:=id e8;subst k8;clear e8 g9 g3 k5 g2 k0 k1 l0 l1 m0 m1 n0 n1;obtain⟨k0,k1,l0,l1,m0,m1,n0,n1,f,z⟩:=H.o wy (d.o.trans (a6.o.mono d.o.size));clear f z
 go_wp2_with fail
 refine (Wx B _ _ b U _ (HB.o _ (HF.o _ (d.o.trans (a6.o.mono d.o.size)))) (a8.o _ a6.o) HT.o.2.2.1 (by omega) (by have:=D.o;have:=I.o;omega) (by have:=b3.o;omega)).mono ?_;rintro e wz ⟨u2,U2,rfl,e9,h0,g4,k7,e5⟩;have b4:Hid (Up W0 wz):=d.o.trans ((a6.o.trans (e5.mono a6.o.size)).mono d.o.size);have d5:Hid (∀ W,Up wz W->Kn B W (.slice l4 Q2.length j7) Q2):=fun W hW=>(b8.o.1.bl e5).bl hW;have d7:Hid (∀ W,Up wz W->Kn B W u2 U2):=fun W hW=>(e9.mono (by have:=a6.o.size;have:=d.o.size;have:=HS.o;have:=HT.o.2.2.2;omega)).bl hW;have b6:Hid (Nf (sg true (val a)) (sg t (val b)) (sg (!t) (val Q2)) (sg false (val U2))):=by
  rw[b8.o.2.1];have h2:=C7 t _ _ _ _ _ b3.o.1 h0 j2.o;rw[show (true != t)=!t by cases t<;>rfl] at h2;exact h2
 have d4:Hid (Q2.length<=a.length+2/\U2.length<=b.length+3):=⟨b8.o.2.2,by omega⟩;obtain⟨n5,m8,g8,_⟩:=id e9;subst g8;clear e9 h0 g4 k7 e5 k0 k1 l0 l1 m0 m1 n0 n1;obtain⟨k0,k1,l0,l1,m0,m1,n0,n1,f,z⟩:=H.o wz b4.o;clear f z
 go_wp2_with fail
 refine (Iz _ _ _ _ _ _ _ _ _ (e2.o _ (HF.o _ b4.o))).mono ?_;rintro e ws ⟨rfl,V⟩;have G:=Hd V;clear V k0 k1 l0 l1 m0 m1 n0 n1
 go_wp2_with fail
 refine (K4 B (!t) _ Q2 _ (d5.o _ G.o)).mono ?_;rintro e wm ⟨v',rfl,hcut,O⟩;have E:=G.up O;have J:Hid (∀ W,Up wz W->Kn B W v' (Ov Q2)):=fun W hW=>hcut _ _ (d5.o W hW);obtain⟨pq,cq,hq,_⟩:=J.o wm E.o;subst hq;clear hcut O
 go_wp2_with fail
 refine (K4 B false _ U2 _ (d7.o _ E.o)).mono ?_;rintro e F ⟨u',rfl,hcut,T⟩;have j:=E.up T;have K:Hid (∀ W,Up wz W->Kn B W u' (Ov U2)):=fun W hW=>hcut _ _ (d7.o W hW);obtain⟨pr,cr,hr,_⟩:=K.o F j.o;subst hr;obtain⟨_,_,_,_,u0,u1,w0,w1,f,z⟩:=H.o F (b4.o.trans (j.o.mono b4.o.size));have i20:=f 2 (by omega) 0;have i21:=f 2 (by omega) 1;have h1:=f 3 (by omega) 0;have h6:=f 3 (by omega) 1;have Y:Hid (Kh F (w.heap.size+2)/\Kh F (w.heap.size+3)):=⟨z 2 (by omega),z 3 (by omega)⟩;clear hcut T f z
 go_wp2
 have b7:Hid (Up w F):=HF.o _ (b4.o.trans (j.o.mono b4.o.size));refine Jh ?_ rfl ⟨_,_,_,_,rfl,⟨(!t),_,Ov Q2,rfl,(J.o _ j.o).keeps Y.o.1 Y.o.2 (((((K0.refl _ _ F).setCell _ _ ?_).setCell _ _ ?_).setCell _ _ ?_).setCell _ _ ?_),O8 _,rfl,?_⟩,⟨false,_,Ov U2,rfl,(K.o _ j.o).keeps Y.o.1 Y.o.2 (((((K0.refl _ _ F).setCell _ _ ?_).setCell _ _ ?_).setCell _ _ ?_).setCell _ _ ?_),O8 _,rfl,?_⟩,?_,(((b7.o.setCell ?_ _).setCell ?_ _).setCell ?_ _).setCell ?_ _⟩
 all_goals first
  | (simp[results,results133,go_sem,u0,u1,w0,w1];done)
  | (simp;omega)
  | (have:=Kl Q2;have:=d4.o;omega)
  | (have:=Kl U2;have:=d4.o;omega)
  | (rw[O9,O9];exact b6.o)
structure BoxQ (g:Nat)(W:World)(x:Int)(xn:Bool)(pa:Option Addr)(la ca:Nat)(y:Int)(yn:Bool)(pb:Option Addr)(lb cb:Nat):Prop where
 a0:W.cell? ⟨g,0,none⟩=some (.int .i64 x)
 a1:W.cell? ⟨g,1,none⟩=some (.bool xn)
 a2:W.cell? ⟨g,2,none⟩=some (.slice pa la ca)
 b0:W.cell? ⟨g+1,0,none⟩=some (.int .i64 y)
 b1:W.cell? ⟨g+1,1,none⟩=some (.bool yn)
 b2:W.cell? ⟨g+1,2,none⟩=some (.slice pb lb cb)
 r0:W.cell? ⟨g+2,0,none⟩=some (.int .i64 0)
 r1:W.cell? ⟨g+2,1,none⟩=some (.bool false)
 r2:W.cell? ⟨g+2,2,none⟩=some (.slice none 0 0)
 t0:W.cell? ⟨g+3,0,none⟩=some (.int .i64 0)
 t1:W.cell? ⟨g+3,1,none⟩=some (.bool false)
 t2:W.cell? ⟨g+3,2,none⟩=some (.slice none 0 0)
 f:∀ k,k<4->∀ i,W.frozen? ⟨g+k,i,none⟩=false
theorem BoxQ.bl {xn:Bool}{pa:Option Addr}{la ca:Nat}{y:Int}{pb:Option Addr}{lb cb:Nat}(h:BoxQ g W x xn pa la ca y yn pb lb cb){N:Nat}(hN:g+4<=N)(hb:Below N W W'):BoxQ g W' x xn pa la ca y yn pb lb cb:=by
 have q:∀ k,k<4->∀ i,W'.cell? ⟨g+k,i,none⟩=W.cell? ⟨g+k,i,none⟩:=fun k hk i=>hb.cell (p:=⟨g+k,i,none⟩) (by show g+k<N;omega);have f:∀ k,k<4->∀ i,W'.frozen? ⟨g+k,i,none⟩=W.frozen? ⟨g+k,i,none⟩:=fun k hk i=>hb.frozen (p:=⟨g+k,i,none⟩) (by show g+k<N;omega);exact⟨(q 0 (by omega) 0).trans h.a0,(q 0 (by omega) 1).trans h.a1,(q 0 (by omega) 2).trans h.a2,(q 1 (by omega) 0).trans h.b0,(q 1 (by omega) 1).trans h.b1,(q 1 (by omega) 2).trans h.b2,(q 2 (by omega) 0).trans h.r0,(q 2 (by omega) 1).trans h.r1,(q 2 (by omega) 2).trans h.r2,(q 3 (by omega) 0).trans h.t0,(q 3 (by omega) 1).trans h.t1,(q 3 (by omega) 2).trans h.t2,fun k hk i=>(f k hk i).trans (h.f k hk i)⟩
theorem Mr (w:World)(x:Int)(xn:Bool)(pa:Option Addr)(la ca:Nat)(y:Int)(yn:Bool)(pb:Option Addr)(lb cb:Nat)(ty:TypeId) :
 BoxQ w.heap.size ((((w.alloc (.cells #[.int .i64 x,.bool xn,.slice pa la ca] ty)).alloc (.cells #[.int .i64 y,.bool yn,.slice pb lb cb] ty)).alloc (.cells #[.int .i64 0,.bool false,.slice none 0 0] ty)).alloc (.cells #[.int .i64 0,.bool false,.slice none 0 0] ty)) x xn pa la ca y yn pb lb cb:=by
 refine⟨?_,?_,?_,?_,?_,?_,?_,?_,?_,?_,?_,?_,?_⟩
 iterate 3 · rw[Jk _ _ _ (by simp<;>omega),Jk _ _ _ (by simp<;>omega),Jk _ _ _ (by simp),Jg _ _ _ _ rfl];rfl
 iterate 3 · rw[Jk _ _ _ (by simp<;>omega),Jk _ _ _ (by simp<;>omega),Jg _ _ _ _ (by simp)];rfl
 iterate 3 · rw[Jk _ _ _ (by simp<;>omega),Jg _ _ _ _ (by simp)];rfl
 iterate 3 · rw[Jg _ _ _ _ (by simp)];rfl
 intro k d i
 match k,d with
 | 0,_=>rw[Ys _ _ _ (by simp<;>omega),Ys _ _ _ (by simp<;>omega),Ys _ _ _ (by simp),Jv _ _ _ _ (by simp)]
 | 1,_=>rw[Ys _ _ _ (by simp<;>omega),Ys _ _ _ (by simp<;>omega),Jv _ _ _ _ (by simp)]
 | 2,_=>rw[Ys _ _ _ (by simp<;>omega),Jv _ _ _ _ (by simp)]
 | 3,_=>rw[Jv _ _ _ _ (by simp)]
theorem NH (x y:Int)(hx1 : -1000000000000000000<x)(hx2:x<1000000000000000000)(hy:y≠0) :
 y*x.tdiv y+x.tmod y=x/\(x.tmod y).natAbs<y.natAbs/\(x.tdiv y).natAbs<=999999999999999999/\(x.tmod y≠0->(x.tdiv y).natAbs<=499999999999999999):=by
 have d:(x.tmod y).natAbs<y.natAbs:=by rw[Int.natAbs_tmod];exact Zy _ (by omega)
 refine⟨Int.mul_tdiv_add_tmod x y,d,?_,fun hr=>?_⟩
 ·rw[Int.natAbs_tdiv];exact Yt (Nat.div_le_self _ _) (by omega)
 rw[Int.natAbs_tdiv];have j:2<=y.natAbs:=by omega
 have h3:x.natAbs / y.natAbs<=x.natAbs / 2:=Nat.div_le_div_left j (by omega);exact Yt h3 (by omega)
theorem MM (x y q r:Int)(h:y*q+r=x)(hr:0<=r)(hl:r.natAbs<y.natAbs):Nf x y q r:=⟨by rw[Int.mul_comm];exact h.symm,hr,by omega⟩
theorem MB (x y q r:Int)(h:y*q+r=x)(hr:r<0)(hl:r.natAbs<y.natAbs)(hy:0<y):Nf x y (q - 1) (r+y):=⟨by rw[Int.sub_mul,Int.mul_comm q];omega,by omega,by omega⟩
theorem MA (x y q r:Int)(h:y*q+r=x)(hr:r<0)(hl:r.natAbs<y.natAbs)(hy:y<0):Nf x y (q+1) (r - y):=⟨by rw[Int.add_mul,Int.mul_comm q];omega,by omega,by omega⟩
theorem ZU (x y:Int)(w:World)(hx1 : -1000000000000000000<x)(hx2:x<1000000000000000000)(hy1 : -1000000000000000000<y)(hy2:y<1000000000000000000)(hy:y≠0) :
 Calls prog 114 #[.agg #[.int .i64 x,.bool false,.slice none 0 0],.agg #[.int .i64 y,.bool false,.slice none 0 0]] w fun e w'=>∃ z1 z2 q r,e=.returned (.tuple #[z1,z2])/\(Nb w.heap.size w' z1 q/\Nb w.heap.size w' z2 r)/\Nf x y q r/\Up w w':=by
 have HX:=Mr w x false none 0 0 y false none 0 0 72;obtain⟨K,j⟩:=O2 ((((w.alloc (.cells #[.int .i64 x,.bool false,.slice none 0 0] 72)).alloc (.cells #[.int .i64 y,.bool false,.slice none 0 0] 72)).alloc (.cells #[.int .i64 0,.bool false,.slice none 0 0] 72)).alloc (.cells #[.int .i64 0,.bool false,.slice none 0 0] 72));have Z:=Em j;have Y:Hid (Up w K):=by rw[<-j];exact Ou (Ou (Ou (Oo _ _) _) _) _
 have T:K.heap.size=w.heap.size+4:=by rw[<-j];simp
 rw[j] at HX;have HS:=Em T;have J:Hid (∀ W,Up K W->BoxQ w.heap.size W x false none 0 0 y false none 0 0):=fun W hW=>HX.bl (by omega) hW;obtain⟨a0,a1,a2,b0,b1,b2,r0,r1,r2,t0,t1,t2,_⟩:=HX;clear j T;obtain⟨U,d2,d3,V⟩:=NH x y hx1 hx2 hy;obtain⟨q,hq⟩:=O2 (x.tdiv y);obtain⟨r,hr⟩:=O2 (x.tmod y);rw[hq] at U d3 V;rw[hr] at U d2 V;have H:Hid (y*q+r=x/\r.natAbs<y.natAbs):=⟨U,d2⟩;have q1 : -1000000000000000000<q:=by omega
 have q2:q<1000000000000000000:=by omega
 have s1 : -1000000000000000000<r:=by omega
 have s2:r<1000000000000000000:=by omega
 have d:Hid (r≠0->q.natAbs<=499999999999999999):=V;clear U d2 d3 V;have G:0<=r∨(r<0/\0<y)∨(r<0/\y<0):=by omega
 rcases G with O|⟨O,F⟩|⟨O,F⟩
 all_goals
  go_in
  go_wp2_with fail
  rw[Z.o];refine (O0 _ _ _ _ _ _).mono ?_;rintro e wA ⟨rfl,hA⟩;have D:Hid (Up K wA):=by rw[hA];exact Oo _ _
  clear hA a0 a1 a2 b0 b1 b2 r0 r1 r2 t0 t1 t2;obtain⟨a0,a1,a2,b0,b1,b2,r0,r1,r2,t0,t1,t2,f⟩:=J.o wA D.o;clear f
  go_wp2_with fail
  refine (O0 _ _ _ _ _ _).mono ?_;rintro e wB ⟨rfl,hB⟩;have I:Hid (Up K wB):=by rw[hB];exact D.o.alloc D.o.size _
  have E:Hid (Up w wB):=Y.o.trans (I.o.mono (by have:=HS.o;omega));clear hB a0 a1 a2 b0 b1 b2 r0 r1 r2 t0 t1 t2;obtain⟨a0,a1,a2,b0,b1,b2,r0,r1,r2,t0,t1,t2,f⟩:=J.o wB I.o;have b8:=f 2 (by omega) 0;have b9:=f 2 (by omega) 1;have c6:=f 2 (by omega) 2;have c7:=f 3 (by omega) 0;have c8:=f 3 (by omega) 1;have d0:=f 3 (by omega) 2;clear f
  go_wp2
 ·refine Jh ?_ rfl ⟨_,_,q,r,rfl,⟨Hc _ _ q (by omega) (by omega),Hc _ _ r (by omega) (by omega)⟩,MM x y q r H.o.1 O H.o.2,(((((E.o.setCell ?_ _).setCell ?_ _).setCell ?_ _).setCell ?_ _).setCell ?_ _).setCell ?_ _⟩
  all_goals first
   | (simp[results,results114,go_sem,r0,r1,r2,t0,t1,t2];done)
   | (simp;omega)
 ·go_region
  all_goals
   go_wp2
   refine Jh ?_ rfl ⟨_,_,(q - 1),(r+y),rfl,⟨Hc _ _ (q - 1) (by have:=d.o;omega) (by have:=d.o;omega),Hc _ _ (r+y) (by have:=d.o;omega) (by have:=d.o;omega)⟩,MB x y q r H.o.1 O H.o.2 F,((((((E.o.setCell ?_ _).setCell ?_ _).setCell ?_ _).setCell ?_ _).setCell ?_ _).setCell ?_ _).drew⟩
   all_goals first
    | (simp[results,results114,go_sem,r0,r1,r2,t0,t1,t2];done)
    | (simp;omega)
 go_region
 all_goals
  go_wp2
  refine Jh ?_ rfl ⟨_,_,(q+1),(r - y),rfl,⟨Hc _ _ (q+1) (by have:=d.o;omega) (by have:=d.o;omega),Hc _ _ (r - y) (by have:=d.o;omega) (by have:=d.o;omega)⟩,MA x y q r H.o.1 O H.o.2 F,((((((E.o.setCell ?_ _).setCell ?_ _).setCell ?_ _).setCell ?_ _).setCell ?_ _).setCell ?_ _).drew⟩
  all_goals first
   | (simp[results,results114,go_sem,r0,r1,r2,t0,t1,t2];done)
   | (simp;omega)
structure BoxV (g:Nat)(W:World)(z0:Int)(zn:Bool)(za:Option Addr)(zl zc:Nat):Prop where
 lt:g<W.heap.size
 c0:W.cell? ⟨g,0,none⟩=some (.int .i64 z0)
 c1:W.cell? ⟨g,1,none⟩=some (.bool zn)
 c2:W.cell? ⟨g,2,none⟩=some (.slice za zl zc)
 f:∀ i,W.frozen? ⟨g,i,none⟩=false
 n:Kh W g
theorem BoxV.bl {N:Nat}(h:BoxV g W z0 zn za zl zc)(hN:g<N)(hb:Below N W W'):BoxV g W' z0 zn za zl zc:=
 ⟨Js h.lt hb.size,(hb.cell (p:=⟨g,0,none⟩) hN).trans h.c0,(hb.cell (p:=⟨g,1,none⟩) hN).trans h.c1,(hb.cell (p:=⟨g,2,none⟩) hN).trans h.c2,fun i=>(hb.frozen (p:=⟨g,i,none⟩) hN).trans (h.f i),fun i x e=>h.n i x ((hb.cell (p:=⟨g,i,none⟩) hN).symm.trans e)⟩
theorem JT (p q r:Value)(i:Nat)(x:Int)(hp:∀ x,p≠.int .u32 x)(hq:∀ x,q≠.int .u32 x)(hr:∀ x,r≠.int .u32 x):(#[p,q,r]:Array Value)[i]? ≠ some (.int .u32 x):=by
 match i with
 | 0=>simpa using hp x
 | 1=>simpa using hq x
 | 2=>simpa using hr x
 | i+3=>simp
theorem I4 (w:World)(z0:Int)(zn:Bool)(za:Option Addr)(zl zc:Nat)(ty:TypeId):BoxV w.heap.size (w.alloc (.cells #[.int .i64 z0,.bool zn,.slice za zl zc] ty)) z0 zn za zl zc:=by
 refine⟨by simp,?_,?_,?_,fun i=>?_,fun i x=>?_⟩
 ·rw[Jg _ _ _ _ rfl];rfl
 ·rw[Jg _ _ _ _ rfl];rfl
 ·rw[Jg _ _ _ _ rfl];rfl
 ·rw[Jv _ _ _ _ rfl]
 rw[Jg _ _ _ _ rfl];exact JT _ _ _ i x (by simp) (by simp) (by simp)
theorem It (w:World)(g:Nat)(hg:w.heap.size=g)(z0:Int)(zn:Bool)(za:Option Addr)(zl zc:Nat)(ty:TypeId):BoxV g (w.alloc (.cells #[.int .i64 z0,.bool zn,.slice za zl zc] ty)) z0 zn za zl zc:=by
 subst hg;exact I4 w z0 zn za zl zc ty
theorem BoxV.alloc (h:BoxV g W z0 zn za zl zc)(o:Obj):BoxV g (W.alloc o) z0 zn za zl zc:=h.bl h.lt (Oo W o)
theorem BoxV.drew (h:BoxV g W z0 zn za zl zc):BoxV g W.drew z0 zn za zl zc:=h.bl h.lt (Jj _ W).drew
theorem BoxV.put (h:BoxV g W z0 zn za zl zc)(y0:Int)(yn:Bool)(ya:Option Addr)(yl yc:Nat) :
 BoxV g (((W.setCell ⟨g,0,none⟩ (.int .i64 y0)).setCell ⟨g,1,none⟩ (.bool yn)).setCell ⟨g,2,none⟩ (.slice ya yl yc)) y0 yn ya yl yc:=by
 obtain⟨lt,c0,c1,c2,f,n⟩:=h;refine⟨by simpa using lt,by simp[go_sem,c0],by simp[go_sem,c1],by simp[go_sem,c2],fun i=>by have:=f i;simp[go_sem,this],fun i x=>?_⟩
 by_cases i0:i=0
 ·subst i0;simp[go_sem,c0]
 by_cases d:i=1
 ·subst d;simp[go_sem,c1]
 by_cases i2:i=2
 ·subst i2;simp[go_sem,c2]
 have e:(((W.setCell ⟨g,0,none⟩ (.int .i64 y0)).setCell ⟨g,1,none⟩ (.bool yn)).setCell ⟨g,2,none⟩ (.slice ya yl yc)).cell? ⟨g,i,none⟩=W.cell? ⟨g,i,none⟩:=by
  have j:(0:Nat)≠i:=by omega
  have D:(1:Nat)≠i:=by omega
  have E:(2:Nat)≠i:=by omega
  simp[go_sem, *]
 rw[e];exact n i x
theorem BoxV.other {h:Nat}(hb:BoxV g W z0 zn za zl zc)(hne:g≠h)(k:K0 h h W W'):BoxV g W' z0 zn za zl zc:=by
 have q:∀ i,W'.cell? ⟨g,i,none⟩=W.cell? ⟨g,i,none⟩:=fun i=>Zg (k.2 g hne hne);have f:∀ i,W'.frozen? ⟨g,i,none⟩=W.frozen? ⟨g,i,none⟩:=fun i=>World.frozen?_of_block (k.2 g hne hne);exact⟨Js hb.lt k.1,(q 0).trans hb.c0,(q 1).trans hb.c1,(q 2).trans hb.c2,fun i=>(f i).trans (hb.f i),fun i x e=>hb.n i x ((q i).symm.trans e)⟩
theorem Nb.keeps {z:Value}{h:Nat}(hl:Nb B w z x)(n1:Kh w g)(n2:Kh w h)(k:K0 g h w W):Nb B W z x:=by
 obtain⟨neg,t,⟨d,j,D⟩,H⟩:=hl;refine⟨neg,t,⟨d,j,?_⟩,H⟩
 rcases D with⟨E,v,G,F⟩|D
 ·exact .inl ⟨E,v,G,F.keeps n1 n2 k⟩
 exact .inr D
theorem BoxQ.far {xn:Bool}{pa:Option Addr}{la ca:Nat}{y:Int}{pb:Option Addr}{lb cb:Nat}(h:BoxQ g W x xn pa la ca y yn pb lb cb)(p:Addr)(hp:g+4<=p.block)(u:Value):BoxQ g (W.setCell p u) x xn pa la ca y yn pb lb cb:=
 h.bl (N:=g+4) O1 ((Jj _ W).setCell hp u)
theorem K0.three (w:World)(g:Nat)(u0 u1 u2:Value):K0 g g w (((w.setCell ⟨g,0,none⟩ u0).setCell ⟨g,1,none⟩ u1).setCell ⟨g,2,none⟩ u2):=by
 have d:K0 g g w (w.setCell ⟨g,0,none⟩ u0):=(K0.refl g g w).setCell ⟨g,0,none⟩ u0 (Or.inl rfl);have j:K0 g g w ((w.setCell ⟨g,0,none⟩ u0).setCell ⟨g,1,none⟩ u1):=d.setCell ⟨g,1,none⟩ u1 (Or.inl rfl);exact j.setCell ⟨g,2,none⟩ u2 (Or.inl rfl)
theorem Nb.drew {z:Value}(h:Nb B w z x):Nb B w.drew z x:=h.bl (Jj _ w).drew
theorem Li {y0:Int}{ya:Option Addr}{yl yc:Nat}{neg:Bool}{t:List Nat}(h:Ej B w (.agg #[.int .i64 y0,.bool yn,.slice ya yl yc]) neg t):(((yl:Int)==0)&&(y0==0))=decide (val t=0):=by
 obtain⟨I,F,h⟩:=h
 rcases h with⟨D,v,d,⟨p,c,rfl,_⟩⟩|⟨D,d⟩
 ·simp only[Value.agg.injEq,Array.mk.injEq,List.cons.injEq,Value.int.injEq,true_and,Value.bool.injEq,Value.slice.injEq,and_true] at d;obtain⟨_,_,_,hl,_⟩:=d;have E:t≠[]:=by intro e;rw[e] at D;simp at D
  have J:=Gp t F E;have H:((yl:Int)==0)=false:=by rw[Jd];omega
  have j:decide (val t=0)=false:=dF (by omega)
  rw[H,j];rfl
 simp only[Value.agg.injEq,Array.mk.injEq,List.cons.injEq,Value.int.injEq,true_and,Value.bool.injEq,Value.slice.injEq,and_true] at d;obtain⟨rfl,_,_,rfl,_⟩:=d
 by_cases G:val t=0
 ·rw[G];cases neg<;>simp[sg]
 have j:decide (val t=0)=false:=by rw[Jy];exact G
 rw[j]
 cases neg<;>simp[sg]<;>omega
end Go.Proofs.YtjjgilacnocigaaGreatDoor.Q
