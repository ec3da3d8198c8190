import Derived.Test.YtnhbmpnhijgpmaaGreatDoorDivCp
import Derived.Test.YtnhbmpnhijgpmaaGreatDoorDivEp
import Derived.Test.YtnhbmpnhijgpmaaGreatDoorSpecSump
import Derived.Test.YtnhbmpnhijgpmaaGreatDoorMulZp
set_option maxRecDepth 100000
set_option maxHeartbeats 4000000
namespace Go.Proofs.YtnhbmpnhijgpmaaGreatDoor
open Go.ChangeShapes Go.WideShapes Go.ChangeAt Go.RowKit
theorem field_neg2 (x z:Int) (y:Bool) (w:World):(Instr.field 133 (.agg #[.int .i64 x,.bool y,.int .i64 z]) 1).run Tryz.prog w=.ok (.bool y) w:=by kernel_rfl
theorem divided_raw (B:Nat) (s t:Bool) (va vb:Value) (a b:List Nat) (w:World) (hBw:B≤w.heap.size) (ha:IsL B w va a) (hb:IsL B w vb b) (hla:a.length≤90000) (hlb:b.length≤90000) (hta:isTrim a) (htb:isTrim b) (hne:b≠[]) (hSP:SP w) :
 Calls Tryz.prog 97 #[.agg #[.bool s,va],.agg #[.bool t,vb]] w fun e w'=>∃ z1 z2 q r,e=.returned (.tuple #[z1,z2])∧IsI B w' z1 q (a.length+2)∧IsI B w' z2 r (b.length+3)∧IsDiv (sg s (val a)) (sg t (val b)) q r∧Up w w':=by
 have HA:Hid (∀ W,Up w W→IsL B W va a):=fun W hW=>ha.below hW; have HB:Hid (∀ W,Up w W→IsL B W vb b):=fun W hW=>hb.below hW; obtain ⟨pa,ca,rfl,_,_,c9,_⟩:=ha; obtain ⟨pb,cb,rfl,_,_,d0,_⟩:=hb; have HX:=boxD_first w s pa a.length ca t pb b.length cb 55; obtain ⟨W0,a9⟩:=exW ((((w.alloc (.cells #[.bool s,.slice pa a.length ca] 55)).alloc (.cells #[.bool t,.slice pb b.length cb] 55)).alloc (.cells #[.bool false,.slice none 0 0] 55)).alloc (.cells #[.bool false,.slice none 0 0] 55)); have i2:=hide a9; have d7:Up w W0:=by rw [← a9]; exact below_al (below_al (below_al (below_alloc _ _) _) _) _
 have e3:=hide d7; have g0:W0.heap.size=w.heap.size+4:=by rw [← a9]; simp
 rw [a9] at HX; have HS:=hide g0; have G:Hid (∀ W,Up W0 W→BoxD w.heap.size W s pa a.length ca t pb b.length cb):=fun W hW=>HX.below (by omega) hW; have HF:Hid (∀ W,Up W0 W→Up w W):=fun W hW=>d7.trans (hW.mono (by omega)); have d5:Hid (∀ W,Up w W→SP W):=fun W hW=>hSP.below hW; have HT:Hid (isTrim a∧isTrim b∧b≠[]∧B≤w.heap.size):=⟨hta,htb,hne,hBw⟩; have i0:Hid (okL a∧okL b):=⟨c9,d0⟩; obtain ⟨a0,a1,b0,b1,r0,r1,t0,t1,f⟩:=HX; clear f a9 g0 d7 hta htb hne hBw c9 d0 hSP; have l4:=field_neg2
 go_enter Tryz.func97,Tryz.ntmps97
 go_wp2_with fail
 rw [i2.o]; refine (divLimbs_any B _ _ a b _ (by have:=HS.o; have:=HT.o; omega) (HA.o _ e3.o) (HB.o _ e3.o) (by omega) HT.o.1 HT.o.2.1 HT.o.2.2.1).mono ?_; rintro e F ⟨v,u,Q,U,rfl,hD,e7⟩; have i:=Hd e7; have T:Hid (∀ W,Up F W→IsL B W v Q):=fun W hW=>hD.1.1.below hW; have V:Hid (∀ W,Up F W→IsL B W u U):=fun W hW=>hD.1.2.below hW; have i8:okL U:=by obtain ⟨_,_,_,_,_,h,_⟩:=hD.1.2; exact h
 have e6:U.length≤b.length:=len_of_val U b hD.2.1.2 i0.o.2 hD.2.2.2.2; have A:Hid (Q.length≤a.length∧U.length≤b.length):=⟨hD.2.2.1.1,e6⟩; have Y:Hid (val a=val Q*val b+val U∧val U<val b∧isTrim U):=⟨hD.2.2.2.1,hD.2.2.2.2,hD.2.1.2⟩; obtain ⟨pv,cv,hv,_⟩:=id hD.1.1; obtain ⟨pu,cu,hu,_⟩:=id hD.1.2; obtain ⟨lv,e0⟩:=exW Q.length; obtain ⟨lu,d9⟩:=exW U.length; subst hv hu; rw [e0] at T A ⊢; rw [d9] at V A ⊢; have H:Hid (Q.length=lv∧U.length=lu):=⟨e0,d9⟩; clear a0 a1 b0 b1 r0 r1 t0 t1 e7 hD e6 e0 d9 i8
 cases s
 ·have a5:Hid (IsDiv (sg false (val a)) (sg t (val b)) (sg t (val Q)) (sg false (val U))):=by
   have h:=isDiv_pos t _ _ _ _ Y.o.1 Y.o.2.1; rw [show (false != t)=t by cases t<;>rfl] at h; exact h
  have A:Hid (Q.length≤a.length+2∧U.length≤b.length+3):=by have:=A.o; have:=H.o; exact ⟨by omega,by omega⟩
  obtain ⟨k0,k1,l0,l1,m0,m1,n0,n1,f,z⟩:=G.o F i.o; clear f z
  go_wp2_with fail
  refine (signsOf_any _ _ _ _ _ _ _ _ _ (d5.o _ (HF.o _ i.o))).mono ?_; rintro e ws ⟨rfl,M⟩; have E:=Hd M; clear M k0 k1 l0 l1 m0 m1 n0 n1
  go_wp2_with fail
  refine (makeInteger_any B t _ Q _ (T.o _ E.o)).mono ?_; rintro e wm ⟨v',rfl,hcut,K⟩; have m:Hid (Up F wm):=E.o.trans (K.mono E.o.size); have I:Hid (∀ W,Up F W→IsL B W v' (trimL Q)):=fun W hW=>hcut _ _ (T.o W hW); obtain ⟨pq,cq,hq,_⟩:=I.o wm m.o; subst hq; clear hcut K
  go_wp2_with fail
  refine (makeInteger_any B false _ U _ (V.o _ m.o)).mono ?_; rintro e D ⟨u',rfl,hcut,L⟩; have j:Hid (Up F D):=m.o.trans (L.mono m.o.size); have J:Hid (∀ W,Up F W→IsL B W u' (trimL U)):=fun W hW=>hcut _ _ (V.o W hW); obtain ⟨pr,cr,hr,_⟩:=J.o D j.o; subst hr; obtain ⟨_,_,_,_,u0,u1,w0,w1,f,z⟩:=G.o D (i.o.trans (j.o.mono i.o.size)); have g4:=f 2 (by omega) 0; have g6:=f 2 (by omega) 1; have g7:=f 3 (by omega) 0; have g8:=f 3 (by omega) 1; have O:Hid (NoInt D (w.heap.size+2)∧NoInt D (w.heap.size+3)):=⟨z 2 (by omega),z 3 (by omega)⟩; clear hcut L f z
  go_wp2
  have a6:Hid (Up w D):=HF.o _ (i.o.trans (j.o.mono i.o.size)); refine bodyPost_ret ?_ rfl ⟨_,_,_,_,rfl,⟨t,_,trimL Q,rfl,(I.o _ j.o).keeps O.o.1 O.o.2 (((((Keeps.refl _ _ D).setCell _ _ ?_).setCell _ _ ?_).setCell _ _ ?_).setCell _ _ ?_),trimL_trim _,rfl,?_⟩,⟨false,_,trimL U,rfl,(J.o _ j.o).keeps O.o.1 O.o.2 (((((Keeps.refl _ _ D).setCell _ _ ?_).setCell _ _ ?_).setCell _ _ ?_).setCell _ _ ?_),trimL_trim _,rfl,?_⟩,?_,(((a6.o.setCell ?_ _).setCell ?_ _).setCell ?_ _).setCell ?_ _⟩
  all_goals first
   | (simp [results,Tryz.results97,go_sem,u0,u1,w0,w1]; done)
   | (simp; omega)
   | (have:=trimL_len Q; have:=A.o; omega)
   | (have:=trimL_len U; have:=A.o; omega)
   | (rw [val_trimL,val_trimL]; exact a5.o)
 by_cases i7:lu=0
 ·subst i7; have a5:Hid (IsDiv (sg true (val a)) (sg t (val b)) (sg (!t) (val Q)) (sg false (val U))):=by
   have e:U=[]:=List.eq_nil_of_length_eq_zero H.o.2; have h:=Y.o; rw [e] at h ⊢; have h2:=isDiv_zero t _ _ _ h.1 (by have:=h.2.1; simp [val] at this; omega); rw [show (true != t)=!t by cases t<;>rfl] at h2; exact h2
  have A:Hid (Q.length≤a.length+2∧U.length≤b.length+3):=by have:=A.o; have:=H.o; exact ⟨by omega,by omega⟩
  obtain ⟨k0,k1,l0,l1,m0,m1,n0,n1,f,z⟩:=G.o F i.o; clear f z
  go_wp2_with fail
  refine (signsOf_any _ _ _ _ _ _ _ _ _ (d5.o _ (HF.o _ i.o))).mono ?_; rintro e ws ⟨rfl,M⟩; have E:=Hd M; clear M k0 k1 l0 l1 m0 m1 n0 n1
  go_wp2_with fail
  refine (makeInteger_any B (!t) _ Q _ (T.o _ E.o)).mono ?_; rintro e wm ⟨v',rfl,hcut,K⟩; have m:Hid (Up F wm):=E.o.trans (K.mono E.o.size); have I:Hid (∀ W,Up F W→IsL B W v' (trimL Q)):=fun W hW=>hcut _ _ (T.o W hW); obtain ⟨pq,cq,hq,_⟩:=I.o wm m.o; subst hq; clear hcut K
  go_wp2_with fail
  refine (makeInteger_any B false _ U _ (V.o _ m.o)).mono ?_; rintro e D ⟨u',rfl,hcut,L⟩; have j:Hid (Up F D):=m.o.trans (L.mono m.o.size); have J:Hid (∀ W,Up F W→IsL B W u' (trimL U)):=fun W hW=>hcut _ _ (V.o W hW); obtain ⟨pr,cr,hr,_⟩:=J.o D j.o; subst hr; obtain ⟨_,_,_,_,u0,u1,w0,w1,f,z⟩:=G.o D (i.o.trans (j.o.mono i.o.size)); have g4:=f 2 (by omega) 0; have g6:=f 2 (by omega) 1; have g7:=f 3 (by omega) 0; have g8:=f 3 (by omega) 1; have O:Hid (NoInt D (w.heap.size+2)∧NoInt D (w.heap.size+3)):=⟨z 2 (by omega),z 3 (by omega)⟩; clear hcut L f z
  go_wp2
  have a6:Hid (Up w D):=HF.o _ (i.o.trans (j.o.mono i.o.size)); refine bodyPost_ret ?_ rfl ⟨_,_,_,_,rfl,⟨(!t),_,trimL Q,rfl,(I.o _ j.o).keeps O.o.1 O.o.2 (((((Keeps.refl _ _ D).setCell _ _ ?_).setCell _ _ ?_).setCell _ _ ?_).setCell _ _ ?_),trimL_trim _,rfl,?_⟩,⟨false,_,trimL U,rfl,(J.o _ j.o).keeps O.o.1 O.o.2 (((((Keeps.refl _ _ D).setCell _ _ ?_).setCell _ _ ?_).setCell _ _ ?_).setCell _ _ ?_),trimL_trim _,rfl,?_⟩,?_,(((a6.o.setCell ?_ _).setCell ?_ _).setCell ?_ _).setCell ?_ _⟩
  all_goals first
   | (simp [results,Tryz.results97,go_sem,u0,u1,w0,w1]; done)
   | (simp; omega)
   | (have:=trimL_len Q; have:=A.o; omega)
   | (have:=trimL_len U; have:=A.o; omega)
   | (rw [val_trimL,val_trimL]; exact a5.o)
 have hp:0<lu:=by omega
 have i1:Hid (0<val U):=by
  have e:U≠[]:=by intro e; rw [e] at H; have:=H.o.2; simp at this; omega
  exact val_pos U Y.o.2.2 e
 obtain ⟨k0,k1,l0,l1,m0,m1,n0,n1,f,z⟩:=G.o F i.o; clear f z
 go_wp2_with fail
 have d1:IsL F.heap.size (F.alloc (.cells #[.int .u32 1] 85)) (.slice (some ⟨F.heap.size,0,none⟩) 1 1) [1]:=isL_one _ _ 1 _ (by omega) rfl rfl leR; refine (addLimbs_any B _ _ Q [1] _ (T.o _ (below_alloc _ _)) (d1.mono (by have:=i.o.size; have:=HS.o; have:=HT.o.2.2.2; omega)) (by have:=A.o; have:=H.o; omega) (by simp)).mono ?_; clear d1; rintro e wy ⟨v2,Q2,rfl,e1,g2,e9,i9,e8⟩; have S:Hid (Up F wy):=(below_alloc F (.cells #[.int .u32 1] 85)).trans (e8.mono (by simp)); have a7:Hid (IsL B wy v2 Q2∧val Q2=val Q+1∧Q2.length≤a.length+2):=⟨e1.mono (by have:=i.o.size; have:=HS.o; have:=HT.o.2.2.2; simp; omega),by rw [g2]; simp [val],by have:=A.o; have:=H.o; simp at e9; omega⟩; obtain ⟨j5,i6,j1,_⟩:=id e1; subst j1; clear e1 g2 e9 i9 e8 k0 k1 l0 l1 m0 m1 n0 n1; obtain ⟨k0,k1,l0,l1,m0,m1,n0,n1,f,z⟩:=G.o wy (i.o.trans (S.o.mono i.o.size)); clear f z
 go_wp2_with fail
 refine (subLimbs_any B _ _ b U _ (HB.o _ (HF.o _ (i.o.trans (S.o.mono i.o.size)))) (V.o _ S.o) HT.o.2.2.1 (by omega) (by have:=A.o; have:=H.o; omega) (by have:=Y.o; omega)).mono ?_; rintro e wz ⟨u2,U2,rfl,e2,g3,f5,j0,d8⟩; have Z:Hid (Up W0 wz):=i.o.trans ((S.o.trans (d8.mono S.o.size)).mono i.o.size); have c6:Hid (∀ W,Up wz W→IsL B W (.slice j5 Q2.length i6) Q2):=fun W hW=>(a7.o.1.below d8).below hW; have c8:Hid (∀ W,Up wz W→IsL B W u2 U2):=fun W hW=>(e2.mono (by have:=S.o.size; have:=i.o.size; have:=HS.o; have:=HT.o.2.2.2; omega)).below hW; have a5:Hid (IsDiv (sg true (val a)) (sg t (val b)) (sg (!t) (val Q2)) (sg false (val U2))):=by
  rw [a7.o.2.1]; have h2:=isDiv_neg t _ _ _ _ _ Y.o.1 g3 i1.o; rw [show (true != t)=!t by cases t<;>rfl] at h2; exact h2
 have b9:Hid (Q2.length≤a.length+2∧U2.length≤b.length+3):=⟨a7.o.2.2,by omega⟩; obtain ⟨l8,l3,g1,_⟩:=id e2; subst g1; clear e2 g3 f5 j0 d8 k0 k1 l0 l1 m0 m1 n0 n1; obtain ⟨k0,k1,l0,l1,m0,m1,n0,n1,f,z⟩:=G.o wz Z.o; clear f z
 go_wp2_with fail
 refine (signsOf_any _ _ _ _ _ _ _ _ _ (d5.o _ (HF.o _ Z.o))).mono ?_; rintro e ws ⟨rfl,M⟩; have E:=Hd M; clear M k0 k1 l0 l1 m0 m1 n0 n1
 go_wp2_with fail
 refine (makeInteger_any B (!t) _ Q2 _ (c6.o _ E.o)).mono ?_; rintro e wm ⟨v',rfl,hcut,K⟩; have m:Hid (Up wz wm):=E.o.trans (K.mono E.o.size); have I:Hid (∀ W,Up wz W→IsL B W v' (trimL Q2)):=fun W hW=>hcut _ _ (c6.o W hW); obtain ⟨pq,cq,hq,_⟩:=I.o wm m.o; subst hq; clear hcut K
 go_wp2_with fail
 refine (makeInteger_any B false _ U2 _ (c8.o _ m.o)).mono ?_; rintro e D ⟨u',rfl,hcut,L⟩; have j:Hid (Up wz D):=m.o.trans (L.mono m.o.size); have J:Hid (∀ W,Up wz W→IsL B W u' (trimL U2)):=fun W hW=>hcut _ _ (c8.o W hW); obtain ⟨pr,cr,hr,_⟩:=J.o D j.o; subst hr; obtain ⟨_,_,_,_,u0,u1,w0,w1,f,z⟩:=G.o D (Z.o.trans (j.o.mono Z.o.size)); have g4:=f 2 (by omega) 0; have g6:=f 2 (by omega) 1; have g7:=f 3 (by omega) 0; have g8:=f 3 (by omega) 1; have O:Hid (NoInt D (w.heap.size+2)∧NoInt D (w.heap.size+3)):=⟨z 2 (by omega),z 3 (by omega)⟩; clear hcut L f z
 go_wp2
 have a6:Hid (Up w D):=HF.o _ (Z.o.trans (j.o.mono Z.o.size)); refine bodyPost_ret ?_ rfl ⟨_,_,_,_,rfl,⟨(!t),_,trimL Q2,rfl,(I.o _ j.o).keeps O.o.1 O.o.2 (((((Keeps.refl _ _ D).setCell _ _ ?_).setCell _ _ ?_).setCell _ _ ?_).setCell _ _ ?_),trimL_trim _,rfl,?_⟩,⟨false,_,trimL U2,rfl,(J.o _ j.o).keeps O.o.1 O.o.2 (((((Keeps.refl _ _ D).setCell _ _ ?_).setCell _ _ ?_).setCell _ _ ?_).setCell _ _ ?_),trimL_trim _,rfl,?_⟩,?_,(((a6.o.setCell ?_ _).setCell ?_ _).setCell ?_ _).setCell ?_ _⟩
 all_goals first
  | (simp [results,Tryz.results97,go_sem,u0,u1,w0,w1]; done)
  | (simp; omega)
  | (have:=trimL_len Q2; have:=b9.o; omega)
  | (have:=trimL_len U2; have:=b9.o; omega)
  | (rw [val_trimL,val_trimL]; exact a5.o)
structure BoxQ (g:Nat) (W:World) (x:Int) (xn:Bool) (pa:Option Addr) (la ca:Nat) (y:Int) (yn:Bool) (pb:Option Addr) (lb cb:Nat):Prop where
 a0:W.cell? ⟨g,0,none⟩=some (.int .i64 x)
 a1:W.cell? ⟨g,1,none⟩=some (.bool xn)
 a2:W.cell? ⟨g,2,none⟩=some (.slice pa la ca)
 b0:W.cell? ⟨g+1,0,none⟩=some (.int .i64 y)
 b1:W.cell? ⟨g+1,1,none⟩=some (.bool yn)
 b2:W.cell? ⟨g+1,2,none⟩=some (.slice pb lb cb)
 r0:W.cell? ⟨g+2,0,none⟩=some (.int .i64 0)
 r1:W.cell? ⟨g+2,1,none⟩=some (.bool false)
 r2:W.cell? ⟨g+2,2,none⟩=some (.slice none 0 0)
 t0:W.cell? ⟨g+3,0,none⟩=some (.int .i64 0)
 t1:W.cell? ⟨g+3,1,none⟩=some (.bool false)
 t2:W.cell? ⟨g+3,2,none⟩=some (.slice none 0 0)
 f:∀ k,k<4→∀ i,W.frozen? ⟨g+k,i,none⟩=false
theorem BoxQ.below {g:Nat} {W W':World} {x:Int} {xn:Bool} {pa:Option Addr} {la ca:Nat} {y:Int} {yn:Bool} {pb:Option Addr} {lb cb:Nat} (h:BoxQ g W x xn pa la ca y yn pb lb cb) {N:Nat} (hN:g+4≤N) (hb:Below N W W'):BoxQ g W' x xn pa la ca y yn pb lb cb:=by
 have q:∀ k,k<4→∀ i,W'.cell? ⟨g+k,i,none⟩=W.cell? ⟨g+k,i,none⟩:=fun k hk i=>hb.cell (p:=⟨g+k,i,none⟩) (by show g+k<N; omega); have f:∀ k,k<4→∀ i,W'.frozen? ⟨g+k,i,none⟩=W.frozen? ⟨g+k,i,none⟩:=fun k hk i=>hb.frozen (p:=⟨g+k,i,none⟩) (by show g+k<N; omega); exact ⟨(q 0 (by omega) 0).trans h.a0,(q 0 (by omega) 1).trans h.a1,(q 0 (by omega) 2).trans h.a2,(q 1 (by omega) 0).trans h.b0,(q 1 (by omega) 1).trans h.b1,(q 1 (by omega) 2).trans h.b2,(q 2 (by omega) 0).trans h.r0,(q 2 (by omega) 1).trans h.r1,(q 2 (by omega) 2).trans h.r2,(q 3 (by omega) 0).trans h.t0,(q 3 (by omega) 1).trans h.t1,(q 3 (by omega) 2).trans h.t2,fun k hk i=>(f k hk i).trans (h.f k hk i)⟩
theorem boxQ_first (w:World) (x:Int) (xn:Bool) (pa:Option Addr) (la ca:Nat) (y:Int) (yn:Bool) (pb:Option Addr) (lb cb:Nat) (ty:TypeId) :
 BoxQ w.heap.size ((((w.alloc (.cells #[.int .i64 x,.bool xn,.slice pa la ca] ty)).alloc (.cells #[.int .i64 y,.bool yn,.slice pb lb cb] ty)).alloc (.cells #[.int .i64 0,.bool false,.slice none 0 0] ty)).alloc (.cells #[.int .i64 0,.bool false,.slice none 0 0] ty)) x xn pa la ca y yn pb lb cb:=by
 refine ⟨?_,?_,?_,?_,?_,?_,?_,?_,?_,?_,?_,?_,?_⟩
 iterate 3 · rw [World.cell?_alloc_past _ _ _ (by simp<;>omega),World.cell?_alloc_past _ _ _ (by simp<;>omega),World.cell?_alloc_past _ _ _ (by simp),World.cell?_alloc_at _ _ _ _ rfl]; rfl
 iterate 3 · rw [World.cell?_alloc_past _ _ _ (by simp<;>omega),World.cell?_alloc_past _ _ _ (by simp<;>omega),World.cell?_alloc_at _ _ _ _ (by simp)]; rfl
 iterate 3 · rw [World.cell?_alloc_past _ _ _ (by simp<;>omega),World.cell?_alloc_at _ _ _ _ (by simp)]; rfl
 iterate 3 · rw [World.cell?_alloc_at _ _ _ _ (by simp)]; rfl
 intro k j i
 match k,j with
 | 0,_=>rw [World.frozen?_alloc_past _ _ _ (by simp<;>omega),World.frozen?_alloc_past _ _ _ (by simp<;>omega),World.frozen?_alloc_past _ _ _ (by simp),World.frozen?_alloc_at _ _ _ _ (by simp)]
 | 1,_=>rw [World.frozen?_alloc_past _ _ _ (by simp<;>omega),World.frozen?_alloc_past _ _ _ (by simp<;>omega),World.frozen?_alloc_at _ _ _ _ (by simp)]
 | 2,_=>rw [World.frozen?_alloc_past _ _ _ (by simp<;>omega),World.frozen?_alloc_at _ _ _ _ (by simp)]
 | 3,_=>rw [World.frozen?_alloc_at _ _ _ _ (by simp)]
theorem tdiv_facts (x y:Int) (hx1 : -1000000000000000000<x) (hx2:x<1000000000000000000) (hy:y≠0) :
 y*x.tdiv y+x.tmod y=x∧(x.tmod y).natAbs<y.natAbs∧(x.tdiv y).natAbs≤999999999999999999∧(x.tmod y≠0→(x.tdiv y).natAbs≤499999999999999999):=by
 have i:(x.tmod y).natAbs<y.natAbs:=by rw [Int.natAbs_tmod]; exact Nat.mod_lt _ (by omega)
 refine ⟨Int.mul_tdiv_add_tmod x y,i,?_,fun hr=>?_⟩
 ·rw [Int.natAbs_tdiv]; exact Nat.le_trans (Nat.div_le_self _ _) (by omega)
 rw [Int.natAbs_tdiv]; have j:2≤y.natAbs:=by omega
 have h3:x.natAbs / y.natAbs≤x.natAbs / 2:=Nat.div_le_div_left j (by omega); exact Nat.le_trans h3 (by omega)
theorem isDiv_a (x y q r:Int) (h:y*q+r=x) (hr:0≤r) (hl:r.natAbs<y.natAbs):IsDiv x y q r:=⟨by rw [Int.mul_comm]; exact h.symm,hr,by omega⟩
theorem isDiv_b (x y q r:Int) (h:y*q+r=x) (hr:r<0) (hl:r.natAbs<y.natAbs) (hy:0<y):IsDiv x y (q - 1) (r+y):=⟨by rw [Int.sub_mul,Int.mul_comm q]; omega,by omega,by omega⟩
theorem isDiv_c (x y q r:Int) (h:y*q+r=x) (hr:r<0) (hl:r.natAbs<y.natAbs) (hy:y<0):IsDiv x y (q+1) (r - y):=⟨by rw [Int.add_mul,Int.mul_comm q]; omega,by omega,by omega⟩
theorem l1Div_small (x y:Int) (w:World) (hx1 : -1000000000000000000<x) (hx2:x<1000000000000000000) (hy1 : -1000000000000000000<y) (hy2:y<1000000000000000000) (hy:y≠0) :
 Calls Tryz.prog 44 #[.agg #[.int .i64 x,.bool false,.slice none 0 0],.agg #[.int .i64 y,.bool false,.slice none 0 0]] w fun e w'=>∃ z1 z2 q r,e=.returned (.tuple #[z1,z2])∧(IsN w.heap.size w' z1 q∧IsN w.heap.size w' z2 r)∧IsDiv x y q r∧Up w w':=by
 have M:=boxQ_first w x false none 0 0 y false none 0 0 49; obtain ⟨F,j⟩:=exW ((((w.alloc (.cells #[.int .i64 x,.bool false,.slice none 0 0] 49)).alloc (.cells #[.int .i64 y,.bool false,.slice none 0 0] 49)).alloc (.cells #[.int .i64 0,.bool false,.slice none 0 0] 49)).alloc (.cells #[.int .i64 0,.bool false,.slice none 0 0] 49)); have L:=hide j; have K:Hid (Up w F):=by rw [← j]; exact below_al (below_al (below_al (below_alloc _ _) _) _) _
 have H:F.heap.size=w.heap.size+4:=by rw [← j]; simp
 rw [j] at M; have Y:=hide H; have E:Hid (∀ W,Up F W→BoxQ w.heap.size W x false none 0 0 y false none 0 0):=fun W hW=>M.below (by omega) hW; obtain ⟨a0,a1,a2,b0,b1,b2,r0,r1,r2,t0,t1,t2,_⟩:=M; clear j H; obtain ⟨I,O,S,J⟩:=tdiv_facts x y hx1 hx2 hy; obtain ⟨q,hq⟩:=exW (x.tdiv y); obtain ⟨r,hr⟩:=exW (x.tmod y); rw [hq] at I S J; rw [hr] at I O J; have A:Hid (y*q+r=x∧r.natAbs<y.natAbs):=⟨I,O⟩; have q1 : -1000000000000000000<q:=by omega
 have q2:q<1000000000000000000:=by omega
 have s1 : -1000000000000000000<r:=by omega
 have s2:r<1000000000000000000:=by omega
 have i:Hid (r≠0→q.natAbs≤499999999999999999):=J; clear I O S J; have u:0≤r∨(r<0∧0<y)∨(r<0∧y<0):=by omega
 rcases u with G|⟨G,t⟩|⟨G,t⟩
 all_goals
  go_enter Tryz.func44,Tryz.ntmps44
  go_wp2_with fail
  rw [L.o]; refine (l1IsSmall_ex _ _ _ _ _ _).mono ?_; rintro e V ⟨rfl,T⟩; have m:Hid (Up F V):=by rw [T]; exact below_alloc _ _
  clear T a0 a1 a2 b0 b1 b2 r0 r1 r2 t0 t1 t2; obtain ⟨a0,a1,a2,b0,b1,b2,r0,r1,r2,t0,t1,t2,f⟩:=E.o V m.o; clear f
  go_wp2_with fail
  refine (l1IsSmall_ex _ _ _ _ _ _).mono ?_; rintro e Q ⟨rfl,U⟩; have D:Hid (Up F Q):=by rw [U]; exact m.o.alloc m.o.size _
  have s:Hid (Up w Q):=K.o.trans (D.o.mono (by have:=Y.o; omega)); clear U a0 a1 a2 b0 b1 b2 r0 r1 r2 t0 t1 t2; obtain ⟨a0,a1,a2,b0,b1,b2,r0,r1,r2,t0,t1,t2,f⟩:=E.o Q D.o; have Z:=f 2 (by omega) 0; have a3:=f 2 (by omega) 1; have a5:=f 2 (by omega) 2; have a6:=f 3 (by omega) 0; have a7:=f 3 (by omega) 1; have a8:=f 3 (by omega) 2; clear f
  go_wp2
 ·refine bodyPost_ret ?_ rfl ⟨_,_,q,r,rfl,⟨isN_small _ _ q (by omega) (by omega),isN_small _ _ r (by omega) (by omega)⟩,isDiv_a x y q r A.o.1 G A.o.2,(((((s.o.setCell ?_ _).setCell ?_ _).setCell ?_ _).setCell ?_ _).setCell ?_ _).setCell ?_ _⟩
  all_goals first
   | (simp [results,Tryz.results44,go_sem,r0,r1,r2,t0,t1,t2]; done)
   | (simp; omega)
 ·go_region
  all_goals
   go_wp2
   refine bodyPost_ret ?_ rfl ⟨_,_,(q - 1),(r+y),rfl,⟨isN_small _ _ (q - 1) (by have:=i.o; omega) (by have:=i.o; omega),isN_small _ _ (r+y) (by have:=i.o; omega) (by have:=i.o; omega)⟩,isDiv_b x y q r A.o.1 G A.o.2 t,((((((s.o.setCell ?_ _).setCell ?_ _).setCell ?_ _).setCell ?_ _).setCell ?_ _).setCell ?_ _).drew⟩
   all_goals first
    | (simp [results,Tryz.results44,go_sem,r0,r1,r2,t0,t1,t2]; done)
    | (simp; omega)
 go_region
 all_goals
  go_wp2
  refine bodyPost_ret ?_ rfl ⟨_,_,(q+1),(r - y),rfl,⟨isN_small _ _ (q+1) (by have:=i.o; omega) (by have:=i.o; omega),isN_small _ _ (r - y) (by have:=i.o; omega) (by have:=i.o; omega)⟩,isDiv_c x y q r A.o.1 G A.o.2 t,((((((s.o.setCell ?_ _).setCell ?_ _).setCell ?_ _).setCell ?_ _).setCell ?_ _).setCell ?_ _).drew⟩
  all_goals first
   | (simp [results,Tryz.results44,go_sem,r0,r1,r2,t0,t1,t2]; done)
   | (simp; omega)
structure BoxV (g:Nat) (W:World) (z0:Int) (zn:Bool) (za:Option Addr) (zl zc:Nat):Prop where
 lt:g<W.heap.size
 c0:W.cell? ⟨g,0,none⟩=some (.int .i64 z0)
 c1:W.cell? ⟨g,1,none⟩=some (.bool zn)
 c2:W.cell? ⟨g,2,none⟩=some (.slice za zl zc)
 f:∀ i,W.frozen? ⟨g,i,none⟩=false
 n:NoInt W g
theorem BoxV.below {g N:Nat} {W W':World} {z0:Int} {zn:Bool} {za:Option Addr} {zl zc:Nat} (h:BoxV g W z0 zn za zl zc) (hN:g<N) (hb:Below N W W'):BoxV g W' z0 zn za zl zc:=
 ⟨Nat.lt_of_lt_of_le h.lt hb.size,(hb.cell (p:=⟨g,0,none⟩) hN).trans h.c0,(hb.cell (p:=⟨g,1,none⟩) hN).trans h.c1,(hb.cell (p:=⟨g,2,none⟩) hN).trans h.c2,fun i=>(hb.frozen (p:=⟨g,i,none⟩) hN).trans (h.f i),fun i x e=>h.n i x ((hb.cell (p:=⟨g,i,none⟩) hN).symm.trans e)⟩
theorem key3 (p q r:Value) (i:Nat) (x:Int) (hp:∀ x,p≠.int .u32 x) (hq:∀ x,q≠.int .u32 x) (hr:∀ x,r≠.int .u32 x):(#[p,q,r]:Array Value)[i]? ≠ some (.int .u32 x):=by
 match i with
 | 0=>simpa using hp x
 | 1=>simpa using hq x
 | 2=>simpa using hr x
 | i+3=>simp
theorem boxV_new (w:World) (z0:Int) (zn:Bool) (za:Option Addr) (zl zc:Nat) (ty:TypeId):BoxV w.heap.size (w.alloc (.cells #[.int .i64 z0,.bool zn,.slice za zl zc] ty)) z0 zn za zl zc:=by
 refine ⟨by simp,?_,?_,?_,fun i=>?_,fun i x=>?_⟩
 ·rw [World.cell?_alloc_at _ _ _ _ rfl]; rfl
 ·rw [World.cell?_alloc_at _ _ _ _ rfl]; rfl
 ·rw [World.cell?_alloc_at _ _ _ _ rfl]; rfl
 ·rw [World.frozen?_alloc_at _ _ _ _ rfl]
 rw [World.cell?_alloc_at _ _ _ _ rfl]; exact key3 _ _ _ i x (by simp) (by simp) (by simp)
theorem boxV_new' (w:World) (g:Nat) (hg:w.heap.size=g) (z0:Int) (zn:Bool) (za:Option Addr) (zl zc:Nat) (ty:TypeId):BoxV g (w.alloc (.cells #[.int .i64 z0,.bool zn,.slice za zl zc] ty)) z0 zn za zl zc:=by
 subst hg; exact boxV_new w z0 zn za zl zc ty
theorem BoxV.alloc {g:Nat} {W:World} {z0:Int} {zn:Bool} {za:Option Addr} {zl zc:Nat} (h:BoxV g W z0 zn za zl zc) (o:Obj):BoxV g (W.alloc o) z0 zn za zl zc:=h.below h.lt (below_alloc W o)
theorem BoxV.drew {g:Nat} {W:World} {z0:Int} {zn:Bool} {za:Option Addr} {zl zc:Nat} (h:BoxV g W z0 zn za zl zc):BoxV g W.drew z0 zn za zl zc:=h.below h.lt (Below.refl _ W).drew
theorem BoxV.put {g:Nat} {W:World} {z0:Int} {zn:Bool} {za:Option Addr} {zl zc:Nat} (h:BoxV g W z0 zn za zl zc) (y0:Int) (yn:Bool) (ya:Option Addr) (yl yc:Nat) :
 BoxV g (((W.setCell ⟨g,0,none⟩ (.int .i64 y0)).setCell ⟨g,1,none⟩ (.bool yn)).setCell ⟨g,2,none⟩ (.slice ya yl yc)) y0 yn ya yl yc:=by
 obtain ⟨lt,c0,c1,c2,f,n⟩:=h; refine ⟨by simpa using lt,by simp [go_sem,c0],by simp [go_sem,c1],by simp [go_sem,c2],fun i=>by have:=f i; simp [go_sem,this],fun i x=>?_⟩
 by_cases j:i=0
 ·subst j; simp [go_sem,c0]
 by_cases m:i=1
 ·subst m; simp [go_sem,c1]
 by_cases s:i=2
 ·subst s; simp [go_sem,c2]
 have e:(((W.setCell ⟨g,0,none⟩ (.int .i64 y0)).setCell ⟨g,1,none⟩ (.bool yn)).setCell ⟨g,2,none⟩ (.slice ya yl yc)).cell? ⟨g,i,none⟩=W.cell? ⟨g,i,none⟩:=by
  have t:(0:Nat)≠i:=by omega
  have u:(1:Nat)≠i:=by omega
  have A:(2:Nat)≠i:=by omega
  simp [go_sem, *]
 rw [e]; exact n i x
theorem BoxV.other {g h:Nat} {W:World} {z0:Int} {zn:Bool} {za:Option Addr} {zl zc:Nat} (hb:BoxV g W z0 zn za zl zc) (hne:g≠h) {W':World} (k:Keeps h h W W'):BoxV g W' z0 zn za zl zc:=by
 have q:∀ i,W'.cell? ⟨g,i,none⟩=W.cell? ⟨g,i,none⟩:=fun i=>World.cell?_of_block (k.2 g hne hne); have f:∀ i,W'.frozen? ⟨g,i,none⟩=W.frozen? ⟨g,i,none⟩:=fun i=>World.frozen?_of_block (k.2 g hne hne); exact ⟨Nat.lt_of_lt_of_le hb.lt k.1,(q 0).trans hb.c0,(q 1).trans hb.c1,(q 2).trans hb.c2,fun i=>(f i).trans (hb.f i),fun i x e=>hb.n i x ((q i).symm.trans e)⟩
theorem IsN.keeps {B:Nat} {w W:World} {z:Value} {x:Int} {g h:Nat} (hl:IsN B w z x) (n1:NoInt w g) (n2:NoInt w h) (k:Keeps g h w W):IsN B W z x:=by
 obtain ⟨neg,t,⟨i,j,m⟩,D⟩:=hl; refine ⟨neg,t,⟨i,j,?_⟩,D⟩
 rcases m with ⟨s,v,A,u⟩|m
 ·exact .inl ⟨s,v,A,u.keeps n1 n2 k⟩
 exact .inr m
theorem BoxQ.far {g:Nat} {W:World} {x:Int} {xn:Bool} {pa:Option Addr} {la ca:Nat} {y:Int} {yn:Bool} {pb:Option Addr} {lb cb:Nat} (h:BoxQ g W x xn pa la ca y yn pb lb cb) (p:Addr) (hp:g+4≤p.block) (u:Value):BoxQ g (W.setCell p u) x xn pa la ca y yn pb lb cb:=
 h.below (N:=g+4) leR ((Below.refl _ W).setCell hp u)
theorem Keeps.three (w:World) (g:Nat) (u0 u1 u2:Value):Keeps g g w (((w.setCell ⟨g,0,none⟩ u0).setCell ⟨g,1,none⟩ u1).setCell ⟨g,2,none⟩ u2):=by
 have i:Keeps g g w (w.setCell ⟨g,0,none⟩ u0):=(Keeps.refl g g w).setCell ⟨g,0,none⟩ u0 (Or.inl rfl); have j:Keeps g g w ((w.setCell ⟨g,0,none⟩ u0).setCell ⟨g,1,none⟩ u1):=i.setCell ⟨g,1,none⟩ u1 (Or.inl rfl); exact j.setCell ⟨g,2,none⟩ u2 (Or.inl rfl)
theorem IsN.drew {B:Nat} {w:World} {z:Value} {x:Int} (h:IsN B w z x):IsN B w.drew z x:=h.below (Below.refl _ w).drew
theorem zero_of_isZ {B:Nat} {w:World} {y0:Int} {yn:Bool} {ya:Option Addr} {yl yc:Nat} {neg:Bool} {t:List Nat} (h:IsZ B w (.agg #[.int .i64 y0,.bool yn,.slice ya yl yc]) neg t):(((yl:Int)==0)&&(y0==0))=decide (val t=0):=by
 obtain ⟨E,u,h⟩:=h
 rcases h with ⟨m,v,i,⟨p,c,rfl,_⟩⟩|⟨m,i⟩
 ·simp only [Value.agg.injEq,Array.mk.injEq,List.cons.injEq,Value.int.injEq,true_and,Value.bool.injEq,Value.slice.injEq,and_true] at i; obtain ⟨_,_,_,hl,_⟩:=i; have s:t≠[]:=by intro e; rw [e] at m; simp at m
  have F:=val_pos t u s; have D:((yl:Int)==0)=false:=by rw [beq_eq_false_iff_ne]; omega
  have j:decide (val t=0)=false:=by rw [decide_eq_false_iff_not]; omega
  rw [D,j]; rfl
 simp only [Value.agg.injEq,Array.mk.injEq,List.cons.injEq,Value.int.injEq,true_and,Value.bool.injEq,Value.slice.injEq,and_true] at i; obtain ⟨rfl,_,_,rfl,_⟩:=i
 by_cases A:val t=0
 ·rw [A]; cases neg<;>simp [sg]
 have j:decide (val t=0)=false:=by rw [decide_eq_false_iff_not]; exact A
 rw [j]
 cases neg<;>simp [sg]<;>omega
end Go.Proofs.YtnhbmpnhijgpmaaGreatDoor
