import Derived.Test.YtjjgilacnocigaaGreatDoorP36
set_option linter.all false
set_option maxRecDepth 100000
set_option maxHeartbeats 8000000
namespace Go.Proofs.YtjjgilacnocigaaGreatDoor
open ChangeShapes WideShapes ChangeAt RowKit Proofs.Tryz
variable {X Y:SI}{b g:Nat}{vs:Value}{w w':World}
def JR (g N k c K:Nat)(w:World)(e:Ending)(w':World):Prop:=∃ (u:ByteArray) (k':Nat),e=.returned (.string u)/\u.size<=K/\k'<=k+c/\Q.Ne g N w' k'/\Q.Bar g w w'
theorem C3 {W W':World}{l:List Value}(h:Bx W b l)(hb:Q.Bar g W W')(hg:b≠g):Bx W' b l:=by
 have d:=h.lt;obtain⟨D,j⟩:=h;exact⟨D,(hb.block b d hg).trans j⟩
theorem CO {s:ByteArray}(h:Q.Ow s=true):s.size<=2501:=by
 obtain⟨_,_,d⟩:=Q.G1 s h
 by_cases hn:Q.Ki s=true
 ·rw[Q.Xg s hn,Yj] at d;omega
 rw[Q.Xh s (by simpa using hn)] at d;omega
theorem Xp (x:Int)(w:World)(h1 : -1000000<x)(h2:x<1000000) :
 Calls prog 17 #[.int .i64 x] w fun e w'=>∃ u:ByteArray,e=.returned (.string u)/\u.size<=6000/\Up w w':=by
 go_in
 go_wp2_with fail
 refine (Q.Nl x w (by omega) (by omega)).mono ?_;rintro e K ⟨z,rfl,⟨F,t,I,_,O⟩,j⟩;have J:=Hd I;have d:=Hd j;clear I j
 go_wp2_with fail
 refine (Q.Q1 w.heap.size z F t K J.o d.o.size (by omega)).mono ?_;rintro e U ⟨rfl,D⟩;have E:=d.up D;have H:=Q.L0 (Q.Ko F t) t (by omega);obtain⟨T,G⟩:=O2 (Q.Gd (Q.Ko F t) t);rw[G] at H ⊢;clear D G
 go_wp2
 go_ret
 exact⟨T,rfl,H,E.o⟩
theorem Qe (g N k:Nat)(X:SI)(w:World)(h:Q.Ne g N w k)(hk:k<=1000000)(hX:Cw X) :
 Calls prog 30 #[.pointer (some ⟨g,0,none⟩),Hj X] w fun e w'=>JR g N k 6100 12010 w e w':=by
 have h6:=h.1;have h2:=h.2.1;obtain⟨W0,a7⟩:=O2 (w.alloc (.cells #[.int .i64 X.kind,.int .i64 (X.width:Nat),.string (Oy X.index),.string (Oy X.elem)] 37));have HC:Hid (Q.Ne g N W0 k):=by unfold Hid;rw[<-a7];exact h.bl ((Oo _ _).mono h2)
 have HB:Hid (Q.Bar g w W0):=by unfold Hid;rw[<-a7];exact Q.Bar.of (Oo _ _)
 have HX:Hid (Bx W0 w.heap.size [.int .i64 X.kind,.int .i64 (X.width:Nat),.string (Oy X.index),.string (Oy X.elem)]):=by unfold Hid;rw[<-a7];exact Ox w _ _
 have HW:=Hd a7;have e2:=Hd hX;have c0:=HX.o.cell 0;obtain⟨kd,d4⟩:=O2 X.kind;have e0:=Hd d4;unfold Hj;rw[d4] at c0 HW HX ⊢;clear h a7 hX d4
 by_cases q1:kd=1
 ·subst q1
  go_in
  go_upto_region 1 with fail
  rw[HW.o]
  go_wp2_with fail
  refine (Q.K8 g N k 2 _ (HC.o.bl ((Oo W0 _).mono HC.o.2.1)) (by omega) (by decide) (by decide)).mono ?_;rintro e V ⟨r,k1,rfl,hr,b8,E,j⟩;have b4:=C3 (Ox W0 [.string ⟨#[102,97,108,115,101]⟩,.string ⟨#[116,114,117,101]⟩] 9) j (by have:=HC.o.2.1;omega);obtain⟨y0,y1⟩:=b4.c2;have D:=Hd E;have H:Hid (Q.Bar g w V):=(HB.o.trans (Q.Bar.of (Oo W0 _))).trans j;clear E j b4;have d5:r=0∨r=1:=by omega
  rcases d5 with rfl|rfl
  all_goals (
   go_wp2
   go_ret
   exact⟨_,k1,rfl,by decide,by omega,D.o,H.o⟩)
 by_cases q2:kd=2
 ·subst q2
  go_in
  go_upto_region 1 with fail
  rw[HW.o]
  go_wp2_with fail
  refine (Q.K8 g N k 9 W0 HC.o (by omega) (by decide) (by decide)).mono ?_;rintro e V ⟨r,k1,rfl,hr,b8,E,j⟩;have D:=Hd E;have H:Hid (Q.Bar g w V):=HB.o.trans j;clear E j
  by_cases h0:r=0
  ·have z0:((r:Int)==0)=true:=by rw[Jw];omega
   go_wp2_with fail
   refine (Q.K8 g N k1 40 V D.o (by omega) (by decide) (by decide)).mono ?_;rintro e Y ⟨r2,k2,rfl,d5,h7,a8,d⟩;have I:=Hd a8;have J:Hid (Q.Bar g w Y):=H.o.trans d;clear a8 d
   go_wp2_with fail
   refine (Q.DX g N k2 (1+r2) _ Y I.o (by omega) (by omega) (by omega) (by omega)).mono ?_;rintro e w3 ⟨u,k3,rfl,e5,h9,h8,b3,G⟩;have HU:=Hd e5;have O:=Hd b3;have Z:Hid (Q.Bar g w w3):=J.o.trans G;clear e5 h9 b3 G
   go_wp2
   go_ret
   refine⟨u,k3,rfl,?_,by omega,O.o,Z.o⟩;have:=CO HU.o;omega
  have z0:((r:Int)==0)=false:=by rw[Jd];omega
  go_wp2_with fail
  refine (Q.K8 g N k1 11 V D.o (by omega) (by decide) (by decide)).mono ?_;rintro e Y ⟨r2,k2,rfl,d5,h7,a8,d⟩;have I:=Hd a8;have J:Hid (Q.Bar g w Y):=H.o.trans d;clear a8 d
  go_wp2_with fail
  refine (Q.Nl _ Y (by omega) (by omega)).mono ?_;rintro e w3 ⟨z,rfl,⟨ng,t,hz,_,ht⟩,G⟩;have HZ:=Hd hz;have O:=Hd (I.o.bl (G.mono I.o.2.1));have Z:Hid (Q.Bar g w w3):=J.o.trans (Q.Bar.of G);have g6:=Hd G.size;clear hz G
  go_wp2_with fail
  refine (Q.Q1 Y.heap.size z ng t w3 HZ.o g6.o (by omega)).mono ?_;rintro e w4 ⟨rfl,U⟩;have a6:=Hd (O.o.bl (U.mono O.o.2.1));have c7:Hid (Q.Bar g w w4):=Z.o.trans (Q.Bar.of U);have hf:=Q.L0 (Q.Ko ng t) t (by omega);obtain⟨T,hT⟩:=O2 (Q.Gd (Q.Ko ng t) t);rw[hT] at hf ⊢;clear U hT
  go_wp2
  go_ret
  exact⟨T,k2,rfl,by omega,by omega,a6.o,c7.o⟩
 by_cases q3:kd=3
 ·subst q3
  go_in
  go_upto_region 1 with fail
  rw[HW.o]
  go_wp2_with fail
  refine (Q.K8 g N k 11 W0 HC.o (by omega) (by decide) (by decide)).mono ?_;rintro e V ⟨r,k1,rfl,hr,b8,E,j⟩;have D:=Hd E;have H:Hid (Q.Bar g w V):=HB.o.trans j;clear E j
  go_wp2_with fail
  refine (Q.Nl _ V (by omega) (by omega)).mono ?_;rintro e Y ⟨zp,rfl,e7,d⟩;have g9:=Hd (e7.mono D.o.2.1);have I:=Hd (D.o.bl (d.mono D.o.2.1));have J:Hid (Q.Bar g w Y):=H.o.trans (Q.Bar.of d);clear e7 d
  go_wp2_with fail
  refine (Q.K8 g N k1 3 Y I.o (by omega) (by decide) (by decide)).mono ?_;rintro e w3 ⟨r3,k3,rfl,j3,h8,b3,G⟩;have e3:=Hd (g9.o.bar G h6);have O:=Hd b3;have Z:Hid (Q.Bar g w w3):=J.o.trans G;clear b3 G
  go_wp2_with fail
  refine (Q.Nl _ w3 (by omega) (by omega)).mono ?_;rintro e w4 ⟨zq,rfl,e8,U⟩;have h1:=Hd (e8.mono O.o.2.1);have e4:=Hd (e3.o.bl U);have a6:=Hd (O.o.bl (U.mono O.o.2.1));have c7:Hid (Q.Bar g w w4):=Z.o.trans (Q.Bar.of U);clear e8 U
  go_wp2_with fail
  refine (Q.EO N zp zq _ _ w4 a6.o.2.1 (e4.o.mono' O1 (by decide)) (h1.o.mono' O1 (by decide)) (by omega)).mono ?_;rintro e w5 ⟨z,p,q,rfl,hz,c6,d2⟩;have HZ:=Hd hz;have d9:=Hd (Q.TX (k:=1) c6 (by unfold Q.lb;omega) (by unfold Q.lb;omega));have c8:=Hd (a6.o.bl (d2.mono a6.o.2.1));have f8:Hid (Q.Bar g w w5):=c7.o.trans (Q.Bar.of d2);clear hz d2 c6
  go_wp2_with fail
  have qq:∀ m:Nat,1<=m->∀ a:Nat,a<Q.lb 1->a<Q.lb m:=fun m hm a ha=>Js ha (J3 (by decide) hm);refine (Q.ZH N z p q w5 c8.o.2.1 HZ.o (qq 600 (by decide) _ d9.o.1) (qq 600 (by decide) _ d9.o.2)).mono ?_;clear qq;rintro e w6 ⟨u,rfl,hu,d3⟩;have g0:=Hd (c8.o.bl (d3.mono c8.o.2.1));have f9:Hid (Q.Bar g w w6):=f8.o.trans (Q.Bar.of d3);clear d3
  go_wp2
  go_ret
  exact⟨u,k3,rfl,by omega,by omega,g0.o,f9.o⟩
 by_cases q5:kd=5
 ·subst q5
  go_in
  go_upto_region 1 with fail
  rw[HW.o]
  go_wp2_with fail
  refine (Q.K8 g N k 4 W0 HC.o (by omega) (by decide) (by decide)).mono ?_;rintro e V ⟨r,k1,rfl,hr,b8,E,j⟩;have D:=Hd E;have H:Hid (Q.Bar g w V):=HB.o.trans j;clear E j
  go_wp2_with fail
  refine (Xp _ V (by omega) (by omega)).mono ?_;rintro e Y ⟨u,rfl,hu,d⟩;have I:=Hd (D.o.bl (d.mono D.o.2.1));have J:Hid (Q.Bar g w Y):=H.o.trans (Q.Bar.of d);clear d
  go_wp2
  go_ret
  refine⟨_,k1,rfl,?_,by omega,I.o,J.o⟩;rw[Y4];have e1:(⟨#[64]⟩:ByteArray).size=1:=rfl;omega
 by_cases q4:kd=4
 ·subst q4
  go_in
  go_upto_region 1 with fail
  rw[HW.o]
  go_wp2_with fail
  refine Tx 8 rfl (S:=fun W=>W.cell? ⟨w.heap.size,1,none⟩=some (.int .i64 (X.width:Nat))) (by kernel_rfl) (HX.o.drew.cell 1) (fun hHeld=>?_);refine tk 0 43 (v:=?_) rfl rfl (by kernel_rfl) (fun _ _ _ h=>h) (Or.inl ⟨by rfl,?_⟩) (by assumption) ?_
  rotate_left
  ·(intro w F;(try dsimp only at F);go_simp;(try with_reducible rfl))
  try simp only[Act.put,Ja,Jc,Jb]
  refine tk 3 46 (v:=?_) rfl rfl (by kernel_rfl) (fun _ _ _ h=>h) (Or.inl ⟨by rfl,?_⟩) (by assumption) ?_
  rotate_left
  ·(intro w F;(try dsimp only at F);go_simp;(try with_reducible rfl))
  try simp only[Act.put,Ja,Jc,Jb]
  refine tk 4 47 (v:=?_) rfl rfl (by kernel_rfl) (fun _ _ _ h=>h) (Or.inl ⟨by rfl,?_⟩) (by assumption) ?_
  rotate_left
  ·(intro w F;(try dsimp only at F);go_simp;(try with_reducible rfl))
  try simp only[Act.put,Ja,Jc,Jb]
  refine wpAnyH_ready (rs:=[1]) (by kernel_rfl) (by simp) ?_;refine AllReadyH.cons rfl (fun K hK=>?_) AllReadyH.nil
  go_simp
  go_at_call 15
  refine (Q.K8 g N k 256 W0.drew (HC.o.bl (Jj _ _).drew) (by omega) (by decide) (by decide)).mono ?_;rintro e V ⟨r,k1,rfl,hr,b8,E,j⟩;have D:=Hd E;have H:Hid (Q.Bar g w V):=(HB.o.trans (Q.Bar.of (Jj _ _).drew)).trans j;have b4:=C3 HX.o.drew j (by omega);have d1:=Hd b4;clear E j b4
  go_wp2_with fail
  refine hK.out _ _ (d1.o.cell 1) (fun hHeld1=>?_);clear hK K
  try simp only[Act.put,Ja,Jc,Jb]
  have i6:(r:Int)<18446744073709551616:=by omega
  refine tk 2 45 (v:=?_) rfl rfl (by kernel_rfl) (fun _ _ _ h=>h) (Or.inl ⟨by rfl,?_⟩) (by assumption) ?_
  rotate_left
  ·(intro w F;(try dsimp only at F);go_simp;(try with_reducible rfl))
  try simp only[Act.put,Ja,Jc,Jb]
  refine wpAnyH_ready (rs:=[5]) (by kernel_rfl) (by simp) ?_;refine AllReadyH.cons rfl (fun K hK=>?_) AllReadyH.nil
  go_simp
  go_at_call 40
  rw[show IntKind.u64.wrap (r:Int)=(r:Int) by rw[IntKind.wrap_u64];omega];refine (Q4 r X.width V (by omega) (e2.o e0.o).2).mono ?_;rintro e Y ⟨rfl,d⟩;have J:Hid (Q.Bar g w Y):=H.o.trans (Q.Bar.of d);have I:=Hd (D.o.bl (d.mono D.o.2.1));have g7:=Hd (d1.o.bl d1.o.lt d);obtain⟨T,hT⟩:=O2 (Q.Kq (digits2 r X.width));have j4:T.size<=64:=by rw[<-hT,Q.Kf,K5];exact (e2.o e0.o).2
  have j1:¬ 9223372036854775807<2+T.size:=by omega
  rw[hT];clear d hT
  go_wp2_with fail
  refine hK.out _ _ (g7.o.cell 1) (fun hHeld5=>?_);clear hK K
  try simp only[Act.put,Ja,Jc,Jb]
  refine tk 6 49 (v:=?_) rfl rfl (by kernel_rfl) (fun _ _ _ h=>h) (Or.inl ⟨by rfl,?_⟩) (by assumption) ?_
  rotate_left
  ·(intro w F;(try dsimp only at F);go_simp;(try with_reducible rfl))
  try simp only[Act.put,Ja,Jc,Jb]
  refine tk 7 4 (v:=?_) rfl rfl (by kernel_rfl) (fun _ _ _ h=>h) (Or.inl ⟨by rfl,?_⟩) (by assumption) ?_
  rotate_left
  ·(intro w F;(try dsimp only at F);go_simp;(try with_reducible rfl))
  try simp only[Act.put,Ja,Jc,Jb]
  refine wpAnyH_done (by kernel_rfl) ?_ _
  go_wp2
  go_ret
  refine⟨_,k1,rfl,?_,by omega,I.o,J.o⟩;rw[Y4];have e1:(⟨#[35,98]⟩:ByteArray).size=2:=rfl;omega
 have g1:(kd==1)=false:=by rw[Jd];exact q1
 have g2:(kd==2)=false:=by rw[Jd];exact q2
 have g3:(kd==3)=false:=by rw[Jd];exact q3
 have g4:(kd==4)=false:=by rw[Jd];exact q4
 have g5:(kd==5)=false:=by rw[Jd];exact q5
 go_in
 go_upto_region 1 with fail
 rw[HW.o]
 go_wp2
 go_ret
 exact⟨_,k,rfl,by decide,by omega,HC.o,HB.o⟩
def LS (g:Nat)(w:World)(vs:Value)(t:List UInt8)(Y:SI):Prop:=∀ W,Q.Bar g w W->Calls prog 12 #[vs,.string (Oy t)] W fun e w'=>e=.returned (Hj Y)/\Up W w'
theorem LS.next {t:List UInt8}(h:LS g w vs t Y)(hb:Q.Bar g w w'):LS g w' vs t Y:=fun W hW=>h W (hb.trans hW)
theorem LS.at {t:List UInt8}(h:LS g w vs t Y)(hb:Q.Bar g w w'):P3 w' vs t Y:=fun W hW=>h W (hb.trans (Q.Bar.of hW))
structure ArrS (g:Nat)(w:World)(vs:Value)(X Xi Xe:SI):Prop where
 six:X.kind=6
 ri:LS g w vs X.index Xi
 re:LS g w vs X.elem Xe
 wi:Cw Xi
 we:Cw Xe
 key:Gm (On Xi)
 w64:Xi.width<=64
theorem ArrS.next {Xi Xe:SI}(h:ArrS g w vs X Xi Xe)(hb:Q.Bar g w w'):ArrS g w' vs X Xi Xe:=⟨h.six,h.ri.next hb,h.re.next hb,h.wi,h.we,h.key,h.w64⟩
theorem DM (r:ByteArray)(L:List Kd):(X9 r L).size<=2000:=by
 unfold X9
 split
 ·rename_i h
  show (E8 r L).toArray.size<=2000
  simpa using h.2
 decide
theorem P2.most {ki ke:SK}{a i s u:ByteArray}(h:P2 ki ke a i s u):u.size<=2000:=by
 by_cases e:∃ r L,K1 ki ke a r L/\Kg ki i/\Kg ke s
 ·obtain⟨r,L,j,D,h3⟩:=e;obtain⟨E,d,_,rfl⟩:=h.1 r L j D h3;exact DM E d
 rw[h.2 e];decide
theorem DA (g N k:Nat)(w:World)(h:Q.Ne g N w k)(hk:k<=1000000) :
 Calls prog 16 #[.pointer (some ⟨g,0,none⟩)] w fun e w'=>JR g N k 10 500000 w e w':=by
 have T:=Hd h;clear h
 go_in
 go_wp2_with fail
 refine (Q.K8 g N k 2 w T.o (by omega) (by decide) (by decide)).mono ?_;rintro e w1 ⟨r,k1,rfl,hr,Y,G,E⟩;have D:=Hd G;have J:=Hd E;clear G E
 go_wp2
 go_loopw [3,5] (fun va vi W=>∃ (a:ByteArray) (i:Nat),va=.string a/\vi=.int .i64 i/\i<=60 - r/\a.size<=2+i*6100/\Hid (Up w1 W)) (fun _ vi _=>60 - (intOf vi).toNat)
 case atStart=>exact⟨_,0,rfl,rfl,by omega,by decide,Jj _ _⟩
 obtain⟨a,i,rfl,rfl,hi,ha,O⟩:=hrel;have V:a.size<=400000:=by omega
 by_cases Z:i<60 - r
 ·have H:(i:Int)<60 - (r:Int):=by omega
  go_wp2_with fail
  refine (Xp _ wr (by omega) (by omega)).mono ?_;rintro e w2 ⟨u,rfl,hu,F⟩;have d:=O.up F;have I:(a++(⟨#[59]⟩++u++⟨#[61,51]⟩)).size<=2+(i+1)*6100:=by
   simp only[Y4];have U:(⟨#[59]⟩:ByteArray).size=1:=rfl;have e2:(⟨#[61,51]⟩:ByteArray).size=2:=rfl;omega
  have j:=Hd I;clear F I
  go_wp2_with fail
  exact⟨⟨_,i+1,rfl,by go_num,by omega,j.o,d⟩,by simp[intOf];omega⟩
 have H:¬ (i:Int)<60 - (r:Int):=by omega
 have K:=Hd (D.o.bl (O.o.mono D.o.2.1));have d:Hid (Q.Bar g w wr):=J.o.trans (Q.Bar.of O.o);have j:Hid ((a++(⟨#[125]⟩:ByteArray)).size<=500000):=by
  unfold Hid;rw[Y4];have U:(⟨#[125]⟩:ByteArray).size=1:=rfl;omega
 go_wp2
 go_ret
 exact⟨_,k1,rfl,j.o,by omega,K.o,d.o⟩
theorem Tc (g N k:Nat)(vs:Value)(t:List UInt8)(X:SI)(w:World)(h:Q.Ne g N w k)(hk:k<=500000)(hrs:LS g w vs t X)(hX:Cw X)(hA:X.kind=6->∃ Xi Xe,ArrS g w vs X Xi Xe) :
 Calls prog 36 #[.pointer (some ⟨g,0,none⟩),vs,.string (Oy t)] w fun e w'=>JR g N k 62000 12020 w e w':=by
 have HC:=Hd h;have b8:=Hd hrs;have HX:=Hd hX;have HA:=Hd hA;have j4:=h.1;have g6:=h.2.1;clear h hrs hX hA
 go_in
 go_wp2_with fail
 refine (b8.o w (Q.Bar.refl g w)).mono ?_;rintro e w1 ⟨rfl,I⟩;have O:=Hd (HC.o.bl (I.mono g6));have e7:Hid (Q.Bar g w w1):=Q.Bar.of I;have j1:=Hd I.size;unfold Hj;clear I
 go_upto_region 2 with fail
 generalize Y:w1.alloc _=j;have V:Hid (Bx j w1.heap.size [.int .i64 X.kind,.int .i64 (X.width:Nat),.string (Oy X.index),.string (Oy X.elem)]):=by unfold Hid;rw[<-Y];exact Ox w1 _ _
 have E:Up w1 j:=by rw[<-Y];exact Oo _ _
 have T:=Hd (O.o.bl (E.mono O.o.2.1));have F:Hid (Q.Bar g w j):=e7.o.trans (Q.Bar.of E);obtain⟨q,hq⟩:=O2 w1.heap.size;have g3:Hid (q≠g):=by unfold Hid;rw[<-hq];have:=O.o.2.1;omega
 rw[hq] at V;have b4:Hid (∀ W,Q.Bar g j W->Bx W q [.int .i64 X.kind,.int .i64 (X.width:Nat),.string (Oy X.index),.string (Oy X.elem)]):=fun W hW=>C3 V.o hW g3.o;obtain⟨x0,x1,x2,x3⟩:=V.o.c4
 try rw[hq]
 clear Y E hq
 by_cases h6:X.kind=6
 case neg=>
  have z6:(X.kind != 6)=true:=by rw[bne_iff_ne];exact h6
  have HV:=Hd (Qe g N k X j T.o (by omega) HX.o);unfold Hj at HV;clear h6
  go_wp2_with fail
  refine HV.o.mono ?_;rintro e w3 ⟨u,k3,rfl,hu,j5,d3,D⟩;have U:=Hd d3;have J:Hid (Q.Bar g w w3):=F.o.trans D;clear d3 D
  go_wp2
  go_ret
  exact⟨u,k3,rfl,by omega,by omega,U.o,J.o⟩
 obtain⟨Xi,Xe,c6⟩:=HA.o h6;have d:=Hd (c6.next F.o);have z6:(X.kind != 6)=false:=by rw[h6];rfl
 have g5:=Hd (b8.o.next F.o);clear h6 c6
 go_wp2_with fail
 refine (d.o.re j (Q.Bar.refl g j)).mono ?_;rintro e w3 ⟨rfl,D⟩;have U:=Hd (T.o.bl (D.mono T.o.2.1));have J:Hid (Q.Bar g j w3):=Q.Bar.of D;clear D
 go_wp2_with fail
 refine (Qe g N k Xe w3 U.o (by omega) d.o.we).mono ?_;rintro e w4 ⟨u,k4,rfl,hu,j6,d4,c8⟩;have f9:=Hd d4;have e8:Hid (Q.Bar g j w4):=J.o.trans c8;obtain⟨a0,c7⟩:=O2 ((⟨#[123]⟩:ByteArray)++u++⟨#[125]⟩);have g9:a0.size<=12020:=by
  rw[<-c7];simp only[Y4];have e1:(⟨#[123]⟩:ByteArray).size=1:=rfl;have e2:(⟨#[125]⟩:ByteArray).size=1:=rfl;omega
 clear d4 c8
 go_wp2_with fail
 refine (Q.K8 g N k4 5 w4 f9.o (by omega) (by decide) (by decide)).mono ?_;rintro e w5 ⟨r,k5,rfl,hr,j7,d5,d0⟩;have g0:=Hd d5;have e9:Hid (Q.Bar g j w5):=e8.o.trans d0;clear d5 d0 x0 x1 x2 x3
 go_wp2_with fail
 clear c7
 go_loopw [8,9] (fun va vn W=>∃ (a:ByteArray) (n kk:Nat),va=.string a/\vn=.int .i64 n/\n<=4/\a.size<=12020/\kk+n*12300<=k+60000/\Hid (Q.Ne g N W kk)/\Hid (Q.Bar g j W)) (fun _ vn _=>(intOf vn).toNat)
 case atStart=>exact⟨a0,r,k5,rfl,rfl,by omega,g9,by omega,g0,e9⟩
 obtain⟨a,n,kk,rfl,rfl,hn,ha,k0,hc,hb⟩:=hrel;obtain⟨x0,x1,x2,x3⟩:=(b4.o wr hb.o).c4
 by_cases k1:0<n
 ·have g8:(0:Int)<(n:Int):=by omega
  go_wp2_with fail
  refine (d.o.ri wr hb.o).mono ?_;rintro e w6 ⟨rfl,Z⟩;have g1:=Hd (hc.o.bl (Z.mono hc.o.2.1));have f5:Hid (Q.Bar g j w6):=hb.o.trans (Q.Bar.of Z);clear Z
  go_wp2_with fail
  refine (Qe g N kk Xi w6 g1.o (by omega) d.o.wi).mono ?_;rintro e w7 ⟨i,k7,rfl,hi,j8,d6,d1⟩;have b5:=Hd d6;have K:Hid (Q.Bar g j w7):=f5.o.trans d1;clear d6 d1 x0 x1 x2 x3;obtain⟨x0,x1,x2,x3⟩:=(b4.o w7 K.o).c4
  go_wp2_with fail
  refine (d.o.re w7 K.o).mono ?_;rintro e w8 ⟨rfl,a6⟩;have g2:=Hd (b5.o.bl (a6.mono b5.o.2.1));have f7:Hid (Q.Bar g j w8):=K.o.trans (Q.Bar.of a6);clear a6
  go_wp2_with fail
  refine (Qe g N k7 Xe w8 g2.o (by omega) d.o.we).mono ?_;rintro e w9 ⟨v,k9,rfl,hv,j9,d7,d2⟩;have b6:=Hd d7;have G:Hid (Q.Bar g j w9):=f7.o.trans d2;clear d7 d2;have g4:=Hd (Lk vs t a i v X Xi Xe w9 (by omega) (by omega) (by omega) d.o.six (g5.o.at G.o) (d.o.ri.at G.o) (d.o.re.at G.o) d.o.wi d.o.we d.o.key d.o.w64)
  go_wp2_with fail
  refine g4.o.mono ?_;rintro e wp ⟨b,rfl,hp,a7⟩;have j3:=hp.most;have b7:=Hd (b6.o.bl (a7.mono b6.o.2.1));have b3:Hid (Q.Bar g j wp):=G.o.trans (Q.Bar.of a7);have k8:(n:Int) - 1=((n - 1:Nat):Int):=by omega
  clear hp a7
  by_cases H:b=⟨#[]⟩
  ·have e1:(b.toList==[])=true:=by rw[H,Je];rfl
   clear H
   go_wp2_with fail
   exact⟨⟨a,n - 1,k9,rfl,by go_num,by omega,ha,by omega,b7,b3⟩,by simp[intOf];omega⟩
  have e1:(b.toList==[])=false:=by
   rw[Jd];intro e;exact H (Kz (by rw[<-Je];exact e))
  clear H
  go_wp2_with fail
  exact⟨⟨b,n - 1,k9,rfl,by go_num,by omega,by omega,by omega,b7,b3⟩,by simp[intOf];omega⟩
 have g8:¬ (0:Int)<(n:Int):=by omega
 have f8:Hid (Q.Bar g w wr):=F.o.trans hb.o
 go_wp2
 go_ret
 exact⟨a,kk,rfl,ha,by omega,hc.o,f8.o⟩
theorem Ty {W:World}{Ls:List ByteArray}(h:Bx W b (Ls.map Value.string)){r:Nat}(hr:r<Ls.length):W.cell? ⟨b,r,none⟩=some (.string Ls[r]):=by
 rw[h.cell,Zh,Jl hr];rfl
def oddTs:List ByteArray:=[⟨#[]⟩,⟨#[123,125]⟩,⟨#[123,48]⟩,⟨#[123,48,59,49,61,48,125]⟩,⟨#[123,48,59,49,125]⟩,⟨#[123,48,59,50,61,49,59,49,61,49,125]⟩,⟨#[123,64,48,59,35,98,48,48,61,64,49,125]⟩,⟨#[64]⟩,⟨#[64,48,49]⟩,⟨#[64,49,48,48,48,48,48,48]⟩,⟨#[35,98]⟩,⟨#[35,98,48,49]⟩,⟨#[84,82,85,69]⟩,⟨#[49,47,49]⟩,⟨#[123,48,59,49,61,49,61,49,125]⟩]
theorem CW:∀ s∈oddTs,s.size<=20:=by decide
theorem Q6 (g N k:Nat)(vs:Value)(t:List UInt8)(X:SI)(w:World)(h:Q.Ne g N w k)(hk:k<=400000)(hrs:LS g w vs t X)(hX:Cw X)(hA:X.kind=6->∃ Xi Xe,ArrS g w vs X Xi Xe) :
 Calls prog 14 #[.pointer (some ⟨g,0,none⟩),vs,.string (Oy t)] w fun e w'=>JR g N k 62010 12020 w e w':=by
 have c7:=Hd (Tc g N k vs t X w h (by omega) hrs hX hA);have g1:=h.1;clear h hrs hX hA
 go_in
 go_wp2_with fail
 refine c7.o.mono ?_;rintro e w1 ⟨v,k1,rfl,hv,g2,d5,d2⟩;have e1:=Hd d5;have d9:=Hd d2;clear d5 d2 c7
 go_wp2_with fail
 refine (Q.K8 g N k1 9 w1 e1.o (by omega) (by decide) (by decide)).mono ?_;rintro e D ⟨r,k2,rfl,hr,g3,d6,d3⟩;have d:=Hd d6;have H:Hid (Q.Bar g w D):=d9.o.trans d3;clear d6 d3;have b6:r=0∨r=1∨2<=r:=by omega
 rcases b6 with r0|r1|r2
 ·have z0:((r:Int)==0)=true:=by rw[Jw];omega
  have e4:=Hd (Ox D (oddTs.map Value.string) 9);have J:=Oo D (.cells (oddTs.map Value.string).toArray 9);have b3:=Hd (d.o.bl (J.mono d.o.2.1));have a7:=Hd (H.o.trans (Q.Bar.of J));have T:D.heap.size≠g:=by have:=d.o.2.1;omega
  clear J
  go_wp2_with fail
  refine (Q.K8 g N k2 15 _ b3.o (by omega) (by decide) (by decide)).mono ?_;rintro e G ⟨q,k4,rfl,hq,e5,K,E⟩;have b4:=Hd K;have a8:Hid (Q.Bar g w G):=a7.o.trans E;have b8:q<oddTs.length:=hq;have F:=Ty (C3 e4.o E T) b8;have e8:=CW _ (Yl b8);obtain⟨u,hu⟩:=O2 (oddTs[q]'b8);rw[hu] at F e8;clear hu K E
  go_wp2
  go_ret
  exact⟨u,k4,rfl,by omega,by omega,b4.o,a8.o⟩
 ·have z0:((r:Int)==0)=false:=by rw[Jd];omega
  have z1:((r:Int)==1)=true:=by rw[Jw];omega
  by_cases f5:0<v.size
  ·have d8:(0:Int)<(v.size:Int):=by omega
   have V:=Lib.run_convert_string_bytes (P:=prog) D 9 22 5 v (u:=.string) underlying9 underlying22 underlying5;have U:Up D (Lib.bytesWorld D 5 v):=Lib.bytesWorld_below _ _ _;have I:=Lib.bytesWorld_at_new D 5 v;have b7:∀ j,j<v.size->(Lib.bytesWorld D 5 v).cell? ⟨D.heap.size,j,none⟩=some (.int .u8 (v.data.toList.getD j 0).toNat):=fun j hj=>Lib.bytesWorld_cell D 5 v j hj;have e7:(Lib.bytesCells D 5 v).size≥v.size:=by unfold Lib.bytesCells;simp
   obtain⟨W3,d1⟩:∃ W3,W3=Lib.bytesWorld D 5 v:=⟨_,rfl⟩;obtain⟨cs,d7⟩:∃ cs,cs=Lib.bytesCells D 5 v:=⟨_,rfl⟩;obtain⟨cap,Z⟩:∃ cap,cap=grownCap D v.size 0 5:=⟨_,rfl⟩;rw[<-d7] at I e7;rw[<-d1] at V U I b7;rw[<-Z] at V;have b3:=Hd (d.o.bl (U.mono d.o.2.1));have a7:=Hd (H.o.trans (Q.Bar.of U));have T:D.heap.size≠g:=by have:=d.o.2.1;omega
   have O:D.heap.size<W3.heap.size:=(Yr.1 I).1;have b9:=Hd I;have c8:=Hd b7;obtain⟨bq,d4⟩:=O2 D.heap.size;rw[d4] at V b9 c8 T O;clear d1 d7 Z I b7 U
   go_wp2_with fail
   refine (Q.K8 g N k2 v.size W3 b3.o (by omega) f5 (by omega)).mono ?_;rintro e G ⟨q,k4,rfl,hq,e5,K,E⟩;have b4:=Hd K;have a8:Hid (Q.Bar g w G):=a7.o.trans E;have c6:Hid (G.heap[bq]? = some (.cells cs 5 (cs.size,cs.size+1))):=(E.block bq O T).trans b9.o;have Y:Hid (∀ j,j<v.size->G.cell? ⟨bq,j,none⟩=some (.int .u8 (v.data.toList.getD j 0).toNat)):=fun j hj=>(E.cell (p:=⟨bq,j,none⟩) O T).trans (c8.o j hj);have F:=Y.o q hq;have g0:G.frozen? ⟨bq,q,none⟩=false:=by
    unfold World.frozen?;simp only[c6.o];simp;omega
   have b5:Hid ((v.data.toList.set q 49).length=v.size):=by unfold Hid;rw[List.length_set];rfl
   have a6:∀ W,W=G.setCell ⟨bq,q,none⟩ (.int .u8 49)->(convert 22 9 (.slice (some ⟨bq,0,none⟩) v.size cap)).run prog W=.ok (.string ⟨(v.data.toList.set q 49).toArray⟩) W:=fun W hW=>by
    have h:=run_convert_bytes_back (P:=prog) W 22 9 5 ⟨bq,0,none⟩ cap (v.data.toList.set q 49) underlying22 underlying5 underlying9 (fun j hj=>by
     rw[b5.o] at hj;rw[Addr.add_lit,Y3,hW]
     by_cases e:j=q
     ·subst e;rw[World.cell?_setCell_same _ _ _ F,List.getElem_set_self];rfl
     rw[World.cell?_setCell_other _ _ _ _ (by simp<;>omega),Y.o j hj,List.getElem_set_ne (by omega)];rw[Ji,Jl (by exact hj)];rfl)
    rw[b5.o] at h;exact h
   have f7:=a6 _ rfl;have e2:Hid (Q.Ne g N (G.setCell ⟨bq,q,none⟩ (.int .u8 49)) k4):=b4.o.bl ((Jj N G).setCell (p:=⟨bq,q,none⟩) (by have:=d.o.2.1;show N<=bq;omega) _);have e0:Hid (Q.Bar g w (G.setCell ⟨bq,q,none⟩ (.int .u8 49))):=by
    have h1:=a8.o;have g4:w.heap.size<=bq:=by rw[<-d4];exact H.o.size
    have h2:(G.setCell ⟨bq,q,none⟩ (.int .u8 49)).heap.size=G.heap.size:=by simp
    exact⟨h1.os,h1.tape,h1.output,by rw[h2];exact h1.size,fun j hj hjg=>(J1 _ ⟨bq,q,none⟩ _ _ (by show j≠bq;omega)).trans (h1.block j hj hjg)⟩
   have e3:Hid ((⟨(v.data.toList.set q 49).toArray⟩:ByteArray).size<=12020):=by
    show (v.data.toList.set q 49).toArray.size<=_
    rw[Vh,b5.o];exact hv
   clear a6 K E V
   go_wp2
   go_ret
   exact⟨_,k4,rfl,e3.o,by omega,e2.o,e0.o⟩
  have d8:¬ (0:Int)<(v.size:Int):=by omega
  go_wp2
  go_ret
  exact⟨v,k2,rfl,hv,by omega,d.o,H.o⟩
 have z0:((r:Int)==0)=false:=by rw[Jd];omega
 have z1:((r:Int)==1)=false:=by rw[Jd];omega
 go_wp2
 go_ret
 exact⟨v,k2,rfl,hv,by omega,d.o,H.o⟩
def sortTs:List ByteArray:=[⟨#[66,111,111,108]⟩,⟨#[73,110,116]⟩,⟨#[82,101,97,108]⟩,⟨#[85]⟩,⟨#[40,95,32,66,105,116,86,101,99,32,51,41]⟩,⟨#[40,95,32,66,105,116,86,101,99,32,54,52,41]⟩,⟨#[40,65,114,114,97,121,32,73,110,116,32,73,110,116,41]⟩,⟨#[40,65,114,114,97,121,32,40,95,32,66,105,116,86,101,99,32,50,41,32,85,41]⟩,⟨#[40,65,114,114,97,121,32,40,95,32,66,105,116,86,101,99,32,49,41,32,73,110,116,41]⟩,⟨#[40,65,114,114,97,121,32,85,32,82,101,97,108,41]⟩,⟨#[40,65,114,114,97,121,32,40,95,32,66,105,116,86,101,99,32,55,41,32,40,95,32,66,105,116,86,101,99,32,49,41,41]⟩,⟨#[40,65,114,114,97,121,32,73,110,116,32,66,111,111,108,41]⟩,⟨#[86]⟩,⟨#[40,65,114,114,97,121,32,40,95,32,66,105,116,86,101,99,32,56,41,32,73,110,116,41]⟩]
def uw:List (List UInt8):=[[85],[87]]
def JP (X:SI):Bool:=!decide (X.kind=4)||(decide (0<X.width)&&decide (X.width<=64))
theorem LA (h:JP X=true):Cw X:=fun h4=>by
 unfold JP at h
 rw[Jn h4] at h
 simpa using h
def DW (t:List UInt8):Bool:=
 let X:=Ks (Kr uw) t
 let Xi:=Ks (Kr uw) X.index
 let Xe:=Ks (Kr uw) X.elem
 !decide (X.kind=6)||(JP Xi&&JP Xe&&(decide (Xi.kind=2)||decide (Xi.kind=4)||decide (Xi.kind=5))&&decide (Xi.width<=64)&&!decide (Xi.kind=6)&&!decide (Xe.kind=6)&&decide (X.index.length<=100)&&decide (X.elem.length<=100))
structure GoodS (t:List UInt8)(X Xi Xe:SI):Prop where
 rx:Ks (Kr uw) t=X
 six:X.kind=6
 ri:Ks (Kr uw) X.index=Xi
 re:Ks (Kr uw) X.elem=Xe
 wi:Cw Xi
 we:Cw Xe
 key:Gm (On Xi)
 w64:Xi.width<=64
 ni:Xi.kind≠6
 ne:Xe.kind≠6
 li:X.index.length<=100
 le:X.elem.length<=100
theorem GE {t:List UInt8}(h:DW t=true)(h6:(Ks (Kr uw) t).kind=6):∃ X Xi Xe,GoodS t X Xi Xe:=by
 unfold DW at h;simp only[h6,decide_true,Bool.not_true,Bool.false_or,Yd,Y7,Ud,Bool.not_eq_true',Jy] at h;obtain⟨⟨⟨⟨⟨⟨⟨a,b⟩,c⟩,d⟩,e⟩,f⟩,g⟩,i⟩:=h;exact⟨_,_,_,rfl,h6,rfl,rfl,LA a,LA b,by rcases c with (c|c)|c;exact .inl c;exact .inr (.inl c);exact .inr (.inr c),d,e,f,g,i⟩
theorem NV:sortTs.all (fun s=>DW s.data.toList)=true:=by kernel_rfl
theorem DJ:∃ X Xi Xe,GoodS (⟨#[40,65,114,114,97,121,32,73,110,116,32,73,110,116,41]⟩:ByteArray).data.toList X Xi Xe:=GE (by kernel_rfl) (by kernel_rfl)
theorem NU:∀ s∈sortTs,s.size<=40:=by decide
theorem Rk (w:World):Eu (w.alloc (.cells #[.string ⟨#[85]⟩,.string ⟨#[87]⟩] 9)) (.slice (some ⟨w.heap.size,0,none⟩) 2 2) uw:=by
 have d:=Ox w [.string ⟨#[85]⟩,.string ⟨#[87]⟩] 9;refine⟨_,2,rfl,by decide,by unfold maxLen;decide,.inr ⟨w.heap.size,rfl,d.lt,fun i h=>?_⟩⟩;have j:i=0∨i=1:=by have:uw.length=2:=rfl;omega
 rcases j with rfl|rfl
 ·exact d.cell 0
 exact d.cell 1
theorem LE {c:Nat}{L:List (List UInt8)}(h:Eu w (.slice (some ⟨b,0,none⟩) L.length c) L)(hb:Q.Bar g w w')(hg:b≠g):Eu w' (.slice (some ⟨b,0,none⟩) L.length c) L:=by
 obtain⟨p,c,e,d,j,h3⟩:=h
 cases e
 refine⟨_,c,rfl,d,j,?_⟩
 rcases h3 with h3|⟨E,e,hl,D⟩
 ·exact .inl h3
 cases e
 exact .inr ⟨b,rfl,Js hl hb.size,fun i hi=>(hb.cell (p:=⟨b,i,none⟩) hl hg).trans (D i hi)⟩
theorem In (h:Eu w (.slice (some ⟨b,0,none⟩) 2 2) uw)(hg:b≠g){t:List UInt8}(ht:t.length<=1048576)(hY:Ks (Kr uw) t=Y):LS g w (.slice (some ⟨b,0,none⟩) 2 2) t Y:=fun W hW=>by
 have d:Eu W (.slice (some ⟨b,0,none⟩) 2 2) uw:=LE (L:=uw) h hW hg
 refine (Pw _ uw (Oy t) W d (by show t.toArray.size<=_;simpa using ht)).mono ?_
 rintro e w' ⟨rfl,j⟩
 rw[O4,hY]
 exact⟨rfl,j⟩
theorem MV (h:Eu w (.slice (some ⟨b,0,none⟩) 2 2) uw)(hg:b≠g){t:List UInt8}{Xi Xe:SI}(hG:GoodS t X Xi Xe):ArrS g w (.slice (some ⟨b,0,none⟩) 2 2) X Xi Xe:=
 ⟨hG.six,In h hg (by have:=hG.li;omega) hG.ri,In h hg (by have:=hG.le;omega) hG.re,hG.wi,hG.we,hG.key,hG.w64⟩
theorem Ei (w:World):Calls prog 13 #[] w fun e w'=>e=.returned (.slice (some ⟨w.heap.size,0,none⟩) 2 2)/\w'=w.alloc (.cells #[.string ⟨#[85]⟩,.string ⟨#[87]⟩] 9):=by
 go_in
 go_wp2
 go_ret
 exact⟨rfl,rfl⟩
theorem A9 (g N k:Nat)(w:World)(h:Q.Ne g N w k)(hk:k<=1000000) :
 Calls prog 33 #[.pointer (some ⟨g,0,none⟩)] w fun e w'=>∃ (s:ByteArray) (k':Nat),e=.returned (.string s)/\s∈sortTs/\k'<=k+2/\Q.Ne g N w' k'/\Q.Bar g w w':=by
 have T:=Hd (Ox w (sortTs.map Value.string) 9);have d:=Oo w (.cells (sortTs.map Value.string).toArray 9);have J:=Hd (h.bl (d.mono h.2.1));have H:Hid (Q.Bar g w _):=Q.Bar.of d;have U:w.heap.size≠g:=by have:=h.1;have:=h.2.1;omega
 clear d h
 go_in
 go_wp2_with fail
 refine (Q.K8 g N k 14 _ J.o (by omega) (by decide) (by decide)).mono ?_;rintro e w4 ⟨q,k4,rfl,Z,Y,G,j⟩;have K:=Hd G;have I:Hid (Q.Bar g w w4):=H.o.trans j;have E:q<sortTs.length:=Z;have D:=Ty (C3 T.o j U) E;have F:=Yl E;obtain⟨u,V⟩:=O2 (sortTs[q]'E);rw[V] at D F;have O:=Hd F;clear V G j F
 go_wp2
 go_ret
 exact⟨u,k4,rfl,O.o,by omega,K.o,I.o⟩
end Go.Proofs.YtjjgilacnocigaaGreatDoor
