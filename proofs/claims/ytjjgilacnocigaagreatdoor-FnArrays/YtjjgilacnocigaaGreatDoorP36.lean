import Derived.Test.YtjjgilacnocigaaGreatDoorP35
set_option maxRecDepth 100000
set_option maxHeartbeats 8000000
namespace Go.Proofs.YtjjgilacnocigaaGreatDoor
open ChangeShapes WideShapes ChangeAt RowKit Proofs.Tryz
theorem Lk (vs:Value)(t:List UInt8)(a i v:ByteArray)(X Xi Xe:SI)(w:World)(ha:a.size<=1048576)(hi:i.size<=1048576)(hv:v.size<=1048576)(h6:X.kind=6)(hrs:P3 w vs t X)(hri:P3 w vs X.index Xi)(hre:P3 w vs X.elem Xe)(hwi:Cw Xi)(hwe:Cw Xe)(hK:Gm (On Xi))(hw64:Xi.width<=64) :
 Calls prog 6 #[vs,.string (Oy t),.string a,.string i,.string v] w fun e w'=>∃ u,e=.returned (.string u)/\P2 (On Xi) (On Xe) a i v u/\Up w w':=by
 have g5:=Hd hri;have g4:=Hd hre;have H6:=Hd h6;have h9:=Hd hwi;have h7:=Hd hwe;have HK:=Hd hK;have p7:=Hd (hrs w (Jj _ _));have f8:Hid ((¬ ∃ r L,K1 (On Xi) (On Xe) a r L/\Kg (On Xi) i/\Kg (On Xe) v)->P2 (On Xi) (On Xe) a i v ⟨#[]⟩):=fun h=>⟨fun r L h1 h2 h3=>absurd ⟨r,L,h1,h2,h3⟩ h,fun _=>rfl⟩;have z6:(X.kind != 6)=false:=by rw[h6];rfl
 clear hri hre h6 hwi hwe hK hrs
 go_in
 go_wp2_with fail
 refine p7.o.mono ?_;rintro e w1 ⟨rfl,s0⟩;have o5:=Hd s0;unfold Hj;clear s0 p7
 go_upto_region 2 with fail
 generalize m8:w1.alloc _=W2;have d2:Hid (Bx W2 w1.heap.size [.int .i64 X.kind,.int .i64 (X.width:Nat),.string (Oy X.index),.string (Oy X.elem)]):=by unfold Hid;rw[<-m8];exact Ox w1 _ _
 have k9:Hid (Up w W2):=by unfold Hid;rw[<-m8];exact o5.o.alloc o5.o.size _
 obtain⟨x0,x1,x2,x3⟩:=d2.o.c4;clear m8
 go_wp2_with fail
 refine (Xd vs X Xi Xe a W2 ha H6.o (g5.o.next k9.o) (g4.o.next k9.o) h9.o h7.o HK.o hw64).mono ?_;rintro e w3 ⟨b,rfl,U,j2⟩;have m5:=Hd U;have l0:=k9.up j2;obtain⟨x0,x1,x2,x3⟩:=(d2.o.bl d2.o.lt j2).c4;have r4:=Hd (d2.o.bl d2.o.lt j2);clear U j2
 cases b
 ·have HQ:=Hd (f8.o (fun ⟨r,L,h1,h2,_⟩=>by have:=m5.o.2 ⟨r,L,h1⟩;cases this))
  go_wp2
  go_ret
  exact⟨_,rfl,HQ.o,l0.o⟩
 go_wp2_with fail
 refine (g5.o w3 l0.o).mono ?_;rintro e w4 ⟨rfl,n3⟩;have x5:=l0.up n3;have r5:=Hd (r4.o.bl r4.o.lt n3);unfold Hj;clear n3 x0 x1 x2 x3
 go_upto_region 5 with fail
 generalize m9:w4.alloc _=W5;have d5:Up w4 W5:=by rw[<-m9];exact Oo _ _
 have x6:=x5.up d5;have m6:=Hd (r5.o.bl r5.o.lt d5);have l5:Hid (Bx W5 w4.heap.size [.int .i64 Xi.kind,.int .i64 (Xi.width:Nat),.string (Oy Xi.index),.string (Oy Xi.elem)]):=by unfold Hid;rw[<-m9];exact Ox w4 _ _
 obtain⟨x0,x1,x2,x3⟩:=m6.o.c4;obtain⟨y0,y1,y2,y3⟩:=l5.o.c4;clear m9 d5
 go_wp2_with fail
 refine (Gq Xi i W5 hi h9.o).mono ?_;rintro e w6 ⟨b,rfl,U,j3⟩;have b6:=Hd U;have l1:=x6.up j3;have m7:=Hd (m6.o.bl m6.o.lt j3);have p0:=Hd (l5.o.bl l5.o.lt j3);clear U j3 x0 x1 x2 x3 y0 y1 y2 y3;obtain⟨x0,x1,x2,x3⟩:=m7.o.c4
 cases b
 ·have HQ:=Hd (f8.o (fun ⟨r,L,h1,h2,_⟩=>by have:=b6.o.2 h2;cases this))
  go_wp2
  go_ret
  exact⟨_,rfl,HQ.o,l1.o⟩
 go_wp2_with fail
 refine (g4.o w6 l1.o).mono ?_;rintro e w7 ⟨rfl,j4⟩;have x7:=l1.up j4;have r6:=Hd (m7.o.bl m7.o.lt j4);have p3:=Hd (p0.o.bl p0.o.lt j4);clear j4
 go_wp2_with fail
 refine (Gq Xe v w7 hv h7.o).mono ?_;rintro e w8 ⟨b,rfl,U,j5⟩;have l8:=Hd U;have o6:=x7.up j5;have r7:=Hd (r6.o.bl r6.o.lt j5);have p4:=Hd (p3.o.bl p3.o.lt j5);clear U j5 x0 x1 x2 x3
 cases b
 ·have HQ:=Hd (f8.o (fun ⟨r,L,h1,_,h2⟩=>by have:=l8.o.2 h2;cases this))
  go_wp2
  go_ret
  exact⟨_,rfl,HQ.o,o6.o⟩
 obtain⟨r,L,hA⟩:=m5.o.1 (by simp);have HA:=Hd hA;have b7:=Hd (b6.o.1 (by simp));have g7:=Hd (l8.o.1 (by simp));have V:Hid (SrtA (On Xi) (On Xe) r L):=⟨hA.2.2.ents,hA.2.2.sort⟩;have HG:Hid (∀ r' L',PN (On Xi) r L i v r' L'->P2 (On Xi) (On Xe) a i v (X9 r' L')):=fun r' L' hp=>⟨fun r2 L2 h1 h2 h3=>by
  obtain⟨rfl,rfl⟩:=h1.inj HA.o;exact⟨r',L',hp.ok hw64 V.o HA.o.2.2.rest h2 h3,rfl⟩,fun h=>absurd ⟨r,L,HA.o,b7.o,g7.o⟩ h⟩
 clear hA f8 m5 b6 l8
 go_wp2_with fail
 refine (Fy a w8 ha).mono ?_;rintro e w9 ⟨ok,r',p1,n1,c1,p2,n2,c2,rfl,k8,t6,j6⟩;have x8:=o6.up j6;obtain rfl:ok=true:=by
  cases ok
  ·exact absurd ⟨r,L,HA.o.cut⟩ (t6 rfl)
  rfl
 obtain⟨L',hcut,u1,u2⟩:=k8 rfl;obtain⟨rfl,rfl⟩:=hcut.inj HA.o.cut;have l7:=Hd u1;have b6:=Hd u2;have r8:=Hd (r7.o.bl r7.o.lt j6);have p5:=Hd (p4.o.bl p4.o.lt j6);clear k8 t6 j6 hcut u1 u2
 go_upto_region 8 with fail
 generalize n0:w9.alloc _=WC;have b4:Up w9 WC:=by rw[<-n0];exact Oo _ _
 have l2:=x8.up b4;have HC:Hid (Bx WC w9.heap.size [.bool true,.string r',.slice p1 n1 c1,.slice p2 n2 c2]):=by unfold Hid;rw[<-n0];exact Ox w9 _ _
 have b9:=Hd (r8.o.bl r8.o.lt b4);have f5:=Hd (p5.o.bl p5.o.lt b4);have k1:=Hd (l7.o.next b4);have k5:=Hd (b6.o.next b4);obtain⟨n4,s9,K3,L1,L5,L6,s5⟩:=We (l7.o.next b4) (b6.o.next b4);have f7:=Hd n4;have s8:n2=n1:=by rw[n4,s9]
 subst s8;have o9:=Hd s5;have D0:n2<=60:=by rw[f7.o];exact HA.o.2.2.most
 obtain⟨c0,d3,d4,c3⟩:=HC.o.c4;obtain⟨y0,y1,y2,y3⟩:=f5.o.c4;obtain⟨x0,x1,x2,x3⟩:=b9.o.c4;clear n0 b4 n4 s9 s5 l7 b6;have u7:(Xi.kind==4)=true∨(Xi.kind==4)=false:=by cases (Xi.kind==4)<;>simp
 by_cases a6:E7 (On Xi) i
 ·have h4:(Xi.kind==4)=true:=Jw.2 a6.1;have c6:=Hd a6;have hz:Ny Xi.width 0=i:=(Df (k:=On Xi) (n:=0) a6.1 hw64 b7.o a6.2).symm;have HZ:=Hd hz;have L3:(i.toList==i.toList)=true:=by simp
  have H4:Hid (Xi.kind=4):=a6.1;clear a6 u7 hz
  go_wp2_with fail
  refine (Hl Xi.width WC hw64).mono ?_;rintro e wz ⟨rfl,b3⟩;rw[HZ.o];have T:=l2.up b3;have p8:=Hd (k1.o.next b3);have p9:=Hd (k5.o.next b3);have q9:=Hd (T5 vs X Xi Xe true r' v a _ _ L' wz HA.o g7.o H4.o H6.o (g5.o.next T.o) (g4.o.next T.o) h9.o h7.o p8.o p9.o);obtain⟨c0,d3,d4,c3⟩:=(HC.o.bl HC.o.lt b3).c4;obtain⟨x0,x1,x2,x3⟩:=(b9.o.bl b9.o.lt b3).c4;clear b3;unfold Hj at q9
  go_wp2_with fail
  refine q9.o.mono ?_;rintro e wt ⟨r2,L2,rfl,d6,s2⟩;have x9:=T.up s2;have HQ:Hid (P2 (On Xi) (On Xe) a i v (X9 r2 L2)):=HG.o r2 L2 (by
   rcases d6 with⟨h1,h2,h3⟩|⟨h1,h2,h3⟩
   ·exact .inl ⟨c6.o,h1,h2,h3⟩
   exact .inr (.inl ⟨c6.o,h1,h2,h3⟩))
  clear d6 s2
  go_wp2
  go_ret
  exact⟨_,rfl,HQ.o,x9.o⟩
 rcases u7 with h4|h4
 case' inl=>
  have hz:¬ i=Ny Xi.width 0:=fun e=>a6 ⟨Jw.1 h4,by rw[e];exact Gc (k:=On Xi) (n:=0) (Jw.1 h4) (Ua (by decide))⟩;obtain⟨zt,n9⟩:=O2 (Ny Xi.width 0);rw[n9] at hz;have M1:(i.toList==zt.toList)=false:=by rw[Jd];intro e;exact hz (Kz (by rw[<-Je,<-Je];exact e))
  have y9:=Hd n9;have c6:=Hd a6;clear hz n9 a6
  go_wp2_with fail
  refine (Hl Xi.width WC hw64).mono ?_;rintro e wz ⟨rfl,b3⟩;rw[y9.o];have T:=Hd b3;clear b3
 case' inr=>
  have c6:=Hd a6;obtain⟨wz,n8⟩:∃ wz,wz=WC:=⟨_,rfl⟩;have T:Hid (Up WC wz):=by rw[n8];exact Jj _ _
  rw[<-n8];clear a6 n8
 all_goals
  have j8:Hid (Up w wz):=l2.o.trans (T.o.mono l2.o.size);clear c0 d3 d4 c3 y0 y1 y2 y3 x0 x1 x2 x3;obtain⟨c0,d3,d4,c3⟩:=(HC.o.bl HC.o.lt T.o).c4;obtain⟨j7,d9⟩:∃ q,w1.heap.size=q:=⟨_,rfl⟩;obtain⟨D,e0⟩:∃ q,w4.heap.size=q:=⟨_,rfl⟩;obtain⟨F,b8⟩:∃ q,w9.heap.size=q:=⟨_,rfl⟩;have I:Hid (∀ W,Up wz W->W.cell? ⟨F,0,none⟩=some (.bool true)/\W.cell? ⟨F,1,none⟩=some (.string r')/\W.cell? ⟨F,2,none⟩=some (.slice p1 n2 c1)/\W.cell? ⟨F,3,none⟩=some (.slice p2 n2 c2)):=fun W hW=>by rw[<-b8];exact (HC.o.bl HC.o.lt (T.o.trans (hW.mono T.o.size))).c4
  have d0:Hid (∀ W,Up wz W->W.cell? ⟨D,0,none⟩=some (.int .i64 Xi.kind)/\W.cell? ⟨D,1,none⟩=some (.int .i64 (Xi.width:Nat))/\W.cell? ⟨D,2,none⟩=some (.string (Oy Xi.index))/\W.cell? ⟨D,3,none⟩=some (.string (Oy Xi.elem))):=fun W hW=>by rw[<-e0];exact (f5.o.bl f5.o.lt (T.o.trans (hW.mono T.o.size))).c4
  have o8:Hid (∀ W,Up wz W->W.cell? ⟨j7,0,none⟩=some (.int .i64 X.kind)/\W.cell? ⟨j7,1,none⟩=some (.int .i64 (X.width:Nat))/\W.cell? ⟨j7,2,none⟩=some (.string (Oy X.index))/\W.cell? ⟨j7,3,none⟩=some (.string (Oy X.elem))):=fun W hW=>by rw[<-d9];exact (b9.o.bl b9.o.lt (T.o.trans (hW.mono T.o.size))).c4
  have y4:Hid (0<n2->∃ b1 b2,p1=some ⟨b1,0,none⟩/\p2=some ⟨b2,0,none⟩/\∀ W,Up wz W->∀ k (h:k<L'.length),W.cell? ⟨b1,k,none⟩=some (.string L'[k].1)/\W.cell? ⟨b2,k,none⟩=some (.string L'[k].2)):=fun h0=>by
   obtain⟨b1,b2,e1,e2,hc⟩:=o9.o h0;exact⟨b1,b2,e1,e2,fun W hW k hk=>hc W (T.o.trans (hW.mono T.o.size)) k hk⟩
  have c7:=b7.o.1;have c8:=g7.o.1;have hrs:=HA.o.2.2.rest.1;have q6:Hid (∀ e∈L',e.1.size<=2000/\e.2.size<=2000):=fun e he=>⟨(V.o.ents e he).1.1,(V.o.ents e he).2.1.1⟩;obtain⟨s1,u0⟩:∃ s1:ByteArray,(⟨#[123]⟩:ByteArray)++r'=s1:=⟨_,rfl⟩;have y7:Hid (PutI (On Xi) r' i v L' 0 false s1 []):=by
   refine⟨?_,J7 _,fun e he=>(by cases he),fun _=>⟨J7 _,rfl,fun j _ h=>absurd h (Ve _)⟩,fun e=>(by cases e)⟩;rw[<-u0,Im];refine Kz ?_;simp[Oy]
  have a7:(v.toList==r'.toList)=decide (v=r'):=by
   rw[Zj,J2,Jw];exact⟨fun h=>Kz (by rw[<-Je,<-Je];exact h),fun h=>by rw[h]⟩
  have g9:=Hd a7
  try rw[d9]
  try rw[e0]
  rw[b8] at c0 d3 d4 c3
  try rw[b8]
  clear a7 d9 e0 b8 HC f5 b9 k1 k5 o9;obtain⟨y0,y1,y2,y3⟩:=d0.o wz (Jj _ _)
  go_wp2_with fail
  clear c0 d3 d4 c3 u0 y0 y1 y2 y3
  go_loopw [14,15,16] (fun vo vd vk W=>∃ (k:Nat) (d:Bool) (o:ByteArray) (M:List Kd),vo=.string o/\vd=.bool d/\vk=.int .i64 k/\k<=n2+1/\Hid (PutI (On Xi) r' i v L' k d o M)/\Hid (Up wz W)) (fun _ _ vk _=>n2+1 - (intOf vk).toNat)
  case atStart=>exact⟨0,false,s1,[],rfl,rfl,rfl,J7 _,y7,Jj _ _⟩
  obtain⟨k,d,o,M,rfl,rfl,rfl,hk,hP,U⟩:=hrel;have k0:(0:Int)<=(k:Int):=by omega
  obtain⟨f0,f1,f2,f3⟩:=I.o wr U.o
  by_cases L4:k<=n2
  ·by_cases Z:k=n2
   ·have J:k=L'.length:=by rw[<-f7.o];exact Z
    have B2:((k:Int)==(n2:Int))=true:=by rw[Z];simp
    have s7:¬ (k:Int)<(n2:Int):=by omega
    have s6:(k:Int)<=(n2:Int):=by omega
    have t7:o.size<=400000:=hP.o.size hrs (by omega);have HS:Hid (∀ W,Up wz W->(fun W=>W.cell? ⟨F,1,none⟩=some (.string r')/\W.cell? ⟨F,2,none⟩=some (.slice p1 n2 c1)/\W.cell? ⟨F,3,none⟩=some (.slice p2 n2 c2)/\W.cell? ⟨D,0,none⟩=some (.int .i64 Xi.kind)/\W.cell? ⟨D,1,none⟩=some (.int .i64 (Xi.width:Nat))/\W.cell? ⟨D,2,none⟩=some (.string (Oy Xi.index))/\W.cell? ⟨D,3,none⟩=some (.string (Oy Xi.elem))) W):=fun W hW=>by
     have h1:=(I.o W hW).2;have h2:=d0.o W hW;exact⟨h1.1,h1.2.1,h1.2.2,h2.1,h2.2.1,h2.2.2.1,h2.2.2.2⟩
    have H2:=Hd J;have H3:=Hd Z
    cases d
    ·by_cases O:v=r'
     ·have a7:=g9.o;rw[Jn O] at a7;have H:=Hd (hP.o.last (o':=o) (by unfold newE;rw[if_pos O,Z3];exact hP.o.out) ⟨c7,c8⟩ J);clear Z J O
      go_wp2_with fail
      refine Tx 20 rfl (S:=fun W=>W.cell? ⟨F,1,none⟩=some (.string r')/\W.cell? ⟨F,2,none⟩=some (.slice p1 n2 c1)/\W.cell? ⟨F,3,none⟩=some (.slice p2 n2 c2)/\W.cell? ⟨D,0,none⟩=some (.int .i64 Xi.kind)/\W.cell? ⟨D,1,none⟩=some (.int .i64 (Xi.width:Nat))/\W.cell? ⟨D,2,none⟩=some (.string (Oy Xi.index))/\W.cell? ⟨D,3,none⟩=some (.string (Oy Xi.elem))) (by kernel_rfl) (HS.o wr.drew U.o.drew) (fun hHeld=>?_)
      iterate 9 (refine G7 19 93 (v:=?_) rfl rfl (by kernel_rfl) (fun _ _ _ h=>h) (.inl ⟨by rfl,?_⟩) (by assumption) ?_;rotate_left;(intro w E;(try dsimp only at E);go_simp;(try with_reducible rfl));try simp only[Act.put,Ja,Jc,Jb])
      iterate 9 (refine G7 19 93 (v:=undef) rfl rfl (by kernel_rfl) (fun _ _ _ h=>h) (.inr ⟨by rfl,rfl⟩) (by assumption) ?_;try simp only[Act.put,Ja,Jc,Jb])
      (refine G7 19 93 (v:=?_) rfl rfl (by kernel_rfl) (fun _ _ _ h=>h) (.inl ⟨by rfl,?_⟩) (by assumption) ?_;rotate_left;(intro w E;(try dsimp only at E);go_simp;(try with_reducible rfl));try simp only[Act.put,Ja,Jc,Jb])
      (refine G7 19 93 (v:=?_) rfl rfl (by kernel_rfl) (fun _ _ _ h=>h) (.inl ⟨by rfl,?_⟩) (by assumption) ?_;rotate_left;(intro w E;(try dsimp only at E);go_simp;(try with_reducible rfl));try simp only[Act.put,Ja,Jc,Jb])
      refine wpAnyH_done (by kernel_rfl) ?_ _;obtain⟨g0,g1,g2,g3⟩:=I.o wr.drew U.o.drew
      go_wp2_with fail
      exact⟨⟨k+1,true,o,_,rfl,rfl,by go_num,by omega,H,U.o.drew⟩,by simp[intOf];omega⟩
     have a7:=g9.o;rw[Jp O] at a7;obtain⟨o2,d8⟩:=O2 (o++(⟨#[59]⟩++i++⟨#[61]⟩++v));have t8:o2.size<=450000:=by rw[<-d8];simp only[Y4];have e1:(⟨#[59]⟩:ByteArray).size=1:=rfl;have e2:(⟨#[61]⟩:ByteArray).size=1:=rfl;omega
     have f9:Hid (o2=Oy (123::Hu r' (M++[(i,v)]))):=by unfold Hid;rw[<-d8];exact Cl hP.o.out
     have H:=Hd (hP.o.last (o':=o2) (by unfold newE;rw[if_neg O];exact f9.o) ⟨c7,c8⟩ J);clear Z J O
     go_wp2_with fail
     refine Tx 20 rfl (S:=fun W=>W.cell? ⟨F,1,none⟩=some (.string r')/\W.cell? ⟨F,2,none⟩=some (.slice p1 n2 c1)/\W.cell? ⟨F,3,none⟩=some (.slice p2 n2 c2)/\W.cell? ⟨D,0,none⟩=some (.int .i64 Xi.kind)/\W.cell? ⟨D,1,none⟩=some (.int .i64 (Xi.width:Nat))/\W.cell? ⟨D,2,none⟩=some (.string (Oy Xi.index))/\W.cell? ⟨D,3,none⟩=some (.string (Oy Xi.elem))) (by kernel_rfl) (HS.o wr.drew U.o.drew) (fun hHeld=>?_)
     iterate 9 (refine G7 19 93 (v:=?_) rfl rfl (by kernel_rfl) (fun _ _ _ h=>h) (.inl ⟨by rfl,?_⟩) (by assumption) ?_;rotate_left;(intro w E;(try dsimp only at E);go_simp;(try with_reducible rfl));try simp only[Act.put,Ja,Jc,Jb])
     iterate 9 (refine G7 19 93 (v:=undef) rfl rfl (by kernel_rfl) (fun _ _ _ h=>h) (.inr ⟨by rfl,rfl⟩) (by assumption) ?_;try simp only[Act.put,Ja,Jc,Jb])
     (refine G7 19 93 (v:=?_) rfl rfl (by kernel_rfl) (fun _ _ _ h=>h) (.inl ⟨by rfl,?_⟩) (by assumption) ?_;rotate_left;(intro w E;(try dsimp only at E);go_simp;(try with_reducible rfl));try simp only[Act.put,Ja,Jc,Jb])
     (refine G7 19 93 (v:=?_) rfl rfl (by kernel_rfl) (fun _ _ _ h=>h) (.inl ⟨by rfl,?_⟩) (by assumption) ?_;rotate_left;(intro w E;(try dsimp only at E);go_simp;(try with_reducible rfl));try simp only[Act.put,Ja,Jc,Jb])
     refine wpAnyH_done (by kernel_rfl) ?_ _;obtain⟨g0,g1,g2,g3⟩:=I.o wr.drew U.o.drew
     go_wp2_with fail
     exact⟨⟨k+1,true,o2,_,rfl,rfl,by go_num,by omega,H,U.o.drew⟩,by simp[intOf];omega⟩
    have H:=Hd (hP.o.idle J);clear Z J
    go_wp2_with fail
    refine Tx 20 rfl (S:=fun W=>W.cell? ⟨F,1,none⟩=some (.string r')/\W.cell? ⟨F,2,none⟩=some (.slice p1 n2 c1)/\W.cell? ⟨F,3,none⟩=some (.slice p2 n2 c2)/\W.cell? ⟨D,0,none⟩=some (.int .i64 Xi.kind)/\W.cell? ⟨D,1,none⟩=some (.int .i64 (Xi.width:Nat))/\W.cell? ⟨D,2,none⟩=some (.string (Oy Xi.index))/\W.cell? ⟨D,3,none⟩=some (.string (Oy Xi.elem))) (by kernel_rfl) (HS.o wr.drew U.o.drew) (fun hHeld=>?_)
    iterate 3 (refine G7 19 93 (v:=?_) rfl rfl (by kernel_rfl) (fun _ _ _ h=>h) (.inl ⟨by rfl,?_⟩) (by assumption) ?_;rotate_left;(intro w E;(try dsimp only at E);go_simp;(try with_reducible rfl));try simp only[Act.put,Ja,Jc,Jb])
    iterate 16 (refine G7 19 93 (v:=undef) rfl rfl (by kernel_rfl) (fun _ _ _ h=>h) (.inr ⟨by rfl,rfl⟩) (by assumption) ?_;try simp only[Act.put,Ja,Jc,Jb])
    (refine G7 19 93 (v:=?_) rfl rfl (by kernel_rfl) (fun _ _ _ h=>h) (.inl ⟨by rfl,?_⟩) (by assumption) ?_;rotate_left;(intro w E;(try dsimp only at E);go_simp;(try with_reducible rfl));try simp only[Act.put,Ja,Jc,Jb])
    refine wpAnyH_done (by kernel_rfl) ?_ _;obtain⟨g0,g1,g2,g3⟩:=I.o wr.drew U.o.drew
    go_wp2_with fail
    exact⟨⟨k+1,true,o,M,rfl,rfl,by go_num,by omega,H,U.o.drew⟩,by simp[intOf];omega⟩
   replace Z:k<n2:=by omega
   have J:k<L'.length:=by rw[<-f7.o];exact Z
   have B2:((k:Int)==(n2:Int))=false:=by rw[Jd];omega
   have s7:(k:Int)<(n2:Int):=by omega
   have s6:(k:Int)<=(n2:Int):=by omega
   obtain⟨b1,b2,rfl,rfl,d7⟩:=y4.o (by omega);obtain⟨u,hu⟩:=O2 (L'[k].1);obtain⟨z,hz⟩:=O2 (L'[k].2);have n6:=q6.o _ (Yl J);have l9:Hid (Kg (On Xi) u):=by unfold Hid;rw[<-hu];exact (V.o.ents _ (Yl J)).1
   have b5:Hid (∀ W,Up wz W->W.cell? ⟨b1,k,none⟩=some (.string u)/\W.cell? ⟨b2,k,none⟩=some (.string z)):=fun W hW=>by rw[<-hu,<-hz];exact d7 W hW k J
   have t7:o.size<=400000:=hP.o.size hrs (by omega);have HS:Hid (∀ W,Up wz W->(fun W=>W.cell? ⟨F,1,none⟩=some (.string r')/\W.cell? ⟨F,2,none⟩=some (.slice (some ⟨b1,0,none⟩) n2 c1)/\W.cell? ⟨F,3,none⟩=some (.slice (some ⟨b2,0,none⟩) n2 c2)/\W.cell? ⟨D,0,none⟩=some (.int .i64 Xi.kind)/\W.cell? ⟨D,1,none⟩=some (.int .i64 (Xi.width:Nat))/\W.cell? ⟨D,2,none⟩=some (.string (Oy Xi.index))/\W.cell? ⟨D,3,none⟩=some (.string (Oy Xi.elem))/\W.cell? ⟨b1,k,none⟩=some (.string u)/\W.cell? ⟨b2,k,none⟩=some (.string z)) W):=fun W hW=>by
    have h1:=(I.o W hW).2;have h2:=d0.o W hW;exact⟨h1.1,h1.2.1,h1.2.2,h2.1,h2.2.1,h2.2.2.1,h2.2.2.2,b5.o W hW⟩
   have HU:=Hd hu;have HZ:=Hd hz;have g6:=Hd n6;rw[hu,hz] at n6;obtain⟨L9,M2⟩:=n6;clear d7 hu hz
   cases d
   ·go_wp2_with fail
    refine Tx 20 rfl (S:=fun W=>W.cell? ⟨F,1,none⟩=some (.string r')/\W.cell? ⟨F,2,none⟩=some (.slice (some ⟨b1,0,none⟩) n2 c1)/\W.cell? ⟨F,3,none⟩=some (.slice (some ⟨b2,0,none⟩) n2 c2)/\W.cell? ⟨D,0,none⟩=some (.int .i64 Xi.kind)/\W.cell? ⟨D,1,none⟩=some (.int .i64 (Xi.width:Nat))/\W.cell? ⟨D,2,none⟩=some (.string (Oy Xi.index))/\W.cell? ⟨D,3,none⟩=some (.string (Oy Xi.elem))/\W.cell? ⟨b1,k,none⟩=some (.string u)/\W.cell? ⟨b2,k,none⟩=some (.string z)) (by kernel_rfl) (HS.o wr.drew U.o.drew) (fun hHeld=>?_)
    iterate 16 (refine G7 19 93 (v:=?_) rfl rfl (by kernel_rfl) (fun _ _ _ h=>h) (.inl ⟨by rfl,?_⟩) (by assumption) ?_;rotate_left;(intro w E;(try dsimp only at E);go_simp;(try with_reducible rfl));try simp only[Act.put,Ja,Jc,Jb])
    refine wpAnyH_ready (rs:=[16]) (by kernel_rfl) (by simp) ?_;refine AllReadyH.cons rfl (fun K hK=>?_) AllReadyH.nil
    go_simp
    go_at_call 29
    refine (Ss Xi u i wr.drew HK.o l9.o b7.o).mono ?_;rintro e wc ⟨rfl,k7⟩;have G:Hid (Up wz wc):=U.o.drew.trans (k7.mono U.o.size);clear k7
    go_wp2_with fail
    refine hK.out _ _ (HS.o wc G.o) (fun hHeld16=>?_);clear hK K
    try simp only[Act.put,Ja,Jc,Jb]
    obtain⟨x,hx⟩:=O2 (Q.Nc (key (On Xi) u) (key (On Xi) i));rw[hx];have HX:=Hd hx;clear hx
    by_cases u6:0<=x
    ·have E1:decide ((0:Int)<=x)=true:=Jn u6
     by_cases O:v=r'
     ·have a7:=g9.o;rw[Jn O] at a7
      by_cases Y:u=i
      ·have n7:(u.toList==i.toList)=true:=by rw[Y];simp
       have H:=Hd (hP.o.over (o':=o) (by unfold newE;rw[if_pos O,Z3];exact hP.o.out) ⟨c7,c8⟩ J (by rw[HU.o];exact Y) V.o.sort);clear Y O
       iterate 3 (refine G7 19 93 (v:=?_) rfl rfl (by kernel_rfl) (fun _ _ _ h=>h) (.inl ⟨by rfl,?_⟩) (by assumption) ?_;rotate_left;(intro w E;(try dsimp only at E);go_simp;(try with_reducible rfl));try simp only[Act.put,Ja,Jc,Jb])
       refine wpAnyH_done (by kernel_rfl) ?_ _;obtain⟨g0,g1,g2,g3⟩:=I.o wc G.o;obtain⟨e1,e2⟩:=b5.o wc G.o
       go_wp2_with fail
       exact⟨⟨k+1,true,o,_,rfl,rfl,by go_num,by omega,H,G.o⟩,by simp[intOf];omega⟩
      have n7:(u.toList==i.toList)=false:=by rw[Jd];intro e;exact Y (Kz (by rw[<-Je,<-Je];exact e))
      have l4:Hid (key (On Xi) i<key (On Xi) L'[k].1):=by unfold Hid;rw[HU.o];have h8:=HX.o;rcases Ek (key (On Xi) u) (key (On Xi) i) with⟨a1,a2⟩|⟨a1,a2⟩|⟨a1,a2⟩;omega;exact absurd (Qw HK.o l9.o b7.o a1) Y;omega
      have H:=Hd (hP.o.ahead (o':=o) (by unfold newE;rw[if_pos O,Z3];exact hP.o.out) ⟨c7,c8⟩ J l4.o V.o.sort g6.o);rw[HU.o,HZ.o] at H;clear Y O
      iterate 3 (refine G7 19 93 (v:=?_) rfl rfl (by kernel_rfl) (fun _ _ _ h=>h) (.inl ⟨by rfl,?_⟩) (by assumption) ?_;rotate_left;(intro w E;(try dsimp only at E);go_simp;(try with_reducible rfl));try simp only[Act.put,Ja,Jc,Jb])
      refine wpAnyH_done (by kernel_rfl) ?_ _;obtain⟨g0,g1,g2,g3⟩:=I.o wc G.o;obtain⟨e1,e2⟩:=b5.o wc G.o
      go_wp2
      go_region
      all_goals
       go_wp2_with fail
       exact⟨⟨k+1,true,_,_,rfl,rfl,by go_num,by omega,H,G.o.drew⟩,by simp[intOf];omega⟩
     have a7:=g9.o;rw[Jp O] at a7;obtain⟨o2,d8⟩:=O2 (o++(⟨#[59]⟩++i++⟨#[61]⟩++v));have t8:o2.size<=450000:=by rw[<-d8];simp only[Y4];have e1:(⟨#[59]⟩:ByteArray).size=1:=rfl;have e2:(⟨#[61]⟩:ByteArray).size=1:=rfl;omega
     have f9:Hid (o2=Oy (123::Hu r' (M++[(i,v)]))):=by unfold Hid;rw[<-d8];exact Cl hP.o.out
     by_cases Y:u=i
     ·have n7:(u.toList==i.toList)=true:=by rw[Y];simp
      have H:=Hd (hP.o.over (o':=o2) (by unfold newE;rw[if_neg O];exact f9.o) ⟨c7,c8⟩ J (by rw[HU.o];exact Y) V.o.sort);clear Y O
      iterate 3 (refine G7 19 93 (v:=?_) rfl rfl (by kernel_rfl) (fun _ _ _ h=>h) (.inl ⟨by rfl,?_⟩) (by assumption) ?_;rotate_left;(intro w E;(try dsimp only at E);go_simp;(try with_reducible rfl));try simp only[Act.put,Ja,Jc,Jb])
      refine wpAnyH_done (by kernel_rfl) ?_ _;obtain⟨g0,g1,g2,g3⟩:=I.o wc G.o;obtain⟨e1,e2⟩:=b5.o wc G.o
      go_wp2_with fail
      exact⟨⟨k+1,true,o2,_,rfl,rfl,by go_num,by omega,H,G.o⟩,by simp[intOf];omega⟩
     have n7:(u.toList==i.toList)=false:=by rw[Jd];intro e;exact Y (Kz (by rw[<-Je,<-Je];exact e))
     have l4:Hid (key (On Xi) i<key (On Xi) L'[k].1):=by unfold Hid;rw[HU.o];have h8:=HX.o;rcases Ek (key (On Xi) u) (key (On Xi) i) with⟨a1,a2⟩|⟨a1,a2⟩|⟨a1,a2⟩;omega;exact absurd (Qw HK.o l9.o b7.o a1) Y;omega
     have H:=Hd (hP.o.ahead (o':=o2) (by unfold newE;rw[if_neg O];exact f9.o) ⟨c7,c8⟩ J l4.o V.o.sort g6.o);rw[HU.o,HZ.o] at H;clear Y O
     iterate 3 (refine G7 19 93 (v:=?_) rfl rfl (by kernel_rfl) (fun _ _ _ h=>h) (.inl ⟨by rfl,?_⟩) (by assumption) ?_;rotate_left;(intro w E;(try dsimp only at E);go_simp;(try with_reducible rfl));try simp only[Act.put,Ja,Jc,Jb])
     refine wpAnyH_done (by kernel_rfl) ?_ _;obtain⟨g0,g1,g2,g3⟩:=I.o wc G.o;obtain⟨e1,e2⟩:=b5.o wc G.o
     go_wp2
     go_region
     all_goals
      go_wp2_with fail
      exact⟨⟨k+1,true,_,_,rfl,rfl,by go_num,by omega,H,G.o.drew⟩,by simp[intOf];omega⟩
    have E1:decide ((0:Int)<=x)=false:=Jp u6;have y6:Hid (key (On Xi) u<key (On Xi) i):=by unfold Hid;have h8:=HX.o;rcases Ek (key (On Xi) u) (key (On Xi) i) with⟨a1,a2⟩|⟨a1,a2⟩|⟨a1,a2⟩<;>omega
    have H:=Hd (hP.o.keep J g6.o (fun _=>by rw[HU.o];exact y6.o));rw[HU.o,HZ.o] at H
    iterate 3 (refine G7 19 93 (v:=?_) rfl rfl (by kernel_rfl) (fun _ _ _ h=>h) (.inl ⟨by rfl,?_⟩) (by assumption) ?_;rotate_left;(intro w E;(try dsimp only at E);go_simp;(try with_reducible rfl));try simp only[Act.put,Ja,Jc,Jb])
    refine wpAnyH_done (by kernel_rfl) ?_ _;obtain⟨g0,g1,g2,g3⟩:=I.o wc G.o;obtain⟨e1,e2⟩:=b5.o wc G.o
    go_wp2
    go_region
    all_goals
     go_wp2_with fail
     exact⟨⟨k+1,false,_,_,rfl,rfl,by go_num,by omega,H,G.o.drew⟩,by simp[intOf];omega⟩
   have H:=Hd (hP.o.keep J g6.o (fun e=>(by cases e)));rw[HU.o,HZ.o] at H
   go_wp2_with fail
   refine Tx 20 rfl (S:=fun W=>W.cell? ⟨F,1,none⟩=some (.string r')/\W.cell? ⟨F,2,none⟩=some (.slice (some ⟨b1,0,none⟩) n2 c1)/\W.cell? ⟨F,3,none⟩=some (.slice (some ⟨b2,0,none⟩) n2 c2)/\W.cell? ⟨D,0,none⟩=some (.int .i64 Xi.kind)/\W.cell? ⟨D,1,none⟩=some (.int .i64 (Xi.width:Nat))/\W.cell? ⟨D,2,none⟩=some (.string (Oy Xi.index))/\W.cell? ⟨D,3,none⟩=some (.string (Oy Xi.elem))/\W.cell? ⟨b1,k,none⟩=some (.string u)/\W.cell? ⟨b2,k,none⟩=some (.string z)) (by kernel_rfl) (HS.o wr.drew U.o.drew) (fun hHeld=>?_)
   iterate 3 (refine G7 19 93 (v:=?_) rfl rfl (by kernel_rfl) (fun _ _ _ h=>h) (.inl ⟨by rfl,?_⟩) (by assumption) ?_;rotate_left;(intro w E;(try dsimp only at E);go_simp;(try with_reducible rfl));try simp only[Act.put,Ja,Jc,Jb])
   iterate 16 (refine G7 19 93 (v:=undef) rfl rfl (by kernel_rfl) (fun _ _ _ h=>h) (.inr ⟨by rfl,rfl⟩) (by assumption) ?_;try simp only[Act.put,Ja,Jc,Jb])
   (refine G7 19 93 (v:=?_) rfl rfl (by kernel_rfl) (fun _ _ _ h=>h) (.inl ⟨by rfl,?_⟩) (by assumption) ?_;rotate_left;(intro w E;(try dsimp only at E);go_simp;(try with_reducible rfl));try simp only[Act.put,Ja,Jc,Jb])
   refine wpAnyH_done (by kernel_rfl) ?_ _;obtain⟨g0,g1,g2,g3⟩:=I.o wr.drew U.o.drew;obtain⟨e1,e2⟩:=b5.o wr.drew U.o.drew
   go_wp2
   go_region
   all_goals
    go_wp2_with fail
    exact⟨⟨k+1,true,_,_,rfl,rfl,by go_num,by omega,H,U.o.drew.drew⟩,by simp[intOf];omega⟩
  have Z:L'.length<k:=by rw[<-f7.o];omega
  obtain⟨A,m,B,n5,hM⟩:=hP.o.done Z;have HQ:=Hd (HG.o r' M (.inr (.inr ⟨c6.o,rfl,A,m,B,n5,hM⟩)));have q7:Hid (SrtA (On Xi) (On Xe) r' M):=by unfold Hid;rw[hM];exact n5.srt V.o b7.o g7.o c6.o
  have t7:o.size<=400000:=hP.o.size hrs (by omega);obtain⟨ST,r9⟩:=O2 (o++(⟨#[125]⟩:ByteArray));have q8:Hid (Oy (E8 r' M)=ST):=by
   unfold Hid;rw[<-r9,hP.o.out];refine Kz ?_;simp[Oy,E8]
  have D1:ST.size<=1048576:=by rw[<-r9,Y4];have:(⟨#[125]⟩:ByteArray).size=1:=rfl;omega
  have l3:Hid (Up w wr):=j8.o.trans (U.o.mono j8.o.size);have r3:=Hd (Xd vs X Xi Xe ST wr D1 H6.o (g5.o.next l3.o) (g4.o.next l3.o) h9.o h7.o HK.o hw64);obtain⟨x0,x1,x2,x3⟩:=o8.o wr U.o;obtain⟨g0,g1,g2,g3⟩:=I.o wr U.o;have L7:¬ (k:Int)<=(n2:Int):=by omega
  unfold Hj at r3;clear hP U n5 hM Z hk
  go_wp2_with fail
  refine r3.o.mono ?_;rintro e wv ⟨b,rfl,s3,s4⟩;have o7:=l3.up s4;have y5:Hid (X9 r' M=if b then ST else ⟨#[]⟩):=by
   unfold Hid;rw[<-q8.o];exact DL HA.o.2.2.rest q7.o (by rw[q8.o];exact s3)
  rw[y5.o] at HQ;clear s3 s4
  cases b
  ·go_wp2
   go_ret
   exact⟨_,rfl,HQ.o,o7.o⟩
  go_wp2
  go_ret
  exact⟨_,rfl,HQ.o,o7.o⟩
end Go.Proofs.YtjjgilacnocigaaGreatDoor
