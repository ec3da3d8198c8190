import Derived.Test.YtjjgilacnocigaaGreatDoorP38
set_option maxRecDepth 100000
set_option maxHeartbeats 8000000
namespace Go.Proofs.YtjjgilacnocigaaGreatDoor
open ChangeShapes WideShapes ChangeAt RowKit Proofs.Tryz
def AH (w:World)(e:Ending)(w':World):Prop:=∃ (b:Nat) (t:List UInt8) (X Xi Xe:SI) (x i v:ByteArray),e=.returned (.tuple #[.slice (some ⟨b,0,none⟩) 2 2,.string (Oy t),.string x,.string i,.string v])/\GoodS t X Xi Xe/\t.length<=100/\Eu w' (.slice (some ⟨b,0,none⟩) 2 2) uw/\b<w'.heap.size/\x.size<=1000000/\i.size<=1000000/\v.size<=1000000/\Up w w'
theorem AH.mk' {w w':World}{b:Nat}{t:List UInt8}{X Xi Xe:SI}{x i v:ByteArray}(h1:GoodS t X Xi Xe)(h2:t.length<=100)(h3:Eu w' (.slice (some ⟨b,0,none⟩) 2 2) uw)(h4:b<w'.heap.size)(h5:x.size<=1000000)(h6:i.size<=1000000)(h7:v.size<=1000000)(h8:Up w w'):AH w (.returned (.tuple #[.slice (some ⟨b,0,none⟩) 2 2,.string (Oy t),.string x,.string i,.string v])) w':=⟨b,t,X,Xi,Xe,x,i,v,rfl,h1,h2,h3,h4,h5,h6,h7,h8⟩
theorem Gs {g:Nat}{a b:World}(h:Q.Bar g a b)(p:Addr)(hp:a.heap.size<=p.block)(v:Value):Q.Bar g a (b.setCell p v):=
 ⟨h.os,h.tape,h.output,by have:=h.size;simpa using this,fun j hj hjg=>(J1 _ p _ _ (by omega)).trans (h.block j hj hjg)⟩
theorem YU (a:Option Addr)(n cap:Nat)(w:World)(hc:Q.Ir w a n cap) :
 Calls prog 4 #[.slice a n cap] w fun e w'=>AH w e w':=by
 obtain⟨W0,g4⟩:=O2 (w.alloc (.cells #[.slice a n cap,.int .i64 0,.int .u64 0] 34));have HW:=Hd g4;have d6:Q.Ne w.heap.size (w.heap.size+1) W0 0:=by rw[<-g4];exact Q.GY hc _
 have p8:Hid (Up w W0):=by unfold Hid;rw[<-g4];exact Oo _ _
 obtain⟨g,hg⟩:=O2 w.heap.size;obtain⟨N,hN⟩:=O2 (g+1);rw[hg,hN] at d6;have x4:=Hd d6;have s2:=Hd hg;have k0:=Hd (Ad g N 0 W0 d6 (by omega));clear g4 d6 hN hc
 go_in
 go_upto_region 2 with fail
 rw[HW.o]
 try rw[hg]
 go_wp2_with fail
 refine k0.o.mono ?_;rintro e w1 ⟨s,X,F,Xe,k1,rfl,hG,d8,x8,n3,l9⟩;obtain⟨t,ht⟩:∃ t,s=Oy t:=⟨_,(Nv s).symm⟩;subst ht;rw[O4] at hG;have t7:(Oy t).size=t.length:=by show t.toArray.size=_;exact Vh
 replace d8:t.length<=100:=by omega
 clear t7;have V:=Hd hG;have e4:=Hd hG;have f8:=Hd n3;have p9:=Hd l9;clear hG n3 l9 k0 hg
 go_wp2_with fail
 refine (Ei w1).mono ?_;rintro e w2 ⟨rfl,j3⟩;have e5:Up w1 w2:=by rw[j3];exact Oo _ _
 have s3:Hid (Eu w2 (.slice (some ⟨w1.heap.size,0,none⟩) 2 2) uw):=by unfold Hid;rw[j3];exact Rk w1
 have l1:=Hd (f8.o.bl (e5.mono f8.o.2.1));have q6:Hid (Q.Bar g W0 w2):=p9.o.trans (Q.Bar.of e5);have o2:w1.heap.size≠g:=by have:=f8.o.1;have:=f8.o.2.1;omega
 clear j3 e5
 go_wp2_with fail
 refine ((In s3.o o2 (t:=t) (by omega) V.o.rx) w2 (Q.Bar.refl _ _)).mono ?_;rintro e w3 ⟨rfl,j0⟩;have f9:=Hd (l1.o.bl (j0.mono l1.o.2.1));have q7:Hid (Q.Bar g W0 w3):=q6.o.trans (Q.Bar.of j0);unfold Hj;clear j0
 go_upto_region 4 with fail
 generalize i8:w3.alloc _=D;have e6:Up w3 D:=by rw[<-i8];exact Oo _ _
 have j7:Bx D w3.heap.size [.int .i64 X.kind,.int .i64 (X.width:Nat),.string (Oy X.index),.string (Oy X.elem)]:=by rw[<-i8];exact Ox w3 _ _
 have d1:=Hd (f9.o.bl (e6.mono f9.o.2.1));have q8:Hid (Q.Bar g W0 D):=q7.o.trans (Q.Bar.of e6);obtain⟨bq,g5⟩:=O2 w3.heap.size;have o5:bq≠g:=by rw[<-g5];have:=f9.o.1;have:=f9.o.2.1;omega
 rw[g5] at j7;have j:Hid (∀ W,Q.Bar g D W->W.cell? ⟨bq,0,none⟩=some (.int .i64 X.kind)/\W.cell? ⟨bq,2,none⟩=some (.string (Oy X.index))/\W.cell? ⟨bq,3,none⟩=some (.string (Oy X.elem))):=fun W hW=>by
  have h9:=C3 j7 hW o5;exact⟨h9.cell 0,h9.cell 2,h9.cell 3⟩
 have d2:Hid (∀ W,Q.Bar g D W->Up w W):=fun W hW=>by
  have h9:Q.Bar g W0 W:=q8.o.trans hW;rw[<-s2.o] at h9;exact Q.GO p8.o h9
 try rw[g5]
 clear i8 e6 j7 g5
 go_wp2_with fail
 refine (Ei D).mono ?_;rintro e w5 ⟨rfl,j4⟩;have e7:Up D w5:=by rw[j4];exact Oo _ _
 have l8:Hid (Eu w5 (.slice (some ⟨D.heap.size,0,none⟩) 2 2) uw):=by unfold Hid;rw[j4];exact Rk D
 have r8:=Hd (d1.o.bl (e7.mono d1.o.2.1));have q9:Hid (Q.Bar g D w5):=Q.Bar.of e7;have g9:D.heap.size≠g:=by have:=d1.o.1;have:=d1.o.2.1;omega
 clear j4 e7
 go_wp2_with fail
 refine (Q6 g N k1 _ t X w5 r8.o (by omega) (In l8.o g9 (by omega) V.o.rx) (fun h4=>by have:=V.o.six;omega) (fun _=>⟨F,Xe,MV l8.o g9 V.o⟩)).mono ?_;rintro e w7 ⟨o7,k7,rfl,y7,x9,n4,m5⟩;have g0:=Hd n4;have k5:Hid (Q.Bar g D w7):=q9.o.trans m5;clear n4 m5
 go_wp2_with fail
 refine Tx 6 rfl (S:=fun W=>W.cell? ⟨bq,0,none⟩=some (.int .i64 X.kind)/\W.cell? ⟨bq,2,none⟩=some (.string (Oy X.index))/\W.cell? ⟨bq,3,none⟩=some (.string (Oy X.elem))) (by kernel_rfl) (j.o w7.drew k5.o.drew) (fun hHeld=>?_);refine tk 0 26 (v:=?_) rfl rfl (by kernel_rfl) (fun _ _ _ h=>h) (Or.inl ⟨by rfl,?_⟩) (by assumption) ?_
 rotate_left
 ·(intro w E;(try dsimp only at E);go_simp;(try with_reducible rfl))
 try simp only[Act.put,Ja,Jc,Jb]
 refine tk 2 28 (v:=?_) rfl rfl (by kernel_rfl) (fun _ _ _ h=>h) (Or.inl ⟨by rfl,?_⟩) (by assumption) ?_
 rotate_left
 ·(intro w E;(try dsimp only at E);go_simp;(try with_reducible rfl))
 try simp only[Act.put,Ja,Jc,Jb]
 refine tk 3 29 (v:=?_) rfl rfl (by kernel_rfl) (fun _ _ _ h=>h) (Or.inl ⟨by rfl,?_⟩) (by assumption) ?_
 rotate_left
 ·(intro w E;(try dsimp only at E);go_simp;(try with_reducible rfl))
 try simp only[Act.put,Ja,Jc,Jb]
 refine wpAnyH_ready (rs:=[1]) (by kernel_rfl) (by simp) ?_;refine AllReadyH.cons rfl (fun K hK=>?_) AllReadyH.nil
 go_simp
 go_at_call 13
 refine (Ei w7.drew).mono ?_;rintro e u8 ⟨rfl,j5⟩;have e9:Below w7.drew.heap.size w7.drew u8:=by rw[j5];exact Oo _ _
 have s4:Hid (Eu u8 (.slice (some ⟨w7.heap.size,0,none⟩) 2 2) uw):=by unfold Hid;rw[j5];exact Rk w7.drew
 have l6:=Hd ((g0.o.bl (Jj _ _).drew).bl (e9.mono g0.o.2.1));have g7:Hid (Q.Bar g D u8):=(k5.o.drew).trans (Q.Bar.of e9);have o3:w7.heap.size≠g:=by have:=g0.o.1;have:=g0.o.2.1;omega
 clear j5 e9
 go_wp2_with fail
 refine hK.out _ _ (j.o u8 g7.o) (fun hHeld1=>?_);clear hK K
 try simp only[Act.put,Ja,Jc,Jb]
 refine wpAnyH_ready (rs:=[4]) (by kernel_rfl) (by simp) ?_;refine AllReadyH.cons rfl (fun K hK=>?_) AllReadyH.nil
 go_simp
 go_at_call 14
 refine (Q6 g N k7 _ X.index F u8 l6.o (by omega) (In s4.o o3 (by have:=V.o.li;have:=V.o.le;omega) V.o.ri) V.o.wi (fun e=>absurd e V.o.ni)).mono ?_;rintro e y8 ⟨o8,k8,rfl,z7,y0,n5,m6⟩;have g1:=Hd n5;have h1:Hid (Q.Bar g D y8):=g7.o.trans m6;clear n5 m6
 go_wp2_with fail
 refine hK.out _ _ (j.o y8 h1.o) (fun hHeld4=>?_);clear hK K
 try simp only[Act.put,Ja,Jc,Jb]
 refine tk 5 11 (v:=?_) rfl rfl (by kernel_rfl) (fun _ _ _ h=>h) (Or.inl ⟨by rfl,?_⟩) (by assumption) ?_
 rotate_left
 ·(intro w E;(try dsimp only at E);go_simp;(try with_reducible rfl))
 try simp only[Act.put,Ja,Jc,Jb]
 refine wpAnyH_done (by kernel_rfl) ?_ _
 go_wp2_with fail
 refine Tx 6 rfl (S:=fun W=>W.cell? ⟨bq,0,none⟩=some (.int .i64 X.kind)/\W.cell? ⟨bq,2,none⟩=some (.string (Oy X.index))/\W.cell? ⟨bq,3,none⟩=some (.string (Oy X.elem))) (by kernel_rfl) (j.o y8.drew h1.o.drew) (fun hHeld=>?_);refine tk 0 31 (v:=?_) rfl rfl (by kernel_rfl) (fun _ _ _ h=>h) (Or.inl ⟨by rfl,?_⟩) (by assumption) ?_
 rotate_left
 ·(intro w E;(try dsimp only at E);go_simp;(try with_reducible rfl))
 try simp only[Act.put,Ja,Jc,Jb]
 refine tk 2 33 (v:=?_) rfl rfl (by kernel_rfl) (fun _ _ _ h=>h) (Or.inl ⟨by rfl,?_⟩) (by assumption) ?_
 rotate_left
 ·(intro w E;(try dsimp only at E);go_simp;(try with_reducible rfl))
 try simp only[Act.put,Ja,Jc,Jb]
 refine tk 3 34 (v:=?_) rfl rfl (by kernel_rfl) (fun _ _ _ h=>h) (Or.inl ⟨by rfl,?_⟩) (by assumption) ?_
 rotate_left
 ·(intro w E;(try dsimp only at E);go_simp;(try with_reducible rfl))
 try simp only[Act.put,Ja,Jc,Jb]
 refine wpAnyH_ready (rs:=[1]) (by kernel_rfl) (by simp) ?_;refine AllReadyH.cons rfl (fun K hK=>?_) AllReadyH.nil
 go_simp
 go_at_call 13
 refine (Ei y8.drew).mono ?_;rintro e u9 ⟨rfl,j6⟩;have f5:Below y8.drew.heap.size y8.drew u9:=by rw[j6];exact Oo _ _
 have s5:Hid (Eu u9 (.slice (some ⟨y8.heap.size,0,none⟩) 2 2) uw):=by unfold Hid;rw[j6];exact Rk y8.drew
 have l7:=Hd ((g1.o.bl (Jj _ _).drew).bl (f5.mono g1.o.2.1));have g8:Hid (Q.Bar g D u9):=(h1.o.drew).trans (Q.Bar.of f5);have o4:y8.heap.size≠g:=by have:=g1.o.1;have:=g1.o.2.1;omega
 clear j6 f5
 go_wp2_with fail
 refine hK.out _ _ (j.o u9 g8.o) (fun hHeld1=>?_);clear hK K
 try simp only[Act.put,Ja,Jc,Jb]
 refine wpAnyH_ready (rs:=[4]) (by kernel_rfl) (by simp) ?_;refine AllReadyH.cons rfl (fun K hK=>?_) AllReadyH.nil
 go_simp
 go_at_call 14
 refine (Q6 g N k8 _ X.elem Xe u9 l7.o (by omega) (In s5.o o4 (by have:=V.o.li;have:=V.o.le;omega) V.o.re) V.o.we (fun e=>absurd e V.o.ne)).mono ?_;rintro e y9 ⟨o9,k9,rfl,z8,y1,n6,m7⟩;have l2:=Hd n6;have h2:Hid (Q.Bar g D y9):=g8.o.trans m7;clear n6 m7
 go_wp2_with fail
 refine hK.out _ _ (j.o y9 h2.o) (fun hHeld4=>?_);clear hK K
 try simp only[Act.put,Ja,Jc,Jb]
 refine tk 5 12 (v:=?_) rfl rfl (by kernel_rfl) (fun _ _ _ h=>h) (Or.inl ⟨by rfl,?_⟩) (by assumption) ?_
 rotate_left
 ·(intro w E;(try dsimp only at E);go_simp;(try with_reducible rfl))
 try simp only[Act.put,Ja,Jc,Jb]
 refine wpAnyH_done (by kernel_rfl) ?_ _;have t6:(Oy t).toList=[40,65,114,114,97,121,32,73,110,116,32,73,110,116,41]∨¬ (Oy t).toList=[40,65,114,114,97,121,32,73,110,116,32,73,110,116,41]:=Classical.em _
 rcases t6 with hq|hq
 case' inl=>
  have e1:((Oy t).toList==[40,65,114,114,97,121,32,73,110,116,32,73,110,116,41])=true:=by rw[Jw];exact hq
  clear hq
  go_wp2_with fail
  refine (Q.K8 g N k9 2 y9 l2.o (by omega) (by decide) (by decide)).mono ?_;rintro e wa ⟨ra,ka,rfl,D2,y2,n7,m8⟩;have l3:=Hd n7;have l0:Hid (Q.Bar g D wa):=h2.o.trans m8;clear n7 m8
  by_cases u5:ra=0
  case' pos=>
   have z0:((ra:Int)==0)=true:=by rw[Jw];omega
   go_wp2_with fail
   refine (DA g N ka wa l3.o (by omega)).mono ?_;rintro e wb ⟨ob,kb,rfl,B2,y3,n8,m9⟩;have r9:=Hd n8;have r3:Hid (Q.Bar g D wb):=l0.o.trans m9;clear n8 m9
   go_wp2_with fail
   refine (Q.K8 g N kb 130 wb r9.o (by omega) (by decide) (by decide)).mono ?_;rintro e wc ⟨rc,kc,rfl,E1,y4,n9,n0⟩;have l4:=Hd n9;have r4:Hid (Q.Bar g D wc):=r3.o.trans n0;clear n9 n0
   go_wp2_with fail
   refine (Xp _ wc (by omega) (by omega)).mono ?_;rintro e wd ⟨od,rfl,D0,j1⟩;have s0:=Hd (l4.o.bl (j1.mono l4.o.2.1));have r5:Hid (Q.Bar g D wd):=r4.o.trans (Q.Bar.of j1);clear j1
   go_wp2_with fail
   refine (Q.K8 g N kc 8 wd s0.o (by omega) (by decide) (by decide)).mono ?_;rintro e wf ⟨rf,kf,rfl,E2,y5,o0,n1⟩;have l5:=Hd o0;have r6:Hid (Q.Bar g D wf):=r5.o.trans n1;clear o0 n1
   go_wp2_with fail
   refine (Xp _ wf (by omega) (by omega)).mono ?_;rintro e wg ⟨og,rfl,D1,j2⟩;have s1:=Hd (l5.o.bl (j2.mono l5.o.2.1));have r7:Hid (Q.Bar g D wg):=r6.o.trans (Q.Bar.of j2);clear j2;obtain⟨wt,rfl⟩:∃ wt,wt=wg:=⟨_,rfl⟩;obtain⟨kt,rfl⟩:∃ kt,kt=kf:=⟨_,rfl⟩;obtain⟨xt,rfl⟩:∃ xt,xt=ob:=⟨_,rfl⟩;obtain⟨it,rfl⟩:∃ it,it=od:=⟨_,rfl⟩;obtain⟨vt,rfl⟩:∃ vt,vt=og:=⟨_,rfl⟩;have h7:=s1;have f7:=r7
  case' neg=>
   have z0:((ra:Int)==0)=false:=by rw[Jd];omega
   obtain⟨wt,rfl⟩:∃ wt,wt=wa:=⟨_,rfl⟩;obtain⟨kt,rfl⟩:∃ kt,kt=ka:=⟨_,rfl⟩;obtain⟨xt,rfl⟩:∃ xt,xt=o7:=⟨_,rfl⟩;obtain⟨it,rfl⟩:∃ it,it=o8:=⟨_,rfl⟩;obtain⟨vt,rfl⟩:∃ vt,vt=o9:=⟨_,rfl⟩;have h7:=l3;have f7:=l0
 case' inr=>
  have e1:((Oy t).toList==[40,65,114,114,97,121,32,73,110,116,32,73,110,116,41])=false:=by rw[Jd];exact hq
  clear hq;obtain⟨wt,rfl⟩:∃ wt,wt=y9:=⟨_,rfl⟩;obtain⟨kt,rfl⟩:∃ kt,kt=k9:=⟨_,rfl⟩;obtain⟨xt,rfl⟩:∃ xt,xt=o7:=⟨_,rfl⟩;obtain⟨it,rfl⟩:∃ it,it=o8:=⟨_,rfl⟩;obtain⟨vt,rfl⟩:∃ vt,vt=o9:=⟨_,rfl⟩;have h7:=l2;have f7:=h2
 all_goals
  obtain⟨x0,x2,x3⟩:=j.o wt f7.o
  go_wp2_with fail
  refine (Q.K8 g N kt 6 wt h7.o (by omega) (by decide) (by decide)).mono ?_;rintro e U ⟨rp,kp,rfl,F2,y6,o1,n2⟩;have x5:=Hd o1;have d4:Hid (Q.Bar g D U):=f7.o.trans n2;clear o1 n2 x0 x2 x3;obtain⟨x0,x2,x3⟩:=j.o U d4.o
  by_cases u6:rp=0
  ·have z1:((rp:Int)==0)=true:=by rw[Jw];omega
   have z6:(X.kind==6)=true:=by rw[Jw];exact V.o.six
   go_wp2_with fail
   refine Tx 6 rfl (S:=fun W=>W.cell? ⟨bq,0,none⟩=some (.int .i64 X.kind)/\W.cell? ⟨bq,2,none⟩=some (.string (Oy X.index))/\W.cell? ⟨bq,3,none⟩=some (.string (Oy X.elem))) (by kernel_rfl) (j.o U.drew d4.o.drew) (fun hHeld=>?_);refine tk 1 60 (v:=?_) rfl rfl (by kernel_rfl) (fun _ _ _ h=>h) (Or.inl ⟨by rfl,?_⟩) (by assumption) ?_
   rotate_left
   ·(intro w E;(try dsimp only at E);go_simp;(try with_reducible rfl))
   try simp only[Act.put,Ja,Jc,Jb]
   refine tk 2 61 (v:=?_) rfl rfl (by kernel_rfl) (fun _ _ _ h=>h) (Or.inl ⟨by rfl,?_⟩) (by assumption) ?_
   rotate_left
   ·(intro w E;(try dsimp only at E);go_simp;(try with_reducible rfl))
   try simp only[Act.put,Ja,Jc,Jb]
   refine wpAnyH_ready (rs:=[0,4]) (by kernel_rfl) (by simp) ?_;refine AllReadyH.cons rfl (fun K hK=>?_) (AllReadyH.cons rfl (fun K hK=>?_) (AllReadyH.nil))
   ·go_simp
    go_at_call 13
    refine (Ei U.drew).mono ?_;rintro e uz ⟨rfl,d5⟩;have a6:Below U.drew.heap.size U.drew uz:=by rw[d5];exact Oo _ _
    have c8:=Hd a6;have g2:Hid (Eu uz (.slice (some ⟨U.drew.heap.size,0,none⟩) 2 2) uw):=by unfold Hid;rw[d5];exact Rk U.drew
    have Z:Hid (Q.Bar g D uz):=d4.o.drew.trans (Q.Bar.of a6);have d7:U.drew.heap.size≠g:=by have:=d1.o.1;have:=d1.o.2.1;have:=d4.o.drew.size;omega
    clear d5 a6
    go_wp2_with fail
    refine hK.out _ _ (j.o uz Z.o) (fun hHeld0=>?_);clear hK K
    try simp only[Act.put,Ja,Jc,Jb]
    refine wpAnyH_ready (rs:=[3,4]) (by kernel_rfl) (by simp) ?_;refine AllReadyH.cons rfl (fun K hK=>?_) (AllReadyH.cons rfl (fun K hK=>?_) (AllReadyH.nil))
    case' _=>
     go_simp
     go_at_call 12
     refine ((In g2.o d7 (t:=X.index) (by have:=V.o.li;omega) V.o.ri) uz (Q.Bar.refl _ _)).mono ?_;rintro e yz ⟨rfl,a7⟩;have b6:=Hd a7;have b9:Hid (Q.Bar g D yz):=Z.o.trans (Q.Bar.of a7);clear a7;unfold Hj
     go_wp2_with fail
     refine hK.out _ _ (j.o yz b9.o) (fun hHeld3=>?_);clear hK K
     try simp only[Act.put,Ja,Jc,Jb]
     refine wpAnyH_ready (rs:=[4]) (by kernel_rfl) (by simp) ?_;refine AllReadyH.cons rfl (fun K hK=>?_) (AllReadyH.nil)
     go_simp
     obtain⟨Wa,G⟩:=O2 (yz.alloc (.cells #[.int .i64 0,.int .i64 0,.string ⟨#[]⟩,.string ⟨#[]⟩] 37));have H:Hid (Bx Wa yz.heap.size [.int .i64 0,.int .i64 0,.string ⟨#[]⟩,.string ⟨#[]⟩]):=by unfold Hid;rw[<-G];exact Ox yz [.int .i64 0,.int .i64 0,.string ⟨#[]⟩,.string ⟨#[]⟩] _
     have d9:Hid (Up yz Wa):=by unfold Hid;rw[<-G];exact Oo yz _
     have b8:Hid (Q.Bar g D Wa):=by unfold Hid;rw[<-G];exact b9.o.trans (Q.Bar.of (Oo yz _))
     have O:D.heap.size<=yz.heap.size:=b9.o.size;have I:=Hd O;rw[G];clear G O;refine hK.out _ _ (j.o Wa b8.o) (fun hHeld4=>?_);clear hK K
     try simp only[Act.put,Ja,Jc,Jb]
     obtain⟨W9,Y⟩:=O2 ((((((((Wa).setCell ⟨yz.heap.size,0,none⟩ (.int .i64 F.kind))).setCell ⟨yz.heap.size,1,none⟩ (.int .i64 (F.width:Nat)))).setCell ⟨yz.heap.size,2,none⟩ (.string (Oy F.index)))).setCell ⟨yz.heap.size,3,none⟩ (.string (Oy F.elem)));have g3:Hid (Bx W9 yz.heap.size [.int .i64 F.kind,.int .i64 (F.width:Nat),.string (Oy F.index),.string (Oy F.elem)]):=by unfold Hid;rw[<-Y];exact ((((H.o).set 0 _).set 1 _).set 2 _).set 3 _
     have d0:Hid (Q.Bar g D W9):=by unfold Hid;rw[<-Y];exact Gs (Gs (Gs (Gs b8.o _ I.o _) _ I.o _) _ I.o _) _ I.o _
     have d3:=H.o
    rotate_left
    case' _=>
     go_simp
     obtain⟨Wa,G⟩:=O2 (uz.alloc (.cells #[.int .i64 0,.int .i64 0,.string ⟨#[]⟩,.string ⟨#[]⟩] 37));have H:Hid (Bx Wa uz.heap.size [.int .i64 0,.int .i64 0,.string ⟨#[]⟩,.string ⟨#[]⟩]):=by unfold Hid;rw[<-G];exact Ox uz [.int .i64 0,.int .i64 0,.string ⟨#[]⟩,.string ⟨#[]⟩] _
     have d9:Hid (Up uz Wa):=by unfold Hid;rw[<-G];exact Oo uz _
     have b8:Hid (Q.Bar g D Wa):=by unfold Hid;rw[<-G];exact Z.o.trans (Q.Bar.of (Oo uz _))
     have O:D.heap.size<=uz.heap.size:=Z.o.size;have I:=Hd O;rw[G];clear G O;refine hK.out _ _ (j.o Wa b8.o) (fun hHeld4=>?_);clear hK K
     try simp only[Act.put,Ja,Jc,Jb]
     refine wpAnyH_ready (rs:=[3]) (by kernel_rfl) (by simp) ?_;refine AllReadyH.cons rfl (fun K hK=>?_) (AllReadyH.nil)
     go_simp
     go_at_call 12
     refine ((In g2.o d7 (t:=X.index) (by have:=V.o.li;omega) V.o.ri) Wa (Q.Bar.of d9.o)).mono ?_;rintro e yz ⟨rfl,a7⟩;have b6:=Hd a7;have b9:Hid (Q.Bar g D yz):=b8.o.trans (Q.Bar.of a7);clear a7;unfold Hj
     go_wp2_with fail
     refine hK.out _ _ (j.o yz b9.o) (fun hHeld3=>?_);clear hK K
     try simp only[Act.put,Ja,Jc,Jb]
     obtain⟨W9,Y⟩:=O2 ((((((((yz).setCell ⟨uz.heap.size,0,none⟩ (.int .i64 F.kind))).setCell ⟨uz.heap.size,1,none⟩ (.int .i64 (F.width:Nat)))).setCell ⟨uz.heap.size,2,none⟩ (.string (Oy F.index)))).setCell ⟨uz.heap.size,3,none⟩ (.string (Oy F.elem)));have g3:Hid (Bx W9 uz.heap.size [.int .i64 F.kind,.int .i64 (F.width:Nat),.string (Oy F.index),.string (Oy F.elem)]):=by unfold Hid;rw[<-Y];exact ((((H.o.bl H.o.lt b6.o).set 0 _).set 1 _).set 2 _).set 3 _
     have d0:Hid (Q.Bar g D W9):=by unfold Hid;rw[<-Y];exact Gs (Gs (Gs (Gs b9.o _ I.o _) _ I.o _) _ I.o _) _ I.o _
     have d3:=H.o.bl H.o.lt b6.o
    rotate_left
    all_goals
     obtain⟨e0,i6,e2,e3⟩:=d3.c4;obtain⟨f0,f1,f2,f3⟩:=d3.f4;have h8:=Hd Y;clear Y d3;refine wpAnyH_ready (rs:=[5]) (by kernel_rfl) (by simp) ?_;refine AllReadyH.cons rfl (fun K hK=>?_) (AllReadyH.nil)
     go_simp
     go_wp2_with fail
     rw[h8.o];refine hK.out _ _ (j.o W9 d0.o) (fun hHeld5=>?_);clear hK K e0 i6 e2 e3 f0 f1 f2 f3
     try simp only[Act.put,Ja,Jc,Jb]
     refine wpAnyH_done (by kernel_rfl) ?_ _;obtain⟨z0,u0,z2,z3⟩:=g3.o.c4
     by_cases h4:F.kind=4
     ·have z4:(F.kind==4)=true:=by rw[Jw];exact h4
      clear h4
      go_wp2_with fail
      refine (Hl F.width W9 V.o.w64).mono ?_;rintro e wl ⟨rfl,e8⟩;have h6:Hid (Q.Bar g D wl):=d0.o.trans (Q.Bar.of e8);obtain⟨T,hT⟩:=O2 (Ny F.width 0);have s9:T.size<=100:=by rw[<-hT];unfold Ny;rw[Q.Kf];simp[K5];have:=V.o.w64;omega
      rw[hT];clear e8 hT
      go_wp2_with fail
      refine (Ei wl).mono ?_;rintro e we ⟨rfl,d⟩;have J:Up wl we:=by rw[d];exact Oo _ _
      have c7:Hid (Eu we (.slice (some ⟨wl.heap.size,0,none⟩) 2 2) uw):=by unfold Hid;rw[d];exact Rk wl
      have c6:Hid (wl.heap.size<we.heap.size):=by unfold Hid;rw[d];simp
      have b7:Hid (Up w we):=d2.o we (h6.o.trans (Q.Bar.of J));clear d J
      go_wp2_with fail
      refine Jh ?_ rfl (AH.mk' (x:=xt) (i:=T) (v:=vt) e4.o d8 c7.o c6.o (by omega) (by omega) (by omega) b7.o);simp[results,results4,go_sem]
     have z4:(F.kind==4)=false:=by rw[Jd];exact h4
     clear h4
     go_wp2_with fail
     refine (Ei W9).mono ?_;rintro e we ⟨rfl,d⟩;have J:Up W9 we:=by rw[d];exact Oo _ _
     have c7:Hid (Eu we (.slice (some ⟨W9.heap.size,0,none⟩) 2 2) uw):=by unfold Hid;rw[d];exact Rk W9
     have c6:Hid (W9.heap.size<we.heap.size):=by unfold Hid;rw[d];simp
     have b7:Hid (Up w we):=d2.o we (d0.o.trans (Q.Bar.of J));clear d J
     go_wp2_with fail
     refine Jh ?_ rfl (AH.mk' (x:=xt) (i:=it) (v:=vt) e4.o d8 c7.o c6.o (by omega) (by omega) (by omega) b7.o);simp[results,results4,go_sem]
   go_simp
   obtain⟨Wa,G⟩:=O2 ((U.alloc (.cells #[.int .i64 0,.int .i64 0,.string ⟨#[]⟩,.string ⟨#[]⟩] 37)).drew);have H:Hid (Bx Wa U.heap.size [.int .i64 0,.int .i64 0,.string ⟨#[]⟩,.string ⟨#[]⟩]):=by unfold Hid;rw[<-G];exact (Ox U [.int .i64 0,.int .i64 0,.string ⟨#[]⟩,.string ⟨#[]⟩] _).drew
   have d9:Hid (Up U Wa):=by unfold Hid;rw[<-G];exact (Oo U _).drew
   have b8:Hid (Q.Bar g D Wa):=by unfold Hid;rw[<-G];exact (d4.o.trans (Q.Bar.of (Oo U _))).drew
   have O:D.heap.size<=U.heap.size:=d4.o.size;have I:=Hd O;rw[G];clear G O;refine hK.out _ _ (j.o Wa b8.o) (fun hHeld4=>?_);clear hK K
   try simp only[Act.put,Ja,Jc,Jb]
   refine wpAnyH_ready (rs:=[0]) (by kernel_rfl) (by simp) ?_;refine AllReadyH.cons rfl (fun K hK=>?_) (AllReadyH.nil)
   go_simp
   go_at_call 13
   refine (Ei Wa).mono ?_;rintro e uz ⟨rfl,d5⟩;have a6:Up Wa uz:=by rw[d5];exact Oo _ _
   have c8:=Hd a6;have g2:Hid (Eu uz (.slice (some ⟨Wa.heap.size,0,none⟩) 2 2) uw):=by unfold Hid;rw[d5];exact Rk Wa
   have Z:Hid (Q.Bar g D uz):=b8.o.trans (Q.Bar.of a6);have d7:Wa.heap.size≠g:=by have:=d1.o.1;have:=d1.o.2.1;have:=b8.o.size;omega
   clear d5 a6
   go_wp2_with fail
   refine hK.out _ _ (j.o uz Z.o) (fun hHeld0=>?_);clear hK K
   try simp only[Act.put,Ja,Jc,Jb]
   refine wpAnyH_ready (rs:=[3]) (by kernel_rfl) (by simp) ?_;refine AllReadyH.cons rfl (fun K hK=>?_) (AllReadyH.nil)
   go_simp
   go_at_call 12
   refine ((In g2.o d7 (t:=X.index) (by have:=V.o.li;omega) V.o.ri) uz (Q.Bar.refl _ _)).mono ?_;rintro e yz ⟨rfl,a7⟩;have b6:=Hd a7;have b9:Hid (Q.Bar g D yz):=Z.o.trans (Q.Bar.of a7);clear a7;unfold Hj
   go_wp2_with fail
   refine hK.out _ _ (j.o yz b9.o) (fun hHeld3=>?_);clear hK K
   try simp only[Act.put,Ja,Jc,Jb]
   obtain⟨W9,Y⟩:=O2 ((((((((yz).setCell ⟨U.heap.size,0,none⟩ (.int .i64 F.kind))).setCell ⟨U.heap.size,1,none⟩ (.int .i64 (F.width:Nat)))).setCell ⟨U.heap.size,2,none⟩ (.string (Oy F.index)))).setCell ⟨U.heap.size,3,none⟩ (.string (Oy F.elem)));have g3:Hid (Bx W9 U.heap.size [.int .i64 F.kind,.int .i64 (F.width:Nat),.string (Oy F.index),.string (Oy F.elem)]):=by unfold Hid;rw[<-Y];exact (((((H.o.bl H.o.lt c8.o).bl (H.o.bl H.o.lt c8.o).lt b6.o).set 0 _).set 1 _).set 2 _).set 3 _
   have d0:Hid (Q.Bar g D W9):=by unfold Hid;rw[<-Y];exact Gs (Gs (Gs (Gs b9.o _ I.o _) _ I.o _) _ I.o _) _ I.o _
   have d3:=(H.o.bl H.o.lt c8.o).bl (H.o.bl H.o.lt c8.o).lt b6.o;obtain⟨e0,i6,e2,e3⟩:=d3.c4;obtain⟨f0,f1,f2,f3⟩:=d3.f4;have h8:=Hd Y;clear Y d3;refine wpAnyH_ready (rs:=[5]) (by kernel_rfl) (by simp) ?_;refine AllReadyH.cons rfl (fun K hK=>?_) (AllReadyH.nil)
   go_simp
   go_wp2_with fail
   rw[h8.o];refine hK.out _ _ (j.o W9 d0.o) (fun hHeld5=>?_);clear hK K e0 i6 e2 e3 f0 f1 f2 f3
   try simp only[Act.put,Ja,Jc,Jb]
   refine wpAnyH_done (by kernel_rfl) ?_ _;obtain⟨z0,u0,z2,z3⟩:=g3.o.c4
   by_cases h4:F.kind=4
   ·have z4:(F.kind==4)=true:=by rw[Jw];exact h4
    clear h4
    go_wp2_with fail
    refine (Hl F.width W9 V.o.w64).mono ?_;rintro e wl ⟨rfl,e8⟩;have h6:Hid (Q.Bar g D wl):=d0.o.trans (Q.Bar.of e8);obtain⟨T,hT⟩:=O2 (Ny F.width 0);have s9:T.size<=100:=by rw[<-hT];unfold Ny;rw[Q.Kf];simp[K5];have:=V.o.w64;omega
    rw[hT];clear e8 hT
    go_wp2_with fail
    refine (Ei wl).mono ?_;rintro e we ⟨rfl,d⟩;have J:Up wl we:=by rw[d];exact Oo _ _
    have c7:Hid (Eu we (.slice (some ⟨wl.heap.size,0,none⟩) 2 2) uw):=by unfold Hid;rw[d];exact Rk wl
    have c6:Hid (wl.heap.size<we.heap.size):=by unfold Hid;rw[d];simp
    have b7:Hid (Up w we):=d2.o we (h6.o.trans (Q.Bar.of J));clear d J
    go_wp2_with fail
    refine Jh ?_ rfl (AH.mk' (x:=xt) (i:=T) (v:=vt) e4.o d8 c7.o c6.o (by omega) (by omega) (by omega) b7.o);simp[results,results4,go_sem]
   have z4:(F.kind==4)=false:=by rw[Jd];exact h4
   clear h4
   go_wp2_with fail
   refine (Ei W9).mono ?_;rintro e we ⟨rfl,d⟩;have J:Up W9 we:=by rw[d];exact Oo _ _
   have c7:Hid (Eu we (.slice (some ⟨W9.heap.size,0,none⟩) 2 2) uw):=by unfold Hid;rw[d];exact Rk W9
   have c6:Hid (W9.heap.size<we.heap.size):=by unfold Hid;rw[d];simp
   have b7:Hid (Up w we):=d2.o we (d0.o.trans (Q.Bar.of J));clear d J
   go_wp2_with fail
   refine Jh ?_ rfl (AH.mk' (x:=xt) (i:=it) (v:=vt) e4.o d8 c7.o c6.o (by omega) (by omega) (by omega) b7.o);simp[results,results4,go_sem]
  have z1:((rp:Int)==0)=false:=by rw[Jd];omega
  go_wp2_with fail
  refine (Ei U).mono ?_;rintro e we ⟨rfl,d⟩;have J:Up U we:=by rw[d];exact Oo _ _
  have c7:Hid (Eu we (.slice (some ⟨U.heap.size,0,none⟩) 2 2) uw):=by unfold Hid;rw[d];exact Rk U
  have c6:Hid (U.heap.size<we.heap.size):=by unfold Hid;rw[d];simp
  have b7:Hid (Up w we):=d2.o we (d4.o.trans (Q.Bar.of J));clear d J
  go_wp2_with fail
  refine Jh ?_ rfl (AH.mk' (x:=xt) (i:=it) (v:=vt) e4.o d8 c7.o c6.o (by omega) (by omega) (by omega) b7.o);simp[results,results4,go_sem]
end Go.Proofs.YtjjgilacnocigaaGreatDoor
