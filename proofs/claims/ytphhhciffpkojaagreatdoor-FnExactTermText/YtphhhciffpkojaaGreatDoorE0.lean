import Derived.Test.YtphhhciffpkojaaGreatDoorP00
import Derived.Test.YtphhhciffpkojaaGreatDoorP35
set_option maxRecDepth 100000
set_option maxHeartbeats 4000000
set_option linter.all false
namespace Go.Proofs.YtphhhciffpkojaaGreatDoor
open ChangeShapes WideShapes ChangeAt RowKit Proofs.Tryz
def WT (N:Nat)(w:World)(P:World->Prop):Prop:=∀ W',w.heap.size<=W'.heap.size->(∀ k,N<=k->k<w.heap.size->W'.heap[k]? = w.heap[k]?)->P W'
theorem WS (v:Value)(F:List Fn)(w:World)(h:X9 w v F)(hs:F.length<=1048576/\∀ f∈F,Qz f) :
 Calls prog 47 #[v] w fun e w'=>∃ v',e=.returned v'/\(∃ p c,v'=.slice p F.length c)/\WT w.heap.size w' (fun W=>E9 W v' F)/\Up w w':=by
 obtain⟨a,c,rfl,hc,d9,-,hA⟩:=h;unfold maxLen at d9;obtain⟨i0,b7,e4,e5,e6⟩:=Lr;have g6:=hs.1;have HA:=Hd hA;have d5:=Hd hs.2;clear hA hs
 go_in
 go_wp2_with (at_make;refine wpList_make_full _ rfl _ _ 29 rfl w.heap.size 47 i0 _ 3 underlying29 b7 e4 e5 .i64 .i64 _ _ F.length rfl rfl (by simp) (by simp) (by rw[e6];omega) (by unfold maxLen;omega) leR ?_)
 intro w1 K b6;have d0:Hid (Up w w1):=(Je _ _).grown b6 leR (fun k e=>by cases e);have d3:=Hd K;clear K b6
 go_wp2
 go_loopw [4] (fun iv wr=>∃ (i:Nat) (xs:List Value),i<=F.length/\iv=.int .i64 i/\RY wr (w.heap.size+1) xs F i/\wr.ownsRow w.heap.size 47 3 (.slice (some ⟨w.heap.size,0,none⟩) F.length F.length) F.length xs/\Up w wr) (fun iv _=>F.length - (intOf iv).toNat)
 case atStart=>exact⟨0,_,Jr _,rfl,fun j _ h=>absurd h (J2 _),d3.o,d0.o⟩
 obtain⟨i,xs,hi,rfl,G,E,Y⟩:=hrel;have HB:=Hd Y;have a7:=Hd G;have d7:Hid (xs.length=F.length*3):=E.1;have HO:=Hd E;have O:Hid (w.heap.size<wr.heap.size):=(E.lt _ rfl).2
 by_cases J:i<F.length
 ·obtain⟨b,off,rfl,hb,hA⟩:∃ b off,a=some ⟨b,off,none⟩/\b<w.heap.size/\∀ i (h:i<F.length),w.cell? ⟨b,off+i*3,none⟩=some (.string (Oo F[i].name))/\(∃ va,w.cell? ⟨b,off+i*3+1,none⟩=some va/\E3 w va F[i].args)/\w.cell? ⟨b,off+i*3+2,none⟩=some (.string (Oo F[i].sort)):=by
   rcases HA.o with h|h
   ·rw[h] at J;exact absurd J (J2 _)
   exact h
  obtain⟨k0,⟨va,k1,I⟩,k2⟩:=hA i J;rw[<-Y.cell (p:=⟨b,off+i*3,none⟩) hb] at k0;rw[<-Y.cell (p:=⟨b,off+i*3+1,none⟩) hb] at k1;rw[<-Y.cell (p:=⟨b,off+i*3+2,none⟩) hb] at k2;have V:=Hd (I.bl Y);have b4:=Hd (d5.o _ (Jo J)).2.1;have a8:Hid (∀ wr' va,(∀ k,w.heap.size+1<=k->k<wr.heap.size->wr'.heap[k]? = wr.heap[k]?)->wr'.ownsRow (w.heap.size+1) 9 1 va F[i].args.length (strsC F[i].args)->RY wr' (w.heap.size+1) (((xs.set (i*3) (.string (Oo F[i].name))).set (i*3+1) va).set (i*3+2) (.string (Oo F[i].sort))) F (i+1)):=fun wr' va hk hv=>RY.next d7.o a7.o J hk hv;obtain⟨f,hf⟩:=Oa (F[i]);rw[hf] at k0 k2 V b4 a8;obtain⟨pa,ca,rfl,-,-,-,-⟩:=I;rw[hf] at k1;rw[hf] at V;clear hf G E Y hA
  go_wp2_with (go_at_call 22;refine (X7 f _ _ V.o b4.o).mono ?_;rintro e w2 ⟨g2,c2,rfl,b8,M⟩;have d:=Et HO.o M;have d1:=HB.up M;obtain⟨x0,e0⟩:=I5 d (i*3) (by omega);obtain⟨x1,e1⟩:=I5 d (i*3+1) (by omega);obtain⟨x2,e2⟩:=I5 d (i*3+2) (by omega);have g0:=d.frozenAt (i*3);have g1:=d.frozenAt (i*3+1);have f9:=d.frozenAt (i*3+2);have d4:=Hd d;have b3:=Hd b8;have d2:=Hd M;clear M d b8)
  have b9:=(((d4.o.stored (i*3) (.string (Oo f.name))).1.stored (i*3+1) (.slice (some ⟨g2,0,none⟩) f.args.length c2)).1.stored (i*3+2) (.string (Oo f.sort))).1;have d6:=Hd b9;have hh:∀ k,k≠w.heap.size->(((w2.setCell ⟨w.heap.size,i*3,none⟩ (.string (Oo f.name))).setCell ⟨w.heap.size,i*3+1,none⟩ (.slice (some ⟨g2,0,none⟩) f.args.length c2)).setCell ⟨w.heap.size,i*3+2,none⟩ (.string (Oo f.sort))).heap[k]? = w2.heap[k]? := fun k hk=>by rw[Jh _ ⟨w.heap.size,i*3+2,none⟩ _ _ hk,Jh _ ⟨w.heap.size,i*3+1,none⟩ _ _ hk,Jh _ ⟨w.heap.size,i*3,none⟩ _ _ hk]
  have Z:=Hd hh;clear b9 hh
  go_roundw
  case rel=>
   refine⟨i+1,_,by omega,by go_num,a8.o _ (.slice (some ⟨g2,0,none⟩) f.args.length c2) (fun k hk hk2=>(Z.o k (by omega)).trans (d2.o.block k hk2)) ?_,d6.o,((d1.o.sc).sc).sc⟩;exact Kh (own_other' b3.o (fun g hg=>Z.o g (fun e=>by have:=Ol b3.o g hg;have:=O.o;omega))) O.o
  simp[intOf];omega
 have e3:i=F.length:=by omega
 subst e3;clear E Y G
 go_wp2
 go_ret
 refine⟨_,rfl,⟨_,_,rfl⟩,fun W' hsz hkk=>?_,HB.o⟩;have U:W'.ownsRow _ _ _ _ _ _:=own_other' HO.o (fun g hg=>hkk g (Ol HO.o g hg) (HO.o.lt g hg).2);refine⟨_,_,rfl,leR,by unfold maxLen;omega,.inr ⟨w.heap.size,rfl,Jq O.o hsz,fun j hj=>?_⟩⟩;obtain⟨h0,⟨va,h1,I⟩,h2⟩:=a7.o j hj hj;refine⟨?_,⟨va,?_,Iq (own_other' I (fun g hg=>hkk g (Yc (Y4 _) (Ol I g hg)) (I.lt g hg).2))⟩,?_⟩
 ·rw[U.cellAt (j*3) (by omega)];exact h0
 ·rw[U.cellAt (j*3+1) (by omega)];exact h1
 rw[U.cellAt (j*3+2) (by omega)];exact h2
theorem WH (v:Value)(T:List Tm)(w:World)(h:Im w v T)(hs:T.length<=1048576/\∀ t∈T,F1 t) :
 Calls prog 48 #[v] w fun e w'=>∃ v',e=.returned v'/\(∃ p c,v'=.slice p T.length c)/\WT w.heap.size w' (fun W=>K9 W v' T)/\Up w w':=by
 obtain⟨a,c,rfl,hc,d8,-,hA⟩:=h;unfold maxLen at d8;obtain⟨i0,b7,e6,e7,e8⟩:=Rc;have h8:=hs.1;have HA:=Hd hA;have d4:=Hd hs.2;clear hA hs
 go_in
 go_wp2_with (at_make;refine wpList_make_full _ rfl _ _ 30 rfl w.heap.size 57 i0 _ 6 underlying30 b7 e6 e7 .i64 .i64 _ _ T.length rfl rfl (by simp) (by simp) (by rw[e8];omega) (by unfold maxLen;omega) leR ?_)
 intro w1 M b6;have c8:Hid (Up w w1):=(Je _ _).grown b6 leR (fun k e=>by cases e);have d2:=Hd M;clear M b6
 go_wp2
 go_loopw [4] (fun iv wr=>∃ (i:Nat) (xs:List Value),i<=T.length/\iv=.int .i64 i/\RZ wr (w.heap.size+1) xs T i/\wr.ownsRow w.heap.size 57 6 (.slice (some ⟨w.heap.size,0,none⟩) T.length T.length) T.length xs/\Up w wr) (fun iv _=>T.length - (intOf iv).toNat)
 case atStart=>exact⟨0,_,Jr _,rfl,fun j _ h=>absurd h (J2 _),d2.o,c8.o⟩
 obtain⟨i,xs,hi,rfl,G,E,O⟩:=hrel;have HB:=Hd O;have Z:=Hd G;have d6:Hid (xs.length=T.length*6):=E.1;have HO:=Hd E;have V:Hid (w.heap.size<wr.heap.size):=(E.lt _ rfl).2
 by_cases K:i<T.length
 ·obtain⟨b,off,rfl,hb,hA⟩:∃ b off,a=some ⟨b,off,none⟩/\b<w.heap.size/\∀ i (h:i<T.length),w.cell? ⟨b,off+i*6,none⟩=some (.int .i64 T[i].op)/\w.cell? ⟨b,off+i*6+1,none⟩=some (.string (Oo T[i].sort))/\w.cell? ⟨b,off+i*6+2,none⟩=some (.string (Oo T[i].text))/\w.cell? ⟨b,off+i*6+3,none⟩=some (.int .i64 T[i].a)/\w.cell? ⟨b,off+i*6+4,none⟩=some (.int .i64 T[i].b)/\∃ va,w.cell? ⟨b,off+i*6+5,none⟩=some va/\G2 w va T[i].kids:=by
   rcases HA.o with h|h
   ·rw[h] at K;exact absurd K (J2 _)
   exact h
  obtain⟨k0,k1,k2,k3,k4,va,k5,J⟩:=hA i K;rw[<-O.cell (p:=⟨b,off+i*6,none⟩) hb] at k0;rw[<-O.cell (p:=⟨b,off+i*6+1,none⟩) hb] at k1;rw[<-O.cell (p:=⟨b,off+i*6+2,none⟩) hb] at k2;rw[<-O.cell (p:=⟨b,off+i*6+3,none⟩) hb] at k3;rw[<-O.cell (p:=⟨b,off+i*6+4,none⟩) hb] at k4;rw[<-O.cell (p:=⟨b,off+i*6+5,none⟩) hb] at k5;have b4:=Hd (J.bl O);have b3:=Hd (d4.o _ (Jo K)).2.2;have a7:Hid (∀ wr' va,(∀ k,w.heap.size+1<=k->k<wr.heap.size->wr'.heap[k]? = wr.heap[k]?)->wr'.ownsRow (w.heap.size+1) 3 1 va T[i].kids.length (Nx T[i].kids)->RZ wr' (w.heap.size+1) ((((((xs.set (i*6) (.int .i64 T[i].op)).set (i*6+1) (.string (Oo T[i].sort))).set (i*6+2) (.string (Oo T[i].text))).set (i*6+3) (.int .i64 T[i].a)).set (i*6+4) (.int .i64 T[i].b)).set (i*6+5) va) T (i+1)):=fun wr' va hk hv=>RZ.next d6.o Z.o K hk hv;obtain⟨pa,ca,rfl,-,-,-⟩:=J;obtain⟨t,ht⟩:=Oa (T[i]);rw[ht] at k0 k1 k2 k3 k4 k5 b4 b3 a7;clear ht G E O hA
  go_wp2_with (go_at_call 28;refine (EL t _ _ b4.o b3.o).mono ?_;rintro e w2 ⟨g2,c2,rfl,b8,U⟩;have d:=Et HO.o U;have d0:=HB.up U;obtain⟨x0,e0⟩:=I5 d (i*6) (by omega);have g3:=d.frozenAt (i*6);obtain⟨x1,e1⟩:=I5 d (i*6+1) (by omega);have g4:=d.frozenAt (i*6+1);obtain⟨x2,e2⟩:=I5 d (i*6+2) (by omega);have g5:=d.frozenAt (i*6+2);obtain⟨x3,e3⟩:=I5 d (i*6+3) (by omega);have g6:=d.frozenAt (i*6+3);obtain⟨x4,e4⟩:=I5 d (i*6+4) (by omega);have g7:=d.frozenAt (i*6+4);obtain⟨x5,e5⟩:=I5 d (i*6+5) (by omega);have g8:=d.frozenAt (i*6+5);have d3:=Hd d;have a8:=Hd b8;have d1:=Hd U;clear U d b8)
  have b9:=((((((d3.o.stored (i*6) (.int .i64 t.op)).1.stored (i*6+1) (.string (Oo t.sort))).1.stored (i*6+2) (.string (Oo t.text))).1.stored (i*6+3) (.int .i64 t.a)).1.stored (i*6+4) (.int .i64 t.b)).1.stored (i*6+5) (.slice (some ⟨g2,0,none⟩) t.kids.length c2)).1;have d5:=Hd b9;have hh:∀ k,k≠w.heap.size->((((((w2.setCell ⟨w.heap.size,i*6,none⟩ (.int .i64 t.op)).setCell ⟨w.heap.size,i*6+1,none⟩ (.string (Oo t.sort))).setCell ⟨w.heap.size,i*6+2,none⟩ (.string (Oo t.text))).setCell ⟨w.heap.size,i*6+3,none⟩ (.int .i64 t.a)).setCell ⟨w.heap.size,i*6+4,none⟩ (.int .i64 t.b)).setCell ⟨w.heap.size,i*6+5,none⟩ (.slice (some ⟨g2,0,none⟩) t.kids.length c2)).heap[k]? = w2.heap[k]? := fun k hk=>by rw[Jh _ ⟨w.heap.size,i*6+5,none⟩ _ _ hk,Jh _ ⟨w.heap.size,i*6+4,none⟩ _ _ hk,Jh _ ⟨w.heap.size,i*6+3,none⟩ _ _ hk,Jh _ ⟨w.heap.size,i*6+2,none⟩ _ _ hk,Jh _ ⟨w.heap.size,i*6+1,none⟩ _ _ hk,Jh _ ⟨w.heap.size,i*6,none⟩ _ _ hk]
  have Y:=Hd hh;clear b9 hh
  go_roundw
  case rel=>
   refine⟨i+1,_,by omega,by go_num,a7.o _ (.slice (some ⟨g2,0,none⟩) t.kids.length c2) (fun k hk hk2=>(Y.o k (by omega)).trans (d1.o.block k hk2)) ?_,d5.o,((((((d0.o.sc).sc).sc).sc).sc).sc)⟩;exact Kh (own_other' a8.o (fun g hg=>Y.o g (fun e=>by have:=Ol a8.o g hg;have:=V.o;omega))) V.o
  simp[intOf];omega
 have d9:i=T.length:=by omega
 subst d9;clear E O G
 go_wp2
 go_ret
 refine⟨_,rfl,⟨_,_,rfl⟩,fun W' hsz hkk=>?_,HB.o⟩;have I:W'.ownsRow _ _ _ _ _ _:=own_other' HO.o (fun g hg=>hkk g (Ol HO.o g hg) (HO.o.lt g hg).2);refine⟨_,_,rfl,leR,by unfold maxLen;omega,.inr ⟨w.heap.size,rfl,Jq V.o hsz,fun j hj=>?_⟩⟩;obtain⟨h0,h1,h2,h3,h4,va,h5,J⟩:=Z.o j hj hj;refine⟨?_,?_,?_,?_,?_,va,?_,FD (own_other' J (fun g hg=>hkk g (Yc (Y4 _) (Ol J g hg)) (J.lt g hg).2))⟩
 ·rw[I.cellAt (j*6) (by omega)];exact h0
 ·rw[I.cellAt (j*6+1) (by omega)];exact h1
 ·rw[I.cellAt (j*6+2) (by omega)];exact h2
 ·rw[I.cellAt (j*6+3) (by omega)];exact h3
 ·rw[I.cellAt (j*6+4) (by omega)];exact h4
 rw[I.cellAt (j*6+5) (by omega)];exact h5
theorem TN {vs vf vt:Value}{S:List (List UInt8)}{F:List Fn}{T:List Tm}(w:World)(h:ArgBank w vs vf vt S F T)(hs:SmallB S F T) :
 Calls prog 11 #[.agg #[vs,vf,vt]] w fun e w'=>∃ us uf ut,e=.returned (.agg #[us,uf,ut])/\BankAt w' us uf ut S F T/\(∃ ad n c,us=.slice (some ad) n c)/\Up w w':=by
 obtain⟨a1,c1,e1,-,-,-,-⟩:=h.s;obtain⟨a2,c2,e2,-,-,-,-⟩:=h.f;obtain⟨a3,c3,e3,-,-,-,-⟩:=h.t;have HH:=Hd h;subst e1 e2 e3;clear h
 go_in
 go_wp2_with fail
 obtain⟨W3,g3,g5,x1,x2,x3,g6⟩:=GK w [.slice a1 S.length c1,.slice a2 F.length c2,.slice a3 T.length c3] [.slice none 0 0,.slice none 0 0,.slice none 0 0] [.slice none 0 0,.slice none 0 0,.slice none 0 0] 26 32 32;rw[g3];clear g3;have e5:=Hd g5;have f5:=Hd x1;have f8:=Hd x2;have f9:=Hd x3;have O:=Hd g6;clear g5 x1 x2 x3 g6;refine (R9 _ S W3 (HH.o.bl e5.o).s hs.s).mono ?_;rintro e w4 ⟨g4,c4,rfl,Z,K⟩;have g9:=e5.up K;have e8:=Hd Z;have U:=Hd (f5.o.bl f5.o.lt K);have E:=Hd (f8.o.bl f8.o.lt K);have d:=Hd (f9.o.bl f9.o.lt K);have i6:Hid (w.heap.size+1+1+1<=w4.heap.size):=by have:=K.size;have:=O.o;unfold Hid;omega
 clear Z K;obtain⟨b0,b1,b2⟩:=U.o.c3;have q0:=d.o.c3.1;have r0:=d.o.fz 0;obtain⟨W5,I⟩:=Oa (w4.setCell ⟨w.heap.size+1+1,0,none⟩ (.slice (some ⟨g4,0,none⟩) S.length c4));have h5:∀ k,k≠w.heap.size+1+1->W5.heap[k]? = w4.heap[k]? := fun k hk=>by rw[<-I];exact Jh _ ⟨w.heap.size+1+1,0,none⟩ _ _ hk
 have d7:Hid (Bx W5 w.heap.size [.slice a1 S.length c1,.slice a2 F.length c2,.slice a3 T.length c3]):=by
  obtain⟨ty,G⟩:=U.o;exact⟨ty,(h5 _ (by omega)).trans G⟩
 have V:Hid (Bx W5 (w.heap.size+1) [.slice none 0 0,.slice none 0 0,.slice none 0 0]):=by
  obtain⟨ty,G⟩:=E.o;exact⟨ty,(h5 _ (by omega)).trans G⟩
 have Y:Hid (Bx W5 (w.heap.size+1+1) [.slice (some ⟨g4,0,none⟩) S.length c4,.slice none 0 0,.slice none 0 0]):=by unfold Hid;rw[<-I];exact d.o.set 0 _
 have e6:Hid (Up w W5):=by unfold Hid;rw[<-I];exact g9.o.setCell (p:=⟨w.heap.size+1+1,0,none⟩) (by show _<=w.heap.size+1+1;omega) _
 have h9:Hid (W5.ownsRow W3.heap.size 9 1 (.slice (some ⟨g4,0,none⟩) S.length c4) S.length (strsC S)):=own_other' e8.o (fun g hg=>h5 g (fun e=>by have:=Ol e8.o g hg;have:=O.o;omega));have d4:Hid (w.heap.size+1+1+1<=W5.heap.size):=by have:=i6.o;unfold Hid;rw[<-I];simpa[World.setCell] using this
 have j0:=Hd I;clear I h5
 go_wp2_with fail
 clear b0 b1 b2 q0 r0;rw[j0.o];refine (WS _ F W5 (HH.o.bl e6.o).f hs.f).mono ?_;rintro e w6 ⟨uf,rfl,⟨p6,d6,rfl⟩,b8,j⟩;have h2:=Hd b8;have h0:=e6.up j;have j9:=Hd j;have U:=Hd (d7.o.bl d7.o.lt j);have E:=Hd (V.o.bl V.o.lt j);have d:=Hd (Y.o.bl Y.o.lt j);have e9:=Hd (Et h9.o j);have i7:Hid (w.heap.size+1+1+1<=w6.heap.size):=by have:=j.size;have:=d4.o;unfold Hid;omega
 clear b8 j;obtain⟨b0,b1,b2⟩:=U.o.c3;have q1:=d.o.c3.2.1;have r1:=d.o.fz 1;obtain⟨W7,J⟩:=Oa (w6.setCell ⟨w.heap.size+1+1,1,none⟩ (.slice p6 F.length d6));have h7:∀ k,k≠w.heap.size+1+1->W7.heap[k]? = w6.heap[k]? := fun k hk=>by rw[<-J];exact Jh _ ⟨w.heap.size+1+1,1,none⟩ _ _ hk
 have d7:Hid (Bx W7 w.heap.size [.slice a1 S.length c1,.slice a2 F.length c2,.slice a3 T.length c3]):=by
  obtain⟨ty,G⟩:=U.o;exact⟨ty,(h7 _ (by omega)).trans G⟩
 have V:Hid (Bx W7 (w.heap.size+1) [.slice none 0 0,.slice none 0 0,.slice none 0 0]):=by
  obtain⟨ty,G⟩:=E.o;exact⟨ty,(h7 _ (by omega)).trans G⟩
 have Y:Hid (Bx W7 (w.heap.size+1+1) [.slice (some ⟨g4,0,none⟩) S.length c4,.slice p6 F.length d6,.slice none 0 0]):=by unfold Hid;rw[<-J];exact d.o.set 1 _
 have e7:Hid (Up w W7):=by unfold Hid;rw[<-J];exact h0.o.setCell (p:=⟨w.heap.size+1+1,1,none⟩) (by show _<=w.heap.size+1+1;omega) _
 have i1:Hid (W7.ownsRow W3.heap.size 9 1 (.slice (some ⟨g4,0,none⟩) S.length c4) S.length (strsC S)):=own_other' e9.o (fun g hg=>h7 g (fun e=>by have:=Ol e9.o g hg;have:=O.o;omega));have d5:Hid (w6.heap.size=W7.heap.size):=by unfold Hid;rw[<-J];simp[World.setCell]
 have h6:Hid (WT W5.heap.size W7 (fun W=>E9 W (.slice p6 F.length d6) F)):=fun W hsz hk=>h2.o W (by have:=d5.o;omega) (fun k hk1 hk2=>(hk k hk1 (by have:=d5.o;omega)).trans (h7 k (by have:=d4.o;omega)));have j1:=Hd J;clear J h7
 go_wp2_with fail
 clear b0 b1 b2 q1 r1;rw[j1.o];refine (WH _ T W7 (HH.o.bl e7.o).t hs.t).mono ?_;rintro e w8 ⟨ut,rfl,⟨p8,d8,rfl⟩,b9,M⟩;have i8:=Hd b9;have h1:=e7.up M;have b5:=Hd M;have E:=Hd (V.o.bl V.o.lt M);have d:=Hd (Y.o.bl Y.o.lt M);have d3:=Hd (Et i1.o M);clear b9 M;obtain⟨d0,d1,d2⟩:=E.o.c3;obtain⟨q0,q1,q2⟩:=d.o.c3;obtain⟨f0,f1,f2⟩:=E.o.f3;have r2:=d.o.fz 2
 go_wp2_with fail
 clear d0 d1 d2 q0 q1 q2 f0 f1 f2 r2;have j6:w.heap.size+1≠w.heap.size+1+1:=by omega
 have hA:Bx (w8.setCell ⟨w.heap.size+1+1,2,none⟩ (.slice p8 T.length d8)) (w.heap.size+1) [.slice none 0 0,.slice none 0 0,.slice none 0 0]:=by
  obtain⟨ty,G⟩:=E.o;refine⟨ty,?_⟩;rw[Jh _ ⟨w.heap.size+1+1,2,none⟩ _ _ j6];exact G
 have hE:=((hA.set 0 (.slice (some ⟨g4,0,none⟩) S.length c4)).set 1 (.slice p6 F.length d6)).set 2 (.slice p8 T.length d8);have d9:=(((h1.o.setCell (p:=⟨w.heap.size+1+1,2,none⟩) (by show _<=w.heap.size+1+1;omega) (.slice p8 T.length d8)).setCell (p:=⟨w.heap.size+1,0,none⟩) (by show _<=w.heap.size+1;omega) (.slice (some ⟨g4,0,none⟩) S.length c4)).setCell (p:=⟨w.heap.size+1,1,none⟩) (by show _<=w.heap.size+1;omega) (.slice p6 F.length d6)).setCell (p:=⟨w.heap.size+1,2,none⟩) (by show _<=w.heap.size+1;omega) (.slice p8 T.length d8);generalize e4:(((w8.setCell ⟨w.heap.size+1+1,2,none⟩ (.slice p8 T.length d8)).setCell ⟨w.heap.size+1,0,none⟩ (.slice (some ⟨g4,0,none⟩) S.length c4)).setCell ⟨w.heap.size+1,1,none⟩ (.slice p6 F.length d6)).setCell ⟨w.heap.size+1,2,none⟩ (.slice p8 T.length d8)=WE at hE d9 ⊢;have G:∀ k,k≠w.heap.size+1->k≠w.heap.size+1+1->WE.heap[k]? = w8.heap[k]? := fun k hk hk2=>by rw[<-e4,Jh _ ⟨w.heap.size+1,2,none⟩ _ _ hk,Jh _ ⟨w.heap.size+1,1,none⟩ _ _ hk,Jh _ ⟨w.heap.size+1,0,none⟩ _ _ hk,Jh _ ⟨w.heap.size+1+1,2,none⟩ _ _ hk2]
 have hsz:WE.heap.size=w8.heap.size:=by rw[<-e4];simp[World.setCell]
 have l5:=d4.o;have l6:=i7.o;have l7:=d5.o;have k1:=b5.o.size;have g2:BankAt WE (.slice (some ⟨g4,0,none⟩) S.length c4) (.slice p6 F.length d6) (.slice p8 T.length d8) S F T:=by
  refine⟨Iq (own_other' d3.o (fun g hg=>G g (fun e=>?_) (fun e=>?_))),h6.o WE (by omega) (fun k hk1 hk2=>?_),i8.o WE (by omega) (fun k hk1 hk2=>G k (by omega) (by omega))⟩
  ·have:=Ol d3.o g hg;have:=O.o;omega
  ·have:=Ol d3.o g hg;have:=O.o;omega
  rw[G k (by omega) (by omega)];exact b5.o.block k hk2
 obtain⟨e0,e1,e2⟩:=hE.c3;refine Jg (v:=.agg #[.slice (some ⟨g4,0,none⟩) S.length c4,.slice p6 F.length d6,.slice p8 T.length d8]) ?_ rfl ⟨_,_,_,rfl,g2,⟨_,_,_,rfl⟩,d9⟩;clear hA hE d9 g2 G e4;simp[results,results11,go_sem,e0,e1,e2]
theorem TD {w:World}{vs vf vt:Value}{S:List (List UInt8)}{F:List Fn}{T:List Tm}(h:BankAt w vs vf vt S F T)(hz:BankZ S F T)(hv:Vars w) :
 Calls prog 12 #[.agg #[vs,vf,vt]] w fun e w'=>e=.returned (.bool (Hf S Gt F T))/\Up w w':=by
 obtain⟨Z,c1,K,-,-,-⟩:=h.s;obtain⟨p2,c2,M,-,-,-⟩:=h.f;obtain⟨p3,c3,O,-,-,-⟩:=h.t;have d:Hid (Up w (w.alloc (.cells #[vs,vf,vt] 32))):=Oz _ _;have J:=Hd (DK (h.bl d.o) hz (hv.bl d.o));subst K M O;clear h hz hv
 go_in
 go_wp2_with fail
 refine J.o.mono ?_;rintro e w2 (⟨E,rfl,hb⟩|⟨E,Y,sb,U,tb,V,n,vS,vF,vT,bF,rfl,-,j⟩)
 ·have I:=Hd E;have G:=d.up hb;clear E hb J
  go_wp2
  go_ret
  exact⟨Oy I.o.symm,G.o⟩
 have I:=Hd E;have G:Hid (Up w w2):=d.o.trans (j.low.mono d.o.size);clear E j J
 go_wp2
 go_ret
 exact⟨Oy I.o.symm,G.o⟩
end Go.Proofs.YtphhhciffpkojaaGreatDoor
namespace Go.Proofs.YtphhhciffpkojaaGreatDoor.Q
open ChangeShapes WideShapes ChangeAt RowKit Proofs.Tryz
theorem WK (x y:Int)(w:World) :
 Calls prog 195 #[.agg #[.int .i64 x,.bool false,.slice none 0 0],.agg #[.int .i64 y,.bool false,.slice none 0 0]] w fun e w'=>e=.returned (.int .i64 (LG x y))/\Up w w':=by
 by_cases h:x<y
 ·have d:Hid (LG x y = -1):=if_pos h
  go_in
  go_wp2_with (go_at_call 128;refine (Ki _ _ _ _ _ _).mono ?_;rintro e w' ⟨rfl,rfl⟩)
  go_ret
  exact⟨Eo d.o.symm,(((((Je _ w).alloc leR _).alloc (by simp) _).alloc (by simp;omega) _).alloc (by simp;omega) _)⟩
 by_cases j:y<x
 case' pos=>
  have d:Hid (LG x y=1):=(if_neg h).trans (if_pos j)
 case' neg=>
  have d:Hid (LG x y=0):=(if_neg h).trans (if_neg j)
 all_goals
  go_in
  go_wp2_with (go_at_call 128;refine (Ki _ _ _ _ _ _).mono ?_;rintro e w' ⟨rfl,rfl⟩)
  go_ret
  exact⟨Eo d.o.symm,(((((Je _ w).alloc leR _).alloc (by simp) _).alloc (by simp;omega) _).alloc (by simp;omega) _)⟩
theorem JW {B:Nat}{w:World}{z:Value}{x:Int}{n:Nat}(h:Ih B w z x n):G0 B w z x:=by
 obtain⟨neg,t,d,j,_⟩:=h;exact⟨neg,t,d,j⟩
theorem l2Whole_anyT (B:Nat)(z:Value)(x y:Int)(w:World)(_hBw:B<=w.heap.size)(h:IsQN B w z x y) :
 Calls prog 148 #[z] w fun e w'=>e=.returned (.bool (decide (y=1)))/\Up w w':=by
 obtain⟨p0,pn,pa,pl,pc,M,V,O,ql,U,rfl,hP,hQ⟩:=h;have E:=Hd (FA (JW hQ));clear hP hQ;obtain⟨J,j⟩:=Oa (w.alloc (.cells #[.int .i64 p0,.bool pn,.slice pa pl pc,.int .i64 M,.bool V,.slice O ql U] 142));have a7:=Hd j;have Y:Hid (Up w J):=by unfold Hid;rw[<-j];exact Oz _ _
 have d:Bx J w.heap.size [.int .i64 p0,.bool pn,.slice pa pl pc,.int .i64 M,.bool V,.slice O ql U]:=by rw[<-j];exact Oi w _ _
 have HX:Hid (∀ W,Up J W->Bx W w.heap.size [.int .i64 p0,.bool pn,.slice pa pl pc,.int .i64 M,.bool V,.slice O ql U]):=fun W hW=>d.bl d.lt hW;have k3:=d.cell 3;have k4:=d.cell 4;have k5:=d.cell 5;simp only[Jm,Js] at k3 k4 k5;clear j d
 go_in
 go_upto_region 1 with fail
 rw[a7.o]
 go_wp2_with fail
 refine (Ki M V O ql U J).mono ?_;rintro e w1 ⟨rfl,K⟩;have G:Up J w1:=by rw[K];exact Oz _ _
 have I:=Y.up G;have hx:=HX.o w1 G;have j3:=hx.cell 3;simp only[Jm,Js] at j3;clear K G hx k3 k4 k5
 by_cases hz:ql=0
 ·have z:((ql:Int)==0)=true:=by rw[Yf];omega
  have Z:Hid ((M==1)=decide (y=1)):=by have h:=E.o;rw[z] at h;exact h
  rw[z]
  go_wp2
  go_ret
  exact⟨Oy Z.o,I.o⟩
 have z:((ql:Int)==0)=false:=by rw[Jb];omega
 have Z:Hid (false=decide (y=1)):=by have h:=E.o;rw[z] at h;exact h
 rw[z]
 go_wp2
 go_ret
 exact⟨Oy Z.o,I.o⟩
end Go.Proofs.YtphhhciffpkojaaGreatDoor.Q
namespace Go.Proofs.YtphhhciffpkojaaGreatDoor
open ChangeShapes WideShapes ChangeAt RowKit
def JF:List (List UInt8):=[[],[116,114,117,101],[102,97,108,115,101],[110,111,116],[97,110,100],[111,114],[120,111,114],[61,62],[105,116,101],[61],[100,105,115,116,105,110,99,116],[],[],[43],[45],[45],[42],[60,61],[60],[62,61],[62],[100,105,118],[109,111,100],[116,111,95,114,101,97,108],[],[98,118,110,111,116],[98,118,110,101,103],[98,118,97,110,100],[98,118,111,114],[98,118,120,111,114],[98,118,97,100,100],[98,118,115,117,98],[98,118,109,117,108],[98,118,117,100,105,118],[98,118,117,114,101,109],[98,118,115,104,108],[98,118,108,115,104,114],[98,118,97,115,104,114],[98,118,117,108,116],[98,118,117,108,101],[98,118,115,108,116],[98,118,115,108,101],[99,111,110,99,97,116],[],[],[],[115,101,108,101,99,116],[115,116,111,114,101]]
def TE (s:List UInt8):List UInt8:=if s.head? = some 45 then [40,45,32]++s.tail++[41] else s
def TK (so tx:List UInt8):List UInt8:=
 if so=U8 then TE tx
 else match SC (Oo tx) with
  | none=>TE (tx++[46,48])
  | some i=>[40,47,32]++TE (tx.take i++[46,48])++[32]++tx.drop (i+1)++[46,48,41]
def SM (t:Tm):List UInt8:=
 if t.op=11 then Kl 2 t.text
 else if t.op=12 then TK t.sort t.text
 else if t.op=24 then 35::98::t.text
 else if t.op=43 then [40,95,32,101,120,116,114,97,99,116,32]++Lib.decDigits t.a.toNat++[32]++Lib.decDigits t.b.toNat++[41]
 else if t.op=44 then [40,95,32,122,101,114,111,95,101,120,116,101,110,100,32]++Lib.decDigits t.a.toNat++[41]
 else if t.op=45 then [40,95,32,115,105,103,110,95,101,120,116,101,110,100,32]++Lib.decDigits t.a.toNat++[41]
 else JF.getD t.op.toNat []
def TM (T:List Tm):Nat->Nat->List UInt8
 | 0,_=>[]
 | n+1,i=>match (Ke T i).kids with
   | []=>SM (Ke T i)
   | ks=>40::SM (Ke T i)++ks.flatMap (fun x=>32::TM T n x.toNat)++[41]
def SB (T:List Tm)(i:Nat):List UInt8:=TM T (i+1) i
def JL (T:List Tm):Prop:=∀ i,i<T.length->∀ x∈(Ke T i).kids,0<=x/\x.toNat<i
theorem TX {T:List Tm}(hD:JL T):∀ (n i:Nat),i<T.length->i<n->TM T n i=TM T (i+1) i
 | 0,_,_,h=>absurd h (J2 _)
 | n+1,i,hi,h=>by
   have j:∀ ks:List Int,(∀ x∈ks,0<=x/\x.toNat<i)->ks.flatMap (fun x=>32::TM T n x.toNat)=ks.flatMap (fun x=>32::TM T i x.toNat):=by
    intro ks d
    rw[List.flatMap_def,List.flatMap_def]
    congr 1
    refine List.map_congr_left fun x hx=>?_
    have h1:=(d x hx).2
    rw[TX hD n x.toNat (by omega) (by omega)]
    congr 1
    match i,h1 with
    | i+1,h1=>rw[TX hD (i+1) x.toNat (by omega) (by omega)]
   have E:=j _ (hD i hi)
   unfold TM
   cases e:(Ke T i).kids with
   | nil=>rfl
   | cons x ks=>
     rw[e] at E
     simp only[]
     rw[E]
theorem TP {T:List Tm}(hD:JL T){i:Nat}(hi:i<T.length):SB T i=if (Ke T i).kids=[] then SM (Ke T i) else 40::SM (Ke T i)++(Ke T i).kids.flatMap (fun x=>32::SB T x.toNat)++[41]:=by
 have d:(Ke T i).kids.flatMap (fun x=>32::TM T i x.toNat)=(Ke T i).kids.flatMap (fun x=>32::SB T x.toNat):=by
  rw[List.flatMap_def,List.flatMap_def]
  congr 1
  refine List.map_congr_left fun x hx=>?_;have j:=(hD i hi x hx).2
  show 32::TM T i x.toNat=32::TM T (x.toNat+1) x.toNat
  rw[TX hD i x.toNat (by omega) j]
 have h:SB T i=match (Ke T i).kids with
  | []=>SM (Ke T i)
  | ks=>40::SM (Ke T i)++ks.flatMap (fun x=>32::TM T i x.toNat)++[41]:=rfl
 rw[h]
 cases e:(Ke T i).kids with
 | nil=>rw[if_pos rfl]
 | cons x ks=>
   rw[e] at d;simp only[];rw[if_neg (by simp),d]
end Go.Proofs.YtphhhciffpkojaaGreatDoor
