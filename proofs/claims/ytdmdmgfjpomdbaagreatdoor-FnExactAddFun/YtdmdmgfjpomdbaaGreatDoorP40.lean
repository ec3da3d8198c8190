import Derived.Test.YtdmdmgfjpomdbaaGreatDoorP00
import Derived.Test.YtdmdmgfjpomdbaaGreatDoorP39
set_option linter.all false
set_option maxRecDepth 100000
set_option maxHeartbeats 8000000
namespace Go.Proofs.YtdmdmgfjpomdbaaGreatDoor
open ChangeShapes WideShapes ChangeAt RowKit Proofs.Tryz
variable {A B:List Value}{F:List Fn}{N0 N1 c1 fb gb kb n sb:Nat}{S:List (List UInt8)}{T:List Tm}{W w:World}{f:Fn}{p1 p2 p3:Option Addr}{vT va vf vs vt:Value}
theorem GW {n:List UInt8}:decide ((0:Int)<=Hc F n)=(Od F n).isSome:=by
 unfold Hc
 cases Od F n with
 | none=>rfl
 | some i=>simp
theorem B7 (s:ByteArray)(w:World)(h:BankAt w vs vf vt S F T)(hs:s.size<=maxLen) :
 Calls prog 31 #[.agg #[vs,vf,vt],.string s] w fun e w'=>e=.returned (.bool (Ee (Oq S) (Od F) s.data.toList))/\Up w w':=by
 have V:=Hd hs;have G:Hid (Up w (w.alloc (.cells #[vs,vf,vt] 31))):=Oz _ _;have I:Hid (Bx (w.alloc (.cells #[vs,vf,vt] 31)) w.heap.size [vs,vf,vt]):=Oi w _ _;have U:=Hd h;obtain⟨a1,c1,Y,-,-,-⟩:=h.s;obtain⟨a2,c2,e2,-,-,-⟩:=h.f;obtain⟨a3,c3,Z,-,-,-⟩:=h.t;subst Y e2 Z;have j:Hid (Ee (Oq S) (Od F) s.data.toList=(Ok S s.data.toList||(Od F s.data.toList).isSome||!(Ng s.data.toList&&!Gj s.data.toList))):=by unfold Hid Ee Ni;rw[idxF_some]
 clear h hs
 go_in
 go_wp2_with fail
 refine (E4 s _ V.o).mono ?_;rintro e w2 ⟨rfl,rfl⟩
 cases O:Ng s.data.toList with
 | false=>
   have A:Hid (Ee (Oq S) (Od F) s.data.toList=true):=by unfold Hid;rw[j.o,O];simp
   go_wp2
   go_ret
   exact⟨Oy A.o.symm,G.o⟩
 | true=>
   go_wp2_with fail
   refine (Fo s _ V.o).mono ?_;rintro e w3 ⟨rfl,E⟩;have d:=G.up E;have M:=Hd (I.o.bl I.o.lt E);clear E
   cases h2:Gj s.data.toList with
   | true=>
     have A:Hid (Ee (Oq S) (Od F) s.data.toList=true):=by unfold Hid;rw[j.o,O,h2];simp
     go_wp2
     go_ret
     exact⟨Oy A.o.symm,d.o⟩
   | false=>
     obtain⟨b0,b1,b2⟩:=M.o.c3
     go_wp2_with fail
     refine (Gm _ S s _ (U.o.bl d.o).s).mono ?_;rintro e w4 ⟨rfl,rfl⟩
     cases h3:Ok S s.data.toList with
     | true=>
       have A:Hid (Ee (Oq S) (Od F) s.data.toList=true):=by unfold Hid;rw[j.o,h3];simp
       go_wp2
       go_ret
       exact⟨Oy A.o.symm,d.o⟩
     | false=>
       go_wp2_with fail
       refine (Ph _ _ _ F s _ (U.o.bl d.o).f).mono ?_;rintro e w5 ⟨rfl,J⟩;have K:=d.up J;have A:Hid (Ee (Oq S) (Od F) s.data.toList=decide ((0:Int)<=Hc F s.data.toList)):=by unfold Hid;rw[j.o,O,h2,h3,GW];simp
       clear J b0 b1 b2
       go_wp2
       go_ret
       exact⟨Oy A.o.symm,K.o⟩
theorem BankN.addFn {base:Nat}{us uf ut v1:Value}{W':World}{o:Obj}{X:List (Fn×Value)}(h:BankN W base us uf ut S F T)
 (hX:X.map Prod.fst=F) (hr:W.ownsRow base 45 3 uf F.length (X.flatMap funC)) (hA:(∀ x∈X,W.ownsRow base 9 1 x.2 x.1.args.length (strsC x.1.args))/\X.Pairwise Nq)
 (hva:W.ownsRow base 9 1 va f.args.length (strsC f.args)) (hvn:∀ x∈X,Nq x (f,va))
 (hg:(W.alloc o).grownBy W' uf.ownBlock) (hr1:W'.ownsRow base 45 3 v1 (F.length+1) (X.flatMap funC++funC (f,va))):BankN W' base us v1 ut S (F++[f]) T:=by
 have hk:∀ k,k<W.heap.size->uf.ownBlock≠some k->W'.heap[k]? = W.heap[k]? := fun k hk h1=>by
  rw[hg.block k (by simp;omega) (fun e=>h1 e.symm)];exact Below.block (Oz W o) k hk
 have j:∀ (k:Nat) cs ty fz,W.heap[k]? = some (.cells cs ty fz)->ty≠45->W'.heap[k]? = W.heap[k]? := fun k cs ty fz hc ht=>hk k (Jv.1 hc).1 (I3 hr hc (Ne.symm ht));have d:∀ {v:Value} {n:Nat} {xs:List Value} {e:TypeId},W.ownsRow base e 1 v n xs->e≠45->W'.ownsRow base e 1 v n xs:=fun ho he=>own_other' ho (fun g hg'=>by
  obtain⟨c,fz,hc⟩:=Kp ho g hg';exact j g c _ fz hc he)
 refine⟨d h.s (by decide),⟨X++[(f,va)],?_,?_,?_,Hb hA.2 hvn⟩,?_⟩
 ·rw[Yr,hX];rfl
 ·rw[Zs,Yn]
  simpa using hr1
 ·intro x A
  rcases Zm.1 A with A|A
  ·exact d (hA.1 x A) (by decide)
  obtain rfl:=Zv.1 A;exact d hva (by decide)
 refine h.t.keep fun g cs fz hc hge=>?_
 rcases hc with hc|hc
 ·exact j g cs _ fz hc (by decide)
 exact j g cs _ fz hc (by decide)
def Kw (S:List (List UInt8))(F:List Fn)(T:List Tm)(f:Fn):Int:=if Gn S Gt F T=false then 1 else if Ee (Oq S) (Od F) f.name=true then 2 else if K4 (Ok S) f=false then 3 else if 300<=S.length+F.length then 4 else 0
def N3 (S:List (List UInt8))(F:List Fn)(T:List Tm)(f:Fn):Int:=if Kw S F T f=0 then (F.length:Int) else 0
def Ks (S:List (List UInt8))(F:List Fn)(T:List Tm)(f:Fn):List Fn:=if Kw S F T f=1 then [] else if Kw S F T f=0 then F++[f] else F
def Ey (S:List (List UInt8))(F:List Fn)(T:List Tm)(f:Fn):List (List UInt8):=if Kw S F T f=1 then [] else S
def Ez (S:List (List UInt8))(F:List Fn)(T:List Tm)(f:Fn):List Tm:=if Kw S F T f=1 then [] else T
theorem Ag (w:World)(base:Nat):BankN w base (.slice none 0 0) (.slice none 0 0) (.slice none 0 0) [] [] []:=
 ⟨⟨rfl,.inl ⟨rfl,rfl⟩⟩,⟨[],rfl,⟨rfl,.inl ⟨rfl,rfl⟩⟩,(fun x hx=>by cases hx),List.Pairwise.nil⟩,⟨[],rfl,⟨rfl,.inl ⟨rfl,rfl⟩⟩,(fun x hx=>by cases hx),List.Pairwise.nil⟩⟩
theorem T5 (h:BankO w vs vf vt S F T)(hz:BankZ S F T)(hs:SmallB S F T)(hvs:∃ ad n c,vs=.slice (some ad) n c)(hva:O3 w va f.args)(hsa:NW va f.args.length)(hf:Qz f) :
 Calls prog 16 #[.agg #[vs,vf,vt],.agg #[.string (Oo f.name),va,.string (Oo f.sort)]] w fun e w'=>∃ us uf ut,e=.returned (.agg #[.int .i64 (Kw S F T f),.int .i64 (N3 S F T f),us,uf,ut])/\BankN w' w.heap.size us uf ut (Ey S F T f) (Ks S F T f) (Ez S F T f)/\Up w w':=by
 have HO:=Hd h;have k9:=Hd (fun W (hb:Up w W)=>Lh (h.at'.bl hb) hz hvs);have l8:=Hd hva;have o7:=Hd hsa;have HF:=Hd hf;have HS:=Hd hs;obtain⟨a1,c1,e1,-,-,-⟩:=h.at'.s;obtain⟨a2,c2,e2,-,-,-⟩:=h.at'.f;obtain⟨a3,c3,e3,-,-,-⟩:=h.at'.t;obtain⟨a4,c4,rfl,-,-,-⟩:=hva;subst e1 e2 e3;have r8:=hs.s.1;have r9:=hs.f.1;clear h hz hvs hsa hf hs
 go_in
 go_upto_region 1 with fail
 obtain⟨W3,m7,m8,x1,x2,x3,n3⟩:=GK w [.slice a1 S.length c1,.slice a2 F.length c2,.slice a3 T.length c3] [.string (Oo f.name),.slice a4 f.args.length c4,.string (Oo f.sort)] [.int .i64 0,.int .i64 0,.slice none 0 0,.slice none 0 0,.slice none 0 0] 31 45 33;rw[m7];clear m7;have k1:=Hd m8;have f8:=Hd x1;have j5:=Hd x2;have j6:=Hd x3;have l6:=Hd n3;obtain⟨b0,b1,b2⟩:=f8.o.c3;clear m8 x1 x2 x3 n3
 go_wp2_with fail
 clear b0 b1 b2;refine (k9.o W3 k1.o).mono ?_;rintro e w4 ⟨rfl,b8⟩;have e8:=k1.up b8;have K:=Hd (f8.o.bl f8.o.lt b8);have A:=Hd (j5.o.bl j5.o.lt b8);have d:=Hd (j6.o.bl j6.o.lt b8);have l7:Hid (w.heap.size+1+1+1<=w4.heap.size):=by have:=b8.size;have:=l6.o;unfold Hid;omega
 clear b8 f8 j5 j6 k9 l6
 cases g1:Gn S Gt F T with
 | false=>
   have HE:Hid (Kw S F T f=1):=by unfold Hid Kw;rw[if_pos g1]
   have r0:=d.o.cell 0;have r1:=d.o.cell 1;have r2:=d.o.cell 2;have r3:=d.o.cell 3;have r4:=d.o.cell 4;obtain⟨f0,f1,f2,f3,f4⟩:=d.o.f5;clear g1
   go_wp2_with fail
   obtain⟨WE,G,E,a8,hh⟩:=YB d.o e8.o (show w.heap.size<=w.heap.size+1+1 by omega) (.int .i64 1) (.int .i64 0) (.slice none 0 0) (.slice none 0 0) (.slice none 0 0);rw[G];have e0:=E.cell 0;have e1:=E.cell 1;have e2:=E.cell 2;have e3:=E.cell 3;have e4:=E.cell 4;refine Jg (v:=.agg #[.int .i64 1,.int .i64 0,.slice none 0 0,.slice none 0 0,.slice none 0 0]) ?_ rfl ⟨.slice none 0 0,.slice none 0 0,.slice none 0 0,?_,?_,a8⟩
   ·clear E a8 hh G;simp[results,results16,go_sem,e0,e1,e2,e3,e4]
   ·unfold N3;rw[HE.o];rfl
   unfold Ey Ks Ez;rw[HE.o];exact Ag _ _
 | true=>
   have j7:Hid (∀ (k:Int),Kw S F T f=k->k≠0->k≠1->∀ w5 w6 p1 q1 p2 q2 p3 q3,Up w w5->Bx w5 (w.heap.size+1+1) [.int .i64 0,.int .i64 0,.slice none 0 0,.slice none 0 0,.slice none 0 0]->w.heap.size+1+1+1<=w5.heap.size->Up w5 w6->BankN w6 w5.heap.size (.slice p1 S.length q1) (.slice p2 F.length q2) (.slice p3 T.length q3) S F T ->
    ∃ WE,((((w6.setCell ⟨w.heap.size+1+1,0,none⟩ (.int .i64 k)).setCell ⟨w.heap.size+1+1,1,none⟩ (.int .i64 0)).setCell ⟨w.heap.size+1+1,2,none⟩ (.slice p1 S.length q1)).setCell ⟨w.heap.size+1+1,3,none⟩ (.slice p2 F.length q2)).setCell ⟨w.heap.size+1+1,4,none⟩ (.slice p3 T.length q3)=WE/\Bx WE (w.heap.size+1+1) [.int .i64 k,.int .i64 0,.slice p1 S.length q1,.slice p2 F.length q2,.slice p3 T.length q3]/\∃ us uf ut,Ending.returned (.agg #[.int .i64 k,.int .i64 0,.slice p1 S.length q1,.slice p2 F.length q2,.slice p3 T.length q3])=.returned (.agg #[.int .i64 (Kw S F T f),.int .i64 (N3 S F T f),us,uf,ut])/\BankN WE w.heap.size us uf ut (Ey S F T f) (Ks S F T f) (Ez S F T f)/\Up w WE):=fun k hk h0 h1 w5 w6 p1 q1 p2 q2 p3 q3 hb5 hx hsz hb6 hN=>by
    obtain⟨WE,G,E,a8,hh⟩:=YB (hx.bl hx.lt hb6) (hb5.trans (hb6.mono hb5.size)) (show w.heap.size<=w.heap.size+1+1 by omega) (.int .i64 k) (.int .i64 0) (.slice p1 S.length q1) (.slice p2 F.length q2) (.slice p3 T.length q3);refine⟨WE,G,E,.slice p1 S.length q1,.slice p2 F.length q2,.slice p3 T.length q3,?_,?_,a8⟩
    ·unfold N3;rw[hk,if_neg h0]
    unfold Ey Ks Ez;rw[hk,if_neg h1,if_neg h1,if_neg h0,if_neg h1];exact (hN.keep (w':=WE) (fun j hj _=>hh j (by omega))).lower hb5.size
   have HG:=Hd g1;obtain⟨b0,b1,b2⟩:=K.o.c3;have n0:=A.o.c3.1;clear g1
   go_wp2_with fail
   refine (B7 (Oo f.name) w4 (HO.o.at'.bl e8.o) (by rw[H5];have:=HF.o.1;unfold maxLen;omega)).mono ?_;rw[Ou];rintro e w5 ⟨rfl,hb5⟩;have b6:=e8.up hb5;have K:=Hd (K.o.bl K.o.lt hb5);have A:=Hd (A.o.bl A.o.lt hb5);have d:=Hd (d.o.bl d.o.lt hb5);have j2:Hid (w.heap.size+1+1+1<=w5.heap.size):=by have:=hb5.size;have:=l7.o;unfold Hid;omega
   clear hb5 b0 b1 b2 n0 e8 l7;obtain⟨b0,b1,b2⟩:=K.o.c3
   cases g2:Ee (Oq S) (Od F) f.name with
   | true=>
     have HE:Hid (Kw S F T f=2):=by unfold Hid Kw;rw[if_neg (by rw[HG.o];decide),if_pos g2]
     clear g2
     go_wp2_with fail
     refine (Dj 2 (HO.o.bl b6.o) HS.o).mono ?_;rintro e w6 ⟨us,uf,ut,rfl,hN,hb6⟩;obtain⟨p1,q1,rfl,-,-,-⟩:=hN.at.s;obtain⟨p2,q2,rfl,-,-,-⟩:=hN.at.f;obtain⟨p3,q3,rfl,-,-,-⟩:=hN.at.t;have U:=Hd (d.o.bl d.o.lt hb6);have d4:=Hd (j7.o 2 HE.o (by decide) (by decide) w5 w6 p1 q1 p2 q2 p3 q3 b6.o d.o j2.o hb6 hN);have r0:=U.o.cell 0;have r1:=U.o.cell 1;have r2:=U.o.cell 2;have r3:=U.o.cell 3;have r4:=U.o.cell 4;obtain⟨f0,f1,f2,f3,f4⟩:=U.o.f5;clear hN hb6
     go_wp2_with fail
     obtain⟨WE,G,E,hR⟩:=d4.o;rw[G];have e0:=E.cell 0;have e1:=E.cell 1;have e2:=E.cell 2;have e3:=E.cell 3;have e4:=E.cell 4;refine Jg (v:=.agg #[.int .i64 2,.int .i64 0,.slice p1 S.length q1,.slice p2 F.length q2,.slice p3 T.length q3]) ?_ rfl hR;clear E G hR;simp[results,results16,go_sem,e0,e1,e2,e3,e4]
   | false=>
     have j1:=Hd g2;obtain⟨n0,n1,n2⟩:=A.o.c3;clear g2
     go_wp2_with fail
     refine (C9 _ _ S f w5 (HO.o.at'.bl b6.o).s (l8.o.bl b6.o) HF.o.2.1.2 HF.o.2.2).mono ?_;rintro e w7 ⟨rfl,b9⟩;have a7:=b6.up b9;have K:=Hd (K.o.bl K.o.lt b9);have A:=Hd (A.o.bl A.o.lt b9);have d:=Hd (d.o.bl d.o.lt b9);have j3:Hid (w.heap.size+1+1+1<=w7.heap.size):=by have:=b9.size;have:=j2.o;unfold Hid;omega
     clear b9 b0 b1 b2 n0 n1 n2 b6 j2;obtain⟨b0,b1,b2⟩:=K.o.c3
     cases g3:K4 (Ok S) f with
     | false=>
       have HE:Hid (Kw S F T f=3):=by unfold Hid Kw;rw[if_neg (by rw[HG.o];decide),if_neg (by rw[j1.o];decide),if_pos g3]
       clear g3
       go_wp2_with fail
       refine (Dj 3 (HO.o.bl a7.o) HS.o).mono ?_;rintro e w6 ⟨us,uf,ut,rfl,hN,hb6⟩;obtain⟨p1,q1,rfl,-,-,-⟩:=hN.at.s;obtain⟨p2,q2,rfl,-,-,-⟩:=hN.at.f;obtain⟨p3,q3,rfl,-,-,-⟩:=hN.at.t;have U:=Hd (d.o.bl d.o.lt hb6);have d4:=Hd (j7.o 3 HE.o (by decide) (by decide) w7 w6 p1 q1 p2 q2 p3 q3 a7.o d.o j3.o hb6 hN);have r0:=U.o.cell 0;have r1:=U.o.cell 1;have r2:=U.o.cell 2;have r3:=U.o.cell 3;have r4:=U.o.cell 4;obtain⟨f0,f1,f2,f3,f4⟩:=U.o.f5;clear hN hb6
       go_wp2_with fail
       obtain⟨WE,G,E,hR⟩:=d4.o;rw[G];have e0:=E.cell 0;have e1:=E.cell 1;have e2:=E.cell 2;have e3:=E.cell 3;have e4:=E.cell 4;refine Jg (v:=.agg #[.int .i64 3,.int .i64 0,.slice p1 S.length q1,.slice p2 F.length q2,.slice p3 T.length q3]) ?_ rfl hR;clear E G hR;simp[results,results16,go_sem,e0,e1,e2,e3,e4]
     | true=>
       have l4:=Hd g3;clear g3
       by_cases h7:300<=S.length+F.length
       ·have HE:Hid (Kw S F T f=4):=by unfold Hid Kw;rw[if_neg (by rw[HG.o];decide),if_neg (by rw[j1.o];decide),if_neg (by rw[l4.o];decide),if_pos h7]
        have y4:decide ((300:Int)<=(S.length:Int)+(F.length:Int))=true:=Ja (by omega)
        go_wp2_with fail
        refine (Dj 4 (HO.o.bl a7.o) HS.o).mono ?_;rintro e w6 ⟨us,uf,ut,rfl,hN,hb6⟩;obtain⟨p1,q1,rfl,-,-,-⟩:=hN.at.s;obtain⟨p2,q2,rfl,-,-,-⟩:=hN.at.f;obtain⟨p3,q3,rfl,-,-,-⟩:=hN.at.t;have U:=Hd (d.o.bl d.o.lt hb6);have d4:=Hd (j7.o 4 HE.o (by decide) (by decide) w7 w6 p1 q1 p2 q2 p3 q3 a7.o d.o j3.o hb6 hN);have r0:=U.o.cell 0;have r1:=U.o.cell 1;have r2:=U.o.cell 2;have r3:=U.o.cell 3;have r4:=U.o.cell 4;obtain⟨f0,f1,f2,f3,f4⟩:=U.o.f5;clear hN hb6
        go_wp2_with fail
        obtain⟨WE,G,E,hR⟩:=d4.o;rw[G];have e0:=E.cell 0;have e1:=E.cell 1;have e2:=E.cell 2;have e3:=E.cell 3;have e4:=E.cell 4;refine Jg (v:=.agg #[.int .i64 4,.int .i64 0,.slice p1 S.length q1,.slice p2 F.length q2,.slice p3 T.length q3]) ?_ rfl hR;clear E G hR;simp[results,results16,go_sem,e0,e1,e2,e3,e4]
       have HE:Hid (Kw S F T f=0):=by unfold Hid Kw;rw[if_neg (by rw[HG.o];decide),if_neg (by rw[j1.o];decide),if_neg (by rw[l4.o];decide),if_neg h7]
       have y4:decide ((300:Int)<=(S.length:Int)+(F.length:Int))=false:=Jc (by omega)
       go_wp2_with fail
       refine (Ai (HO.o.bl a7.o) HS.o).mono ?_;rintro e O ⟨us,uf,ut,rfl,h1,h2,h3,c6⟩;have d7:BankN O w7.heap.size us uf ut S F T:=⟨h1,h2,h3⟩;obtain⟨p1,q1,rfl,-,-,-⟩:=d7.at.s;obtain⟨p2,q2,rfl,-,-,-⟩:=d7.at.f;obtain⟨p3,q3,rfl,-,-,-⟩:=d7.at.t;have i8:=Hd d7;have k7:=a7.up c6;have K:=Hd (K.o.bl K.o.lt c6);have A:=Hd (A.o.bl A.o.lt c6);have d:=Hd (d.o.bl d.o.lt c6);have o5:Hid (w.heap.size+1+1+1<=w7.heap.size/\w7.heap.size<=O.heap.size):=⟨j3.o,c6.size⟩;clear d7 h1 h2 h3 c6 b0 b1 b2
       go_upto_region 11 with fail
       obtain⟨W9,b7⟩:=Oa (O.alloc (.cells #[.slice p1 S.length q1,.slice p2 F.length q2,.slice p3 T.length q3] 31));have h9:Up O W9:=by rw[<-b7];exact Oz _ _
       have n4:Bx W9 O.heap.size [.slice p1 S.length q1,.slice p2 F.length q2,.slice p3 T.length q3]:=by rw[<-b7];exact Oi O _ _
       have e9:=Hd n4;have o8:Hid (∃ cs fz,W9.heap[O.heap.size]? = some (.cells cs 31 fz)):=by unfold Hid;rw[<-b7];exact⟨_,_,Vg⟩
       have j0:=Hd (i8.o.keep (w':=W9) (fun k _ hk=>h9.block k hk));have i7:=k7.up h9;have A:=Hd (A.o.bl A.o.lt h9);have d:=Hd (d.o.bl d.o.lt h9);have k8:Hid (∀ g,(Value.slice p2 F.length q2).ownBlock=some g->w7.heap.size<=g/\g<O.heap.size):=fun g hg=>by
        obtain⟨X,-,hr,-⟩:=i8.o.f;exact⟨Ol hr g hg,(hr.lt g hg).2⟩
       have o6:Hid (W9.heap.size=O.heap.size+1):=by unfold Hid;rw[<-b7];simp
       obtain⟨n0,n1,n2⟩:=A.o.c3;rw[b7];clear b7 h9 n4 i8 k7
       go_wp2_with (at_builtin;refine Qm (L:=f.args) rfl _ _ rfl rfl rfl ?va ?sh ?ln ?_)
       case va=>exact l8.o.bl i7.o
       case sh=>exact o7.o
       case ln=>have:=HF.o.2.1.1;omega
       intro va b3 d8 p5 q5 e5 I;subst e5;have g7:=j0.o.keep (w':=b3) (fun k _ hk=>I.block k hk);have V:=i7.up I;have d1:=Hd (e9.o.bl e9.o.lt I);have j4:Hid (∃ cs fz,b3.heap[O.heap.size]? = some (.cells cs 31 fz)):=by obtain⟨cs,fz,h⟩:=o8.o;exact⟨cs,fz,(I.block _ e9.o.lt).trans h⟩
       have A:=Hd (A.o.bl A.o.lt I);have d:=Hd (d.o.bl d.o.lt I);have s0:=o5.o;have s1:=o6.o;have l5:Hid (O.heap.size+1<=b3.heap.size):=by have:=I.size;unfold Hid;omega
       obtain⟨X,hX,h8,b5⟩:=j0.o.f;have m9:=Et h8 I;have m6:(∀ x∈X,b3.ownsRow w7.heap.size 9 1 x.2 x.1.args.length (strsC x.1.args))/\X.Pairwise Nq:=⟨fun x hx=>Et (b5.1 x hx) I,b5.2⟩;have o2:Hid (∀ x∈X,Nq x (f,Value.slice p5 f.args.length q5)):=fun x hx b hb e=>by
        have h1:=((b5.1 x hx).lt b hb).2;have h2:=Ol d8 b e;omega
       have l3:=Hd (Kh d8 (show w7.heap.size<=W9.heap.size by omega));have l1:=Hd g7;have o4:=Hd hX;have l0:=Hd m9;have o3:=Hd m6;obtain⟨m0,m1,m2⟩:=A.o.c3;have z1:=d1.o.c3.2.1;have p0:=l5.o;clear d8 I n0 n1 n2 hX m9 m6 h8 b5 g7 e9 j0 i7
       go_wp2_with (at_builtin;refine Fg (x:=(f,.slice p5 f.args.length q5)) (n:=F.length) (base:=w7.heap.size) (xs:=X.flatMap funC) rfl _ _ rfl rfl ?own2 rfl _ rfl ?hH2 ?hn2 ?hb2 ?_)
       case own2=>exact l0.o
       case hH2=>rfl
       case hn2=>omega
       case hb2=>omega
       intro g8 c8 Z d9 M i6;have l2:=Hd (l1.o.addFn o4.o l0.o o3.o l3.o o2.o M d9);have Y:∀ k,k<b3.heap.size->(k<w7.heap.size∨O.heap.size<=k)->Z.heap[k]? = b3.heap[k]? := fun k hk hk2=>by
        rw[M.block k (by simp;omega) (fun e=>by have:=k8.o k e.symm;omega)];exact Below.block (Oz b3 _) k hk
       have d2:Hid (Bx Z O.heap.size [.slice p1 S.length q1,.slice p2 F.length q2,.slice p3 T.length q3]):=by
        obtain⟨ty,hh⟩:=d1.o;exact⟨ty,(Y _ (by omega) (.inr leR)).trans hh⟩
       have l9:Hid (Bx Z (w.heap.size+1+1) [.int .i64 0,.int .i64 0,.slice none 0 0,.slice none 0 0,.slice none 0 0]):=by
        obtain⟨ty,hh⟩:=d.o;exact⟨ty,(Y _ (by omega) (.inl (by omega))).trans hh⟩
       have k0:Hid (Up w Z):=⟨M.os.trans V.o.os,M.tape.trans V.o.tape,M.output.trans V.o.output,by have:=M.size;have:=V.o.size;simp at *;omega,fun k hk=>(Y k (by omega) (.inl (by omega))).trans (V.o.block k hk)⟩;have r6:g8≠O.heap.size/\g8≠w.heap.size+1+1:=by
        have h2:=Ol d9 g8 rfl
        rcases i6 with h|h
        ·have:=k8.o g8 h;omega
        omega
       have n1:=d2.o.c3.2.1;have nf:=d2.o.fz 1;have g5:Hid (Bx (Z.setCell ⟨O.heap.size,1,none⟩ (.slice (some ⟨g8,0,none⟩) (F.length+1) c8)) O.heap.size [.slice p1 S.length q1,.slice (some ⟨g8,0,none⟩) (F.length+1) c8,.slice p3 T.length q3]):=d2.o.set 1 _;have o9:w.heap.size+1+1≠O.heap.size:=by omega
       have J:=Hd (AR l9.o o9 1 (.slice (some ⟨g8,0,none⟩) (F.length+1) c8));have g4:Hid (Up w (Z.setCell ⟨O.heap.size,1,none⟩ (.slice (some ⟨g8,0,none⟩) (F.length+1) c8))):=k0.o.setCell (p:=⟨O.heap.size,1,none⟩) (by show w.heap.size<=O.heap.size;omega) _;have g6:Hid (BankN (Z.setCell ⟨O.heap.size,1,none⟩ (.slice (some ⟨g8,0,none⟩) (F.length+1) c8)) w7.heap.size (.slice p1 S.length q1) (.slice (some ⟨g8,0,none⟩) (F.length+1) c8) (.slice p3 T.length q3) S (F++[f]) T):=by
        obtain⟨cs,fz,h⟩:=j4.o;exact l2.o.keepT ((Y _ (by omega) (.inr leR)).trans h)
       clear d9 M i6 Y m0 m1 m2 z1 d1 d
       go_upto_region 13 with fail
       obtain⟨q8,h6⟩:=Oa (Z.setCell ⟨O.heap.size,1,none⟩ (.slice (some ⟨g8,0,none⟩) (F.length+1) c8));rw[h6] at g5 J g4 g6 ⊢;clear h6 n1 nf;obtain⟨i0,i1,i2⟩:=g5.o.c3;have r0:=J.o.cell 0;have r1:=J.o.cell 1;have r2:=J.o.cell 2;have r3:=J.o.cell 3;have r4:=J.o.cell 4;obtain⟨f0,f1,f2,f3,f4⟩:=J.o.f5;have r7:((F.length:Int)+1) - 1=(F.length:Int):=by omega
       go_wp2_with fail
       obtain⟨WE,G,E,a8,hh⟩:=YB J.o g4.o (show w.heap.size<=w.heap.size+1+1 by omega) (.int .i64 0) (.int .i64 F.length) (.slice p1 S.length q1) (.slice (some ⟨g8,0,none⟩) (F.length+1) c8) (.slice p3 T.length q3);rw[G];have hN:=(g6.o.keep (w':=WE) (fun k hk _=>hh k (by omega))).lower a7.o.size;have e0:=E.cell 0;have e1:=E.cell 1;have e2:=E.cell 2;have e3:=E.cell 3;have e4:=E.cell 4;refine Jg (v:=.agg #[.int .i64 0,.int .i64 F.length,.slice p1 S.length q1,.slice (some ⟨g8,0,none⟩) (F.length+1) c8,.slice p3 T.length q3]) ?_ rfl ⟨.slice p1 S.length q1,.slice (some ⟨g8,0,none⟩) (F.length+1) c8,.slice p3 T.length q3,?_,?_,a8⟩
       ·clear E a8 hh G hN;simp[results,results16,go_sem,e0,e1,e2,e3,e4]
       ·unfold N3;rw[HE.o,if_pos rfl]
       unfold Ey Ks Ez;rw[HE.o,if_neg (by decide),if_neg (by decide),if_pos rfl,if_neg (by decide)];exact hN
theorem Book.asked {w0:World}{tb n' nS nF nT:Nat}{vS vF:Value}{bF:Nat}{W':World}(h:Book w0 kb sb fb tb gb n nS nF nT S F T vS vF vT bF W)(hb:Bar gb W W'){g:List UInt8->Option SI}(hk:KM W' gb n' g)(ho:ZM (Oq S) g):Book w0 kb sb fb tb gb n' nS nF nT S F T vS vF vT bF W':=by
 obtain⟨I,j,-⟩:=h.km;have A:=h.low.size;have G:=h.ids;have d:∀ (k:Nat) cs ty fz,W.heap[k]? = some (.cells cs ty fz)->W'.heap[k]? = W.heap[k]? := fun k cs ty fz hc=>hb.block k (Jv.1 hc).1 (fun e=>j.no_cells (e ▸ hc));refine⟨⟨hb.os.trans h.low.os,hb.tape.trans h.low.tape,hb.output.trans h.low.output,Yc A hb.size,fun k hk=>(hb.block k (by omega) (by omega)).trans (h.low.block k hk)⟩,h.ids,h.ne,?_,own_other' h.sr (fun g hg=>?_),h.fr.keep (fun g c z hg _=>?_),h.tr.keep (fun g c z hg _=>?_),⟨h.far.1,Yc h.far.2.1 hb.size,h.far.2.2⟩,h.sm.at_heap (hb.block sb h.sm.lt h.ne.2.2.1),h.fm.at_heap (hb.block fb h.fm.lt h.ne.2.2.2.2.1),h.tm.at_heap (hb.block tb h.tm.lt h.ne.2.2.2.2.2),g,hk,ho⟩
 ·obtain⟨ty,E⟩:=h.box;exact⟨ty,(d _ _ _ _ E).trans E⟩
 ·obtain⟨c,z,hc⟩:=Kp h.sr g hg;exact d g c _ z hc
 ·rcases hg with hg|hg<;>exact d g c _ z hg
 rcases hg with hg|hg<;>exact d g c _ z hg
theorem T4 {p0 q0:Option Addr}{c0 d0:Nat}{v5:Value}{g:List UInt8->Option SI}(h:BK w kb sb fb gb n S F T (.slice p0 S.length c0) (.slice q0 F.length d0) vT v5 g)(f:Fn)(va:Value)(hva:O3 w va f.args)(hzn:f.name.length<=1048576)(hz:∀ a∈f.args,a.length<=1048576)(hzs:f.sort.length<=1048576)(hn:n<=900000000)(hf:Ee (Oq S) (Od F) f.name=false)(hok:K4 (Oc (Oq S)) f=true)(hfull:300<=S.length+F.length)(hl:S.length<=1000000/\F.length<=1000000) :
 Calls prog 47 #[.pointer (some ⟨kb,0,none⟩),.agg #[.string (Oo f.name),va,.string (Oo f.sort)]] w fun e w'=>e=.returned (.tuple #[.int .i64 0,.int .i64 4])/\O8 w w' kb sb fb gb n S F T (.slice p0 S.length c0) (.slice q0 F.length d0) vT v5 6:=by
 have M:(Oo f.name).size<=1048576:=by show f.name.toArray.size<=_;simpa using hzn
 have J:=Hd hva;obtain⟨Y,V,rfl,-,-,-⟩:=hva;have j:=Hd (h.next (Oz w (.cells #[.string (Oo f.name),.slice Y f.args.length V,.string (Oo f.sort)] 45)));have O:Hid (Up w (w.alloc (.cells #[.string (Oo f.name),.slice Y f.args.length V,.string (Oo f.sort)] 45))):=Oz _ _;have I:Hid (Hg (Oq S) (Od F) f.name=0):=by unfold Hid Hg;rw[hf];rfl
 have d:=Hd (Ie j.o f _ (J.o.bl O.o) hz hzs hn);have y4:decide (300<=S.length+F.length)=true:=Ja hfull;rw[hok] at d;clear h hf hok
 go_in
 go_wp2_with fail
 refine (Gv kb sb fb (Oq S) (Od F) (Oo f.name) _ j.o.box.c7.2.2.2.1 j.o.box.c7.2.2.2.2.1 j.o.sm j.o.fm M).mono ?_;rw[Ou,I.o];rintro e w1 ⟨rfl,rfl⟩
 go_wp2_with fail
 refine d.o.mono ?_;rintro e w2 ⟨rfl,ha⟩;have Z:=Hd (ha.after O.o);obtain⟨n',g',a7,E,K⟩:=ha;have U:=Hd E;clear E K
 go_wp2_with fail
 refine (Xd kb p0 q0 S.length c0 F.length d0 _ U.o.box.c7.1 U.o.box.c7.2.1 hl.1 hl.2).mono ?_;rw[y4];rintro e w3 ⟨rfl,A⟩;have G:=Hd (O8.next Z.o A);clear A
 go_wp2_with fail
 refine Jg (v:=.tuple #[.int .i64 0,.int .i64 4]) ?_ rfl ⟨rfl,G.o⟩;simp[results,results47,go_sem]
theorem PG {num:Tm->Bool}(h:Gn S num F T=true):Oc (Oq S)=Ok S:=by
 refine YD fun n hn=>?_;unfold Gn Gk at h;simp only[J3] at h;have d:=h.1.2.1.2;unfold Ha at d;rw[Jt] at d;obtain⟨i,j,rfl⟩:=J6 hn;have:=d i (Y5.2 (by rw[Yn];omega));rw[List.getElem?_append_left j,Jd j] at this;simp only[J3] at this;exact this.1
theorem PN {num:Tm->Bool}(h:Gn S num F T=true):S.length+F.length<=300:=by
 unfold Gn Gk at h;simp only[J3,Yi] at h;exact h.1.2.1.1
theorem T3 {w0:World}{tb:Nat}{vS vF:Value}{bF:Nat}(h:Book w0 kb sb fb tb gb n S.length F.length T.length S F T vS vF vT bF W)(hn:n<=200000)(hg:Gn S Gt F T=true)(hE:EV w0)(hR:RT w0)(hva:O3 W va f.args)(hf:Qz f) :
 Calls prog 47 #[.pointer (some ⟨kb,0,none⟩),.agg #[.string (Oo f.name),va,.string (Oo f.sort)]] W fun e w'=>e=.returned (.tuple #[.int .i64 (N3 S F T f),.int .i64 (Kw S F T f)])/\∃ vF' n' nF,Book w0 kb sb fb tb gb n' S.length nF T.length S (Ks S F T f) T vS vF' vT bF w':=by
 have Y:=PN hg;have j:=PG hg;obtain⟨g,M⟩:=h.bk (by omega) (by omega) hE hR;have O:¬ Gn S Gt F T=false:=by rw[hg];decide
 cases A:Ee (Oq S) (Od F) f.name with
 | true=>
   have G:Kw S F T f=2:=by unfold Kw;rw[if_neg O,if_pos A]
   refine (Cf M f va hf.1 A).mono ?_;rintro e w' ⟨rfl,hb⟩;refine⟨by unfold N3;rw[G];rfl,vF,n,F.length,?_⟩;unfold Ks;rw[G,if_neg (by decide),if_neg (by decide)];obtain⟨g1,Z,o1⟩:=h.km;exact h.asked (Bar.of hb) (Z.at_heap (hb.block gb Z.lt)) o1
 | false=>
   have K:¬ Ee (Oq S) (Od F) f.name=true:=by rw[A];decide
   cases d:K4 (Ok S) f with
   | false=>
     have G:Kw S F T f=3:=by unfold Kw;rw[if_neg O,if_neg K,if_pos d]
     refine (Cl M f va hva hf.1 hf.2.1.2 hf.2.2 (by omega) A (by rw[j];exact d)).mono ?_;rintro e w' ⟨rfl,n',g',-,J,E⟩;refine⟨by unfold N3;rw[G];rfl,vF,n',F.length,?_⟩;unfold Ks;rw[G,if_neg (by decide),if_neg (by decide)];exact h.asked E J.km J.ok
   | true=>
     have U:¬ K4 (Ok S) f=false:=by rw[d];decide
     by_cases I:300<=S.length+F.length
     ·have G:Kw S F T f=4:=by unfold Kw;rw[if_neg O,if_neg K,if_neg U,if_pos I]
      obtain⟨p0,c0,rfl,-⟩:=Xg h.sr;obtain⟨q0,d0,rfl,-⟩:=h.fr.at;refine (T4 M f va hva hf.1 hf.2.1.2 hf.2.2 (by omega) A (by rw[j];exact d) I (by omega)).mono ?_;rintro e w' ⟨rfl,n',g',-,J,E⟩;refine⟨by unfold N3;rw[G];rfl,.slice q0 F.length d0,n',F.length,?_⟩;unfold Ks;rw[G,if_neg (by decide),if_neg (by decide)];exact h.asked E J.km J.ok
     have G:Kw S F T f=0:=by unfold Kw;rw[if_neg O,if_neg K,if_neg U,if_neg I]
     obtain⟨X,hX,hr,hA⟩:=h.fr;obtain⟨p0,c0,rfl,-⟩:=Xg h.sr;have V:=h.far;refine (Ae M bF F.length (X.flatMap funC) hr (fun e=>by have:=Ol hr _ e;omega) h.fm (by omega) V.2.1 f va hva (Ac (by rw[<-j] at d;exact d)) hf.1 hf.2.1.2 hf.2.2 (by omega) A (by rw[j];exact d) (by omega)).mono ?_;rintro e w' ⟨rfl,ha⟩;obtain⟨vF',n',-,E⟩:=h.addF hX hr hA ha;refine⟨by unfold N3;rw[G];rfl,vF',n',F.length+1,?_⟩;unfold Ks;rw[G,if_neg (by decide),if_pos rfl];exact E
theorem IV (w:World)(N0 N1:Nat):FunsX w N0 N1 (.slice none 0 0) [] []:=by
 refine⟨⟨none,0,rfl,leR,Jr _,.inl ⟨rfl,.inl ⟨rfl,rfl⟩⟩⟩,rfl,?_,?_,?_,?_⟩
 ·intro g c e;cases e
 ·intro i d;cases d
 ·intro i j d;cases d
 intro b hb;cases hb
theorem EP (w:World)(N0 N1:Nat):TermsX w N0 N1 (.slice none 0 0) [] []:=by
 refine⟨⟨none,0,rfl,leR,Jr _,.inl ⟨rfl,.inl ⟨rfl,rfl⟩⟩⟩,rfl,?_,?_,?_,?_⟩
 ·intro g c e;cases e
 ·intro i d;cases d
 ·intro i j d;cases d
 intro b hb;cases hb
theorem GY (w:World)(N0 N1:Nat):BankX w N0 N1 (.slice none 0 0) (.slice none 0 0) (.slice none 0 0) [] [] [] [] []:=by
 refine⟨⟨none,0,rfl,leR,Jr _,.inl ⟨rfl,.inl ⟨rfl,rfl⟩⟩⟩,?_,IV _ _ _,EP _ _ _,?_⟩
 ·intro b hb;cases hb
 intro b hb;cases hb
theorem Cd.w2 {M0 M1 s:Nat}{e:TypeId}{v:Value}(h:Cd w N0 N1 e s v n)(h0:M0<=N0)(h1:N1<=M1):Cd w M0 M1 e s v n:=by
 obtain⟨p,c,rfl,hc,j,d⟩:=h;refine⟨p,c,rfl,hc,j,?_⟩
 rcases d with d|⟨g,rfl,h2,h3,d⟩
 ·exact .inl d
 exact .inr ⟨g,rfl,Yc h0 h2,Jq h3 h1,d⟩
theorem BankX.w2 {M0 M1:Nat}(h:BankX w N0 N1 vs vf vt S F T A B)(h0:M0<=N0)(h1:N1<=M1):BankX w M0 M1 vs vf vt S F T A B:=
 ⟨h.s.w2 h0 h1,h.sk,⟨h.f.row.w2 h0 h1,h.f.len,h.f.at',fun i hi hi'=>⟨(h.f.rows i hi hi').1.w2 h0 h1,(h.f.rows i hi hi').2⟩,h.f.apart,h.f.kind⟩,⟨h.t.row.w2 h0 h1,h.t.len,h.t.at',fun i hi hi'=>⟨(h.t.rows i hi hi').1.w2 h0 h1,(h.t.rows i hi hi').2⟩,h.t.apart,h.t.kind⟩,h.sa⟩
theorem BankX.on {P:Nat->Prop}{w':World}(h:BankX w N0 N1 vs vf vt S F T A B)(ho:OnB P w w')(hn:∀ b,PB vs vf vt A B b->¬ P b):BankX w' N0 N1 vs vf vt S F T A B:=
 ⟨h.s.mk ho.sl,fun b hb=>by obtain⟨n,d⟩:=h.sk b hb;exact⟨n,ho.sl _ _ _ d⟩,h.f.on ho (fun b hb=>hn b (.inr (.inl (.inl hb)))),h.t.on ho (fun b hb=>hn b (.inr (.inr (.inl hb)))),h.sa⟩
def ME (S:List (List UInt8))(F:List Fn)(T:List Tm)(f:Fn)(w:World)(e:Ending)(w':World):Prop:=
 ∃ p1 c1 p2 c2 p3 c3 A B,e=.returned (.agg #[.int .i64 (Kw S F T f),.int .i64 (N3 S F T f),.slice p1 (Ey S F T f).length c1,.slice p2 (Ks S F T f).length c2,.slice p3 (Ez S F T f).length c3]) /\
  BankX w' w.heap.size w'.heap.size (.slice p1 (Ey S F T f).length c1) (.slice p2 (Ks S F T f).length c2) (.slice p3 (Ez S F T f).length c3) (Ey S F T f) (Ks S F T f) (Ez S F T f) A B/\(∀ b,PB (.slice p1 (Ey S F T f).length c1) (.slice p2 (Ks S F T f).length c2) (.slice p3 (Ez S F T f).length c3) A B b->w.heap.size<=b)/\BankN w' w.heap.size (.slice p1 (Ey S F T f).length c1) (.slice p2 (Ks S F T f).length c2) (.slice p3 (Ez S F T f).length c3) (Ey S F T f) (Ks S F T f) (Ez S F T f)/\Up w w'
theorem Cc (h:BankAt w vs vf vt S F T)(hz:BankZ S F T)(hv:Vars w)(hva:O3 w va f.args)(hf:Qz f) :
 Calls prog 18 #[.agg #[vs,vf,vt],.agg #[.string (Oo f.name),va,.string (Oo f.sort)]] w (ME S F T f w):=by
 have U:=Hd (fun W (hb:Up w W)=>DK (h.bl hb) hz (hv.bl hb));have HV:=Hd hv;have f8:=Hd hva;have HF:=Hd hf;obtain⟨a1,c1,V,-,-,-⟩:=h.s;obtain⟨a2,c2,e2,-,-,-⟩:=h.f;obtain⟨a3,c3,Y,-,-,-⟩:=h.t;obtain⟨a4,c4,rfl,-,-,-⟩:=hva;subst V e2 Y;clear h hz hv hf
 go_in
 go_upto_region 1 with fail
 obtain⟨W3,b8,c6,x1,x2,x3,b3⟩:=GK w [.slice a1 S.length c1,.slice a2 F.length c2,.slice a3 T.length c3] [.string (Oo f.name),.slice a4 f.args.length c4,.string (Oo f.sort)] [.int .i64 0,.int .i64 0,.slice none 0 0,.slice none 0 0,.slice none 0 0] 31 45 33;rw[b8];clear b8;have j:=Hd c6;have f9:=Hd x1;have b5:=Hd x2;have G:=Hd x3;have e9:=Hd b3;obtain⟨b0,b1,b2⟩:=f9.o.c3;clear c6 x1 x2 x3 b3
 go_wp2_with fail
 clear b0 b1 b2;refine (U.o W3 j.o).mono ?_;rintro e w4 (⟨hg,rfl,a7⟩|⟨hg,kb,sb,fb,tb,gb,n,vS,vF,vT,bF,rfl,hn,M⟩)
 ·have HE:Hid (Kw S F T f=1):=by unfold Hid Kw;rw[if_pos (by rw[<-Li];exact hg)]
  have O:=j.up a7;have d:=Hd (G.o.bl G.o.lt a7);have r0:=d.o.cell 0;have r1:=d.o.cell 1;have r2:=d.o.cell 2;have r3:=d.o.cell 3;have r4:=d.o.cell 4;obtain⟨f0,f1,f2,f3,f4⟩:=d.o.f5;clear hg a7 U
  go_wp2_with fail
  obtain⟨WE,J,I,K,hh⟩:=YB d.o O.o (show w.heap.size<=w.heap.size+1+1 by omega) (.int .i64 1) (.int .i64 0) (.slice none 0 0) (.slice none 0 0) (.slice none 0 0);rw[J];have e0:=I.cell 0;have V:=I.cell 1;have e2:=I.cell 2;have Y:=I.cell 3;have e4:=I.cell 4;refine Jg (v:=.agg #[.int .i64 1,.int .i64 0,.slice none 0 0,.slice none 0 0,.slice none 0 0]) ?_ rfl ?_
  ·clear I K hh J;simp[results,results18,go_sem,e0,V,e2,Y,e4]
  unfold ME N3 Ey Ks Ez;rw[HE.o];exact⟨none,0,none,0,none,0,[],[],rfl,GY _ _ _,(fun b hb=>by rcases hb with hb|(hb|⟨a,ha,hb⟩)|(hb|⟨a,ha,hb⟩)<;>first|cases hb|cases ha),Ag _ _,K⟩
 have a8:Gn S Gt F T=true:=by rw[<-Li];exact hg
 have O:Hid (Up w w4):=j.o.trans (M.low.mono j.o.size);have b6:=Hd (b5.o.bl b5.o.lt M.low);have d:=Hd (G.o.bl G.o.lt M.low);have b4:=Hd (T3 M hn a8 (HV.o.bl j.o).ev (HV.o.bl j.o).rt (f8.o.bl O.o) HF.o);have HE:Hid (¬ Kw S F T f=1):=by
  unfold Hid Kw;rw[if_neg (by rw[a8];decide)]
  split
  ·decide
  split
  ·decide
  split<;>decide
 obtain⟨n0,n1,n2⟩:=b6.o.c3;clear hg hn M a8 U
 go_wp2_with fail
 refine b4.o.mono ?_;rintro e w5 ⟨rfl,j1,n',nF,Z⟩;have E:=Hd Z;have e8:Hid (Up w w5):=j.o.trans (Z.low.mono j.o.size);have d:=Hd (G.o.bl G.o.lt Z.low);obtain⟨p1,d1,V,-⟩:=Z.at.s;obtain⟨p2,d2,e2,-⟩:=Z.at.f;obtain⟨p3,d3,Y,-⟩:=Z.at.t;subst V e2 Y;obtain⟨k0,k1,k2,-⟩:=E.o.box.c7;have r0:=d.o.cell 0;have r1:=d.o.cell 1;have r2:=d.o.cell 2;have r3:=d.o.cell 3;have r4:=d.o.cell 4;obtain⟨f0,f1,f2,f3,f4⟩:=d.o.f5;clear Z b4 n0 n1 n2 b6
 go_wp2_with fail
 obtain⟨WE,J,I,K,hh⟩:=YB d.o e8.o (show w.heap.size<=w.heap.size+1+1 by omega) (.int .i64 (Kw S F T f)) (.int .i64 (N3 S F T f)) (.slice p1 S.length d1) (.slice p2 (Ks S F T f).length d2) (.slice p3 T.length d3);have hO:OnB (fun b=>b=w.heap.size+1+1) w5 WE:=by
  rw[<-J];exact (((((OnB.refl (fun b=>b=w.heap.size+1+1) w5).set rfl 0 _).set rfl 1 _).set rfl 2 _).set rfl 3 _).set rfl 4 _
 obtain⟨A,B,hX,d0⟩:=E.o.x;have b3:=e9.o;have b9:=(hX.on hO (fun b hb e=>by have:=d0 b hb;omega)).w2 j.o.size hO.size;have h9:=E.o.ids;have h0:=E.o.far;have hN:BankN w5 W3.heap.size (.slice p1 S.length d1) (.slice p2 (Ks S F T f).length d2) (.slice p3 T.length d3) S (Ks S F T f) T:=⟨Kh E.o.sr (by omega),E.o.fr.lower (by omega),E.o.tr.lower (by omega)⟩;have b7:=(hN.keep (w':=WE) (fun k hk _=>hh k (by omega))).lower j.o.size;rw[J];have e0:=I.cell 0;have V:=I.cell 1;have e2:=I.cell 2;have Y:=I.cell 3;have e4:=I.cell 4;refine Jg (v:=.agg #[.int .i64 (Kw S F T f),.int .i64 (N3 S F T f),.slice p1 S.length d1,.slice p2 (Ks S F T f).length d2,.slice p3 T.length d3]) ?_ rfl ?_
 ·clear I K hh J hO hX b9 hN b7;simp[results,results18,go_sem,e0,V,e2,Y,e4]
 unfold ME;have g4:Ey S F T f=S:=by unfold Ey;rw[if_neg HE.o]
 have g5:Ez S F T f=T:=by unfold Ez;rw[if_neg HE.o]
 rw[g4,g5];exact⟨p1,d1,p2,d2,p3,d3,A,B,rfl,b9,(fun b hb=>Yc j.o.size (d0 b hb)),b7,K⟩
theorem It {q1 q2 q3:Option Addr}{c2 c3 d1 d2 d3:Nat}(er id:Int)(w:World)(h1:BankAt w (.slice p1 S.length c1) (.slice p2 F.length c2) (.slice p3 T.length c3) S F T)(h2:BankAt w (.slice q1 S.length d1) (.slice q2 F.length d2) (.slice q3 T.length d3) S F T) :
 Calls prog 10 #[.agg #[.int .i64 er,.int .i64 id,.slice p1 S.length c1,.slice p2 F.length c2,.slice p3 T.length c3],.agg #[.int .i64 er,.int .i64 id,.slice q1 S.length d1,.slice q2 F.length d2,.slice q3 T.length d3]] w fun e w'=>e=.returned (.bool true)/\Up w w':=by
 obtain⟨K,A,hb2,O,U,J⟩:=VO w [.int .i64 er,.int .i64 id,.slice p1 S.length c1,.slice p2 F.length c2,.slice p3 T.length c3] [.int .i64 er,.int .i64 id,.slice q1 S.length d1,.slice q2 F.length d2,.slice q3 T.length d3] 33 33;have G:=Hd hb2;have d:=Hd O;have h:=Hd U;have V:=Hd (Cj K (h1.bl hb2) (h2.bl hb2));have j:=Hd A;clear A hb2 O U J h1 h2
 go_in
 go_upto_region 1 with fail
 have M:(w.alloc (.cells #[.int .i64 er,.int .i64 id,.slice p1 S.length c1,.slice p2 F.length c2,.slice p3 T.length c3] 33)).alloc (.cells #[.int .i64 er,.int .i64 id,.slice q1 S.length d1,.slice q2 F.length d2,.slice q3 T.length d3] 33)=K:=j.o;rw[M];clear M j;have a0:=d.o.cell 0;have a1:=d.o.cell 1;have a2:=d.o.cell 2;have a3:=d.o.cell 3;have a4:=d.o.cell 4;have b0:=h.o.cell 0;have b1:=h.o.cell 1;have b2:=h.o.cell 2;have Y:=h.o.cell 3;have Z:=h.o.cell 4
 go_wp2_with fail
 refine V.o.mono ?_;rintro e w3 ⟨rfl,E⟩;have I:=G.up E;clear E a0 a1 a2 a3 a4 b0 b1 b2 Y Z
 go_wp2
 go_ret
 exact⟨rfl,I.o⟩
theorem Mh (N0 N1:Nat){c2 c3:Nat}(er id:Int)(w:World)(h:BankX w N0 N1 (.slice p1 S.length c1) (.slice p2 F.length c2) (.slice p3 T.length c3) S F T A B)(hs:SmallB S F T) :
 Calls prog 13 #[.agg #[.int .i64 er,.int .i64 id,.slice p1 S.length c1,.slice p2 F.length c2,.slice p3 T.length c3],.int .i64 1] w fun e w'=>e=.returned (.int .i64 (kB S F T:Nat))/\OnB (PB (.slice p1 S.length c1) (.slice p2 F.length c2) (.slice p3 T.length c3) A B) w w'/\HeldB w' (.slice p1 S.length c1) (.slice p2 F.length c2) (.slice p3 T.length c3) S F T A B:=by
 have E:Hid (Up w (w.alloc (.cells #[.int .i64 er,.int .i64 id,.slice p1 S.length c1,.slice p2 F.length c2,.slice p3 T.length c3] 33))):=Oz _ _;have d:Hid (Bx (w.alloc (.cells #[.int .i64 er,.int .i64 id,.slice p1 S.length c1,.slice p2 F.length c2,.slice p3 T.length c3] 33)) w.heap.size [.int .i64 er,.int .i64 id,.slice p1 S.length c1,.slice p2 F.length c2,.slice p3 T.length c3]):=Oi w _ _;have J:Hid (OnB (PB (.slice p1 S.length c1) (.slice p2 F.length c2) (.slice p3 T.length c3) A B) w (w.alloc (.cells #[.int .i64 er,.int .i64 id,.slice p1 S.length c1,.slice p2 F.length c2,.slice p3 T.length c3] 33))):=(OnB.refl _ w).bl E.o;have M:=Hd (Fy N0 N1 _ (h.on ((OnB.refl (fun _=>False) w).bl E.o) (fun _ _ h=>h)) hs);have a2:=d.o.cell 2;have a3:=d.o.cell 3;have a4:=d.o.cell 4;clear h hs
 go_in
 go_wp2_with fail
 refine M.o.mono ?_;rintro e w2 ⟨rfl,U,O⟩;have K:=Hd (J.o.trans U);have G:=Hd O;clear U O M a2 a3 a4;obtain⟨V,j⟩:=Oa (kB S F T);rw[j];have I:=Hd j;clear j
 go_wp2
 go_ret
 exact⟨Eo (congrArg (fun n:Nat=>(n:Int)) I.o.symm),K.o,G.o⟩
theorem Q6 {c2 c3:Nat}(er id:Int)(w:World)(sh:ShB (.slice p1 S.length c1) (.slice p2 F.length c2) (.slice p3 T.length c3) S F T A B)(h:HeldB w (.slice p1 S.length c1) (.slice p2 F.length c2) (.slice p3 T.length c3) S F T A B)(hs:SmallB S F T) :
 Calls prog 14 #[.agg #[.int .i64 er,.int .i64 id,.slice p1 S.length c1,.slice p2 F.length c2,.slice p3 T.length c3],.int .i64 1] w fun e w'=>e=.returned (.int .i64 (kB S F T:Nat))/\Up w w':=by
 have j:Hid (Up w (w.alloc (.cells #[.int .i64 er,.int .i64 id,.slice p1 S.length c1,.slice p2 F.length c2,.slice p3 T.length c3] 33))):=Oz _ _;have d:Hid (Bx (w.alloc (.cells #[.int .i64 er,.int .i64 id,.slice p1 S.length c1,.slice p2 F.length c2,.slice p3 T.length c3] 33)) w.heap.size [.int .i64 er,.int .i64 id,.slice p1 S.length c1,.slice p2 F.length c2,.slice p3 T.length c3]):=Oi w _ _;have I:=Hd (OQ _ sh (h.bl j.o) hs);have a2:=d.o.cell 2;have a3:=d.o.cell 3;have a4:=d.o.cell 4;clear h hs sh;obtain⟨kk,E⟩:=Oa (kB S F T);rw[E] at I ⊢;have y:decide ((kk:Int)<0)=false:=Jc (by omega);clear E
 go_in
 go_wp2_with fail
 refine I.o.mono ?_;rintro e w2 ⟨rfl,hb⟩;have G:=j.up hb;clear hb I a2 a3 a4
 go_wp2
 go_ret
 exact⟨rfl,G.o⟩
theorem UW (N0 N1 n k:Nat)(t1 t2:ByteArray)(v:Value)(w:World)(h:Cd w N0 N1 9 1 v n)(hn:n<=1048576)(h0:0<k)(hk:k<=900000000000000) :
 Calls prog 20 #[.agg #[.string t1,v,.string t2],.int .i64 (k:Nat)] w fun e w'=>e=.returned (.int .i64 (k+n:Nat))/\OnB (fun b=>v.ownBlock=some b) w w':=by
 have G:Hid (Bx (w.alloc (.cells #[.string t1,v,.string t2] 45)) w.heap.size [.string t1,v,.string t2]):=Oi w _ _;have d:Hid (OnB (fun b=>v.ownBlock=some b) w (w.alloc (.cells #[.string t1,v,.string t2] 45))):=(OnB.refl _ _).bl (Oz _ _);have A:=Hd (I1 N0 N1 n k v _ (h.mk d.o.sl) hn h0 hk);have a1:=G.o.cell 1;obtain⟨p,c,rfl,-,-,-⟩:=h;obtain⟨J,j⟩:=Oa (k+n);rw[j] at A ⊢;clear j
 go_in
 go_wp2_with fail
 refine A.o.mono ?_;rintro e w2 ⟨rfl,I,-⟩;have E:=Hd (d.o.trans I);clear I A a1
 go_wp2
 go_ret
 exact⟨rfl,E.o⟩
theorem BT (hs:SmallB S F T):0<kB S F T/\kB S F T<=900000000000000:=by
 have d:=Ds (k:=1+S.length) (fun f hf=>(hs.f.2 f hf).2.1.1) F.length leR;have h2:=L9 (k:=kfF F (1+S.length) F.length) (fun t ht=>(hs.t.2 t ht).2.2) T.length leR;have h3:=hs.s.1;have h4:=hs.f.1;have h5:=hs.t.1;have h:1+S.length<=kfF F (1+S.length) F.length:=Nat.le_add_right _ _;have j:kfF F (1+S.length) F.length<=kB S F T:=Nat.le_add_right _ _;have A:kB S F T=kfT T (kfF F (1+S.length) F.length) T.length:=rfl;omega
end Go.Proofs.YtdmdmgfjpomdbaaGreatDoor
