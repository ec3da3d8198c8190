import Derived.Test.YtipgjenolpofpaaGreatDoorP25
set_option maxRecDepth 100000
set_option maxHeartbeats 8000000
namespace Go.Proofs.YtipgjenolpofpaaGreatDoor
open ChangeShapes WideShapes ChangeAt RowKit Proofs.Tryz
theorem YS (vs vf vt:Value)(S:List (List UInt8))(t:Tm)(vk vks:Value)(ks:List (List UInt8))(w:World)(hS:O8 w vs S)(hks:O8 w vks ks)(hzs:t.sort.length<=1048576)(hzt:t.text.length<=1048576)(hz:∀ k∈ks,k.length<=1048576)(hlen:Kh t.op<=ks.length)(ho:38<=t.op/\t.op<=41) :
 Calls prog 72 #[.agg #[vs,vf,vt],.agg #[.int .i64 t.op,.string (Oo t.sort),.string (Oo t.text),.int .i64 t.a,.int .i64 t.b,vk],vks] w fun e w'=>e=.returned (.bool (Oj (Ov (On S)) t ks))/\Up w w':=by
 obtain⟨pk,ck,rfl,k1,k2,k3⟩:=hks;obtain⟨o,so,V,a,b,kk⟩:=t;simp only at hzs hzt hlen ho ⊢;have HS:=Hd hS;have HK:=Hd k3;have HZ:=Hd hz;have HL:=Hd hlen;have HO:=Hd ho;unfold maxLen at k2;have g3:(Oo so).size<=1048576:=by show so.toArray.size<=_;simpa using hzs
 have h8:(Oo V).size<=1048576:=by show V.toArray.size<=_;simpa using hzt
 clear hS k3 hz hlen ho
 go_in
 go_wp2_with fail
 obtain⟨W1,d0⟩:=O1 ((w.alloc (.cells #[vs,vf,vt] 32)).alloc (.cells #[.int .i64 o,.string (Oo so),.string (Oo V),.int .i64 a,.int .i64 b,vk] 57));have e3:Hid (Up w W1):=by unfold Hid;rw[<-d0];exact ((Jh _ _).alloc Of _).alloc (by rw[Ji];omega) _
 have g1:Hid (W1.heap.size=w.heap.size+2):=by unfold Hid;rw[<-d0];simp
 have e4:Hid (Bx W1 w.heap.size [vs,vf,vt]):=by unfold Hid;rw[<-d0];exact (Oi w _ _).alloc _
 have e5:Hid (Bx W1 (w.heap.size+1) [.int .i64 o,.string (Oo so),.string (Oo V),.int .i64 a,.int .i64 b,vk]):=by unfold Hid;rw[<-d0];have h:=Oi (w.alloc (.cells #[vs,vf,vt] 32)) [.int .i64 o,.string (Oo so),.string (Oo V),.int .i64 a,.int .i64 b,vk] 57;rw[Ji] at h;exact h
 rw[d0];clear d0;refine (Kz vs S (Oo so) _ (HS.o.bl e3.o) g3).mono ?_;rw[Ou];obtain⟨X0,e7⟩:=O1 (Ov (On S) so);have b5:=Hd e7;rw[e7];clear e7;rintro e w2 ⟨rfl,d2⟩;unfold N9
 go_upto_if 20 with fail
 have b4:Hid (Wd (((w2.alloc (.cells #[.int .i64 X0.kind,.int .i64 (X0.width:Nat),.string (Oo X0.index),.string (Oo X0.elem)] 110)).alloc (.cells #[.int .i64 0,.int .i64 0,.string ⟨#[]⟩,.string ⟨#[]⟩] 110)).alloc (.cells #[.int .i64 0,.int .i64 0,.string ⟨#[]⟩,.string ⟨#[]⟩] 110)) w.heap.size w2.heap.size [vs,vf,vt] [.int .i64 o,.string (Oo so),.string (Oo V),.int .i64 a,.int .i64 b,vk] X0 SI.none SI.none w):=by
  have j5:=g1.o;have h7:=d2.size;have g9:=e4.o.bl e4.o.lt d2;have h1:=e5.o.bl e5.o.lt d2;have q0:=Oi w2 (Ri X0) 110;have q1:=Oi (w2.alloc (.cells (Ri X0).toArray 110)) (Ri SI.none) 110;have q2:=Oi ((w2.alloc (.cells (Ri X0).toArray 110)).alloc (.cells (Ri SI.none).toArray 110)) (Ri SI.none) 110;rw[Ji] at q1;rw[Ji,Ji] at q2;refine⟨((g9.alloc _).alloc _).alloc _,((h1.alloc _).alloc _).alloc _,(q0.alloc _).alloc _,q1.alloc _,q2,by omega,?_⟩;have g8:Up w w2:=e3.o.trans (d2.mono (by omega));exact ((g8.alloc (by omega) _).alloc (by rw[Ji];omega) _).alloc (by rw[Ji,Ji];omega) _
 obtain⟨W3,g2⟩:=O1 (((w2.alloc (.cells #[.int .i64 X0.kind,.int .i64 (X0.width:Nat),.string (Oo X0.index),.string (Oo X0.elem)] 110)).alloc (.cells #[.int .i64 0,.int .i64 0,.string ⟨#[]⟩,.string ⟨#[]⟩] 110)).alloc (.cells #[.int .i64 0,.int .i64 0,.string ⟨#[]⟩,.string ⟨#[]⟩] 110));rw[g2] at b4 ⊢;clear g2 d2 e3 g1 e4 e5;generalize w2.heap.size=M at b4 ⊢;have j0:=Hd b4.o.le
 go_cut [20] (fun s20 wx=>s20=.bool (decide (0<ks.length))/\Wd wx w.heap.size M [vs,vf,vt] [.int .i64 o,.string (Oo so),.string (Oo V),.int .i64 a,.int .i64 b,vk] X0 (Kl (Ov (On S)) ks 0) SI.none w)
 case first=>
  by_cases h0:0<ks.length
  ·rcases HK.o with e0|⟨bb,rfl,J,A⟩
   ·rw[e0] at h0;cases h0
   have Z:=(b4.o.bel.cell (p:=⟨bb,0,none⟩) J).trans (A 0 h0);have e6:=b4.o.bank.cell 0;simp only[Jo] at e6;have HR:Hid (Kl (Ov (On S)) ks 0=Ov (On S) ks[0]):=by unfold Hid Kl kS;rw[if_pos h0,Jf h0];rfl
   have d4:(Oo ks[0]).size<=1048576:=by show ks[0].toArray.size<=_;simpa using HZ.o _ (Jw h0)
   generalize ks[0]=k0 at Z HR d4;have i0:(0:Int)<(ks.length:Int):=by omega
   clear A
   go_wp2
   go_region_with (go_at_call 81;refine (Kz vs S (Oo k0) W3.drew (HS.o.bl b4.o.bel.drew) d4).mono ?_;rw[Ou,<-HR.o];rintro e w3 ⟨rfl,Y⟩;have O:=Hd (b4.o.bl (wy:=w3) ⟨Y.os,Y.tape,Y.output,Y.size,Y.block⟩);clear Y;obtain⟨x0,x1,x2,x3⟩:=O.o.x.c4;have f0:=O.o.x.fz 0;have f1:=O.o.x.fz 1;have f2:=O.o.x.fz 2;have f3:=O.o.x.fz 3;unfold N9)
   all_goals (go_wp2;go_meet;exact⟨by simp[h0],O.o.setx _⟩)
  have e:Kl (Ov (On S)) ks 0=SI.none:=by unfold Kl;rw[if_neg h0]
  have HE:=Hd e;clear e
  go_wp2
  go_meet
  exact⟨by simp[h0],by rw[HE.o];exact b4.o⟩
 obtain⟨rfl,d3⟩:=hcut;have O:=Hd d3;clear d3 b4;obtain⟨X1,e8⟩:=O1 (Kl (Ov (On S)) ks 0);have b6:=Hd e8;rw[e8] at O;clear e8
 go_upto_if 29 with fail
 go_cut [29] (fun s29 wx=>s29=.bool (decide ((1:Int)<(ks.length:Int)))/\Wd wx w.heap.size M [vs,vf,vt] [.int .i64 o,.string (Oo so),.string (Oo V),.int .i64 a,.int .i64 b,vk] X0 X1 (Kl (Ov (On S)) ks 1) w)
 case first=>
  by_cases h0:1<ks.length
  ·rcases HK.o with e0|⟨bb,rfl,J,A⟩
   ·rw[e0] at h0;cases h0
   have Z:=(O.o.bel.cell (p:=⟨bb,1,none⟩) J).trans (A 1 h0);have e6:=O.o.bank.cell 0;simp only[Jo] at e6;have HR:Hid (Kl (Ov (On S)) ks 1=Ov (On S) ks[1]):=by unfold Hid Kl kS;rw[if_pos h0,Jf h0];rfl
   have d4:(Oo ks[1]).size<=1048576:=by show ks[1].toArray.size<=_;simpa using HZ.o _ (Jw h0)
   generalize ks[1]=k0 at Z HR d4;have i0:(1:Int)<(ks.length:Int):=by omega
   clear A
   go_wp2
   go_region_with (go_at_call 81;refine (Kz vs S (Oo k0) wc.drew (HS.o.bl O.o.bel.drew) d4).mono ?_;rw[Ou,<-HR.o];rintro e w3 ⟨rfl,Y⟩;have U:=Hd (O.o.bl (wy:=w3) ⟨Y.os,Y.tape,Y.output,Y.size,Y.block⟩);clear Y;obtain⟨x0,x1,x2,x3⟩:=U.o.y.c4;have f0:=U.o.y.fz 0;have f1:=U.o.y.fz 1;have f2:=U.o.y.fz 2;have f3:=U.o.y.fz 3;unfold N9)
   all_goals (go_wp2;go_meet;exact⟨by simp[i0],U.o.sety _⟩)
  have e:Kl (Ov (On S)) ks 1=SI.none:=by unfold Kl;rw[if_neg h0]
  have HE:=Hd e;clear e;have i0:(ks.length:Int)<=1:=by omega
  have i1:¬ (1:Int)<(ks.length:Int):=by omega
  go_wp2
  go_meet
  exact⟨by simp,by rw[HE.o];exact O.o⟩
 obtain⟨rfl,d3⟩:=hcut;have U:=Hd d3;clear d3 O;obtain⟨X2,e9⟩:=O1 (Kl (Ov (On S)) ks 1);have b7:=Hd e9;rw[e9] at U;clear e9;obtain⟨s0,s1,s2,s3⟩:=U.o.s.c4;obtain⟨x0,x1,x2,x3⟩:=U.o.x.c4;obtain⟨y0,y1,y2,y3⟩:=U.o.y.c4;obtain⟨t0,t1,t2,t3,t4⟩:=U.o.term.k5;have j:=Hd U.o.bel;clear U;have j2:Hid (X0.width<=64/\X1.width<=64/\X2.width<=64):=⟨by rw[<-b5.o];exact Eu _ _,by rw[<-b6.o];exact Nf _ _ _,by rw[<-b7.o];exact Nf _ _ _⟩
 rcases (show o=38∨o=39∨o=40∨o=41 by have:=HO.o;omega) with rfl|rfl|rfl|rfl
 ·have d:Hid (Oj (Ov (On S)) ⟨38,so,V,a,b,kk⟩ ks=(decide (so=Oc)&&decide (kS ks 0=kS ks 1)&&decide (X1.kind=4))):=by unfold Hid Oj;simp only;rw[b5.o,b6.o,b7.o];rfl
  have a7:2<=ks.length:=by simpa[Kh] using HL.o
  rcases HK.o with e0|⟨bb,rfl,J,A⟩
  ·rw[e0] at a7;cases a7
  have Z:=(j.o.cell (p:=⟨bb,0,none⟩) J).trans (A 0 (by omega));have G:kS ks 0=ks[0]:=by unfold kS;rw[Jf (by omega)];rfl
  have f5:(0:Int)<(ks.length:Int):=by omega
  have c8:=(j.o.cell (p:=⟨bb,1,none⟩) J).trans (A 1 (by omega));have I:kS ks 1=ks[1]:=by unfold kS;rw[Jf (by omega)];rfl
  have f8:(1:Int)<(ks.length:Int):=by omega
  rw[G,I] at d;generalize ks[0]=k0 at Z d G;generalize ks[1]=k1 at c8 d I;clear A G I
  rcases U8 so [66,111,111,108] with⟨E,q0⟩|⟨E,q0⟩
  ·rcases Nk k0 k1 with⟨K,q1⟩|⟨K,q1⟩
   ·rcases Em X1.kind 4 with⟨p2,q2⟩|⟨p2,q2⟩
    ·have F:Hid (Oj (Ov (On S)) ⟨38,so,V,a,b,kk⟩ ks=true):=by unfold Hid;rw[d.o,Jb (show so=Oc from E),Jb K,Jb p2];rfl
     clear E K p2
     go_wp2
     go_quiet (fail)
     go_wp2
     go_ret
     exact⟨Oz F.o.symm,below_drewN j.o _⟩
    have F:Hid (Oj (Ov (On S)) ⟨38,so,V,a,b,kk⟩ ks=false):=by unfold Hid;rw[d.o,Jb (show so=Oc from E),Jb K,Jg p2];rfl
    clear E K p2
    go_wp2
    go_quiet (fail)
    go_wp2
    go_ret
    exact⟨Oz F.o.symm,below_drewN j.o _⟩
   have F:Hid (Oj (Ov (On S)) ⟨38,so,V,a,b,kk⟩ ks=false):=by unfold Hid;rw[d.o,Jb (show so=Oc from E),Jg K];rfl
   clear E K
   go_wp2
   go_quiet (fail)
   go_wp2
   go_ret
   exact⟨Oz F.o.symm,below_drewN j.o _⟩
  have F:Hid (Oj (Ov (On S)) ⟨38,so,V,a,b,kk⟩ ks=false):=by unfold Hid;rw[d.o,Jg (show so≠Oc from E)];rfl
  clear E
  go_wp2
  go_quiet (fail)
  go_wp2
  go_ret
  exact⟨Oz F.o.symm,below_drewN j.o _⟩
 ·have d:Hid (Oj (Ov (On S)) ⟨39,so,V,a,b,kk⟩ ks=(decide (so=Oc)&&decide (kS ks 0=kS ks 1)&&decide (X1.kind=4))):=by unfold Hid Oj;simp only;rw[b5.o,b6.o,b7.o];rfl
  have a7:2<=ks.length:=by simpa[Kh] using HL.o
  rcases HK.o with e0|⟨bb,rfl,J,A⟩
  ·rw[e0] at a7;cases a7
  have Z:=(j.o.cell (p:=⟨bb,0,none⟩) J).trans (A 0 (by omega));have G:kS ks 0=ks[0]:=by unfold kS;rw[Jf (by omega)];rfl
  have f5:(0:Int)<(ks.length:Int):=by omega
  have c8:=(j.o.cell (p:=⟨bb,1,none⟩) J).trans (A 1 (by omega));have I:kS ks 1=ks[1]:=by unfold kS;rw[Jf (by omega)];rfl
  have f8:(1:Int)<(ks.length:Int):=by omega
  rw[G,I] at d;generalize ks[0]=k0 at Z d G;generalize ks[1]=k1 at c8 d I;clear A G I
  rcases U8 so [66,111,111,108] with⟨E,q0⟩|⟨E,q0⟩
  ·rcases Nk k0 k1 with⟨K,q1⟩|⟨K,q1⟩
   ·rcases Em X1.kind 4 with⟨p2,q2⟩|⟨p2,q2⟩
    ·have F:Hid (Oj (Ov (On S)) ⟨39,so,V,a,b,kk⟩ ks=true):=by unfold Hid;rw[d.o,Jb (show so=Oc from E),Jb K,Jb p2];rfl
     clear E K p2
     go_wp2
     go_quiet (fail)
     go_wp2
     go_ret
     exact⟨Oz F.o.symm,below_drewN j.o _⟩
    have F:Hid (Oj (Ov (On S)) ⟨39,so,V,a,b,kk⟩ ks=false):=by unfold Hid;rw[d.o,Jb (show so=Oc from E),Jb K,Jg p2];rfl
    clear E K p2
    go_wp2
    go_quiet (fail)
    go_wp2
    go_ret
    exact⟨Oz F.o.symm,below_drewN j.o _⟩
   have F:Hid (Oj (Ov (On S)) ⟨39,so,V,a,b,kk⟩ ks=false):=by unfold Hid;rw[d.o,Jb (show so=Oc from E),Jg K];rfl
   clear E K
   go_wp2
   go_quiet (fail)
   go_wp2
   go_ret
   exact⟨Oz F.o.symm,below_drewN j.o _⟩
  have F:Hid (Oj (Ov (On S)) ⟨39,so,V,a,b,kk⟩ ks=false):=by unfold Hid;rw[d.o,Jg (show so≠Oc from E)];rfl
  clear E
  go_wp2
  go_quiet (fail)
  go_wp2
  go_ret
  exact⟨Oz F.o.symm,below_drewN j.o _⟩
 ·have d:Hid (Oj (Ov (On S)) ⟨40,so,V,a,b,kk⟩ ks=(decide (so=Oc)&&decide (kS ks 0=kS ks 1)&&decide (X1.kind=4))):=by unfold Hid Oj;simp only;rw[b5.o,b6.o,b7.o];rfl
  have a7:2<=ks.length:=by simpa[Kh] using HL.o
  rcases HK.o with e0|⟨bb,rfl,J,A⟩
  ·rw[e0] at a7;cases a7
  have Z:=(j.o.cell (p:=⟨bb,0,none⟩) J).trans (A 0 (by omega));have G:kS ks 0=ks[0]:=by unfold kS;rw[Jf (by omega)];rfl
  have f5:(0:Int)<(ks.length:Int):=by omega
  have c8:=(j.o.cell (p:=⟨bb,1,none⟩) J).trans (A 1 (by omega));have I:kS ks 1=ks[1]:=by unfold kS;rw[Jf (by omega)];rfl
  have f8:(1:Int)<(ks.length:Int):=by omega
  rw[G,I] at d;generalize ks[0]=k0 at Z d G;generalize ks[1]=k1 at c8 d I;clear A G I
  rcases U8 so [66,111,111,108] with⟨E,q0⟩|⟨E,q0⟩
  ·rcases Nk k0 k1 with⟨K,q1⟩|⟨K,q1⟩
   ·rcases Em X1.kind 4 with⟨p2,q2⟩|⟨p2,q2⟩
    ·have F:Hid (Oj (Ov (On S)) ⟨40,so,V,a,b,kk⟩ ks=true):=by unfold Hid;rw[d.o,Jb (show so=Oc from E),Jb K,Jb p2];rfl
     clear E K p2
     go_wp2
     go_quiet (fail)
     go_wp2
     go_ret
     exact⟨Oz F.o.symm,below_drewN j.o _⟩
    have F:Hid (Oj (Ov (On S)) ⟨40,so,V,a,b,kk⟩ ks=false):=by unfold Hid;rw[d.o,Jb (show so=Oc from E),Jb K,Jg p2];rfl
    clear E K p2
    go_wp2
    go_quiet (fail)
    go_wp2
    go_ret
    exact⟨Oz F.o.symm,below_drewN j.o _⟩
   have F:Hid (Oj (Ov (On S)) ⟨40,so,V,a,b,kk⟩ ks=false):=by unfold Hid;rw[d.o,Jb (show so=Oc from E),Jg K];rfl
   clear E K
   go_wp2
   go_quiet (fail)
   go_wp2
   go_ret
   exact⟨Oz F.o.symm,below_drewN j.o _⟩
  have F:Hid (Oj (Ov (On S)) ⟨40,so,V,a,b,kk⟩ ks=false):=by unfold Hid;rw[d.o,Jg (show so≠Oc from E)];rfl
  clear E
  go_wp2
  go_quiet (fail)
  go_wp2
  go_ret
  exact⟨Oz F.o.symm,below_drewN j.o _⟩
 have d:Hid (Oj (Ov (On S)) ⟨41,so,V,a,b,kk⟩ ks=(decide (so=Oc)&&decide (kS ks 0=kS ks 1)&&decide (X1.kind=4))):=by unfold Hid Oj;simp only;rw[b5.o,b6.o,b7.o];rfl
 have a7:2<=ks.length:=by simpa[Kh] using HL.o
 rcases HK.o with e0|⟨bb,rfl,J,A⟩
 ·rw[e0] at a7;cases a7
 have Z:=(j.o.cell (p:=⟨bb,0,none⟩) J).trans (A 0 (by omega));have G:kS ks 0=ks[0]:=by unfold kS;rw[Jf (by omega)];rfl
 have f5:(0:Int)<(ks.length:Int):=by omega
 have c8:=(j.o.cell (p:=⟨bb,1,none⟩) J).trans (A 1 (by omega));have I:kS ks 1=ks[1]:=by unfold kS;rw[Jf (by omega)];rfl
 have f8:(1:Int)<(ks.length:Int):=by omega
 rw[G,I] at d;generalize ks[0]=k0 at Z d G;generalize ks[1]=k1 at c8 d I;clear A G I
 rcases U8 so [66,111,111,108] with⟨E,q0⟩|⟨E,q0⟩
 ·rcases Nk k0 k1 with⟨K,q1⟩|⟨K,q1⟩
  ·rcases Em X1.kind 4 with⟨p2,q2⟩|⟨p2,q2⟩
   ·have F:Hid (Oj (Ov (On S)) ⟨41,so,V,a,b,kk⟩ ks=true):=by unfold Hid;rw[d.o,Jb (show so=Oc from E),Jb K,Jb p2];rfl
    clear E K p2
    go_wp2
    go_quiet (fail)
    go_wp2
    go_ret
    exact⟨Oz F.o.symm,below_drewN j.o _⟩
   have F:Hid (Oj (Ov (On S)) ⟨41,so,V,a,b,kk⟩ ks=false):=by unfold Hid;rw[d.o,Jb (show so=Oc from E),Jb K,Jg p2];rfl
   clear E K p2
   go_wp2
   go_quiet (fail)
   go_wp2
   go_ret
   exact⟨Oz F.o.symm,below_drewN j.o _⟩
  have F:Hid (Oj (Ov (On S)) ⟨41,so,V,a,b,kk⟩ ks=false):=by unfold Hid;rw[d.o,Jb (show so=Oc from E),Jg K];rfl
  clear E K
  go_wp2
  go_quiet (fail)
  go_wp2
  go_ret
  exact⟨Oz F.o.symm,below_drewN j.o _⟩
 have F:Hid (Oj (Ov (On S)) ⟨41,so,V,a,b,kk⟩ ks=false):=by unfold Hid;rw[d.o,Jg (show so≠Oc from E)];rfl
 clear E
 go_wp2
 go_quiet (fail)
 go_wp2
 go_ret
 exact⟨Oz F.o.symm,below_drewN j.o _⟩
end Go.Proofs.YtipgjenolpofpaaGreatDoor
