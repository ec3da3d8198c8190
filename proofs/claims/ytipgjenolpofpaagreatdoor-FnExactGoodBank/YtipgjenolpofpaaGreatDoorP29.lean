import Derived.Test.YtipgjenolpofpaaGreatDoorP25
set_option maxRecDepth 100000
set_option maxHeartbeats 8000000
namespace Go.Proofs.YtipgjenolpofpaaGreatDoor
open Go.ChangeShapes Go.WideShapes Go.ChangeAt Go.RowKit Go.Proofs.Tryz
theorem ZC (vs vf vt:Value)(S:List (List UInt8))(t:Tm)(vk vks:Value)(ks:List (List UInt8))(w:World)(hS:O8 w vs S)(hks:O8 w vks ks)(hzs:t.sort.length<=1048576)(hzt:t.text.length<=1048576)(hz:∀ k∈ks,k.length<=1048576)(hlen:Kg t.op<=ks.length)(ho:38<=t.op/\t.op<=41) :
 Calls prog 72 #[.agg #[vs,vf,vt],.agg #[.int .i64 t.op,.string (Oo t.sort),.string (Oo t.text),.int .i64 t.a,.int .i64 t.b,vk],vks] w fun e w'=>e=.returned (.bool (Oj (Ov (On S)) t ks))/\Up w w':=by
 obtain⟨pk,ck,rfl,k1,k2,k3⟩:=hks;obtain⟨o,so,V,a,b,kk⟩:=t;simp only at hzs hzt hlen ho ⊢;have HS:=Hd hS;have HK:=Hd k3;have HZ:=Hd hz;have HL:=Hd hlen;have HO:=Hd ho;unfold maxLen at k2;have g2:(Oo so).size<=1048576:=by show so.toArray.size<=_;simpa using hzs
 have i6:(Oo V).size<=1048576:=by show V.toArray.size<=_;simpa using hzt
 clear hS k3 hz hlen ho
 go_enter func72,ntmps72
 go_wp2_with fail
 obtain⟨W1,d0⟩:=O1 ((w.alloc (.cells #[vs,vf,vt] 32)).alloc (.cells #[.int .i64 o,.string (Oo so),.string (Oo V),.int .i64 a,.int .i64 b,vk] 57));have e7:Hid (Up w W1):=by unfold Hid;rw[<-d0];exact ((Jh _ _).alloc Of _).alloc (by rw[Ji];omega) _
 have g1:Hid (W1.heap.size=w.heap.size+2):=by unfold Hid;rw[<-d0];simp
 have e4:Hid (Bx W1 w.heap.size [vs,vf,vt]):=by unfold Hid;rw[<-d0];exact (Ox w _ _).alloc _
 have e9:Hid (Bx W1 (w.heap.size+1) [.int .i64 o,.string (Oo so),.string (Oo V),.int .i64 a,.int .i64 b,vk]):=by unfold Hid;rw[<-d0];have h:=Ox (w.alloc (.cells #[vs,vf,vt] 32)) [.int .i64 o,.string (Oo so),.string (Oo V),.int .i64 a,.int .i64 b,vk] 57;rw[Ji] at h;exact h
 rw[d0];clear d0;refine (Kz vs S (Oo so) _ (HS.o.below e7.o) g2).mono ?_;rw[Ou];obtain⟨X0,e5⟩:=O1 (Ov (On S) so);have b5:=Hd e5;rw[e5];clear e5;rintro e w2 ⟨rfl,d5⟩;unfold Gy
 go_upto_if 20 with fail
 have b4:Hid (Wd (((w2.alloc (.cells #[.int .i64 X0.kind,.int .i64 (X0.width:Nat),.string (Oo X0.index),.string (Oo X0.elem)] 110)).alloc (.cells #[.int .i64 0,.int .i64 0,.string ⟨#[]⟩,.string ⟨#[]⟩] 110)).alloc (.cells #[.int .i64 0,.int .i64 0,.string ⟨#[]⟩,.string ⟨#[]⟩] 110)) w.heap.size w2.heap.size [vs,vf,vt] [.int .i64 o,.string (Oo so),.string (Oo V),.int .i64 a,.int .i64 b,vk] X0 SI.none SI.none w):=by
  have j5:=g1.o;have i8:=d5.size;have h2:=e4.o.below e4.o.lt d5;have g9:=e9.o.below e9.o.lt d5;have q0:=Ox w2 (Ri X0) 110;have q1:=Ox (w2.alloc (.cells (Ri X0).toArray 110)) (Ri SI.none) 110;have q2:=Ox ((w2.alloc (.cells (Ri X0).toArray 110)).alloc (.cells (Ri SI.none).toArray 110)) (Ri SI.none) 110;rw[Ji] at q1;rw[Ji,Ji] at q2;refine⟨((h2.alloc _).alloc _).alloc _,((g9.alloc _).alloc _).alloc _,(q0.alloc _).alloc _,q1.alloc _,q2,by omega,?_⟩;have g8:Up w w2:=e7.o.trans (d5.mono (by omega));exact ((g8.alloc (by omega) _).alloc (by rw[Ji];omega) _).alloc (by rw[Ji,Ji];omega) _
 obtain⟨W3,g3⟩:=O1 (((w2.alloc (.cells #[.int .i64 X0.kind,.int .i64 (X0.width:Nat),.string (Oo X0.index),.string (Oo X0.elem)] 110)).alloc (.cells #[.int .i64 0,.int .i64 0,.string ⟨#[]⟩,.string ⟨#[]⟩] 110)).alloc (.cells #[.int .i64 0,.int .i64 0,.string ⟨#[]⟩,.string ⟨#[]⟩] 110));rw[g3] at b4 ⊢;clear g3 d5 e7 g1 e4 e9;generalize w2.heap.size=M at b4 ⊢;have j2:=Hd b4.o.le
 go_cut [20] (fun s20 wx=>s20=.bool (decide (0<ks.length))/\Wd wx w.heap.size M [vs,vf,vt] [.int .i64 o,.string (Oo so),.string (Oo V),.int .i64 a,.int .i64 b,vk] X0 (Kl (Ov (On S)) ks 0) SI.none w)
 case first=>
  by_cases h0:0<ks.length
  ·rcases HK.o with e0|⟨bb,rfl,J,A⟩
   ·rw[e0] at h0;cases h0
   have a7:=(b4.o.bel.cell (p:=⟨bb,0,none⟩) J).trans (A 0 h0);have e3:=b4.o.bank.cell 0;simp only[Jo] at e3;have HR:Hid (Kl (Ov (On S)) ks 0=Ov (On S) ks[0]):=by unfold Hid Kl kS;rw[if_pos h0,Jf h0];rfl
   have d4:(Oo ks[0]).size<=1048576:=by show ks[0].toArray.size<=_;simpa using HZ.o _ (Jw h0)
   generalize ks[0]=k0 at a7 HR d4;have i0:(0:Int)<(ks.length:Int):=by omega
   clear A
   go_wp2_with fail
   go_region_with (go_at_call 81;refine (Kz vs S (Oo k0) W3.drew (HS.o.below b4.o.bel.drew) d4).mono ?_;rw[Ou,<-HR.o];rintro e w3 ⟨rfl,Y⟩;have U:=Hd (b4.o.below (wy:=w3) ⟨Y.os,Y.tape,Y.output,Y.size,Y.block⟩);clear Y;obtain⟨x0,x1,x2,x3⟩:=U.o.x.c4;have f0:=U.o.x.frozen 0;have f1:=U.o.x.frozen 1;have f2:=U.o.x.frozen 2;have f3:=U.o.x.frozen 3;unfold Gy)
   all_goals (go_wp2_with fail;go_meet;exact⟨by simp[h0],U.o.setx _⟩)
  ·have e:Kl (Ov (On S)) ks 0=SI.none:=by unfold Kl;rw[if_neg h0]
   have HE:=Hd e;clear e
   go_wp2_with fail
   go_meet
   exact⟨by simp[h0],by rw[HE.o];exact b4.o⟩
 case rest=>
  obtain⟨rfl,d2⟩:=hcut;have U:=Hd d2;clear d2 b4;obtain⟨X1,e6⟩:=O1 (Kl (Ov (On S)) ks 0);have b7:=Hd e6;rw[e6] at U;clear e6
  go_upto_if 29 with fail
  go_cut [29] (fun s29 wx=>s29=.bool (decide ((1:Int)<(ks.length:Int)))/\Wd wx w.heap.size M [vs,vf,vt] [.int .i64 o,.string (Oo so),.string (Oo V),.int .i64 a,.int .i64 b,vk] X0 X1 (Kl (Ov (On S)) ks 1) w)
  case first=>
   by_cases h0:1<ks.length
   ·rcases HK.o with e0|⟨bb,rfl,J,A⟩
    ·rw[e0] at h0;cases h0
    have a7:=(U.o.bel.cell (p:=⟨bb,1,none⟩) J).trans (A 1 h0);have e3:=U.o.bank.cell 0;simp only[Jo] at e3;have HR:Hid (Kl (Ov (On S)) ks 1=Ov (On S) ks[1]):=by unfold Hid Kl kS;rw[if_pos h0,Jf h0];rfl
    have d4:(Oo ks[1]).size<=1048576:=by show ks[1].toArray.size<=_;simpa using HZ.o _ (Jw h0)
    generalize ks[1]=k0 at a7 HR d4;have i0:(1:Int)<(ks.length:Int):=by omega
    clear A
    go_wp2_with fail
    go_region_with (go_at_call 81;refine (Kz vs S (Oo k0) wc.drew (HS.o.below U.o.bel.drew) d4).mono ?_;rw[Ou,<-HR.o];rintro e w3 ⟨rfl,Y⟩;have O:=Hd (U.o.below (wy:=w3) ⟨Y.os,Y.tape,Y.output,Y.size,Y.block⟩);clear Y;obtain⟨x0,x1,x2,x3⟩:=O.o.y.c4;have f0:=O.o.y.frozen 0;have f1:=O.o.y.frozen 1;have f2:=O.o.y.frozen 2;have f3:=O.o.y.frozen 3;unfold Gy)
    all_goals (go_wp2_with fail;go_meet;exact⟨by simp[i0],O.o.sety _⟩)
   ·have e:Kl (Ov (On S)) ks 1=SI.none:=by unfold Kl;rw[if_neg h0]
    have HE:=Hd e;clear e;have i0:(ks.length:Int)<=1:=by omega
    have i1:¬ (1:Int)<(ks.length:Int):=by omega
    go_wp2_with fail
    go_meet
    exact⟨by simp,by rw[HE.o];exact U.o⟩
  case rest=>
   obtain⟨rfl,d2⟩:=hcut;have O:=Hd d2;clear d2 U;obtain⟨X2,f5⟩:=O1 (Kl (Ov (On S)) ks 1);have b6:=Hd f5;rw[f5] at O;clear f5;obtain⟨s0,s1,s2,s3⟩:=O.o.s.c4;obtain⟨x0,x1,x2,x3⟩:=O.o.x.c4;obtain⟨y0,y1,y2,y3⟩:=O.o.y.c4;obtain⟨t0,t1,t2,t3,t4⟩:=O.o.term.k5;have j:=Hd O.o.bel;clear O;have j1:Hid (X0.width<=64/\X1.width<=64/\X2.width<=64):=⟨by rw[<-b5.o];exact Eu _ _,by rw[<-b7.o];exact Nm _ _ _,by rw[<-b6.o];exact Nm _ _ _⟩
   rcases (show o=38∨o=39∨o=40∨o=41 by have:=HO.o;omega) with rfl|rfl|rfl|rfl
   ·have d:Hid (Oj (Ov (On S)) ⟨38,so,V,a,b,kk⟩ ks=(decide (so=Oc)&&decide (kS ks 0=kS ks 1)&&decide (X1.kind=4))):=by unfold Hid Oj;simp only;rw[b5.o,b7.o,b6.o];rfl
    have a8:2<=ks.length:=by simpa[Kg] using HL.o
    rcases HK.o with e0|⟨bb,rfl,J,A⟩
    ·rw[e0] at a8;cases a8
    have a7:=(j.o.cell (p:=⟨bb,0,none⟩) J).trans (A 0 (by omega));have K:kS ks 0=ks[0]:=by unfold kS;rw[Jf (by omega)];rfl
    have f8:(0:Int)<(ks.length:Int):=by omega
    have c6:=(j.o.cell (p:=⟨bb,1,none⟩) J).trans (A 1 (by omega));have G:kS ks 1=ks[1]:=by unfold kS;rw[Jf (by omega)];rfl
    have e8:(1:Int)<(ks.length:Int):=by omega
    rw[K,G] at d;generalize ks[0]=k0 at a7 d K;generalize ks[1]=k1 at c6 d G;clear A K G
    rcases U8 so [66,111,111,108] with⟨E,q0⟩|⟨E,q0⟩
    ·rcases Nv k0 k1 with⟨I,q1⟩|⟨I,q1⟩
     ·rcases Em X1.kind 4 with⟨Z,q2⟩|⟨Z,q2⟩
      ·have F:Hid (Oj (Ov (On S)) ⟨38,so,V,a,b,kk⟩ ks=true):=by unfold Hid;rw[d.o,Jb (show so=Oc from E),Jb I,Jb Z];rfl
       clear E I Z
       go_wp2_with fail
       go_quiet (fail)
       go_wp2_with fail
       go_ret
       exact⟨Oz F.o.symm,below_drewN j.o _⟩
      ·have F:Hid (Oj (Ov (On S)) ⟨38,so,V,a,b,kk⟩ ks=false):=by unfold Hid;rw[d.o,Jb (show so=Oc from E),Jb I,Jg Z];rfl
       clear E I Z
       go_wp2_with fail
       go_quiet (fail)
       go_wp2_with fail
       go_ret
       exact⟨Oz F.o.symm,below_drewN j.o _⟩
     ·have F:Hid (Oj (Ov (On S)) ⟨38,so,V,a,b,kk⟩ ks=false):=by unfold Hid;rw[d.o,Jb (show so=Oc from E),Jg I];rfl
      clear E I
      go_wp2_with fail
      go_quiet (fail)
      go_wp2_with fail
      go_ret
      exact⟨Oz F.o.symm,below_drewN j.o _⟩
    ·have F:Hid (Oj (Ov (On S)) ⟨38,so,V,a,b,kk⟩ ks=false):=by unfold Hid;rw[d.o,Jg (show so≠Oc from E)];rfl
     clear E
     go_wp2_with fail
     go_quiet (fail)
     go_wp2_with fail
     go_ret
     exact⟨Oz F.o.symm,below_drewN j.o _⟩
   ·have d:Hid (Oj (Ov (On S)) ⟨39,so,V,a,b,kk⟩ ks=(decide (so=Oc)&&decide (kS ks 0=kS ks 1)&&decide (X1.kind=4))):=by unfold Hid Oj;simp only;rw[b5.o,b7.o,b6.o];rfl
    have a8:2<=ks.length:=by simpa[Kg] using HL.o
    rcases HK.o with e0|⟨bb,rfl,J,A⟩
    ·rw[e0] at a8;cases a8
    have a7:=(j.o.cell (p:=⟨bb,0,none⟩) J).trans (A 0 (by omega));have K:kS ks 0=ks[0]:=by unfold kS;rw[Jf (by omega)];rfl
    have f8:(0:Int)<(ks.length:Int):=by omega
    have c6:=(j.o.cell (p:=⟨bb,1,none⟩) J).trans (A 1 (by omega));have G:kS ks 1=ks[1]:=by unfold kS;rw[Jf (by omega)];rfl
    have e8:(1:Int)<(ks.length:Int):=by omega
    rw[K,G] at d;generalize ks[0]=k0 at a7 d K;generalize ks[1]=k1 at c6 d G;clear A K G
    rcases U8 so [66,111,111,108] with⟨E,q0⟩|⟨E,q0⟩
    ·rcases Nv k0 k1 with⟨I,q1⟩|⟨I,q1⟩
     ·rcases Em X1.kind 4 with⟨Z,q2⟩|⟨Z,q2⟩
      ·have F:Hid (Oj (Ov (On S)) ⟨39,so,V,a,b,kk⟩ ks=true):=by unfold Hid;rw[d.o,Jb (show so=Oc from E),Jb I,Jb Z];rfl
       clear E I Z
       go_wp2_with fail
       go_quiet (fail)
       go_wp2_with fail
       go_ret
       exact⟨Oz F.o.symm,below_drewN j.o _⟩
      ·have F:Hid (Oj (Ov (On S)) ⟨39,so,V,a,b,kk⟩ ks=false):=by unfold Hid;rw[d.o,Jb (show so=Oc from E),Jb I,Jg Z];rfl
       clear E I Z
       go_wp2_with fail
       go_quiet (fail)
       go_wp2_with fail
       go_ret
       exact⟨Oz F.o.symm,below_drewN j.o _⟩
     ·have F:Hid (Oj (Ov (On S)) ⟨39,so,V,a,b,kk⟩ ks=false):=by unfold Hid;rw[d.o,Jb (show so=Oc from E),Jg I];rfl
      clear E I
      go_wp2_with fail
      go_quiet (fail)
      go_wp2_with fail
      go_ret
      exact⟨Oz F.o.symm,below_drewN j.o _⟩
    ·have F:Hid (Oj (Ov (On S)) ⟨39,so,V,a,b,kk⟩ ks=false):=by unfold Hid;rw[d.o,Jg (show so≠Oc from E)];rfl
     clear E
     go_wp2_with fail
     go_quiet (fail)
     go_wp2_with fail
     go_ret
     exact⟨Oz F.o.symm,below_drewN j.o _⟩
   ·have d:Hid (Oj (Ov (On S)) ⟨40,so,V,a,b,kk⟩ ks=(decide (so=Oc)&&decide (kS ks 0=kS ks 1)&&decide (X1.kind=4))):=by unfold Hid Oj;simp only;rw[b5.o,b7.o,b6.o];rfl
    have a8:2<=ks.length:=by simpa[Kg] using HL.o
    rcases HK.o with e0|⟨bb,rfl,J,A⟩
    ·rw[e0] at a8;cases a8
    have a7:=(j.o.cell (p:=⟨bb,0,none⟩) J).trans (A 0 (by omega));have K:kS ks 0=ks[0]:=by unfold kS;rw[Jf (by omega)];rfl
    have f8:(0:Int)<(ks.length:Int):=by omega
    have c6:=(j.o.cell (p:=⟨bb,1,none⟩) J).trans (A 1 (by omega));have G:kS ks 1=ks[1]:=by unfold kS;rw[Jf (by omega)];rfl
    have e8:(1:Int)<(ks.length:Int):=by omega
    rw[K,G] at d;generalize ks[0]=k0 at a7 d K;generalize ks[1]=k1 at c6 d G;clear A K G
    rcases U8 so [66,111,111,108] with⟨E,q0⟩|⟨E,q0⟩
    ·rcases Nv k0 k1 with⟨I,q1⟩|⟨I,q1⟩
     ·rcases Em X1.kind 4 with⟨Z,q2⟩|⟨Z,q2⟩
      ·have F:Hid (Oj (Ov (On S)) ⟨40,so,V,a,b,kk⟩ ks=true):=by unfold Hid;rw[d.o,Jb (show so=Oc from E),Jb I,Jb Z];rfl
       clear E I Z
       go_wp2_with fail
       go_quiet (fail)
       go_wp2_with fail
       go_ret
       exact⟨Oz F.o.symm,below_drewN j.o _⟩
      ·have F:Hid (Oj (Ov (On S)) ⟨40,so,V,a,b,kk⟩ ks=false):=by unfold Hid;rw[d.o,Jb (show so=Oc from E),Jb I,Jg Z];rfl
       clear E I Z
       go_wp2_with fail
       go_quiet (fail)
       go_wp2_with fail
       go_ret
       exact⟨Oz F.o.symm,below_drewN j.o _⟩
     ·have F:Hid (Oj (Ov (On S)) ⟨40,so,V,a,b,kk⟩ ks=false):=by unfold Hid;rw[d.o,Jb (show so=Oc from E),Jg I];rfl
      clear E I
      go_wp2_with fail
      go_quiet (fail)
      go_wp2_with fail
      go_ret
      exact⟨Oz F.o.symm,below_drewN j.o _⟩
    ·have F:Hid (Oj (Ov (On S)) ⟨40,so,V,a,b,kk⟩ ks=false):=by unfold Hid;rw[d.o,Jg (show so≠Oc from E)];rfl
     clear E
     go_wp2_with fail
     go_quiet (fail)
     go_wp2_with fail
     go_ret
     exact⟨Oz F.o.symm,below_drewN j.o _⟩
   ·have d:Hid (Oj (Ov (On S)) ⟨41,so,V,a,b,kk⟩ ks=(decide (so=Oc)&&decide (kS ks 0=kS ks 1)&&decide (X1.kind=4))):=by unfold Hid Oj;simp only;rw[b5.o,b7.o,b6.o];rfl
    have a8:2<=ks.length:=by simpa[Kg] using HL.o
    rcases HK.o with e0|⟨bb,rfl,J,A⟩
    ·rw[e0] at a8;cases a8
    have a7:=(j.o.cell (p:=⟨bb,0,none⟩) J).trans (A 0 (by omega));have K:kS ks 0=ks[0]:=by unfold kS;rw[Jf (by omega)];rfl
    have f8:(0:Int)<(ks.length:Int):=by omega
    have c6:=(j.o.cell (p:=⟨bb,1,none⟩) J).trans (A 1 (by omega));have G:kS ks 1=ks[1]:=by unfold kS;rw[Jf (by omega)];rfl
    have e8:(1:Int)<(ks.length:Int):=by omega
    rw[K,G] at d;generalize ks[0]=k0 at a7 d K;generalize ks[1]=k1 at c6 d G;clear A K G
    rcases U8 so [66,111,111,108] with⟨E,q0⟩|⟨E,q0⟩
    ·rcases Nv k0 k1 with⟨I,q1⟩|⟨I,q1⟩
     ·rcases Em X1.kind 4 with⟨Z,q2⟩|⟨Z,q2⟩
      ·have F:Hid (Oj (Ov (On S)) ⟨41,so,V,a,b,kk⟩ ks=true):=by unfold Hid;rw[d.o,Jb (show so=Oc from E),Jb I,Jb Z];rfl
       clear E I Z
       go_wp2_with fail
       go_quiet (fail)
       go_wp2_with fail
       go_ret
       exact⟨Oz F.o.symm,below_drewN j.o _⟩
      ·have F:Hid (Oj (Ov (On S)) ⟨41,so,V,a,b,kk⟩ ks=false):=by unfold Hid;rw[d.o,Jb (show so=Oc from E),Jb I,Jg Z];rfl
       clear E I Z
       go_wp2_with fail
       go_quiet (fail)
       go_wp2_with fail
       go_ret
       exact⟨Oz F.o.symm,below_drewN j.o _⟩
     ·have F:Hid (Oj (Ov (On S)) ⟨41,so,V,a,b,kk⟩ ks=false):=by unfold Hid;rw[d.o,Jb (show so=Oc from E),Jg I];rfl
      clear E I
      go_wp2_with fail
      go_quiet (fail)
      go_wp2_with fail
      go_ret
      exact⟨Oz F.o.symm,below_drewN j.o _⟩
    ·have F:Hid (Oj (Ov (On S)) ⟨41,so,V,a,b,kk⟩ ks=false):=by unfold Hid;rw[d.o,Jg (show so≠Oc from E)];rfl
     clear E
     go_wp2_with fail
     go_quiet (fail)
     go_wp2_with fail
     go_ret
     exact⟨Oz F.o.symm,below_drewN j.o _⟩
end Go.Proofs.YtipgjenolpofpaaGreatDoor
