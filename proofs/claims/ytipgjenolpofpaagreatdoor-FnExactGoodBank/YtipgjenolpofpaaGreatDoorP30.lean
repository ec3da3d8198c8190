import Derived.Test.YtipgjenolpofpaaGreatDoorP25
set_option maxRecDepth 100000
set_option maxHeartbeats 8000000
namespace Go.Proofs.YtipgjenolpofpaaGreatDoor
open Go.ChangeShapes Go.WideShapes Go.ChangeAt Go.RowKit Go.Proofs.Tryz
theorem Wb (vs vf vt:Value)(S:List (List UInt8))(t:Tm)(vk vks:Value)(ks:List (List UInt8))(w:World)(hS:O8 w vs S)(hks:O8 w vks ks)(hzs:t.sort.length<=1048576)(hzt:t.text.length<=1048576)(hz:∀ k∈ks,k.length<=1048576)(hlen:Kg t.op<=ks.length)(ho:46<=t.op/\t.op<=47) :
 Calls prog 72 #[.agg #[vs,vf,vt],.agg #[.int .i64 t.op,.string (Oo t.sort),.string (Oo t.text),.int .i64 t.a,.int .i64 t.b,vk],vks] w fun e w'=>e=.returned (.bool (Oj (Ov (On S)) t ks))/\Up w w':=by
 obtain⟨pk,ck,rfl,k1,k2,k3⟩:=hks;obtain⟨o,so,V,a,b,kk⟩:=t;simp only at hzs hzt hlen ho ⊢;have HS:=Hd hS;have HK:=Hd k3;have HZ:=Hd hz;have HL:=Hd hlen;have HO:=Hd ho;unfold maxLen at k2;have f9:(Oo so).size<=1048576:=by show so.toArray.size<=_;simpa using hzs
 have i8:(Oo V).size<=1048576:=by show V.toArray.size<=_;simpa using hzt
 clear hS k3 hz hlen ho
 go_enter func72,ntmps72
 go_wp2_with fail
 obtain⟨W1,b4⟩:=O1 ((w.alloc (.cells #[vs,vf,vt] 32)).alloc (.cells #[.int .i64 o,.string (Oo so),.string (Oo V),.int .i64 a,.int .i64 b,vk] 57));have e1:Hid (Up w W1):=by unfold Hid;rw[<-b4];exact ((Jh _ _).alloc Of _).alloc (by rw[Ji];omega) _
 have f5:Hid (W1.heap.size=w.heap.size+2):=by unfold Hid;rw[<-b4];simp
 have d6:Hid (Bx W1 w.heap.size [vs,vf,vt]):=by unfold Hid;rw[<-b4];exact (Ox w _ _).alloc _
 have e3:Hid (Bx W1 (w.heap.size+1) [.int .i64 o,.string (Oo so),.string (Oo V),.int .i64 a,.int .i64 b,vk]):=by unfold Hid;rw[<-b4];have h:=Ox (w.alloc (.cells #[vs,vf,vt] 32)) [.int .i64 o,.string (Oo so),.string (Oo V),.int .i64 a,.int .i64 b,vk] 57;rw[Ji] at h;exact h
 rw[b4];clear b4;refine (Kz vs S (Oo so) _ (HS.o.below e1.o) f9).mono ?_;rw[Ou];obtain⟨O,d7⟩:=O1 (Ov (On S) so);have b6:=Hd d7;rw[d7];clear d7;rintro e w2 ⟨rfl,d1⟩;unfold Gy
 go_upto_if 20 with fail
 have U:Hid (Wd (((w2.alloc (.cells #[.int .i64 O.kind,.int .i64 (O.width:Nat),.string (Oo O.index),.string (Oo O.elem)] 110)).alloc (.cells #[.int .i64 0,.int .i64 0,.string ⟨#[]⟩,.string ⟨#[]⟩] 110)).alloc (.cells #[.int .i64 0,.int .i64 0,.string ⟨#[]⟩,.string ⟨#[]⟩] 110)) w.heap.size w2.heap.size [vs,vf,vt] [.int .i64 o,.string (Oo so),.string (Oo V),.int .i64 a,.int .i64 b,vk] O SI.none SI.none w):=by
  have k7:=f5.o;have j2:=d1.size;have h6:=d6.o.below d6.o.lt d1;have g9:=e3.o.below e3.o.lt d1;have q0:=Ox w2 (Ri O) 110;have q1:=Ox (w2.alloc (.cells (Ri O).toArray 110)) (Ri SI.none) 110;have q2:=Ox ((w2.alloc (.cells (Ri O).toArray 110)).alloc (.cells (Ri SI.none).toArray 110)) (Ri SI.none) 110;rw[Ji] at q1;rw[Ji,Ji] at q2;refine⟨((h6.alloc _).alloc _).alloc _,((g9.alloc _).alloc _).alloc _,(q0.alloc _).alloc _,q1.alloc _,q2,by omega,?_⟩;have g8:Up w w2:=e1.o.trans (d1.mono (by omega));exact ((g8.alloc (by omega) _).alloc (by rw[Ji];omega) _).alloc (by rw[Ji,Ji];omega) _
 obtain⟨W3,g1⟩:=O1 (((w2.alloc (.cells #[.int .i64 O.kind,.int .i64 (O.width:Nat),.string (Oo O.index),.string (Oo O.elem)] 110)).alloc (.cells #[.int .i64 0,.int .i64 0,.string ⟨#[]⟩,.string ⟨#[]⟩] 110)).alloc (.cells #[.int .i64 0,.int .i64 0,.string ⟨#[]⟩,.string ⟨#[]⟩] 110));rw[g1] at U ⊢;clear g1 d1 e1 f5 d6 e3;generalize w2.heap.size=M at U ⊢;have j6:=Hd U.o.le
 go_cut [20] (fun s20 wx=>s20=.bool (decide (0<ks.length))/\Wd wx w.heap.size M [vs,vf,vt] [.int .i64 o,.string (Oo so),.string (Oo V),.int .i64 a,.int .i64 b,vk] O (Kl (Ov (On S)) ks 0) SI.none w)
 case first=>
  by_cases Z:0<ks.length
  ·rcases HK.o with e0|⟨bb,rfl,K,A⟩
   ·rw[e0] at Z;cases Z
   have a8:=(U.o.bel.cell (p:=⟨bb,0,none⟩) K).trans (A 0 Z);have d5:=U.o.bank.cell 0;simp only[Jo] at d5;have HR:Hid (Kl (Ov (On S)) ks 0=Ov (On S) ks[0]):=by unfold Hid Kl kS;rw[if_pos Z,Jf Z];rfl
   have d0:(Oo ks[0]).size<=1048576:=by show ks[0].toArray.size<=_;simpa using HZ.o _ (Jw Z)
   generalize ks[0]=k0 at a8 HR d0;have i0:(0:Int)<(ks.length:Int):=by omega
   clear A
   go_wp2_with fail
   go_region_with (go_at_call 81;refine (Kz vs S (Oo k0) W3.drew (HS.o.below U.o.bel.drew) d0).mono ?_;rw[Ou,<-HR.o];rintro e w3 ⟨rfl,I⟩;have G:=Hd (U.o.below (wy:=w3) ⟨I.os,I.tape,I.output,I.size,I.block⟩);clear I;obtain⟨x0,x1,x2,x3⟩:=G.o.x.c4;have f0:=G.o.x.frozen 0;have f1:=G.o.x.frozen 1;have f2:=G.o.x.frozen 2;have f3:=G.o.x.frozen 3;unfold Gy)
   all_goals (go_wp2_with fail;go_meet;exact⟨by simp[Z],G.o.setx _⟩)
  ·have e:Kl (Ov (On S)) ks 0=SI.none:=by unfold Kl;rw[if_neg Z]
   have HE:=Hd e;clear e
   go_wp2_with fail
   go_meet
   exact⟨by simp[Z],by rw[HE.o];exact U.o⟩
 case rest=>
  obtain⟨rfl,b7⟩:=hcut;have G:=Hd b7;clear b7 U;obtain⟨X1,d8⟩:=O1 (Kl (Ov (On S)) ks 0);have c6:=Hd d8;rw[d8] at G;clear d8
  go_upto_if 29 with fail
  go_cut [29] (fun s29 wx=>s29=.bool (decide ((1:Int)<(ks.length:Int)))/\Wd wx w.heap.size M [vs,vf,vt] [.int .i64 o,.string (Oo so),.string (Oo V),.int .i64 a,.int .i64 b,vk] O X1 (Kl (Ov (On S)) ks 1) w)
  case first=>
   by_cases Z:1<ks.length
   ·rcases HK.o with e0|⟨bb,rfl,K,A⟩
    ·rw[e0] at Z;cases Z
    have a8:=(G.o.bel.cell (p:=⟨bb,1,none⟩) K).trans (A 1 Z);have d5:=G.o.bank.cell 0;simp only[Jo] at d5;have HR:Hid (Kl (Ov (On S)) ks 1=Ov (On S) ks[1]):=by unfold Hid Kl kS;rw[if_pos Z,Jf Z];rfl
    have d0:(Oo ks[1]).size<=1048576:=by show ks[1].toArray.size<=_;simpa using HZ.o _ (Jw Z)
    generalize ks[1]=k0 at a8 HR d0;have i0:(1:Int)<(ks.length:Int):=by omega
    clear A
    go_wp2_with fail
    go_region_with (go_at_call 81;refine (Kz vs S (Oo k0) wc.drew (HS.o.below G.o.bel.drew) d0).mono ?_;rw[Ou,<-HR.o];rintro e w3 ⟨rfl,I⟩;have j:=Hd (G.o.below (wy:=w3) ⟨I.os,I.tape,I.output,I.size,I.block⟩);clear I;obtain⟨x0,x1,x2,x3⟩:=j.o.y.c4;have f0:=j.o.y.frozen 0;have f1:=j.o.y.frozen 1;have f2:=j.o.y.frozen 2;have f3:=j.o.y.frozen 3;unfold Gy)
    all_goals (go_wp2_with fail;go_meet;exact⟨by simp[i0],j.o.sety _⟩)
   ·have e:Kl (Ov (On S)) ks 1=SI.none:=by unfold Kl;rw[if_neg Z]
    have HE:=Hd e;clear e;have i0:(ks.length:Int)<=1:=by omega
    have i1:¬ (1:Int)<(ks.length:Int):=by omega
    go_wp2_with fail
    go_meet
    exact⟨by simp,by rw[HE.o];exact G.o⟩
  case rest=>
   obtain⟨rfl,b7⟩:=hcut;have j:=Hd b7;clear b7 G;obtain⟨X2,e5⟩:=O1 (Kl (Ov (On S)) ks 1);have b8:=Hd e5;rw[e5] at j;clear e5;obtain⟨s0,s1,s2,s3⟩:=j.o.s.c4;obtain⟨x0,x1,x2,x3⟩:=j.o.x.c4;obtain⟨y0,y1,y2,y3⟩:=j.o.y.c4;obtain⟨t0,t1,t2,t3,t4⟩:=j.o.term.k5;have E:=Hd j.o.bel;clear j;have j5:Hid (O.width<=64/\X1.width<=64/\X2.width<=64):=⟨by rw[<-b6.o];exact Eu _ _,by rw[<-c6.o];exact Nm _ _ _,by rw[<-b8.o];exact Nm _ _ _⟩
   rcases (show o=46∨o=47 by have:=HO.o;omega) with rfl|rfl
   ·have d:Hid (Oj (Ov (On S)) ⟨46,so,V,a,b,kk⟩ ks=(decide (X1.kind=6)&&decide (X1.index=kS ks 1)&&decide (X1.elem=so))):=by unfold Hid Oj;simp only;rw[b6.o,c6.o,b8.o];rfl
    have c8:2<=ks.length:=by simpa[Kg] using HL.o
    rcases HK.o with e0|⟨bb,rfl,K,A⟩
    ·rw[e0] at c8;cases c8
    have a8:=(E.o.cell (p:=⟨bb,0,none⟩) K).trans (A 0 (by omega));have b5:kS ks 0=ks[0]:=by unfold kS;rw[Jf (by omega)];rfl
    have h7:(0:Int)<(ks.length:Int):=by omega
    have e2:=(E.o.cell (p:=⟨bb,1,none⟩) K).trans (A 1 (by omega));have a7:kS ks 1=ks[1]:=by unfold kS;rw[Jf (by omega)];rfl
    have h1:(1:Int)<(ks.length:Int):=by omega
    rw[a7] at d;generalize ks[0]=k0 at a8 b5;generalize ks[1]=k1 at e2 d a7;clear A b5 a7
    rcases Em X1.kind 6 with⟨J,q0⟩|⟨J,q0⟩
    ·rcases Nv X1.index k1 with⟨Y,q1⟩|⟨Y,q1⟩
     ·rcases Nv X1.elem so with⟨p2,q2⟩|⟨p2,q2⟩
      ·have F:Hid (Oj (Ov (On S)) ⟨46,so,V,a,b,kk⟩ ks=true):=by unfold Hid;rw[d.o,Jb J,Jb Y,Jb p2];rfl
       clear J Y p2
       go_wp2_with fail
       go_quiet (fail)
       go_wp2_with fail
       go_ret
       exact⟨Oz F.o.symm,below_drewN E.o _⟩
      ·have F:Hid (Oj (Ov (On S)) ⟨46,so,V,a,b,kk⟩ ks=false):=by unfold Hid;rw[d.o,Jb J,Jb Y,Jg p2];rfl
       clear J Y p2
       go_wp2_with fail
       go_quiet (fail)
       go_wp2_with fail
       go_ret
       exact⟨Oz F.o.symm,below_drewN E.o _⟩
     ·have F:Hid (Oj (Ov (On S)) ⟨46,so,V,a,b,kk⟩ ks=false):=by unfold Hid;rw[d.o,Jb J,Jg Y];rfl
      clear J Y
      go_wp2_with fail
      go_quiet (fail)
      go_wp2_with fail
      go_ret
      exact⟨Oz F.o.symm,below_drewN E.o _⟩
    ·have F:Hid (Oj (Ov (On S)) ⟨46,so,V,a,b,kk⟩ ks=false):=by unfold Hid;rw[d.o,Jg J];rfl
     clear J
     go_wp2_with fail
     go_quiet (fail)
     go_wp2_with fail
     go_ret
     exact⟨Oz F.o.symm,below_drewN E.o _⟩
   ·have d:Hid (Oj (Ov (On S)) ⟨47,so,V,a,b,kk⟩ ks=(decide (O.kind=6)&&decide (kS ks 0=so)&&decide (O.index=kS ks 1)&&decide (O.elem=kS ks 2))):=by unfold Hid Oj;simp only;rw[b6.o,c6.o,b8.o];rfl
    have c8:3<=ks.length:=by simpa[Kg] using HL.o
    rcases HK.o with e0|⟨bb,rfl,K,A⟩
    ·rw[e0] at c8;cases c8
    have a8:=(E.o.cell (p:=⟨bb,0,none⟩) K).trans (A 0 (by omega));have b5:kS ks 0=ks[0]:=by unfold kS;rw[Jf (by omega)];rfl
    have h7:(0:Int)<(ks.length:Int):=by omega
    have e2:=(E.o.cell (p:=⟨bb,1,none⟩) K).trans (A 1 (by omega));have a7:kS ks 1=ks[1]:=by unfold kS;rw[Jf (by omega)];rfl
    have h1:(1:Int)<(ks.length:Int):=by omega
    have g7:=(E.o.cell (p:=⟨bb,2,none⟩) K).trans (A 2 (by omega));have e4:kS ks 2=ks[2]:=by unfold kS;rw[Jf (by omega)];rfl
    have j3:(2:Int)<(ks.length:Int):=by omega
    rw[b5,a7,e4] at d;generalize ks[0]=k0 at a8 d b5;generalize ks[1]=k1 at e2 d a7;generalize ks[2]=k2 at g7 d e4;clear A b5 a7 e4
    rcases Em O.kind 6 with⟨J,q0⟩|⟨J,q0⟩
    ·rcases Nv k0 so with⟨Y,q1⟩|⟨Y,q1⟩
     ·rcases Nv O.index k1 with⟨p2,q2⟩|⟨p2,q2⟩
      ·rcases Nv O.elem k2 with⟨p3,q3⟩|⟨p3,q3⟩
       ·have F:Hid (Oj (Ov (On S)) ⟨47,so,V,a,b,kk⟩ ks=true):=by unfold Hid;rw[d.o,Jb J,Jb Y,Jb p2,Jb p3];rfl
        clear J Y p2 p3
        go_wp2_with fail
        go_quiet (fail)
        go_wp2_with fail
        go_ret
        exact⟨Oz F.o.symm,below_drewN E.o _⟩
       ·have F:Hid (Oj (Ov (On S)) ⟨47,so,V,a,b,kk⟩ ks=false):=by unfold Hid;rw[d.o,Jb J,Jb Y,Jb p2,Jg p3];rfl
        clear J Y p2 p3
        go_wp2_with fail
        go_quiet (fail)
        go_wp2_with fail
        go_ret
        exact⟨Oz F.o.symm,below_drewN E.o _⟩
      ·have F:Hid (Oj (Ov (On S)) ⟨47,so,V,a,b,kk⟩ ks=false):=by unfold Hid;rw[d.o,Jb J,Jb Y,Jg p2];rfl
       clear J Y p2
       go_wp2_with fail
       go_quiet (fail)
       go_wp2_with fail
       go_ret
       exact⟨Oz F.o.symm,below_drewN E.o _⟩
     ·have F:Hid (Oj (Ov (On S)) ⟨47,so,V,a,b,kk⟩ ks=false):=by unfold Hid;rw[d.o,Jb J,Jg Y];rfl
      clear J Y
      go_wp2_with fail
      go_quiet (fail)
      go_wp2_with fail
      go_ret
      exact⟨Oz F.o.symm,below_drewN E.o _⟩
    ·have F:Hid (Oj (Ov (On S)) ⟨47,so,V,a,b,kk⟩ ks=false):=by unfold Hid;rw[d.o,Jg J];rfl
     clear J
     go_wp2_with fail
     go_quiet (fail)
     go_wp2_with fail
     go_ret
     exact⟨Oz F.o.symm,below_drewN E.o _⟩
end Go.Proofs.YtipgjenolpofpaaGreatDoor
