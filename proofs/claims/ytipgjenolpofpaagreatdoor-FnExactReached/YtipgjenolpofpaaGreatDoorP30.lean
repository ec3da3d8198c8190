import Derived.Test.YtipgjenolpofpaaGreatDoorP25
set_option maxRecDepth 100000
set_option maxHeartbeats 8000000
namespace Go.Proofs.YtipgjenolpofpaaGreatDoor
open ChangeShapes WideShapes ChangeAt RowKit Proofs.Tryz
theorem YT (vs vf vt:Value)(S:List (List UInt8))(t:Tm)(vk vks:Value)(ks:List (List UInt8))(w:World)(hS:O8 w vs S)(hks:O8 w vks ks)(hzs:t.sort.length<=1048576)(hzt:t.text.length<=1048576)(hz:∀ k∈ks,k.length<=1048576)(hlen:Kh t.op<=ks.length)(ho:46<=t.op/\t.op<=47) :
 Calls prog 72 #[.agg #[vs,vf,vt],.agg #[.int .i64 t.op,.string (Oo t.sort),.string (Oo t.text),.int .i64 t.a,.int .i64 t.b,vk],vks] w fun e w'=>e=.returned (.bool (Oj (Ov (On S)) t ks))/\Up w w':=by
 obtain⟨pk,ck,rfl,k1,k2,k3⟩:=hks;obtain⟨o,so,V,a,b,kk⟩:=t;simp only at hzs hzt hlen ho ⊢;have HS:=Hd hS;have HK:=Hd k3;have HZ:=Hd hz;have HL:=Hd hlen;have HO:=Hd ho;unfold maxLen at k2;have f9:(Oo so).size<=1048576:=by show so.toArray.size<=_;simpa using hzs
 have i7:(Oo V).size<=1048576:=by show V.toArray.size<=_;simpa using hzt
 clear hS k3 hz hlen ho
 go_in
 go_wp2_with fail
 obtain⟨W1,b4⟩:=O1 ((w.alloc (.cells #[vs,vf,vt] 32)).alloc (.cells #[.int .i64 o,.string (Oo so),.string (Oo V),.int .i64 a,.int .i64 b,vk] 57));have d5:Hid (Up w W1):=by unfold Hid;rw[<-b4];exact ((Jh _ _).alloc Of _).alloc (by rw[Ji];omega) _
 have f5:Hid (W1.heap.size=w.heap.size+2):=by unfold Hid;rw[<-b4];simp
 have d6:Hid (Bx W1 w.heap.size [vs,vf,vt]):=by unfold Hid;rw[<-b4];exact (Oi w _ _).alloc _
 have d7:Hid (Bx W1 (w.heap.size+1) [.int .i64 o,.string (Oo so),.string (Oo V),.int .i64 a,.int .i64 b,vk]):=by unfold Hid;rw[<-b4];have h:=Oi (w.alloc (.cells #[vs,vf,vt] 32)) [.int .i64 o,.string (Oo so),.string (Oo V),.int .i64 a,.int .i64 b,vk] 57;rw[Ji] at h;exact h
 rw[b4];clear b4;refine (Kz vs S (Oo so) _ (HS.o.bl d5.o) f9).mono ?_;rw[Ou];obtain⟨J,e3⟩:=O1 (Ov (On S) so);have b6:=Hd e3;rw[e3];clear e3;rintro e w2 ⟨rfl,b9⟩;unfold N9
 go_upto_if 20 with fail
 have U:Hid (Wd (((w2.alloc (.cells #[.int .i64 J.kind,.int .i64 (J.width:Nat),.string (Oo J.index),.string (Oo J.elem)] 110)).alloc (.cells #[.int .i64 0,.int .i64 0,.string ⟨#[]⟩,.string ⟨#[]⟩] 110)).alloc (.cells #[.int .i64 0,.int .i64 0,.string ⟨#[]⟩,.string ⟨#[]⟩] 110)) w.heap.size w2.heap.size [vs,vf,vt] [.int .i64 o,.string (Oo so),.string (Oo V),.int .i64 a,.int .i64 b,vk] J SI.none SI.none w):=by
  have j8:=f5.o;have i6:=b9.size;have g9:=d6.o.bl d6.o.lt b9;have h1:=d7.o.bl d7.o.lt b9;have q0:=Oi w2 (Ri J) 110;have q1:=Oi (w2.alloc (.cells (Ri J).toArray 110)) (Ri SI.none) 110;have q2:=Oi ((w2.alloc (.cells (Ri J).toArray 110)).alloc (.cells (Ri SI.none).toArray 110)) (Ri SI.none) 110;rw[Ji] at q1;rw[Ji,Ji] at q2;refine⟨((g9.alloc _).alloc _).alloc _,((h1.alloc _).alloc _).alloc _,(q0.alloc _).alloc _,q1.alloc _,q2,by omega,?_⟩;have g8:Up w w2:=d5.o.trans (b9.mono (by omega));exact ((g8.alloc (by omega) _).alloc (by rw[Ji];omega) _).alloc (by rw[Ji,Ji];omega) _
 obtain⟨W3,f8⟩:=O1 (((w2.alloc (.cells #[.int .i64 J.kind,.int .i64 (J.width:Nat),.string (Oo J.index),.string (Oo J.elem)] 110)).alloc (.cells #[.int .i64 0,.int .i64 0,.string ⟨#[]⟩,.string ⟨#[]⟩] 110)).alloc (.cells #[.int .i64 0,.int .i64 0,.string ⟨#[]⟩,.string ⟨#[]⟩] 110));rw[f8] at U ⊢;clear f8 b9 d5 f5 d6 d7;generalize w2.heap.size=M at U ⊢;have j3:=Hd U.o.le
 go_cut [20] (fun s20 wx=>s20=.bool (decide (0<ks.length))/\Wd wx w.heap.size M [vs,vf,vt] [.int .i64 o,.string (Oo so),.string (Oo V),.int .i64 a,.int .i64 b,vk] J (Kl (Ov (On S)) ks 0) SI.none w)
 case first=>
  by_cases Y:0<ks.length
  ·rcases HK.o with e0|⟨bb,rfl,K,G⟩
   ·rw[e0] at Y;cases Y
   have a7:=(U.o.bel.cell (p:=⟨bb,0,none⟩) K).trans (G 0 Y);have d8:=U.o.bank.cell 0;simp only[Jo] at d8;have HR:Hid (Kl (Ov (On S)) ks 0=Ov (On S) ks[0]):=by unfold Hid Kl kS;rw[if_pos Y,Jf Y];rfl
   have d0:(Oo ks[0]).size<=1048576:=by show ks[0].toArray.size<=_;simpa using HZ.o _ (Jw Y)
   generalize ks[0]=k0 at a7 HR d0;have i0:(0:Int)<(ks.length:Int):=by omega
   clear G
   go_wp2
   go_region_with (go_at_call 81;refine (Kz vs S (Oo k0) W3.drew (HS.o.bl U.o.bel.drew) d0).mono ?_;rw[Ou,<-HR.o];rintro e w3 ⟨rfl,I⟩;have A:=Hd (U.o.bl (wy:=w3) ⟨I.os,I.tape,I.output,I.size,I.block⟩);clear I;obtain⟨x0,x1,x2,x3⟩:=A.o.x.c4;have f0:=A.o.x.fz 0;have f1:=A.o.x.fz 1;have f2:=A.o.x.fz 2;have f3:=A.o.x.fz 3;unfold N9)
   all_goals (go_wp2;go_meet;exact⟨by simp[Y],A.o.setx _⟩)
  have e:Kl (Ov (On S)) ks 0=SI.none:=by unfold Kl;rw[if_neg Y]
  have HE:=Hd e;clear e
  go_wp2
  go_meet
  exact⟨by simp[Y],by rw[HE.o];exact U.o⟩
 obtain⟨rfl,c6⟩:=hcut;have A:=Hd c6;clear c6 U;obtain⟨X1,e4⟩:=O1 (Kl (Ov (On S)) ks 0);have b7:=Hd e4;rw[e4] at A;clear e4
 go_upto_if 29 with fail
 go_cut [29] (fun s29 wx=>s29=.bool (decide ((1:Int)<(ks.length:Int)))/\Wd wx w.heap.size M [vs,vf,vt] [.int .i64 o,.string (Oo so),.string (Oo V),.int .i64 a,.int .i64 b,vk] J X1 (Kl (Ov (On S)) ks 1) w)
 case first=>
  by_cases Y:1<ks.length
  ·rcases HK.o with e0|⟨bb,rfl,K,G⟩
   ·rw[e0] at Y;cases Y
   have a7:=(A.o.bel.cell (p:=⟨bb,1,none⟩) K).trans (G 1 Y);have d8:=A.o.bank.cell 0;simp only[Jo] at d8;have HR:Hid (Kl (Ov (On S)) ks 1=Ov (On S) ks[1]):=by unfold Hid Kl kS;rw[if_pos Y,Jf Y];rfl
   have d0:(Oo ks[1]).size<=1048576:=by show ks[1].toArray.size<=_;simpa using HZ.o _ (Jw Y)
   generalize ks[1]=k0 at a7 HR d0;have i0:(1:Int)<(ks.length:Int):=by omega
   clear G
   go_wp2
   go_region_with (go_at_call 81;refine (Kz vs S (Oo k0) wc.drew (HS.o.bl A.o.bel.drew) d0).mono ?_;rw[Ou,<-HR.o];rintro e w3 ⟨rfl,I⟩;have E:=Hd (A.o.bl (wy:=w3) ⟨I.os,I.tape,I.output,I.size,I.block⟩);clear I;obtain⟨x0,x1,x2,x3⟩:=E.o.y.c4;have f0:=E.o.y.fz 0;have f1:=E.o.y.fz 1;have f2:=E.o.y.fz 2;have f3:=E.o.y.fz 3;unfold N9)
   all_goals (go_wp2;go_meet;exact⟨by simp[i0],E.o.sety _⟩)
  have e:Kl (Ov (On S)) ks 1=SI.none:=by unfold Kl;rw[if_neg Y]
  have HE:=Hd e;clear e;have i0:(ks.length:Int)<=1:=by omega
  have i1:¬ (1:Int)<(ks.length:Int):=by omega
  go_wp2
  go_meet
  exact⟨by simp,by rw[HE.o];exact A.o⟩
 obtain⟨rfl,c6⟩:=hcut;have E:=Hd c6;clear c6 A;obtain⟨X2,e5⟩:=O1 (Kl (Ov (On S)) ks 1);have b8:=Hd e5;rw[e5] at E;clear e5;obtain⟨s0,s1,s2,s3⟩:=E.o.s.c4;obtain⟨x0,x1,x2,x3⟩:=E.o.x.c4;obtain⟨y0,y1,y2,y3⟩:=E.o.y.c4;obtain⟨t0,t1,t2,t3,t4⟩:=E.o.term.k5;have j:=Hd E.o.bel;clear E;have j5:Hid (J.width<=64/\X1.width<=64/\X2.width<=64):=⟨by rw[<-b6.o];exact Eu _ _,by rw[<-b7.o];exact Nf _ _ _,by rw[<-b8.o];exact Nf _ _ _⟩
 rcases (show o=46∨o=47 by have:=HO.o;omega) with rfl|rfl
 ·have d:Hid (Oj (Ov (On S)) ⟨46,so,V,a,b,kk⟩ ks=(decide (X1.kind=6)&&decide (X1.index=kS ks 1)&&decide (X1.elem=so))):=by unfold Hid Oj;simp only;rw[b6.o,b7.o,b8.o];rfl
  have c8:2<=ks.length:=by simpa[Kh] using HL.o
  rcases HK.o with e0|⟨bb,rfl,K,G⟩
  ·rw[e0] at c8;cases c8
  have a7:=(j.o.cell (p:=⟨bb,0,none⟩) K).trans (G 0 (by omega));have b3:kS ks 0=ks[0]:=by unfold kS;rw[Jf (by omega)];rfl
  have h2:(0:Int)<(ks.length:Int):=by omega
  have d9:=(j.o.cell (p:=⟨bb,1,none⟩) K).trans (G 1 (by omega));have a8:kS ks 1=ks[1]:=by unfold kS;rw[Jf (by omega)];rfl
  have h6:(1:Int)<(ks.length:Int):=by omega
  rw[a8] at d;generalize ks[0]=k0 at a7 b3;generalize ks[1]=k1 at d9 d a8;clear G b3 a8
  rcases Em X1.kind 6 with⟨O,q0⟩|⟨O,q0⟩
  ·rcases Nk X1.index k1 with⟨Z,q1⟩|⟨Z,q1⟩
   ·rcases Nk X1.elem so with⟨p2,q2⟩|⟨p2,q2⟩
    ·have F:Hid (Oj (Ov (On S)) ⟨46,so,V,a,b,kk⟩ ks=true):=by unfold Hid;rw[d.o,Jb O,Jb Z,Jb p2];rfl
     clear O Z p2
     go_wp2
     go_quiet (fail)
     go_wp2
     go_ret
     exact⟨Oz F.o.symm,below_drewN j.o _⟩
    have F:Hid (Oj (Ov (On S)) ⟨46,so,V,a,b,kk⟩ ks=false):=by unfold Hid;rw[d.o,Jb O,Jb Z,Jg p2];rfl
    clear O Z p2
    go_wp2
    go_quiet (fail)
    go_wp2
    go_ret
    exact⟨Oz F.o.symm,below_drewN j.o _⟩
   have F:Hid (Oj (Ov (On S)) ⟨46,so,V,a,b,kk⟩ ks=false):=by unfold Hid;rw[d.o,Jb O,Jg Z];rfl
   clear O Z
   go_wp2
   go_quiet (fail)
   go_wp2
   go_ret
   exact⟨Oz F.o.symm,below_drewN j.o _⟩
  have F:Hid (Oj (Ov (On S)) ⟨46,so,V,a,b,kk⟩ ks=false):=by unfold Hid;rw[d.o,Jg O];rfl
  clear O
  go_wp2
  go_quiet (fail)
  go_wp2
  go_ret
  exact⟨Oz F.o.symm,below_drewN j.o _⟩
 have d:Hid (Oj (Ov (On S)) ⟨47,so,V,a,b,kk⟩ ks=(decide (J.kind=6)&&decide (kS ks 0=so)&&decide (J.index=kS ks 1)&&decide (J.elem=kS ks 2))):=by unfold Hid Oj;simp only;rw[b6.o,b7.o,b8.o];rfl
 have c8:3<=ks.length:=by simpa[Kh] using HL.o
 rcases HK.o with e0|⟨bb,rfl,K,G⟩
 ·rw[e0] at c8;cases c8
 have a7:=(j.o.cell (p:=⟨bb,0,none⟩) K).trans (G 0 (by omega));have b3:kS ks 0=ks[0]:=by unfold kS;rw[Jf (by omega)];rfl
 have h2:(0:Int)<(ks.length:Int):=by omega
 have d9:=(j.o.cell (p:=⟨bb,1,none⟩) K).trans (G 1 (by omega));have a8:kS ks 1=ks[1]:=by unfold kS;rw[Jf (by omega)];rfl
 have h6:(1:Int)<(ks.length:Int):=by omega
 have g7:=(j.o.cell (p:=⟨bb,2,none⟩) K).trans (G 2 (by omega));have e2:kS ks 2=ks[2]:=by unfold kS;rw[Jf (by omega)];rfl
 have j9:(2:Int)<(ks.length:Int):=by omega
 rw[b3,a8,e2] at d;generalize ks[0]=k0 at a7 d b3;generalize ks[1]=k1 at d9 d a8;generalize ks[2]=k2 at g7 d e2;clear G b3 a8 e2
 rcases Em J.kind 6 with⟨O,q0⟩|⟨O,q0⟩
 ·rcases Nk k0 so with⟨Z,q1⟩|⟨Z,q1⟩
  ·rcases Nk J.index k1 with⟨p2,q2⟩|⟨p2,q2⟩
   ·rcases Nk J.elem k2 with⟨p3,q3⟩|⟨p3,q3⟩
    ·have F:Hid (Oj (Ov (On S)) ⟨47,so,V,a,b,kk⟩ ks=true):=by unfold Hid;rw[d.o,Jb O,Jb Z,Jb p2,Jb p3];rfl
     clear O Z p2 p3
     go_wp2
     go_quiet (fail)
     go_wp2
     go_ret
     exact⟨Oz F.o.symm,below_drewN j.o _⟩
    have F:Hid (Oj (Ov (On S)) ⟨47,so,V,a,b,kk⟩ ks=false):=by unfold Hid;rw[d.o,Jb O,Jb Z,Jb p2,Jg p3];rfl
    clear O Z p2 p3
    go_wp2
    go_quiet (fail)
    go_wp2
    go_ret
    exact⟨Oz F.o.symm,below_drewN j.o _⟩
   have F:Hid (Oj (Ov (On S)) ⟨47,so,V,a,b,kk⟩ ks=false):=by unfold Hid;rw[d.o,Jb O,Jb Z,Jg p2];rfl
   clear O Z p2
   go_wp2
   go_quiet (fail)
   go_wp2
   go_ret
   exact⟨Oz F.o.symm,below_drewN j.o _⟩
  have F:Hid (Oj (Ov (On S)) ⟨47,so,V,a,b,kk⟩ ks=false):=by unfold Hid;rw[d.o,Jb O,Jg Z];rfl
  clear O Z
  go_wp2
  go_quiet (fail)
  go_wp2
  go_ret
  exact⟨Oz F.o.symm,below_drewN j.o _⟩
 have F:Hid (Oj (Ov (On S)) ⟨47,so,V,a,b,kk⟩ ks=false):=by unfold Hid;rw[d.o,Jg O];rfl
 clear O
 go_wp2
 go_quiet (fail)
 go_wp2
 go_ret
 exact⟨Oz F.o.symm,below_drewN j.o _⟩
end Go.Proofs.YtipgjenolpofpaaGreatDoor
