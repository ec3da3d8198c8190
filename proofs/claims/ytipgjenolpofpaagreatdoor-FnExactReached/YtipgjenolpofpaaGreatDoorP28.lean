import Derived.Test.YtipgjenolpofpaaGreatDoorP25
set_option maxRecDepth 100000
set_option maxHeartbeats 8000000
namespace Go.Proofs.YtipgjenolpofpaaGreatDoor
open ChangeShapes WideShapes ChangeAt RowKit Proofs.Tryz
theorem YA (vs vf vt:Value)(S:List (List UInt8))(t:Tm)(vk vks:Value)(ks:List (List UInt8))(w:World)(hS:O8 w vs S)(hks:O8 w vks ks)(hzs:t.sort.length<=1048576)(hzt:t.text.length<=1048576)(hz:∀ k∈ks,k.length<=1048576)(hlen:Kh t.op<=ks.length)(ho:43<=t.op/\t.op<=45) :
 Calls prog 72 #[.agg #[vs,vf,vt],.agg #[.int .i64 t.op,.string (Oo t.sort),.string (Oo t.text),.int .i64 t.a,.int .i64 t.b,vk],vks] w fun e w'=>e=.returned (.bool (Oj (Ov (On S)) t ks))/\Up w w':=by
 obtain⟨pk,ck,rfl,k1,k2,k3⟩:=hks;obtain⟨o,so,I,a,b,U⟩:=t;simp only at hzs hzt hlen ho ⊢;have HS:=Hd hS;have HK:=Hd k3;have HZ:=Hd hz;have HL:=Hd hlen;have HO:=Hd ho;unfold maxLen at k2;have e8:(Oo so).size<=1048576:=by show so.toArray.size<=_;simpa using hzs
 have i6:(Oo I).size<=1048576:=by show I.toArray.size<=_;simpa using hzt
 clear hS k3 hz hlen ho
 go_in
 go_wp2_with fail
 obtain⟨W1,b8⟩:=O1 ((w.alloc (.cells #[vs,vf,vt] 32)).alloc (.cells #[.int .i64 o,.string (Oo so),.string (Oo I),.int .i64 a,.int .i64 b,vk] 57));have d4:Hid (Up w W1):=by unfold Hid;rw[<-b8];exact ((Jh _ _).alloc Of _).alloc (by rw[Ji];omega) _
 have e6:Hid (W1.heap.size=w.heap.size+2):=by unfold Hid;rw[<-b8];simp
 have d5:Hid (Bx W1 w.heap.size [vs,vf,vt]):=by unfold Hid;rw[<-b8];exact (Oi w _ _).alloc _
 have d6:Hid (Bx W1 (w.heap.size+1) [.int .i64 o,.string (Oo so),.string (Oo I),.int .i64 a,.int .i64 b,vk]):=by unfold Hid;rw[<-b8];have h:=Oi (w.alloc (.cells #[vs,vf,vt] 32)) [.int .i64 o,.string (Oo so),.string (Oo I),.int .i64 a,.int .i64 b,vk] 57;rw[Ji] at h;exact h
 rw[b8];clear b8;refine (Kz vs S (Oo so) _ (HS.o.bl d4.o) e8).mono ?_;rw[Ou];obtain⟨G,d9⟩:=O1 (Ov (On S) so);have b5:=Hd d9;rw[d9];clear d9;rintro e w2 ⟨rfl,b9⟩;unfold N9
 go_upto_if 20 with fail
 have V:Hid (Wd (((w2.alloc (.cells #[.int .i64 G.kind,.int .i64 (G.width:Nat),.string (Oo G.index),.string (Oo G.elem)] 110)).alloc (.cells #[.int .i64 0,.int .i64 0,.string ⟨#[]⟩,.string ⟨#[]⟩] 110)).alloc (.cells #[.int .i64 0,.int .i64 0,.string ⟨#[]⟩,.string ⟨#[]⟩] 110)) w.heap.size w2.heap.size [vs,vf,vt] [.int .i64 o,.string (Oo so),.string (Oo I),.int .i64 a,.int .i64 b,vk] G SI.none SI.none w):=by
  have j5:=e6.o;have h9:=b9.size;have g9:=d5.o.bl d5.o.lt b9;have h1:=d6.o.bl d6.o.lt b9;have q0:=Oi w2 (Ri G) 110;have q1:=Oi (w2.alloc (.cells (Ri G).toArray 110)) (Ri SI.none) 110;have q2:=Oi ((w2.alloc (.cells (Ri G).toArray 110)).alloc (.cells (Ri SI.none).toArray 110)) (Ri SI.none) 110;rw[Ji] at q1;rw[Ji,Ji] at q2;refine⟨((g9.alloc _).alloc _).alloc _,((h1.alloc _).alloc _).alloc _,(q0.alloc _).alloc _,q1.alloc _,q2,by omega,?_⟩;have g8:Up w w2:=d4.o.trans (b9.mono (by omega));exact ((g8.alloc (by omega) _).alloc (by rw[Ji];omega) _).alloc (by rw[Ji,Ji];omega) _
 obtain⟨W3,e7⟩:=O1 (((w2.alloc (.cells #[.int .i64 G.kind,.int .i64 (G.width:Nat),.string (Oo G.index),.string (Oo G.elem)] 110)).alloc (.cells #[.int .i64 0,.int .i64 0,.string ⟨#[]⟩,.string ⟨#[]⟩] 110)).alloc (.cells #[.int .i64 0,.int .i64 0,.string ⟨#[]⟩,.string ⟨#[]⟩] 110));rw[e7] at V ⊢;clear e7 b9 d4 e6 d5 d6;generalize w2.heap.size=M at V ⊢;have j2:=Hd V.o.le
 go_cut [20] (fun s20 wx=>s20=.bool (decide (0<ks.length))/\Wd wx w.heap.size M [vs,vf,vt] [.int .i64 o,.string (Oo so),.string (Oo I),.int .i64 a,.int .i64 b,vk] G (Kl (Ov (On S)) ks 0) SI.none w)
 case first=>
  by_cases h0:0<ks.length
  ·rcases HK.o with e0|⟨bb,rfl,e3,c6⟩
   ·rw[e0] at h0;cases h0
   have d8:=(V.o.bel.cell (p:=⟨bb,0,none⟩) e3).trans (c6 0 h0);have d7:=V.o.bank.cell 0;simp only[Jo] at d7;have HR:Hid (Kl (Ov (On S)) ks 0=Ov (On S) ks[0]):=by unfold Hid Kl kS;rw[if_pos h0,Jf h0];rfl
   have d0:(Oo ks[0]).size<=1048576:=by show ks[0].toArray.size<=_;simpa using HZ.o _ (Jw h0)
   generalize ks[0]=k0 at d8 HR d0;have i0:(0:Int)<(ks.length:Int):=by omega
   clear c6
   go_wp2
   go_region_with (go_at_call 81;refine (Kz vs S (Oo k0) W3.drew (HS.o.bl V.o.bel.drew) d0).mono ?_;rw[Ou,<-HR.o];rintro e w3 ⟨rfl,O⟩;have J:=Hd (V.o.bl (wy:=w3) ⟨O.os,O.tape,O.output,O.size,O.block⟩);clear O;obtain⟨x0,x1,x2,x3⟩:=J.o.x.c4;have f0:=J.o.x.fz 0;have f1:=J.o.x.fz 1;have f2:=J.o.x.fz 2;have f3:=J.o.x.fz 3;unfold N9)
   all_goals (go_wp2;go_meet;exact⟨by simp[h0],J.o.setx _⟩)
  have e:Kl (Ov (On S)) ks 0=SI.none:=by unfold Kl;rw[if_neg h0]
  have HE:=Hd e;clear e
  go_wp2
  go_meet
  exact⟨by simp[h0],by rw[HE.o];exact V.o⟩
 obtain⟨rfl,c8⟩:=hcut;have J:=Hd c8;clear c8 V;obtain⟨X1,e1⟩:=O1 (Kl (Ov (On S)) ks 0);have b6:=Hd e1;rw[e1] at J;clear e1
 go_upto_if 29 with fail
 go_cut [29] (fun s29 wx=>s29=.bool (decide ((1:Int)<(ks.length:Int)))/\Wd wx w.heap.size M [vs,vf,vt] [.int .i64 o,.string (Oo so),.string (Oo I),.int .i64 a,.int .i64 b,vk] G X1 (Kl (Ov (On S)) ks 1) w)
 case first=>
  by_cases h0:1<ks.length
  ·rcases HK.o with e0|⟨bb,rfl,e3,c6⟩
   ·rw[e0] at h0;cases h0
   have d8:=(J.o.bel.cell (p:=⟨bb,1,none⟩) e3).trans (c6 1 h0);have d7:=J.o.bank.cell 0;simp only[Jo] at d7;have HR:Hid (Kl (Ov (On S)) ks 1=Ov (On S) ks[1]):=by unfold Hid Kl kS;rw[if_pos h0,Jf h0];rfl
   have d0:(Oo ks[1]).size<=1048576:=by show ks[1].toArray.size<=_;simpa using HZ.o _ (Jw h0)
   generalize ks[1]=k0 at d8 HR d0;have i0:(1:Int)<(ks.length:Int):=by omega
   clear c6
   go_wp2
   go_region_with (go_at_call 81;refine (Kz vs S (Oo k0) wc.drew (HS.o.bl J.o.bel.drew) d0).mono ?_;rw[Ou,<-HR.o];rintro e w3 ⟨rfl,O⟩;have K:=Hd (J.o.bl (wy:=w3) ⟨O.os,O.tape,O.output,O.size,O.block⟩);clear O;obtain⟨x0,x1,x2,x3⟩:=K.o.y.c4;have f0:=K.o.y.fz 0;have f1:=K.o.y.fz 1;have f2:=K.o.y.fz 2;have f3:=K.o.y.fz 3;unfold N9)
   all_goals (go_wp2;go_meet;exact⟨by simp[i0],K.o.sety _⟩)
  have e:Kl (Ov (On S)) ks 1=SI.none:=by unfold Kl;rw[if_neg h0]
  have HE:=Hd e;clear e;have i0:(ks.length:Int)<=1:=by omega
  have i1:¬ (1:Int)<(ks.length:Int):=by omega
  go_wp2
  go_meet
  exact⟨by simp,by rw[HE.o];exact J.o⟩
 obtain⟨rfl,c8⟩:=hcut;have K:=Hd c8;clear c8 J;obtain⟨X2,e2⟩:=O1 (Kl (Ov (On S)) ks 1);have b7:=Hd e2;rw[e2] at K;clear e2;obtain⟨s0,s1,s2,s3⟩:=K.o.s.c4;obtain⟨x0,x1,x2,x3⟩:=K.o.x.c4;obtain⟨y0,y1,y2,y3⟩:=K.o.y.c4;obtain⟨t0,t1,t2,t3,t4⟩:=K.o.term.k5;have A:=Hd K.o.bel;clear K;have Y:Hid (G.width<=64/\X1.width<=64/\X2.width<=64):=⟨by rw[<-b5.o];exact Eu _ _,by rw[<-b6.o];exact Nf _ _ _,by rw[<-b7.o];exact Nf _ _ _⟩
 rcases (show o=43∨o=44∨o=45 by have:=HO.o;omega) with rfl|rfl|rfl
 ·have d:Hid (Oj (Ov (On S)) ⟨43,so,I,a,b,U⟩ ks=(decide (X1.kind=4)&&decide (a<X1.width)&&decide (b<=a)&&decide (0<=b)&&decide (G.kind=4)&&decide ((G.width:Int)=a - b+1))):=by unfold Hid Oj;simp only;rw[b5.o,b6.o,b7.o];rfl
  have f9:(G.width:Int)<=64:=by have:=Y.o;omega
  have g0:(X1.width:Int)<=64:=by have:=Y.o;omega
  have g1:(X2.width:Int)<=64:=by have:=Y.o;omega
  rcases Em X1.kind 4 with⟨j,q0⟩|⟨j,q0⟩
  ·rcases UH a (X1.width:Int) with⟨E,q1⟩|⟨E,q1⟩
   ·rcases Dd b a with⟨p2,q2⟩|⟨p2,q2⟩
    ·rcases Dd 0 b with⟨p3,q3⟩|⟨p3,q3⟩
     ·rcases Em G.kind 4 with⟨Z,q4⟩|⟨Z,q4⟩
      ·rcases Em (G.width:Int) (a - b+1) with⟨p5,q5⟩|⟨p5,q5⟩
       ·have F:Hid (Oj (Ov (On S)) ⟨43,so,I,a,b,U⟩ ks=true):=by unfold Hid;rw[d.o,Jb j,Jb E,Jb p2,Jb p3,Jb Z,Jb p5];rfl
        clear j Z p5
        go_wp2
        go_ret
        exact⟨Oz F.o.symm,A.o⟩
       have F:Hid (Oj (Ov (On S)) ⟨43,so,I,a,b,U⟩ ks=false):=by unfold Hid;rw[d.o,Jb j,Jb E,Jb p2,Jb p3,Jb Z,Jg p5];rfl
       clear j Z p5
       go_wp2
       go_ret
       exact⟨Oz F.o.symm,A.o⟩
      have F:Hid (Oj (Ov (On S)) ⟨43,so,I,a,b,U⟩ ks=false):=by unfold Hid;rw[d.o,Jb j,Jb E,Jb p2,Jb p3,Jg Z];rfl
      clear j Z
      go_wp2
      go_ret
      exact⟨Oz F.o.symm,A.o⟩
     have F:Hid (Oj (Ov (On S)) ⟨43,so,I,a,b,U⟩ ks=false):=by unfold Hid;rw[d.o,Jb j,Jb E,Jb p2,Jg p3];rfl
     clear j
     go_wp2
     go_ret
     exact⟨Oz F.o.symm,A.o⟩
    have F:Hid (Oj (Ov (On S)) ⟨43,so,I,a,b,U⟩ ks=false):=by unfold Hid;rw[d.o,Jb j,Jb E,Jg p2];rfl
    clear j
    go_wp2
    go_ret
    exact⟨Oz F.o.symm,A.o⟩
   have F:Hid (Oj (Ov (On S)) ⟨43,so,I,a,b,U⟩ ks=false):=by unfold Hid;rw[d.o,Jb j,Jg E];rfl
   clear j
   go_wp2
   go_ret
   exact⟨Oz F.o.symm,A.o⟩
  have F:Hid (Oj (Ov (On S)) ⟨43,so,I,a,b,U⟩ ks=false):=by unfold Hid;rw[d.o,Jg j];rfl
  clear j
  go_wp2
  go_ret
  exact⟨Oz F.o.symm,A.o⟩
 ·have d:Hid (Oj (Ov (On S)) ⟨44,so,I,a,b,U⟩ ks=(decide (X1.kind=4)&&decide (G.kind=4)&&decide (1<=a)&&decide (a<64)&&decide ((G.width:Int)=X1.width+a))):=by unfold Hid Oj;simp only;rw[b5.o,b6.o,b7.o];rfl
  have f9:(G.width:Int)<=64:=by have:=Y.o;omega
  have g0:(X1.width:Int)<=64:=by have:=Y.o;omega
  have g1:(X2.width:Int)<=64:=by have:=Y.o;omega
  rcases Em X1.kind 4 with⟨j,q0⟩|⟨j,q0⟩
  ·rcases Em G.kind 4 with⟨E,q1⟩|⟨E,q1⟩
   ·rcases Dd 1 a with⟨p2,q2⟩|⟨p2,q2⟩
    ·rcases UH a 64 with⟨p3,q3⟩|⟨p3,q3⟩
     ·rcases Em (G.width:Int) ((X1.width:Int)+a) with⟨Z,q4⟩|⟨Z,q4⟩
      ·have F:Hid (Oj (Ov (On S)) ⟨44,so,I,a,b,U⟩ ks=true):=by unfold Hid;rw[d.o,Jb j,Jb E,Jb p2,Jb p3,Jb Z];rfl
       clear j E Z
       go_wp2
       go_ret
       exact⟨Oz F.o.symm,A.o⟩
      have F:Hid (Oj (Ov (On S)) ⟨44,so,I,a,b,U⟩ ks=false):=by unfold Hid;rw[d.o,Jb j,Jb E,Jb p2,Jb p3,Jg Z];rfl
      clear j E Z
      go_wp2
      go_ret
      exact⟨Oz F.o.symm,A.o⟩
     have F:Hid (Oj (Ov (On S)) ⟨44,so,I,a,b,U⟩ ks=false):=by unfold Hid;rw[d.o,Jb j,Jb E,Jb p2,Jg p3];rfl
     clear j E
     go_wp2
     go_ret
     exact⟨Oz F.o.symm,A.o⟩
    have F:Hid (Oj (Ov (On S)) ⟨44,so,I,a,b,U⟩ ks=false):=by unfold Hid;rw[d.o,Jb j,Jb E,Jg p2];rfl
    clear j E
    go_wp2
    go_ret
    exact⟨Oz F.o.symm,A.o⟩
   have F:Hid (Oj (Ov (On S)) ⟨44,so,I,a,b,U⟩ ks=false):=by unfold Hid;rw[d.o,Jb j,Jg E];rfl
   clear j E
   go_wp2
   go_ret
   exact⟨Oz F.o.symm,A.o⟩
  have F:Hid (Oj (Ov (On S)) ⟨44,so,I,a,b,U⟩ ks=false):=by unfold Hid;rw[d.o,Jg j];rfl
  clear j
  go_wp2
  go_ret
  exact⟨Oz F.o.symm,A.o⟩
 have d:Hid (Oj (Ov (On S)) ⟨45,so,I,a,b,U⟩ ks=(decide (X1.kind=4)&&decide (G.kind=4)&&decide (1<=a)&&decide (a<64)&&decide ((G.width:Int)=X1.width+a))):=by unfold Hid Oj;simp only;rw[b5.o,b6.o,b7.o];rfl
 have f9:(G.width:Int)<=64:=by have:=Y.o;omega
 have g0:(X1.width:Int)<=64:=by have:=Y.o;omega
 have g1:(X2.width:Int)<=64:=by have:=Y.o;omega
 rcases Em X1.kind 4 with⟨j,q0⟩|⟨j,q0⟩
 ·rcases Em G.kind 4 with⟨E,q1⟩|⟨E,q1⟩
  ·rcases Dd 1 a with⟨p2,q2⟩|⟨p2,q2⟩
   ·rcases UH a 64 with⟨p3,q3⟩|⟨p3,q3⟩
    ·rcases Em (G.width:Int) ((X1.width:Int)+a) with⟨Z,q4⟩|⟨Z,q4⟩
     ·have F:Hid (Oj (Ov (On S)) ⟨45,so,I,a,b,U⟩ ks=true):=by unfold Hid;rw[d.o,Jb j,Jb E,Jb p2,Jb p3,Jb Z];rfl
      clear j E Z
      go_wp2
      go_ret
      exact⟨Oz F.o.symm,A.o⟩
     have F:Hid (Oj (Ov (On S)) ⟨45,so,I,a,b,U⟩ ks=false):=by unfold Hid;rw[d.o,Jb j,Jb E,Jb p2,Jb p3,Jg Z];rfl
     clear j E Z
     go_wp2
     go_ret
     exact⟨Oz F.o.symm,A.o⟩
    have F:Hid (Oj (Ov (On S)) ⟨45,so,I,a,b,U⟩ ks=false):=by unfold Hid;rw[d.o,Jb j,Jb E,Jb p2,Jg p3];rfl
    clear j E
    go_wp2
    go_ret
    exact⟨Oz F.o.symm,A.o⟩
   have F:Hid (Oj (Ov (On S)) ⟨45,so,I,a,b,U⟩ ks=false):=by unfold Hid;rw[d.o,Jb j,Jb E,Jg p2];rfl
   clear j E
   go_wp2
   go_ret
   exact⟨Oz F.o.symm,A.o⟩
  have F:Hid (Oj (Ov (On S)) ⟨45,so,I,a,b,U⟩ ks=false):=by unfold Hid;rw[d.o,Jb j,Jg E];rfl
  clear j E
  go_wp2
  go_ret
  exact⟨Oz F.o.symm,A.o⟩
 have F:Hid (Oj (Ov (On S)) ⟨45,so,I,a,b,U⟩ ks=false):=by unfold Hid;rw[d.o,Jg j];rfl
 clear j
 go_wp2
 go_ret
 exact⟨Oz F.o.symm,A.o⟩
end Go.Proofs.YtipgjenolpofpaaGreatDoor
