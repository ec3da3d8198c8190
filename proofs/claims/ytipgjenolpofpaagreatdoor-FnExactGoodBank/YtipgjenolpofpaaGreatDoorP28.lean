import Derived.Test.YtipgjenolpofpaaGreatDoorP25
set_option maxRecDepth 100000
set_option maxHeartbeats 8000000
namespace Go.Proofs.YtipgjenolpofpaaGreatDoor
open Go.ChangeShapes Go.WideShapes Go.ChangeAt Go.RowKit Go.Proofs.Tryz
theorem YA (vs vf vt:Value)(S:List (List UInt8))(t:Tm)(vk vks:Value)(ks:List (List UInt8))(w:World)(hS:O8 w vs S)(hks:O8 w vks ks)(hzs:t.sort.length<=1048576)(hzt:t.text.length<=1048576)(hz:∀ k∈ks,k.length<=1048576)(hlen:Kg t.op<=ks.length)(ho:43<=t.op/\t.op<=45) :
 Calls prog 72 #[.agg #[vs,vf,vt],.agg #[.int .i64 t.op,.string (Oo t.sort),.string (Oo t.text),.int .i64 t.a,.int .i64 t.b,vk],vks] w fun e w'=>e=.returned (.bool (Oj (Ov (On S)) t ks))/\Up w w':=by
 obtain⟨pk,ck,rfl,k1,k2,k3⟩:=hks;obtain⟨o,so,G,a,b,U⟩:=t;simp only at hzs hzt hlen ho ⊢;have HS:=Hd hS;have HK:=Hd k3;have HZ:=Hd hz;have HL:=Hd hlen;have HO:=Hd ho;unfold maxLen at k2;have e9:(Oo so).size<=1048576:=by show so.toArray.size<=_;simpa using hzs
 have i7:(Oo G).size<=1048576:=by show G.toArray.size<=_;simpa using hzt
 clear hS k3 hz hlen ho
 go_enter func72,ntmps72
 go_wp2_with fail
 obtain⟨W1,b8⟩:=O1 ((w.alloc (.cells #[vs,vf,vt] 32)).alloc (.cells #[.int .i64 o,.string (Oo so),.string (Oo G),.int .i64 a,.int .i64 b,vk] 57));have e1:Hid (Up w W1):=by unfold Hid;rw[<-b8];exact ((Jh _ _).alloc Of _).alloc (by rw[Ji];omega) _
 have e6:Hid (W1.heap.size=w.heap.size+2):=by unfold Hid;rw[<-b8];simp
 have d6:Hid (Bx W1 w.heap.size [vs,vf,vt]):=by unfold Hid;rw[<-b8];exact (Ox w _ _).alloc _
 have e3:Hid (Bx W1 (w.heap.size+1) [.int .i64 o,.string (Oo so),.string (Oo G),.int .i64 a,.int .i64 b,vk]):=by unfold Hid;rw[<-b8];have h:=Ox (w.alloc (.cells #[vs,vf,vt] 32)) [.int .i64 o,.string (Oo so),.string (Oo G),.int .i64 a,.int .i64 b,vk] 57;rw[Ji] at h;exact h
 rw[b8];clear b8;refine (Kz vs S (Oo so) _ (HS.o.below e1.o) e9).mono ?_;rw[Ou];obtain⟨I,d7⟩:=O1 (Ov (On S) so);have b5:=Hd d7;rw[d7];clear d7;rintro e w2 ⟨rfl,d0⟩;unfold Gy
 go_upto_if 20 with fail
 have Z:Hid (Wd (((w2.alloc (.cells #[.int .i64 I.kind,.int .i64 (I.width:Nat),.string (Oo I.index),.string (Oo I.elem)] 110)).alloc (.cells #[.int .i64 0,.int .i64 0,.string ⟨#[]⟩,.string ⟨#[]⟩] 110)).alloc (.cells #[.int .i64 0,.int .i64 0,.string ⟨#[]⟩,.string ⟨#[]⟩] 110)) w.heap.size w2.heap.size [vs,vf,vt] [.int .i64 o,.string (Oo so),.string (Oo G),.int .i64 a,.int .i64 b,vk] I SI.none SI.none w):=by
  have j6:=e6.o;have j1:=d0.size;have h6:=d6.o.below d6.o.lt d0;have h1:=e3.o.below e3.o.lt d0;have q0:=Ox w2 (Ri I) 110;have q1:=Ox (w2.alloc (.cells (Ri I).toArray 110)) (Ri SI.none) 110;have q2:=Ox ((w2.alloc (.cells (Ri I).toArray 110)).alloc (.cells (Ri SI.none).toArray 110)) (Ri SI.none) 110;rw[Ji] at q1;rw[Ji,Ji] at q2;refine⟨((h6.alloc _).alloc _).alloc _,((h1.alloc _).alloc _).alloc _,(q0.alloc _).alloc _,q1.alloc _,q2,by omega,?_⟩;have g8:Up w w2:=e1.o.trans (d0.mono (by omega));exact ((g8.alloc (by omega) _).alloc (by rw[Ji];omega) _).alloc (by rw[Ji,Ji];omega) _
 obtain⟨W3,g0⟩:=O1 (((w2.alloc (.cells #[.int .i64 I.kind,.int .i64 (I.width:Nat),.string (Oo I.index),.string (Oo I.elem)] 110)).alloc (.cells #[.int .i64 0,.int .i64 0,.string ⟨#[]⟩,.string ⟨#[]⟩] 110)).alloc (.cells #[.int .i64 0,.int .i64 0,.string ⟨#[]⟩,.string ⟨#[]⟩] 110));rw[g0] at Z ⊢;clear g0 d0 e1 e6 d6 e3;generalize w2.heap.size=M at Z ⊢;have j4:=Hd Z.o.le
 go_cut [20] (fun s20 wx=>s20=.bool (decide (0<ks.length))/\Wd wx w.heap.size M [vs,vf,vt] [.int .i64 o,.string (Oo so),.string (Oo G),.int .i64 a,.int .i64 b,vk] I (Kl (Ov (On S)) ks 0) SI.none w)
 case first=>
  by_cases h0:0<ks.length
  ·rcases HK.o with e0|⟨bb,rfl,e2,c6⟩
   ·rw[e0] at h0;cases h0
   have d5:=(Z.o.bel.cell (p:=⟨bb,0,none⟩) e2).trans (c6 0 h0);have d4:=Z.o.bank.cell 0;simp only[Jo] at d4;have HR:Hid (Kl (Ov (On S)) ks 0=Ov (On S) ks[0]):=by unfold Hid Kl kS;rw[if_pos h0,Jf h0];rfl
   have c8:(Oo ks[0]).size<=1048576:=by show ks[0].toArray.size<=_;simpa using HZ.o _ (Jw h0)
   generalize ks[0]=k0 at d5 HR c8;have i0:(0:Int)<(ks.length:Int):=by omega
   clear c6
   go_wp2_with fail
   go_region_with (go_at_call 81;refine (Kz vs S (Oo k0) W3.drew (HS.o.below Z.o.bel.drew) c8).mono ?_;rw[Ou,<-HR.o];rintro e w3 ⟨rfl,O⟩;have K:=Hd (Z.o.below (wy:=w3) ⟨O.os,O.tape,O.output,O.size,O.block⟩);clear O;obtain⟨x0,x1,x2,x3⟩:=K.o.x.c4;have f0:=K.o.x.frozen 0;have f1:=K.o.x.frozen 1;have f2:=K.o.x.frozen 2;have f3:=K.o.x.frozen 3;unfold Gy)
   all_goals (go_wp2_with fail;go_meet;exact⟨by simp[h0],K.o.setx _⟩)
  ·have e:Kl (Ov (On S)) ks 0=SI.none:=by unfold Kl;rw[if_neg h0]
   have HE:=Hd e;clear e
   go_wp2_with fail
   go_meet
   exact⟨by simp[h0],by rw[HE.o];exact Z.o⟩
 case rest=>
  obtain⟨rfl,b9⟩:=hcut;have K:=Hd b9;clear b9 Z;obtain⟨X1,d8⟩:=O1 (Kl (Ov (On S)) ks 0);have b7:=Hd d8;rw[d8] at K;clear d8
  go_upto_if 29 with fail
  go_cut [29] (fun s29 wx=>s29=.bool (decide ((1:Int)<(ks.length:Int)))/\Wd wx w.heap.size M [vs,vf,vt] [.int .i64 o,.string (Oo so),.string (Oo G),.int .i64 a,.int .i64 b,vk] I X1 (Kl (Ov (On S)) ks 1) w)
  case first=>
   by_cases h0:1<ks.length
   ·rcases HK.o with e0|⟨bb,rfl,e2,c6⟩
    ·rw[e0] at h0;cases h0
    have d5:=(K.o.bel.cell (p:=⟨bb,1,none⟩) e2).trans (c6 1 h0);have d4:=K.o.bank.cell 0;simp only[Jo] at d4;have HR:Hid (Kl (Ov (On S)) ks 1=Ov (On S) ks[1]):=by unfold Hid Kl kS;rw[if_pos h0,Jf h0];rfl
    have c8:(Oo ks[1]).size<=1048576:=by show ks[1].toArray.size<=_;simpa using HZ.o _ (Jw h0)
    generalize ks[1]=k0 at d5 HR c8;have i0:(1:Int)<(ks.length:Int):=by omega
    clear c6
    go_wp2_with fail
    go_region_with (go_at_call 81;refine (Kz vs S (Oo k0) wc.drew (HS.o.below K.o.bel.drew) c8).mono ?_;rw[Ou,<-HR.o];rintro e w3 ⟨rfl,O⟩;have J:=Hd (K.o.below (wy:=w3) ⟨O.os,O.tape,O.output,O.size,O.block⟩);clear O;obtain⟨x0,x1,x2,x3⟩:=J.o.y.c4;have f0:=J.o.y.frozen 0;have f1:=J.o.y.frozen 1;have f2:=J.o.y.frozen 2;have f3:=J.o.y.frozen 3;unfold Gy)
    all_goals (go_wp2_with fail;go_meet;exact⟨by simp[i0],J.o.sety _⟩)
   ·have e:Kl (Ov (On S)) ks 1=SI.none:=by unfold Kl;rw[if_neg h0]
    have HE:=Hd e;clear e;have i0:(ks.length:Int)<=1:=by omega
    have i1:¬ (1:Int)<(ks.length:Int):=by omega
    go_wp2_with fail
    go_meet
    exact⟨by simp,by rw[HE.o];exact K.o⟩
  case rest=>
   obtain⟨rfl,b9⟩:=hcut;have J:=Hd b9;clear b9 K;obtain⟨X2,e4⟩:=O1 (Kl (Ov (On S)) ks 1);have b6:=Hd e4;rw[e4] at J;clear e4;obtain⟨s0,s1,s2,s3⟩:=J.o.s.c4;obtain⟨x0,x1,x2,x3⟩:=J.o.x.c4;obtain⟨y0,y1,y2,y3⟩:=J.o.y.c4;obtain⟨t0,t1,t2,t3,t4⟩:=J.o.term.k5;have A:=Hd J.o.bel;clear J;have Y:Hid (I.width<=64/\X1.width<=64/\X2.width<=64):=⟨by rw[<-b5.o];exact Eu _ _,by rw[<-b7.o];exact Nm _ _ _,by rw[<-b6.o];exact Nm _ _ _⟩
   rcases (show o=43∨o=44∨o=45 by have:=HO.o;omega) with rfl|rfl|rfl
   ·have j:Hid (Oj (Ov (On S)) ⟨43,so,G,a,b,U⟩ ks=(decide (X1.kind=4)&&decide (a<X1.width)&&decide (b<=a)&&decide (0<=b)&&decide (I.kind=4)&&decide ((I.width:Int)=a - b+1))):=by unfold Hid Oj;simp only;rw[b5.o,b7.o,b6.o];rfl
    have f8:(I.width:Int)<=64:=by have:=Y.o;omega
    have e7:(X1.width:Int)<=64:=by have:=Y.o;omega
    have f9:(X2.width:Int)<=64:=by have:=Y.o;omega
    rcases Em X1.kind 4 with⟨d,q0⟩|⟨d,q0⟩
    ·rcases UO a (X1.width:Int) with⟨E,q1⟩|⟨E,q1⟩
     ·rcases Dw b a with⟨p2,q2⟩|⟨p2,q2⟩
      ·rcases Dw 0 b with⟨p3,q3⟩|⟨p3,q3⟩
       ·rcases Em I.kind 4 with⟨V,q4⟩|⟨V,q4⟩
        ·rcases Em (I.width:Int) (a - b+1) with⟨p5,q5⟩|⟨p5,q5⟩
         ·have F:Hid (Oj (Ov (On S)) ⟨43,so,G,a,b,U⟩ ks=true):=by unfold Hid;rw[j.o,Jb d,Jb E,Jb p2,Jb p3,Jb V,Jb p5];rfl
          clear d V p5
          go_wp2_with fail
          go_ret
          exact⟨Oz F.o.symm,A.o⟩
         ·have F:Hid (Oj (Ov (On S)) ⟨43,so,G,a,b,U⟩ ks=false):=by unfold Hid;rw[j.o,Jb d,Jb E,Jb p2,Jb p3,Jb V,Jg p5];rfl
          clear d V p5
          go_wp2_with fail
          go_ret
          exact⟨Oz F.o.symm,A.o⟩
        ·have F:Hid (Oj (Ov (On S)) ⟨43,so,G,a,b,U⟩ ks=false):=by unfold Hid;rw[j.o,Jb d,Jb E,Jb p2,Jb p3,Jg V];rfl
         clear d V
         go_wp2_with fail
         go_ret
         exact⟨Oz F.o.symm,A.o⟩
       ·have F:Hid (Oj (Ov (On S)) ⟨43,so,G,a,b,U⟩ ks=false):=by unfold Hid;rw[j.o,Jb d,Jb E,Jb p2,Jg p3];rfl
        clear d
        go_wp2_with fail
        go_ret
        exact⟨Oz F.o.symm,A.o⟩
      ·have F:Hid (Oj (Ov (On S)) ⟨43,so,G,a,b,U⟩ ks=false):=by unfold Hid;rw[j.o,Jb d,Jb E,Jg p2];rfl
       clear d
       go_wp2_with fail
       go_ret
       exact⟨Oz F.o.symm,A.o⟩
     ·have F:Hid (Oj (Ov (On S)) ⟨43,so,G,a,b,U⟩ ks=false):=by unfold Hid;rw[j.o,Jb d,Jg E];rfl
      clear d
      go_wp2_with fail
      go_ret
      exact⟨Oz F.o.symm,A.o⟩
    ·have F:Hid (Oj (Ov (On S)) ⟨43,so,G,a,b,U⟩ ks=false):=by unfold Hid;rw[j.o,Jg d];rfl
     clear d
     go_wp2_with fail
     go_ret
     exact⟨Oz F.o.symm,A.o⟩
   ·have j:Hid (Oj (Ov (On S)) ⟨44,so,G,a,b,U⟩ ks=(decide (X1.kind=4)&&decide (I.kind=4)&&decide (1<=a)&&decide (a<64)&&decide ((I.width:Int)=X1.width+a))):=by unfold Hid Oj;simp only;rw[b5.o,b7.o,b6.o];rfl
    have f8:(I.width:Int)<=64:=by have:=Y.o;omega
    have e7:(X1.width:Int)<=64:=by have:=Y.o;omega
    have f9:(X2.width:Int)<=64:=by have:=Y.o;omega
    rcases Em X1.kind 4 with⟨d,q0⟩|⟨d,q0⟩
    ·rcases Em I.kind 4 with⟨E,q1⟩|⟨E,q1⟩
     ·rcases Dw 1 a with⟨p2,q2⟩|⟨p2,q2⟩
      ·rcases UO a 64 with⟨p3,q3⟩|⟨p3,q3⟩
       ·rcases Em (I.width:Int) ((X1.width:Int)+a) with⟨V,q4⟩|⟨V,q4⟩
        ·have F:Hid (Oj (Ov (On S)) ⟨44,so,G,a,b,U⟩ ks=true):=by unfold Hid;rw[j.o,Jb d,Jb E,Jb p2,Jb p3,Jb V];rfl
         clear d E V
         go_wp2_with fail
         go_ret
         exact⟨Oz F.o.symm,A.o⟩
        ·have F:Hid (Oj (Ov (On S)) ⟨44,so,G,a,b,U⟩ ks=false):=by unfold Hid;rw[j.o,Jb d,Jb E,Jb p2,Jb p3,Jg V];rfl
         clear d E V
         go_wp2_with fail
         go_ret
         exact⟨Oz F.o.symm,A.o⟩
       ·have F:Hid (Oj (Ov (On S)) ⟨44,so,G,a,b,U⟩ ks=false):=by unfold Hid;rw[j.o,Jb d,Jb E,Jb p2,Jg p3];rfl
        clear d E
        go_wp2_with fail
        go_ret
        exact⟨Oz F.o.symm,A.o⟩
      ·have F:Hid (Oj (Ov (On S)) ⟨44,so,G,a,b,U⟩ ks=false):=by unfold Hid;rw[j.o,Jb d,Jb E,Jg p2];rfl
       clear d E
       go_wp2_with fail
       go_ret
       exact⟨Oz F.o.symm,A.o⟩
     ·have F:Hid (Oj (Ov (On S)) ⟨44,so,G,a,b,U⟩ ks=false):=by unfold Hid;rw[j.o,Jb d,Jg E];rfl
      clear d E
      go_wp2_with fail
      go_ret
      exact⟨Oz F.o.symm,A.o⟩
    ·have F:Hid (Oj (Ov (On S)) ⟨44,so,G,a,b,U⟩ ks=false):=by unfold Hid;rw[j.o,Jg d];rfl
     clear d
     go_wp2_with fail
     go_ret
     exact⟨Oz F.o.symm,A.o⟩
   ·have j:Hid (Oj (Ov (On S)) ⟨45,so,G,a,b,U⟩ ks=(decide (X1.kind=4)&&decide (I.kind=4)&&decide (1<=a)&&decide (a<64)&&decide ((I.width:Int)=X1.width+a))):=by unfold Hid Oj;simp only;rw[b5.o,b7.o,b6.o];rfl
    have f8:(I.width:Int)<=64:=by have:=Y.o;omega
    have e7:(X1.width:Int)<=64:=by have:=Y.o;omega
    have f9:(X2.width:Int)<=64:=by have:=Y.o;omega
    rcases Em X1.kind 4 with⟨d,q0⟩|⟨d,q0⟩
    ·rcases Em I.kind 4 with⟨E,q1⟩|⟨E,q1⟩
     ·rcases Dw 1 a with⟨p2,q2⟩|⟨p2,q2⟩
      ·rcases UO a 64 with⟨p3,q3⟩|⟨p3,q3⟩
       ·rcases Em (I.width:Int) ((X1.width:Int)+a) with⟨V,q4⟩|⟨V,q4⟩
        ·have F:Hid (Oj (Ov (On S)) ⟨45,so,G,a,b,U⟩ ks=true):=by unfold Hid;rw[j.o,Jb d,Jb E,Jb p2,Jb p3,Jb V];rfl
         clear d E V
         go_wp2_with fail
         go_ret
         exact⟨Oz F.o.symm,A.o⟩
        ·have F:Hid (Oj (Ov (On S)) ⟨45,so,G,a,b,U⟩ ks=false):=by unfold Hid;rw[j.o,Jb d,Jb E,Jb p2,Jb p3,Jg V];rfl
         clear d E V
         go_wp2_with fail
         go_ret
         exact⟨Oz F.o.symm,A.o⟩
       ·have F:Hid (Oj (Ov (On S)) ⟨45,so,G,a,b,U⟩ ks=false):=by unfold Hid;rw[j.o,Jb d,Jb E,Jb p2,Jg p3];rfl
        clear d E
        go_wp2_with fail
        go_ret
        exact⟨Oz F.o.symm,A.o⟩
      ·have F:Hid (Oj (Ov (On S)) ⟨45,so,G,a,b,U⟩ ks=false):=by unfold Hid;rw[j.o,Jb d,Jb E,Jg p2];rfl
       clear d E
       go_wp2_with fail
       go_ret
       exact⟨Oz F.o.symm,A.o⟩
     ·have F:Hid (Oj (Ov (On S)) ⟨45,so,G,a,b,U⟩ ks=false):=by unfold Hid;rw[j.o,Jb d,Jg E];rfl
      clear d E
      go_wp2_with fail
      go_ret
      exact⟨Oz F.o.symm,A.o⟩
    ·have F:Hid (Oj (Ov (On S)) ⟨45,so,G,a,b,U⟩ ks=false):=by unfold Hid;rw[j.o,Jg d];rfl
     clear d
     go_wp2_with fail
     go_ret
     exact⟨Oz F.o.symm,A.o⟩
end Go.Proofs.YtipgjenolpofpaaGreatDoor
