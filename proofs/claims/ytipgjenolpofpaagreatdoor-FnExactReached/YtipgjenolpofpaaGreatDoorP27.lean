import Derived.Test.YtipgjenolpofpaaGreatDoorP25
set_option maxRecDepth 100000
set_option maxHeartbeats 8000000
namespace Go.Proofs.YtipgjenolpofpaaGreatDoor
open ChangeShapes WideShapes ChangeAt RowKit Proofs.Tryz
theorem YB (vs vf vt:Value)(S:List (List UInt8))(t:Tm)(vk vks:Value)(ks:List (List UInt8))(w:World)(hS:O8 w vs S)(hks:O8 w vks ks)(hzs:t.sort.length<=1048576)(hzt:t.text.length<=1048576)(hz:∀ k∈ks,k.length<=1048576)(hlen:Kh t.op<=ks.length)(ho:24<=t.op/\t.op<=37∨t.op=42) :
 Calls prog 72 #[.agg #[vs,vf,vt],.agg #[.int .i64 t.op,.string (Oo t.sort),.string (Oo t.text),.int .i64 t.a,.int .i64 t.b,vk],vks] w fun e w'=>e=.returned (.bool (Oj (Ov (On S)) t ks))/\Up w w':=by
 obtain⟨pk,ck,rfl,k1,k2,k3⟩:=hks;obtain⟨o,so,d,a,b,Z⟩:=t;simp only at hzs hzt hlen ho ⊢;have HS:=Hd hS;have HK:=Hd k3;have HZ:=Hd hz;have HL:=Hd hlen;have HO:=Hd ho;unfold maxLen at k2;have e8:(Oo so).size<=1048576:=by show so.toArray.size<=_;simpa using hzs
 have j2:(Oo d).size<=1048576:=by show d.toArray.size<=_;simpa using hzt
 clear hS k3 hz hlen ho
 go_in
 go_wp2_with fail
 obtain⟨W1,b3⟩:=O1 ((w.alloc (.cells #[vs,vf,vt] 32)).alloc (.cells #[.int .i64 o,.string (Oo so),.string (Oo d),.int .i64 a,.int .i64 b,vk] 57));have c8:Hid (Up w W1):=by unfold Hid;rw[<-b3];exact ((Jh _ _).alloc Of _).alloc (by rw[Ji];omega) _
 have e6:Hid (W1.heap.size=w.heap.size+2):=by unfold Hid;rw[<-b3];simp
 have d1:Hid (Bx W1 w.heap.size [vs,vf,vt]):=by unfold Hid;rw[<-b3];exact (Oi w _ _).alloc _
 have d2:Hid (Bx W1 (w.heap.size+1) [.int .i64 o,.string (Oo so),.string (Oo d),.int .i64 a,.int .i64 b,vk]):=by unfold Hid;rw[<-b3];have h:=Oi (w.alloc (.cells #[vs,vf,vt] 32)) [.int .i64 o,.string (Oo so),.string (Oo d),.int .i64 a,.int .i64 b,vk] 57;rw[Ji] at h;exact h
 rw[b3];clear b3;refine (Kz vs S (Oo so) _ (HS.o.bl c8.o) e8).mono ?_;rw[Ou];obtain⟨J,d6⟩:=O1 (Ov (On S) so);have a7:=Hd d6;rw[d6];clear d6;rintro e w2 ⟨rfl,b4⟩;unfold N9
 go_upto_if 20 with fail
 have V:Hid (Wd (((w2.alloc (.cells #[.int .i64 J.kind,.int .i64 (J.width:Nat),.string (Oo J.index),.string (Oo J.elem)] 110)).alloc (.cells #[.int .i64 0,.int .i64 0,.string ⟨#[]⟩,.string ⟨#[]⟩] 110)).alloc (.cells #[.int .i64 0,.int .i64 0,.string ⟨#[]⟩,.string ⟨#[]⟩] 110)) w.heap.size w2.heap.size [vs,vf,vt] [.int .i64 o,.string (Oo so),.string (Oo d),.int .i64 a,.int .i64 b,vk] J SI.none SI.none w):=by
  have h6:=e6.o;have j1:=b4.size;have h7:=d1.o.bl d1.o.lt b4;have h8:=d2.o.bl d2.o.lt b4;have q0:=Oi w2 (Ri J) 110;have q1:=Oi (w2.alloc (.cells (Ri J).toArray 110)) (Ri SI.none) 110;have q2:=Oi ((w2.alloc (.cells (Ri J).toArray 110)).alloc (.cells (Ri SI.none).toArray 110)) (Ri SI.none) 110;rw[Ji] at q1;rw[Ji,Ji] at q2;refine⟨((h7.alloc _).alloc _).alloc _,((h8.alloc _).alloc _).alloc _,(q0.alloc _).alloc _,q1.alloc _,q2,by omega,?_⟩;have g7:Up w w2:=c8.o.trans (b4.mono (by omega));exact ((g7.alloc (by omega) _).alloc (by rw[Ji];omega) _).alloc (by rw[Ji,Ji];omega) _
 obtain⟨W3,e7⟩:=O1 (((w2.alloc (.cells #[.int .i64 J.kind,.int .i64 (J.width:Nat),.string (Oo J.index),.string (Oo J.elem)] 110)).alloc (.cells #[.int .i64 0,.int .i64 0,.string ⟨#[]⟩,.string ⟨#[]⟩] 110)).alloc (.cells #[.int .i64 0,.int .i64 0,.string ⟨#[]⟩,.string ⟨#[]⟩] 110));rw[e7] at V ⊢;clear e7 b4 c8 e6 d1 d2;generalize w2.heap.size=M at V ⊢;have j7:=Hd V.o.le
 go_cut [20] (fun s20 wx=>s20=.bool (decide (0<ks.length))/\Wd wx w.heap.size M [vs,vf,vt] [.int .i64 o,.string (Oo so),.string (Oo d),.int .i64 a,.int .i64 b,vk] J (Kl (Ov (On S)) ks 0) SI.none w)
 case first=>
  by_cases Y:0<ks.length
  ·rcases HK.o with e0|⟨bb,rfl,d9,b5⟩
   ·rw[e0] at Y;cases Y
   have d5:=(V.o.bel.cell (p:=⟨bb,0,none⟩) d9).trans (b5 0 Y);have d4:=V.o.bank.cell 0;simp only[Jo] at d4;have HR:Hid (Kl (Ov (On S)) ks 0=Ov (On S) ks[0]):=by unfold Hid Kl kS;rw[if_pos Y,Jf Y];rfl
   have b7:(Oo ks[0]).size<=1048576:=by show ks[0].toArray.size<=_;simpa using HZ.o _ (Jw Y)
   generalize ks[0]=k0 at d5 HR b7;have i0:(0:Int)<(ks.length:Int):=by omega
   clear b5
   go_wp2
   go_region_with (go_at_call 81;refine (Kz vs S (Oo k0) W3.drew (HS.o.bl V.o.bel.drew) b7).mono ?_;rw[Ou,<-HR.o];rintro e w3 ⟨rfl,I⟩;have A:=Hd (V.o.bl (wy:=w3) ⟨I.os,I.tape,I.output,I.size,I.block⟩);clear I;obtain⟨x0,x1,x2,x3⟩:=A.o.x.c4;have f0:=A.o.x.fz 0;have f1:=A.o.x.fz 1;have f2:=A.o.x.fz 2;have f3:=A.o.x.fz 3;unfold N9)
   all_goals (go_wp2;go_meet;exact⟨by simp[Y],A.o.setx _⟩)
  have e:Kl (Ov (On S)) ks 0=SI.none:=by unfold Kl;rw[if_neg Y]
  have HE:=Hd e;clear e
  go_wp2
  go_meet
  exact⟨by simp[Y],by rw[HE.o];exact V.o⟩
 obtain⟨rfl,b6⟩:=hcut;have A:=Hd b6;clear b6 V;obtain⟨X1,d7⟩:=O1 (Kl (Ov (On S)) ks 0);have b8:=Hd d7;rw[d7] at A;clear d7
 go_upto_if 29 with fail
 go_cut [29] (fun s29 wx=>s29=.bool (decide ((1:Int)<(ks.length:Int)))/\Wd wx w.heap.size M [vs,vf,vt] [.int .i64 o,.string (Oo so),.string (Oo d),.int .i64 a,.int .i64 b,vk] J X1 (Kl (Ov (On S)) ks 1) w)
 case first=>
  by_cases Y:1<ks.length
  ·rcases HK.o with e0|⟨bb,rfl,d9,b5⟩
   ·rw[e0] at Y;cases Y
   have d5:=(A.o.bel.cell (p:=⟨bb,1,none⟩) d9).trans (b5 1 Y);have d4:=A.o.bank.cell 0;simp only[Jo] at d4;have HR:Hid (Kl (Ov (On S)) ks 1=Ov (On S) ks[1]):=by unfold Hid Kl kS;rw[if_pos Y,Jf Y];rfl
   have b7:(Oo ks[1]).size<=1048576:=by show ks[1].toArray.size<=_;simpa using HZ.o _ (Jw Y)
   generalize ks[1]=k0 at d5 HR b7;have i0:(1:Int)<(ks.length:Int):=by omega
   clear b5
   go_wp2
   go_region_with (go_at_call 81;refine (Kz vs S (Oo k0) wc.drew (HS.o.bl A.o.bel.drew) b7).mono ?_;rw[Ou,<-HR.o];rintro e w3 ⟨rfl,I⟩;have E:=Hd (A.o.bl (wy:=w3) ⟨I.os,I.tape,I.output,I.size,I.block⟩);clear I;obtain⟨x0,x1,x2,x3⟩:=E.o.y.c4;have f0:=E.o.y.fz 0;have f1:=E.o.y.fz 1;have f2:=E.o.y.fz 2;have f3:=E.o.y.fz 3;unfold N9)
   all_goals (go_wp2;go_meet;exact⟨by simp[i0],E.o.sety _⟩)
  have e:Kl (Ov (On S)) ks 1=SI.none:=by unfold Kl;rw[if_neg Y]
  have HE:=Hd e;clear e;have i0:(ks.length:Int)<=1:=by omega
  have i1:¬ (1:Int)<(ks.length:Int):=by omega
  go_wp2
  go_meet
  exact⟨by simp,by rw[HE.o];exact A.o⟩
 obtain⟨rfl,b6⟩:=hcut;have E:=Hd b6;clear b6 A;obtain⟨X2,d8⟩:=O1 (Kl (Ov (On S)) ks 1);have b9:=Hd d8;rw[d8] at E;clear d8;obtain⟨s0,s1,s2,s3⟩:=E.o.s.c4;obtain⟨x0,x1,x2,x3⟩:=E.o.x.c4;obtain⟨y0,y1,y2,y3⟩:=E.o.y.c4;obtain⟨t0,t1,t2,t3,t4⟩:=E.o.term.k5;have G:=Hd E.o.bel;clear E;have d0:Hid (J.width<=64/\X1.width<=64/\X2.width<=64):=⟨by rw[<-a7.o];exact Eu _ _,by rw[<-b8.o];exact Nf _ _ _,by rw[<-b9.o];exact Nf _ _ _⟩
 rcases (show o=24∨(25<=o/\o<=37)∨o=42 by have:=HO.o;omega) with rfl|hdf|rfl
 ·have U:Hid (Oj (Ov (On S)) ⟨24,so,d,a,b,Z⟩ ks=(decide (J.kind=4)&&decide (d.length=J.width)&&d.all Hu)):=by unfold Hid Oj;simp only;rw[a7.o];rfl
  have h6:(Oo d).size=d.length:=by show d.toArray.size=_;simp
  by_cases K:J.kind=4
  ·have q0:=N3 K
   by_cases p1:((Oo d).size:Int)=(J.width:Int)
   ·have q1:=N3 p1;have F:Hid (Oj (Ov (On S)) ⟨24,so,d,a,b,Z⟩ ks=d.all Hu):=by unfold Hid;rw[U.o,Jb K,Jb (by omega)];rfl
    clear K p1
    go_wp2
    go_loop [10] (fun i=>∃ k:Nat,k<=d.length/\i=.int .i64 (k:Nat)/\∀ j (h:j<d.length),j<k->Hu d[j]=true) (fun i=>d.length - (intOf i).toNat)
    case atStart=>exact⟨0,Jy _,rfl,fun j _ h=>absurd h (J2 _)⟩
    obtain⟨k,hk,rfl,hp⟩:=hrel;have HP:=Hd hp;clear hp
    by_cases h1:k<d.length
    ·have g9:(k:Int)<((Oo d).size:Int):=by omega
     have i0:(0:Int)<=(k:Int):=by omega
     have g8:k<(Oo d).size:=by omega
     obtain⟨c,hc⟩:=O1 ((Oo d)[k]'g8);have HC:Hid (d[k]=c):=by unfold Hid;rw[<-hc];rfl
     by_cases c0:(c.toNat:Int)=48
     ·have z0:=N3 c0;have HN:Hid (Hu d[k]=true):=by unfold Hid Hu;rw[HC.o];simp;omega
      clear c0
      go_wp2
      go_round
      case rel=>exact⟨k+1,by omega,by go_num,fun j hj h2=>by
       rcases J0.1 h2 with h|rfl
       ·exact HP.o j hj h
       exact HN.o⟩
      simp[intOf];omega
     have z0:=Eo c0
     by_cases c1:(c.toNat:Int)=49
     ·have z1:=N3 c1;have HN:Hid (Hu d[k]=true):=by unfold Hid Hu;rw[HC.o];simp;omega
      clear c0 c1
      go_wp2
      go_round
      case rel=>exact⟨k+1,by omega,by go_num,fun j hj h2=>by
       rcases J0.1 h2 with h|rfl
       ·exact HP.o j hj h
       exact HN.o⟩
      simp[intOf];omega
     have z1:=Eo c1;have F2:Hid (Oj (Ov (On S)) ⟨24,so,d,a,b,Z⟩ ks=false):=by
      unfold Hid;rw[F.o,J9];intro h;have h2:=Ju.1 h d[k] (Jw h1);rw[HC.o] at h2;simp[Hu] at h2;omega
     clear c0 c1
     go_wp2
     go_ret
     exact⟨Oz F2.o.symm,G.o⟩
    have F2:Hid (Oj (Ov (On S)) ⟨24,so,d,a,b,Z⟩ ks=true):=by
     unfold Hid;rw[F.o,Ju];intro x hx;obtain⟨j,hj,rfl⟩:=Ya hx;exact HP.o j hj (by omega)
    have g9:¬ (k:Int)<((Oo d).size:Int):=by omega
    go_wp2
    go_ret
    exact⟨Oz F2.o.symm,G.o⟩
   have q1:=Eo p1;have F:Hid (Oj (Ov (On S)) ⟨24,so,d,a,b,Z⟩ ks=false):=by unfold Hid;rw[U.o,Jb K,Jg (by omega)];rfl
   clear K p1
   go_wp2
   go_ret
   exact⟨Oz F.o.symm,G.o⟩
  have q0:=Eo K;have F:Hid (Oj (Ov (On S)) ⟨24,so,d,a,b,Z⟩ ks=false):=by unfold Hid;rw[U.o,Jg K];rfl
  clear K
  go_wp2
  go_ret
  exact⟨Oz F.o.symm,G.o⟩
 ·have g0:=Hd hdf;clear hdf;have O:Hid (25<=o/\o<=37):=g0.o;have l6:(o==24)=false:=by rw[Jc];have:=O.o;omega
  have l7:(o==38)=false:=by rw[Jc];have:=O.o;omega
  have l8:(o==39)=false:=by rw[Jc];have:=O.o;omega
  have l9:(o==40)=false:=by rw[Jc];have:=O.o;omega
  have m5:(o==41)=false:=by rw[Jc];have:=O.o;omega
  have m6:(o==42)=false:=by rw[Jc];have:=O.o;omega
  have m7:(o==43)=false:=by rw[Jc];have:=O.o;omega
  have m8:(o==44)=false:=by rw[Jc];have:=O.o;omega
  have m9:(o==45)=false:=by rw[Jc];have:=O.o;omega
  have z46:(o==46)=false:=by rw[Jc];have:=O.o;omega
  have n0:(o==47)=false:=by rw[Jc];have:=O.o;omega
  have U:Hid (Oj (Ov (On S)) ⟨o,so,d,a,b,Z⟩ ks=(decide (J.kind=4)&&K1 ks so)):=by
   have h:=O.o;unfold Hid Oj;simp only;rw[a7.o,if_neg (by omega),if_neg (by omega),if_neg (by omega),if_neg (by omega),if_neg (by omega),if_neg (by omega),if_neg (by omega)]
  rcases Em J.kind 4 with⟨K,q0⟩|⟨K,q0⟩
  ·have F:Hid (Oj (Ov (On S)) ⟨o,so,d,a,b,Z⟩ ks=K1 ks so):=by unfold Hid;rw[U.o,Jb K];rfl
   clear K
   go_wp2_with fail
   refine (Kv _ ks (Oo so) _ ⟨pk,ck,rfl,k1,by unfold maxLen;exact k2,(HK.o).imp id (fun ⟨bb,e,hl,h⟩=>⟨bb,e,Jz hl G.o.size,fun i hi=>(G.o.cell (p:=⟨bb,i,none⟩) hl).trans (h i hi)⟩)⟩).mono ?_;rw[Ou];generalize K1 ks so=B at F ⊢;rintro e w6 ⟨rfl,rfl⟩
   go_wp2
   go_ret
   exact⟨Oz F.o.symm,G.o⟩
  have F:Hid (Oj (Ov (On S)) ⟨o,so,d,a,b,Z⟩ ks=false):=by unfold Hid;rw[U.o,Jg K];rfl
  clear K
  go_wp2
  go_ret
  exact⟨Oz F.o.symm,G.o⟩
 have U:Hid (Oj (Ov (On S)) ⟨42,so,d,a,b,Z⟩ ks=(decide (X1.kind=4)&&decide (X2.kind=4)&&decide (J.kind=4)&&decide (J.width=X1.width+X2.width))):=by unfold Hid Oj;simp only;rw[a7.o,b8.o,b9.o];rfl
 have l2:(J.width:Int)<=64:=by have:=d0.o;omega
 have l3:(X1.width:Int)<=64:=by have:=d0.o;omega
 have l4:(X2.width:Int)<=64:=by have:=d0.o;omega
 rcases Em X1.kind 4 with⟨K,q0⟩|⟨K,q0⟩
 ·rcases Em X2.kind 4 with⟨p1,q1⟩|⟨p1,q1⟩
  ·rcases Em J.kind 4 with⟨p2,q2⟩|⟨p2,q2⟩
   ·rcases Em (J.width:Int) ((X1.width:Int)+(X2.width:Int)) with⟨p3,q3⟩|⟨p3,q3⟩
    ·have F:Hid (Oj (Ov (On S)) ⟨42,so,d,a,b,Z⟩ ks=true):=by unfold Hid;rw[U.o,Jb K,Jb p1,Jb p2,Jb (by omega)];rfl
     clear K p1 p2 p3
     go_wp2
     go_ret
     exact⟨Oz F.o.symm,G.o⟩
    have F:Hid (Oj (Ov (On S)) ⟨42,so,d,a,b,Z⟩ ks=false):=by unfold Hid;rw[U.o,Jb K,Jb p1,Jb p2,Jg (by omega)];rfl
    clear K p1 p2 p3
    go_wp2
    go_ret
    exact⟨Oz F.o.symm,G.o⟩
   have F:Hid (Oj (Ov (On S)) ⟨42,so,d,a,b,Z⟩ ks=false):=by unfold Hid;rw[U.o,Jb K,Jb p1,Jg p2];rfl
   clear K p1 p2
   go_wp2
   go_ret
   exact⟨Oz F.o.symm,G.o⟩
  have F:Hid (Oj (Ov (On S)) ⟨42,so,d,a,b,Z⟩ ks=false):=by unfold Hid;rw[U.o,Jb K,Jg p1];rfl
  clear K p1
  go_wp2
  go_ret
  exact⟨Oz F.o.symm,G.o⟩
 have F:Hid (Oj (Ov (On S)) ⟨42,so,d,a,b,Z⟩ ks=false):=by unfold Hid;rw[U.o,Jg K];rfl
 clear K
 go_wp2
 go_ret
 exact⟨Oz F.o.symm,G.o⟩
end Go.Proofs.YtipgjenolpofpaaGreatDoor
