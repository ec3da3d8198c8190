import Derived.Test.YtdmdmgfjpomdbaaGreatDoorP00
import Derived.Test.YtdmdmgfjpomdbaaGreatDoorP25
set_option maxRecDepth 100000
set_option maxHeartbeats 8000000
namespace Go.Proofs.YtdmdmgfjpomdbaaGreatDoor
open ChangeShapes WideShapes ChangeAt RowKit Proofs.Tryz
theorem Dz (vs vf vt:Value)(S:List (List UInt8))(t:Tm)(vk vks:Value)(ks:List (List UInt8))(w:World)(hS:O3 w vs S)(hks:O3 w vks ks)(hzs:t.sort.length<=1048576)(hzt:t.text.length<=1048576)(hz:∀ k∈ks,k.length<=1048576)(hlen:Ko t.op<=ks.length)(ho:24<=t.op/\t.op<=47) :
 Calls prog 73 #[.agg #[vs,vf,vt],.agg #[.int .i64 t.op,.string (Oo t.sort),.string (Oo t.text),.int .i64 t.a,.int .i64 t.b,vk],vks] w fun e w'=>e=.returned (.bool (Oh (Ov (Ok S)) t ks))/\Up w w':=by
 obtain⟨pk,ck,rfl,k1,k2,k3⟩:=hks;obtain⟨o,so,I,a,b,J⟩:=t;simp only at hzs hzt hlen ho ⊢;have HS:=Hd hS;have HK:=Hd k3;have HZ:=Hd hz;have HL:=Hd hlen;have HO:=Hd ho;unfold maxLen at k2;have h9:(Oo so).size<=1048576:=by show so.toArray.size<=_;simpa using hzs
 have l6:(Oo I).size<=1048576:=by show I.toArray.size<=_;simpa using hzt
 clear hS k3 hz hlen ho
 go_in
 go_wp2_with fail
 obtain⟨W1,e1⟩:=Oa ((w.alloc (.cells #[vs,vf,vt] 31)).alloc (.cells #[.int .i64 o,.string (Oo so),.string (Oo I),.int .i64 a,.int .i64 b,vk] 55));have f9:Hid (Up w W1):=by unfold Hid;rw[<-e1];exact ((Je _ _).alloc leR _).alloc (by rw[Jf];omega) _
 have h7:Hid (W1.heap.size=w.heap.size+2):=by unfold Hid;rw[<-e1];simp
 have g0:Hid (Bx W1 w.heap.size [vs,vf,vt]):=by unfold Hid;rw[<-e1];exact (Oi w _ _).alloc _
 have g1:Hid (Bx W1 (w.heap.size+1) [.int .i64 o,.string (Oo so),.string (Oo I),.int .i64 a,.int .i64 b,vk]):=by unfold Hid;rw[<-e1];have h:=Oi (w.alloc (.cells #[vs,vf,vt] 31)) [.int .i64 o,.string (Oo so),.string (Oo I),.int .i64 a,.int .i64 b,vk] 55;rw[Jf] at h;exact h
 rw[e1];clear e1;refine (Kv vs S (Oo so) _ (HS.o.bl f9.o) h9).mono ?_;rw[Ou];obtain⟨U,g4⟩:=Oa (Ov (Ok S) so);have a7:=Hd g4;rw[g4];clear g4;rintro e w2 ⟨rfl,hb2⟩;unfold Gw
 go_upto_if 20 with fail
 have d5:Hid (Wd (((w2.alloc (.cells #[.int .i64 U.kind,.int .i64 (U.width:Nat),.string (Oo U.index),.string (Oo U.elem)] 101)).alloc (.cells #[.int .i64 0,.int .i64 0,.string ⟨#[]⟩,.string ⟨#[]⟩] 101)).alloc (.cells #[.int .i64 0,.int .i64 0,.string ⟨#[]⟩,.string ⟨#[]⟩] 101)) w.heap.size w2.heap.size [vs,vf,vt] [.int .i64 o,.string (Oo so),.string (Oo I),.int .i64 a,.int .i64 b,vk] U SI.none SI.none w):=by
  have k9:=h7.o;have l5:=hb2.size;have l0:=g0.o.bl g0.o.lt hb2;have l1:=g1.o.bl g1.o.lt hb2;have q0:=Oi w2 (Qw U) 101;have q1:=Oi (w2.alloc (.cells (Qw U).toArray 101)) (Qw SI.none) 101;have q2:=Oi ((w2.alloc (.cells (Qw U).toArray 101)).alloc (.cells (Qw SI.none).toArray 101)) (Qw SI.none) 101;rw[Jf] at q1;rw[Jf,Jf] at q2;refine⟨((l0.alloc _).alloc _).alloc _,((l1.alloc _).alloc _).alloc _,(q0.alloc _).alloc _,q1.alloc _,q2,by omega,?_⟩;have j8:Up w w2:=f9.o.trans (hb2.mono (by omega));exact ((j8.alloc (by omega) _).alloc (by rw[Jf];omega) _).alloc (by rw[Jf,Jf];omega) _
 obtain⟨W3,h8⟩:=Oa (((w2.alloc (.cells #[.int .i64 U.kind,.int .i64 (U.width:Nat),.string (Oo U.index),.string (Oo U.elem)] 101)).alloc (.cells #[.int .i64 0,.int .i64 0,.string ⟨#[]⟩,.string ⟨#[]⟩] 101)).alloc (.cells #[.int .i64 0,.int .i64 0,.string ⟨#[]⟩,.string ⟨#[]⟩] 101));rw[h8] at d5 ⊢;clear h8 hb2 f9 h7 g0 g1;generalize w2.heap.size=M at d5 ⊢;have m6:=Hd d5.o.le
 go_cut [20] (fun s20 wx=>s20=.bool (decide (0<ks.length))/\Wd wx w.heap.size M [vs,vf,vt] [.int .i64 o,.string (Oo so),.string (Oo I),.int .i64 a,.int .i64 b,vk] U (Kc (Ov (Ok S)) ks 0) SI.none w)
 case first=>
  by_cases h0:0<ks.length
  ·rcases HK.o with e0|⟨bb,rfl,Z,O⟩
   ·rw[e0] at h0;cases h0
   have b6:=(d5.o.bel.cell (p:=⟨bb,0,none⟩) Z).trans (O 0 h0);have g2:=d5.o.bank.cell 0;simp only[Jm] at g2;have HR:Hid (Kc (Ov (Ok S)) ks 0=Ov (Ok S) ks[0]):=by unfold Hid Kc kS;rw[if_pos h0,Jd h0];rfl
   have e5:(Oo ks[0]).size<=1048576:=by show ks[0].toArray.size<=_;simpa using HZ.o _ (Jo h0)
   generalize ks[0]=k0 at b6 HR e5;have i0:(0:Int)<(ks.length:Int):=by omega
   clear O
   go_wp2
   go_region_with (go_at_call 67;refine (Kv vs S (Oo k0) W3.drew (HS.o.bl d5.o.bel.drew) e5).mono ?_;rw[Ou,<-HR.o];rintro e w3 ⟨rfl,b9⟩;have b7:=Hd (d5.o.bl (wy:=w3) ⟨b9.os,b9.tape,b9.output,b9.size,b9.block⟩);clear b9;obtain⟨x0,x1,x2,x3⟩:=b7.o.x.c4;have f0:=b7.o.x.fz 0;have f1:=b7.o.x.fz 1;have f2:=b7.o.x.fz 2;have f3:=b7.o.x.fz 3;unfold Gw)
   all_goals (go_wp2;go_meet;exact⟨by simp[h0],b7.o.setx _⟩)
  have e:Kc (Ov (Ok S)) ks 0=SI.none:=by unfold Kc;rw[if_neg h0]
  have HE:=Hd e;clear e
  go_wp2
  go_meet
  exact⟨by simp[h0],by rw[HE.o];exact d5.o⟩
 obtain⟨rfl,e4⟩:=hcut;have b7:=Hd e4;clear e4 d5;obtain⟨X1,g5⟩:=Oa (Kc (Ov (Ok S)) ks 0);have b3:=Hd g5;rw[g5] at b7;clear g5
 go_upto_if 29 with fail
 go_cut [29] (fun s29 wx=>s29=.bool (decide ((1:Int)<(ks.length:Int)))/\Wd wx w.heap.size M [vs,vf,vt] [.int .i64 o,.string (Oo so),.string (Oo I),.int .i64 a,.int .i64 b,vk] U X1 (Kc (Ov (Ok S)) ks 1) w)
 case first=>
  by_cases h0:1<ks.length
  ·rcases HK.o with e0|⟨bb,rfl,Z,O⟩
   ·rw[e0] at h0;cases h0
   have b6:=(b7.o.bel.cell (p:=⟨bb,1,none⟩) Z).trans (O 1 h0);have g2:=b7.o.bank.cell 0;simp only[Jm] at g2;have HR:Hid (Kc (Ov (Ok S)) ks 1=Ov (Ok S) ks[1]):=by unfold Hid Kc kS;rw[if_pos h0,Jd h0];rfl
   have e5:(Oo ks[1]).size<=1048576:=by show ks[1].toArray.size<=_;simpa using HZ.o _ (Jo h0)
   generalize ks[1]=k0 at b6 HR e5;have i0:(1:Int)<(ks.length:Int):=by omega
   clear O
   go_wp2
   go_region_with (go_at_call 67;refine (Kv vs S (Oo k0) wc.drew (HS.o.bl b7.o.bel.drew) e5).mono ?_;rw[Ou,<-HR.o];rintro e w3 ⟨rfl,b9⟩;have b8:=Hd (b7.o.bl (wy:=w3) ⟨b9.os,b9.tape,b9.output,b9.size,b9.block⟩);clear b9;obtain⟨x0,x1,x2,x3⟩:=b8.o.y.c4;have f0:=b8.o.y.fz 0;have f1:=b8.o.y.fz 1;have f2:=b8.o.y.fz 2;have f3:=b8.o.y.fz 3;unfold Gw)
   all_goals (go_wp2;go_meet;exact⟨by simp[i0],b8.o.sety _⟩)
  have e:Kc (Ov (Ok S)) ks 1=SI.none:=by unfold Kc;rw[if_neg h0]
  have HE:=Hd e;clear e;have i0:(ks.length:Int)<=1:=by omega
  have i1:¬ (1:Int)<(ks.length:Int):=by omega
  go_wp2
  go_meet
  exact⟨by simp,by rw[HE.o];exact b7.o⟩
 obtain⟨rfl,e4⟩:=hcut;have b8:=Hd e4;clear e4 b7;obtain⟨X2,g6⟩:=Oa (Kc (Ov (Ok S)) ks 1);have b4:=Hd g6;rw[g6] at b8;clear g6;obtain⟨s0,s1,s2,s3⟩:=b8.o.s.c4;obtain⟨x0,x1,x2,x3⟩:=b8.o.x.c4;obtain⟨y0,y1,y2,y3⟩:=b8.o.y.c4;obtain⟨t0,t1,t2,t3,t4⟩:=b8.o.term.k5;have A:=Hd b8.o.bel;clear b8;have c8:Hid (U.width<=64/\X1.width<=64/\X2.width<=64):=⟨by rw[<-a7.o];exact En _ _,by rw[<-b3.o];exact Nf _ _ _,by rw[<-b4.o];exact Nf _ _ _⟩
 rcases (show (o=24∨(25<=o/\o<=37)∨o=42)∨(o=43∨o=44∨o=45)∨(o=38∨o=39∨o=40∨o=41)∨o=46∨o=47 by have:=HO.o;omega) with (rfl|hdf|rfl)|(rfl|rfl|rfl)|(rfl|rfl|rfl|rfl)|rfl|rfl
 ·as_aux_lemma=>
  have d:Hid (Oh (Ov (Ok S)) ⟨24,so,I,a,b,J⟩ ks=(decide (U.kind=4)&&decide (I.length=U.width)&&I.all Gs)):=by unfold Hid Oh;simp only;rw[a7.o];rfl
  have k9:(Oo I).size=I.length:=by show I.toArray.size=_;simp
  by_cases E:U.kind=4
  ·have q0:=Nr E
   by_cases G:((Oo I).size:Int)=(U.width:Int)
   ·have q1:=Nr G;have F:Hid (Oh (Ov (Ok S)) ⟨24,so,I,a,b,J⟩ ks=I.all Gs):=by unfold Hid;rw[d.o,Ja E,Ja (by omega)];rfl
    clear E G
    go_wp2
    go_loop [10] (fun i=>∃ k:Nat,k<=I.length/\i=.int .i64 (k:Nat)/\∀ j (h:j<I.length),j<k->Gs I[j]=true) (fun i=>I.length - (intOf i).toNat)
    case atStart=>exact⟨0,Jr _,rfl,fun j _ h=>absurd h (J2 _)⟩
    obtain⟨k,hk,rfl,hp⟩:=hrel;have HP:=Hd hp;clear hp
    by_cases k8:k<I.length
    ·have k7:(k:Int)<((Oo I).size:Int):=by omega
     have i0:(0:Int)<=(k:Int):=by omega
     have j9:k<(Oo I).size:=by omega
     obtain⟨c,hc⟩:=Oa ((Oo I)[k]'j9);have HC:Hid (I[k]=c):=by unfold Hid;rw[<-hc];rfl
     by_cases c0:(c.toNat:Int)=48
     ·have z0:=Nr c0;have HN:Hid (Gs I[k]=true):=by unfold Hid Gs;rw[HC.o];simp;omega
      clear c0
      go_wp2
      go_round
      case rel=>exact⟨k+1,by omega,by go_num,fun j hj h2=>by
       rcases J1.1 h2 with h|rfl
       ·exact HP.o j hj h
       exact HN.o⟩
      simp[intOf];omega
     have z0:=K3 c0
     by_cases c1:(c.toNat:Int)=49
     ·have z1:=Nr c1;have HN:Hid (Gs I[k]=true):=by unfold Hid Gs;rw[HC.o];simp;omega
      clear c0 c1
      go_wp2
      go_round
      case rel=>exact⟨k+1,by omega,by go_num,fun j hj h2=>by
       rcases J1.1 h2 with h|rfl
       ·exact HP.o j hj h
       exact HN.o⟩
      simp[intOf];omega
     have z1:=K3 c1;have F2:Hid (Oh (Ov (Ok S)) ⟨24,so,I,a,b,J⟩ ks=false):=by
      unfold Hid;rw[F.o,J8];intro h;have h2:=Jt.1 h I[k] (Jo k8);rw[HC.o] at h2;simp[Gs] at h2;omega
     clear c0 c1
     go_wp2
     go_ret
     exact⟨Oy F2.o.symm,A.o⟩
    have F2:Hid (Oh (Ov (Ok S)) ⟨24,so,I,a,b,J⟩ ks=true):=by
     unfold Hid;rw[F.o,Jt];intro x hx;obtain⟨j,hj,rfl⟩:=J6 hx;exact HP.o j hj (by omega)
    have k7:¬ (k:Int)<((Oo I).size:Int):=by omega
    go_wp2
    go_ret
    exact⟨Oy F2.o.symm,A.o⟩
   have q1:=K3 G;have F:Hid (Oh (Ov (Ok S)) ⟨24,so,I,a,b,J⟩ ks=false):=by unfold Hid;rw[d.o,Ja E,Jc (by omega)];rfl
   clear E G
   go_wp2
   go_ret
   exact⟨Oy F.o.symm,A.o⟩
  have q0:=K3 E;have F:Hid (Oh (Ov (Ok S)) ⟨24,so,I,a,b,J⟩ ks=false):=by unfold Hid;rw[d.o,Jc E];rfl
  clear E
  go_wp2
  go_ret
  exact⟨Oy F.o.symm,A.o⟩
 ·as_aux_lemma=>
  have j2:=Hd hdf;clear hdf;have c6:Hid (25<=o/\o<=37):=j2.o;have n5:(o==24)=false:=by rw[Jb];have:=c6.o;omega
  have n6:(o==38)=false:=by rw[Jb];have:=c6.o;omega
  have n7:(o==39)=false:=by rw[Jb];have:=c6.o;omega
  have n8:(o==40)=false:=by rw[Jb];have:=c6.o;omega
  have n9:(o==41)=false:=by rw[Jb];have:=c6.o;omega
  have o0:(o==42)=false:=by rw[Jb];have:=c6.o;omega
  have o1:(o==43)=false:=by rw[Jb];have:=c6.o;omega
  have o2:(o==44)=false:=by rw[Jb];have:=c6.o;omega
  have o3:(o==45)=false:=by rw[Jb];have:=c6.o;omega
  have z46:(o==46)=false:=by rw[Jb];have:=c6.o;omega
  have o4:(o==47)=false:=by rw[Jb];have:=c6.o;omega
  have d:Hid (Oh (Ov (Ok S)) ⟨o,so,I,a,b,J⟩ ks=(decide (U.kind=4)&&Kk ks so)):=by
   have h:=c6.o;unfold Hid Oh;simp only;rw[a7.o,if_neg (by omega),if_neg (by omega),if_neg (by omega),if_neg (by omega),if_neg (by omega),if_neg (by omega),if_neg (by omega)]
  rcases Kr U.kind 4 with⟨E,q0⟩|⟨E,q0⟩
  ·have F:Hid (Oh (Ov (Ok S)) ⟨o,so,I,a,b,J⟩ ks=Kk ks so):=by unfold Hid;rw[d.o,Ja E];rfl
   clear E
   go_wp2_with fail
   refine (Ow _ ks (Oo so) _ ⟨pk,ck,rfl,k1,by unfold maxLen;exact k2,(HK.o).imp id (fun ⟨bb,e,hl,h⟩=>⟨bb,e,Jq hl A.o.size,fun i hi=>(A.o.cell (p:=⟨bb,i,none⟩) hl).trans (h i hi)⟩)⟩).mono ?_;rw[Ou];generalize Kk ks so=B at F ⊢;rintro e w6 ⟨rfl,rfl⟩
   go_wp2
   go_ret
   exact⟨Oy F.o.symm,A.o⟩
  have F:Hid (Oh (Ov (Ok S)) ⟨o,so,I,a,b,J⟩ ks=false):=by unfold Hid;rw[d.o,Jc E];rfl
  clear E
  go_wp2
  go_ret
  exact⟨Oy F.o.symm,A.o⟩
 ·as_aux_lemma=>
  have d:Hid (Oh (Ov (Ok S)) ⟨42,so,I,a,b,J⟩ ks=(decide (X1.kind=4)&&decide (X2.kind=4)&&decide (U.kind=4)&&decide (U.width=X1.width+X2.width))):=by unfold Hid Oh;simp only;rw[a7.o,b3.o,b4.o];rfl
  have g7:(U.width:Int)<=64:=by have:=c8.o;omega
  have g8:(X1.width:Int)<=64:=by have:=c8.o;omega
  have g9:(X2.width:Int)<=64:=by have:=c8.o;omega
  rcases Kr X1.kind 4 with⟨E,q0⟩|⟨E,q0⟩
  ·rcases Kr X2.kind 4 with⟨G,q1⟩|⟨G,q1⟩
   ·rcases Kr U.kind 4 with⟨K,q2⟩|⟨K,q2⟩
    ·rcases Kr (U.width:Int) ((X1.width:Int)+(X2.width:Int)) with⟨p3,q3⟩|⟨p3,q3⟩
     ·have F:Hid (Oh (Ov (Ok S)) ⟨42,so,I,a,b,J⟩ ks=true):=by unfold Hid;rw[d.o,Ja E,Ja G,Ja K,Ja (by omega)];rfl
      clear E G K p3
      go_wp2
      go_ret
      exact⟨Oy F.o.symm,A.o⟩
     have F:Hid (Oh (Ov (Ok S)) ⟨42,so,I,a,b,J⟩ ks=false):=by unfold Hid;rw[d.o,Ja E,Ja G,Ja K,Jc (by omega)];rfl
     clear E G K p3
     go_wp2
     go_ret
     exact⟨Oy F.o.symm,A.o⟩
    have F:Hid (Oh (Ov (Ok S)) ⟨42,so,I,a,b,J⟩ ks=false):=by unfold Hid;rw[d.o,Ja E,Ja G,Jc K];rfl
    clear E G K
    go_wp2
    go_ret
    exact⟨Oy F.o.symm,A.o⟩
   have F:Hid (Oh (Ov (Ok S)) ⟨42,so,I,a,b,J⟩ ks=false):=by unfold Hid;rw[d.o,Ja E,Jc G];rfl
   clear E G
   go_wp2
   go_ret
   exact⟨Oy F.o.symm,A.o⟩
  have F:Hid (Oh (Ov (Ok S)) ⟨42,so,I,a,b,J⟩ ks=false):=by unfold Hid;rw[d.o,Jc E];rfl
  clear E
  go_wp2
  go_ret
  exact⟨Oy F.o.symm,A.o⟩
 ·as_aux_lemma=>
  have d:Hid (Oh (Ov (Ok S)) ⟨43,so,I,a,b,J⟩ ks=(decide (X1.kind=4)&&decide (a<X1.width)&&decide (b<=a)&&decide (0<=b)&&decide (U.kind=4)&&decide ((U.width:Int)=a - b+1))):=by unfold Hid Oh;simp only;rw[a7.o,b3.o,b4.o];rfl
  have g7:(U.width:Int)<=64:=by have:=c8.o;omega
  have g8:(X1.width:Int)<=64:=by have:=c8.o;omega
  have g9:(X2.width:Int)<=64:=by have:=c8.o;omega
  rcases Kr X1.kind 4 with⟨E,q0⟩|⟨E,q0⟩
  ·rcases Ld a (X1.width:Int) with⟨G,q1⟩|⟨G,q1⟩
   ·rcases Qb b a with⟨K,q2⟩|⟨K,q2⟩
    ·rcases Qb 0 b with⟨p3,q3⟩|⟨p3,q3⟩
     ·rcases Kr U.kind 4 with⟨p4,q4⟩|⟨p4,q4⟩
      ·rcases Kr (U.width:Int) (a - b+1) with⟨p5,q5⟩|⟨p5,q5⟩
       ·have F:Hid (Oh (Ov (Ok S)) ⟨43,so,I,a,b,J⟩ ks=true):=by unfold Hid;rw[d.o,Ja E,Ja G,Ja K,Ja p3,Ja p4,Ja p5];rfl
        clear E p4 p5
        go_wp2
        go_ret
        exact⟨Oy F.o.symm,A.o⟩
       have F:Hid (Oh (Ov (Ok S)) ⟨43,so,I,a,b,J⟩ ks=false):=by unfold Hid;rw[d.o,Ja E,Ja G,Ja K,Ja p3,Ja p4,Jc p5];rfl
       clear E p4 p5
       go_wp2
       go_ret
       exact⟨Oy F.o.symm,A.o⟩
      have F:Hid (Oh (Ov (Ok S)) ⟨43,so,I,a,b,J⟩ ks=false):=by unfold Hid;rw[d.o,Ja E,Ja G,Ja K,Ja p3,Jc p4];rfl
      clear E p4
      go_wp2
      go_ret
      exact⟨Oy F.o.symm,A.o⟩
     have F:Hid (Oh (Ov (Ok S)) ⟨43,so,I,a,b,J⟩ ks=false):=by unfold Hid;rw[d.o,Ja E,Ja G,Ja K,Jc p3];rfl
     clear E
     go_wp2
     go_ret
     exact⟨Oy F.o.symm,A.o⟩
    have F:Hid (Oh (Ov (Ok S)) ⟨43,so,I,a,b,J⟩ ks=false):=by unfold Hid;rw[d.o,Ja E,Ja G,Jc K];rfl
    clear E
    go_wp2
    go_ret
    exact⟨Oy F.o.symm,A.o⟩
   have F:Hid (Oh (Ov (Ok S)) ⟨43,so,I,a,b,J⟩ ks=false):=by unfold Hid;rw[d.o,Ja E,Jc G];rfl
   clear E
   go_wp2
   go_ret
   exact⟨Oy F.o.symm,A.o⟩
  have F:Hid (Oh (Ov (Ok S)) ⟨43,so,I,a,b,J⟩ ks=false):=by unfold Hid;rw[d.o,Jc E];rfl
  clear E
  go_wp2
  go_ret
  exact⟨Oy F.o.symm,A.o⟩
 ·as_aux_lemma=>
  have d:Hid (Oh (Ov (Ok S)) ⟨44,so,I,a,b,J⟩ ks=(decide (X1.kind=4)&&decide (U.kind=4)&&decide (1<=a)&&decide (a<64)&&decide ((U.width:Int)=X1.width+a))):=by unfold Hid Oh;simp only;rw[a7.o,b3.o,b4.o];rfl
  have g7:(U.width:Int)<=64:=by have:=c8.o;omega
  have g8:(X1.width:Int)<=64:=by have:=c8.o;omega
  have g9:(X2.width:Int)<=64:=by have:=c8.o;omega
  rcases Kr X1.kind 4 with⟨E,q0⟩|⟨E,q0⟩
  ·rcases Kr U.kind 4 with⟨G,q1⟩|⟨G,q1⟩
   ·rcases Qb 1 a with⟨K,q2⟩|⟨K,q2⟩
    ·rcases Ld a 64 with⟨p3,q3⟩|⟨p3,q3⟩
     ·rcases Kr (U.width:Int) ((X1.width:Int)+a) with⟨p4,q4⟩|⟨p4,q4⟩
      ·have F:Hid (Oh (Ov (Ok S)) ⟨44,so,I,a,b,J⟩ ks=true):=by unfold Hid;rw[d.o,Ja E,Ja G,Ja K,Ja p3,Ja p4];rfl
       clear E G p4
       go_wp2
       go_ret
       exact⟨Oy F.o.symm,A.o⟩
      have F:Hid (Oh (Ov (Ok S)) ⟨44,so,I,a,b,J⟩ ks=false):=by unfold Hid;rw[d.o,Ja E,Ja G,Ja K,Ja p3,Jc p4];rfl
      clear E G p4
      go_wp2
      go_ret
      exact⟨Oy F.o.symm,A.o⟩
     have F:Hid (Oh (Ov (Ok S)) ⟨44,so,I,a,b,J⟩ ks=false):=by unfold Hid;rw[d.o,Ja E,Ja G,Ja K,Jc p3];rfl
     clear E G
     go_wp2
     go_ret
     exact⟨Oy F.o.symm,A.o⟩
    have F:Hid (Oh (Ov (Ok S)) ⟨44,so,I,a,b,J⟩ ks=false):=by unfold Hid;rw[d.o,Ja E,Ja G,Jc K];rfl
    clear E G
    go_wp2
    go_ret
    exact⟨Oy F.o.symm,A.o⟩
   have F:Hid (Oh (Ov (Ok S)) ⟨44,so,I,a,b,J⟩ ks=false):=by unfold Hid;rw[d.o,Ja E,Jc G];rfl
   clear E G
   go_wp2
   go_ret
   exact⟨Oy F.o.symm,A.o⟩
  have F:Hid (Oh (Ov (Ok S)) ⟨44,so,I,a,b,J⟩ ks=false):=by unfold Hid;rw[d.o,Jc E];rfl
  clear E
  go_wp2
  go_ret
  exact⟨Oy F.o.symm,A.o⟩
 ·as_aux_lemma=>
  have d:Hid (Oh (Ov (Ok S)) ⟨45,so,I,a,b,J⟩ ks=(decide (X1.kind=4)&&decide (U.kind=4)&&decide (1<=a)&&decide (a<64)&&decide ((U.width:Int)=X1.width+a))):=by unfold Hid Oh;simp only;rw[a7.o,b3.o,b4.o];rfl
  have g7:(U.width:Int)<=64:=by have:=c8.o;omega
  have g8:(X1.width:Int)<=64:=by have:=c8.o;omega
  have g9:(X2.width:Int)<=64:=by have:=c8.o;omega
  rcases Kr X1.kind 4 with⟨E,q0⟩|⟨E,q0⟩
  ·rcases Kr U.kind 4 with⟨G,q1⟩|⟨G,q1⟩
   ·rcases Qb 1 a with⟨K,q2⟩|⟨K,q2⟩
    ·rcases Ld a 64 with⟨p3,q3⟩|⟨p3,q3⟩
     ·rcases Kr (U.width:Int) ((X1.width:Int)+a) with⟨p4,q4⟩|⟨p4,q4⟩
      ·have F:Hid (Oh (Ov (Ok S)) ⟨45,so,I,a,b,J⟩ ks=true):=by unfold Hid;rw[d.o,Ja E,Ja G,Ja K,Ja p3,Ja p4];rfl
       clear E G p4
       go_wp2
       go_ret
       exact⟨Oy F.o.symm,A.o⟩
      have F:Hid (Oh (Ov (Ok S)) ⟨45,so,I,a,b,J⟩ ks=false):=by unfold Hid;rw[d.o,Ja E,Ja G,Ja K,Ja p3,Jc p4];rfl
      clear E G p4
      go_wp2
      go_ret
      exact⟨Oy F.o.symm,A.o⟩
     have F:Hid (Oh (Ov (Ok S)) ⟨45,so,I,a,b,J⟩ ks=false):=by unfold Hid;rw[d.o,Ja E,Ja G,Ja K,Jc p3];rfl
     clear E G
     go_wp2
     go_ret
     exact⟨Oy F.o.symm,A.o⟩
    have F:Hid (Oh (Ov (Ok S)) ⟨45,so,I,a,b,J⟩ ks=false):=by unfold Hid;rw[d.o,Ja E,Ja G,Jc K];rfl
    clear E G
    go_wp2
    go_ret
    exact⟨Oy F.o.symm,A.o⟩
   have F:Hid (Oh (Ov (Ok S)) ⟨45,so,I,a,b,J⟩ ks=false):=by unfold Hid;rw[d.o,Ja E,Jc G];rfl
   clear E G
   go_wp2
   go_ret
   exact⟨Oy F.o.symm,A.o⟩
  have F:Hid (Oh (Ov (Ok S)) ⟨45,so,I,a,b,J⟩ ks=false):=by unfold Hid;rw[d.o,Jc E];rfl
  clear E
  go_wp2
  go_ret
  exact⟨Oy F.o.symm,A.o⟩
 ·as_aux_lemma=>
  have d:Hid (Oh (Ov (Ok S)) ⟨38,so,I,a,b,J⟩ ks=(decide (so=On)&&decide (kS ks 0=kS ks 1)&&decide (X1.kind=4))):=by unfold Hid Oh;simp only;rw[a7.o,b3.o,b4.o];rfl
  have b5:2<=ks.length:=by simpa[Ko] using HL.o
  rcases HK.o with e0|⟨bb,rfl,Z,O⟩
  ·rw[e0] at b5;cases b5
  have b6:=(A.o.cell (p:=⟨bb,0,none⟩) Z).trans (O 0 (by omega));have Y:kS ks 0=ks[0]:=by unfold kS;rw[Jd (by omega)];rfl
  have e6:(0:Int)<(ks.length:Int):=by omega
  have d3:=(A.o.cell (p:=⟨bb,1,none⟩) Z).trans (O 1 (by omega));have V:kS ks 1=ks[1]:=by unfold kS;rw[Jd (by omega)];rfl
  have e7:(1:Int)<(ks.length:Int):=by omega
  rw[Y,V] at d;generalize ks[0]=k0 at b6 d Y;generalize ks[1]=k1 at d3 d V;clear O Y V
  rcases Oj so [66,111,111,108] with⟨E,q0⟩|⟨E,q0⟩
  ·rcases Ev k0 k1 with⟨G,q1⟩|⟨G,q1⟩
   ·rcases Kr X1.kind 4 with⟨K,q2⟩|⟨K,q2⟩
    ·have F:Hid (Oh (Ov (Ok S)) ⟨38,so,I,a,b,J⟩ ks=true):=by unfold Hid;rw[d.o,Ja (show so=On from E),Ja G,Ja K];rfl
     clear E G K
     go_wp2
     go_quiet (fail)
     go_wp2
     go_ret
     exact⟨Oy F.o.symm,below_drewN A.o _⟩
    have F:Hid (Oh (Ov (Ok S)) ⟨38,so,I,a,b,J⟩ ks=false):=by unfold Hid;rw[d.o,Ja (show so=On from E),Ja G,Jc K];rfl
    clear E G K
    go_wp2
    go_quiet (fail)
    go_wp2
    go_ret
    exact⟨Oy F.o.symm,below_drewN A.o _⟩
   have F:Hid (Oh (Ov (Ok S)) ⟨38,so,I,a,b,J⟩ ks=false):=by unfold Hid;rw[d.o,Ja (show so=On from E),Jc G];rfl
   clear E G
   go_wp2
   go_quiet (fail)
   go_wp2
   go_ret
   exact⟨Oy F.o.symm,below_drewN A.o _⟩
  have F:Hid (Oh (Ov (Ok S)) ⟨38,so,I,a,b,J⟩ ks=false):=by unfold Hid;rw[d.o,Jc (show so≠On from E)];rfl
  clear E
  go_wp2
  go_quiet (fail)
  go_wp2
  go_ret
  exact⟨Oy F.o.symm,below_drewN A.o _⟩
 ·as_aux_lemma=>
  have d:Hid (Oh (Ov (Ok S)) ⟨39,so,I,a,b,J⟩ ks=(decide (so=On)&&decide (kS ks 0=kS ks 1)&&decide (X1.kind=4))):=by unfold Hid Oh;simp only;rw[a7.o,b3.o,b4.o];rfl
  have b5:2<=ks.length:=by simpa[Ko] using HL.o
  rcases HK.o with e0|⟨bb,rfl,Z,O⟩
  ·rw[e0] at b5;cases b5
  have b6:=(A.o.cell (p:=⟨bb,0,none⟩) Z).trans (O 0 (by omega));have Y:kS ks 0=ks[0]:=by unfold kS;rw[Jd (by omega)];rfl
  have e6:(0:Int)<(ks.length:Int):=by omega
  have d3:=(A.o.cell (p:=⟨bb,1,none⟩) Z).trans (O 1 (by omega));have V:kS ks 1=ks[1]:=by unfold kS;rw[Jd (by omega)];rfl
  have e7:(1:Int)<(ks.length:Int):=by omega
  rw[Y,V] at d;generalize ks[0]=k0 at b6 d Y;generalize ks[1]=k1 at d3 d V;clear O Y V
  rcases Oj so [66,111,111,108] with⟨E,q0⟩|⟨E,q0⟩
  ·rcases Ev k0 k1 with⟨G,q1⟩|⟨G,q1⟩
   ·rcases Kr X1.kind 4 with⟨K,q2⟩|⟨K,q2⟩
    ·have F:Hid (Oh (Ov (Ok S)) ⟨39,so,I,a,b,J⟩ ks=true):=by unfold Hid;rw[d.o,Ja (show so=On from E),Ja G,Ja K];rfl
     clear E G K
     go_wp2
     go_quiet (fail)
     go_wp2
     go_ret
     exact⟨Oy F.o.symm,below_drewN A.o _⟩
    have F:Hid (Oh (Ov (Ok S)) ⟨39,so,I,a,b,J⟩ ks=false):=by unfold Hid;rw[d.o,Ja (show so=On from E),Ja G,Jc K];rfl
    clear E G K
    go_wp2
    go_quiet (fail)
    go_wp2
    go_ret
    exact⟨Oy F.o.symm,below_drewN A.o _⟩
   have F:Hid (Oh (Ov (Ok S)) ⟨39,so,I,a,b,J⟩ ks=false):=by unfold Hid;rw[d.o,Ja (show so=On from E),Jc G];rfl
   clear E G
   go_wp2
   go_quiet (fail)
   go_wp2
   go_ret
   exact⟨Oy F.o.symm,below_drewN A.o _⟩
  have F:Hid (Oh (Ov (Ok S)) ⟨39,so,I,a,b,J⟩ ks=false):=by unfold Hid;rw[d.o,Jc (show so≠On from E)];rfl
  clear E
  go_wp2
  go_quiet (fail)
  go_wp2
  go_ret
  exact⟨Oy F.o.symm,below_drewN A.o _⟩
 ·as_aux_lemma=>
  have d:Hid (Oh (Ov (Ok S)) ⟨40,so,I,a,b,J⟩ ks=(decide (so=On)&&decide (kS ks 0=kS ks 1)&&decide (X1.kind=4))):=by unfold Hid Oh;simp only;rw[a7.o,b3.o,b4.o];rfl
  have b5:2<=ks.length:=by simpa[Ko] using HL.o
  rcases HK.o with e0|⟨bb,rfl,Z,O⟩
  ·rw[e0] at b5;cases b5
  have b6:=(A.o.cell (p:=⟨bb,0,none⟩) Z).trans (O 0 (by omega));have Y:kS ks 0=ks[0]:=by unfold kS;rw[Jd (by omega)];rfl
  have e6:(0:Int)<(ks.length:Int):=by omega
  have d3:=(A.o.cell (p:=⟨bb,1,none⟩) Z).trans (O 1 (by omega));have V:kS ks 1=ks[1]:=by unfold kS;rw[Jd (by omega)];rfl
  have e7:(1:Int)<(ks.length:Int):=by omega
  rw[Y,V] at d;generalize ks[0]=k0 at b6 d Y;generalize ks[1]=k1 at d3 d V;clear O Y V
  rcases Oj so [66,111,111,108] with⟨E,q0⟩|⟨E,q0⟩
  ·rcases Ev k0 k1 with⟨G,q1⟩|⟨G,q1⟩
   ·rcases Kr X1.kind 4 with⟨K,q2⟩|⟨K,q2⟩
    ·have F:Hid (Oh (Ov (Ok S)) ⟨40,so,I,a,b,J⟩ ks=true):=by unfold Hid;rw[d.o,Ja (show so=On from E),Ja G,Ja K];rfl
     clear E G K
     go_wp2
     go_quiet (fail)
     go_wp2
     go_ret
     exact⟨Oy F.o.symm,below_drewN A.o _⟩
    have F:Hid (Oh (Ov (Ok S)) ⟨40,so,I,a,b,J⟩ ks=false):=by unfold Hid;rw[d.o,Ja (show so=On from E),Ja G,Jc K];rfl
    clear E G K
    go_wp2
    go_quiet (fail)
    go_wp2
    go_ret
    exact⟨Oy F.o.symm,below_drewN A.o _⟩
   have F:Hid (Oh (Ov (Ok S)) ⟨40,so,I,a,b,J⟩ ks=false):=by unfold Hid;rw[d.o,Ja (show so=On from E),Jc G];rfl
   clear E G
   go_wp2
   go_quiet (fail)
   go_wp2
   go_ret
   exact⟨Oy F.o.symm,below_drewN A.o _⟩
  have F:Hid (Oh (Ov (Ok S)) ⟨40,so,I,a,b,J⟩ ks=false):=by unfold Hid;rw[d.o,Jc (show so≠On from E)];rfl
  clear E
  go_wp2
  go_quiet (fail)
  go_wp2
  go_ret
  exact⟨Oy F.o.symm,below_drewN A.o _⟩
 ·as_aux_lemma=>
  have d:Hid (Oh (Ov (Ok S)) ⟨41,so,I,a,b,J⟩ ks=(decide (so=On)&&decide (kS ks 0=kS ks 1)&&decide (X1.kind=4))):=by unfold Hid Oh;simp only;rw[a7.o,b3.o,b4.o];rfl
  have b5:2<=ks.length:=by simpa[Ko] using HL.o
  rcases HK.o with e0|⟨bb,rfl,Z,O⟩
  ·rw[e0] at b5;cases b5
  have b6:=(A.o.cell (p:=⟨bb,0,none⟩) Z).trans (O 0 (by omega));have Y:kS ks 0=ks[0]:=by unfold kS;rw[Jd (by omega)];rfl
  have e6:(0:Int)<(ks.length:Int):=by omega
  have d3:=(A.o.cell (p:=⟨bb,1,none⟩) Z).trans (O 1 (by omega));have V:kS ks 1=ks[1]:=by unfold kS;rw[Jd (by omega)];rfl
  have e7:(1:Int)<(ks.length:Int):=by omega
  rw[Y,V] at d;generalize ks[0]=k0 at b6 d Y;generalize ks[1]=k1 at d3 d V;clear O Y V
  rcases Oj so [66,111,111,108] with⟨E,q0⟩|⟨E,q0⟩
  ·rcases Ev k0 k1 with⟨G,q1⟩|⟨G,q1⟩
   ·rcases Kr X1.kind 4 with⟨K,q2⟩|⟨K,q2⟩
    ·have F:Hid (Oh (Ov (Ok S)) ⟨41,so,I,a,b,J⟩ ks=true):=by unfold Hid;rw[d.o,Ja (show so=On from E),Ja G,Ja K];rfl
     clear E G K
     go_wp2
     go_quiet (fail)
     go_wp2
     go_ret
     exact⟨Oy F.o.symm,below_drewN A.o _⟩
    have F:Hid (Oh (Ov (Ok S)) ⟨41,so,I,a,b,J⟩ ks=false):=by unfold Hid;rw[d.o,Ja (show so=On from E),Ja G,Jc K];rfl
    clear E G K
    go_wp2
    go_quiet (fail)
    go_wp2
    go_ret
    exact⟨Oy F.o.symm,below_drewN A.o _⟩
   have F:Hid (Oh (Ov (Ok S)) ⟨41,so,I,a,b,J⟩ ks=false):=by unfold Hid;rw[d.o,Ja (show so=On from E),Jc G];rfl
   clear E G
   go_wp2
   go_quiet (fail)
   go_wp2
   go_ret
   exact⟨Oy F.o.symm,below_drewN A.o _⟩
  have F:Hid (Oh (Ov (Ok S)) ⟨41,so,I,a,b,J⟩ ks=false):=by unfold Hid;rw[d.o,Jc (show so≠On from E)];rfl
  clear E
  go_wp2
  go_quiet (fail)
  go_wp2
  go_ret
  exact⟨Oy F.o.symm,below_drewN A.o _⟩
 ·as_aux_lemma=>
  have d:Hid (Oh (Ov (Ok S)) ⟨46,so,I,a,b,J⟩ ks=(decide (X1.kind=6)&&decide (X1.index=kS ks 1)&&decide (X1.elem=so))):=by unfold Hid Oh;simp only;rw[a7.o,b3.o,b4.o];rfl
  have b5:2<=ks.length:=by simpa[Ko] using HL.o
  rcases HK.o with e0|⟨bb,rfl,Z,O⟩
  ·rw[e0] at b5;cases b5
  have b6:=(A.o.cell (p:=⟨bb,0,none⟩) Z).trans (O 0 (by omega));have Y:kS ks 0=ks[0]:=by unfold kS;rw[Jd (by omega)];rfl
  have e6:(0:Int)<(ks.length:Int):=by omega
  have d3:=(A.o.cell (p:=⟨bb,1,none⟩) Z).trans (O 1 (by omega));have V:kS ks 1=ks[1]:=by unfold kS;rw[Jd (by omega)];rfl
  have e7:(1:Int)<(ks.length:Int):=by omega
  rw[V] at d;generalize ks[0]=k0 at b6 Y;generalize ks[1]=k1 at d3 d V;clear O Y V
  rcases Kr X1.kind 6 with⟨E,q0⟩|⟨E,q0⟩
  ·rcases Ev X1.index k1 with⟨G,q1⟩|⟨G,q1⟩
   ·rcases Ev X1.elem so with⟨K,q2⟩|⟨K,q2⟩
    ·have F:Hid (Oh (Ov (Ok S)) ⟨46,so,I,a,b,J⟩ ks=true):=by unfold Hid;rw[d.o,Ja E,Ja G,Ja K];rfl
     clear E G K
     go_wp2
     go_quiet (fail)
     go_wp2
     go_ret
     exact⟨Oy F.o.symm,below_drewN A.o _⟩
    have F:Hid (Oh (Ov (Ok S)) ⟨46,so,I,a,b,J⟩ ks=false):=by unfold Hid;rw[d.o,Ja E,Ja G,Jc K];rfl
    clear E G K
    go_wp2
    go_quiet (fail)
    go_wp2
    go_ret
    exact⟨Oy F.o.symm,below_drewN A.o _⟩
   have F:Hid (Oh (Ov (Ok S)) ⟨46,so,I,a,b,J⟩ ks=false):=by unfold Hid;rw[d.o,Ja E,Jc G];rfl
   clear E G
   go_wp2
   go_quiet (fail)
   go_wp2
   go_ret
   exact⟨Oy F.o.symm,below_drewN A.o _⟩
  have F:Hid (Oh (Ov (Ok S)) ⟨46,so,I,a,b,J⟩ ks=false):=by unfold Hid;rw[d.o,Jc E];rfl
  clear E
  go_wp2
  go_quiet (fail)
  go_wp2
  go_ret
  exact⟨Oy F.o.symm,below_drewN A.o _⟩
 as_aux_lemma=>
 have d:Hid (Oh (Ov (Ok S)) ⟨47,so,I,a,b,J⟩ ks=(decide (U.kind=6)&&decide (kS ks 0=so)&&decide (U.index=kS ks 1)&&decide (U.elem=kS ks 2))):=by unfold Hid Oh;simp only;rw[a7.o,b3.o,b4.o];rfl
 have b5:3<=ks.length:=by simpa[Ko] using HL.o
 rcases HK.o with e0|⟨bb,rfl,Z,O⟩
 ·rw[e0] at b5;cases b5
 have b6:=(A.o.cell (p:=⟨bb,0,none⟩) Z).trans (O 0 (by omega));have Y:kS ks 0=ks[0]:=by unfold kS;rw[Jd (by omega)];rfl
 have e6:(0:Int)<(ks.length:Int):=by omega
 have d3:=(A.o.cell (p:=⟨bb,1,none⟩) Z).trans (O 1 (by omega));have V:kS ks 1=ks[1]:=by unfold kS;rw[Jd (by omega)];rfl
 have e7:(1:Int)<(ks.length:Int):=by omega
 have j7:=(A.o.cell (p:=⟨bb,2,none⟩) Z).trans (O 2 (by omega));have g3:kS ks 2=ks[2]:=by unfold kS;rw[Jd (by omega)];rfl
 have n1:(2:Int)<(ks.length:Int):=by omega
 rw[Y,V,g3] at d;generalize ks[0]=k0 at b6 d Y;generalize ks[1]=k1 at d3 d V;generalize ks[2]=k2 at j7 d g3;clear O Y V g3
 rcases Kr U.kind 6 with⟨E,q0⟩|⟨E,q0⟩
 ·rcases Ev k0 so with⟨G,q1⟩|⟨G,q1⟩
  ·rcases Ev U.index k1 with⟨K,q2⟩|⟨K,q2⟩
   ·rcases Ev U.elem k2 with⟨p3,q3⟩|⟨p3,q3⟩
    ·have F:Hid (Oh (Ov (Ok S)) ⟨47,so,I,a,b,J⟩ ks=true):=by unfold Hid;rw[d.o,Ja E,Ja G,Ja K,Ja p3];rfl
     clear E G K p3
     go_wp2
     go_quiet (fail)
     go_wp2
     go_ret
     exact⟨Oy F.o.symm,below_drewN A.o _⟩
    have F:Hid (Oh (Ov (Ok S)) ⟨47,so,I,a,b,J⟩ ks=false):=by unfold Hid;rw[d.o,Ja E,Ja G,Ja K,Jc p3];rfl
    clear E G K p3
    go_wp2
    go_quiet (fail)
    go_wp2
    go_ret
    exact⟨Oy F.o.symm,below_drewN A.o _⟩
   have F:Hid (Oh (Ov (Ok S)) ⟨47,so,I,a,b,J⟩ ks=false):=by unfold Hid;rw[d.o,Ja E,Ja G,Jc K];rfl
   clear E G K
   go_wp2
   go_quiet (fail)
   go_wp2
   go_ret
   exact⟨Oy F.o.symm,below_drewN A.o _⟩
  have F:Hid (Oh (Ov (Ok S)) ⟨47,so,I,a,b,J⟩ ks=false):=by unfold Hid;rw[d.o,Ja E,Jc G];rfl
  clear E G
  go_wp2
  go_quiet (fail)
  go_wp2
  go_ret
  exact⟨Oy F.o.symm,below_drewN A.o _⟩
 have F:Hid (Oh (Ov (Ok S)) ⟨47,so,I,a,b,J⟩ ks=false):=by unfold Hid;rw[d.o,Jc E];rfl
 clear E
 go_wp2
 go_quiet (fail)
 go_wp2
 go_ret
 exact⟨Oy F.o.symm,below_drewN A.o _⟩
end Go.Proofs.YtdmdmgfjpomdbaaGreatDoor
