import Derived.Test.YtfkagjelljnpdaaGreatDoorP21
set_option linter.all false
set_option maxRecDepth 100000
set_option maxHeartbeats 8000000
namespace Go.Proofs.YtfkagjelljnpdaaGreatDoor
open ChangeShapes WideShapes ChangeAt RowKit Proofs.Tryz
theorem B3(vs vf vt:Value)(S:List (List UInt8))(t:Tm)(vk vks:Value)(ks:List (List UInt8))(w:World)(hS:O4 w vs S)(hks:O4 w vks ks)(hzs:t.sort.length<=1048576)(hzt:t.text.length<=1048576)(hz:∀k∈ks,k.length<=1048576)(hlen:Uk t.op<=ks.length)(ho:24<=t.op/\t.op<=47) :
 Calls prog 70 #[.agg #[vs,vf,vt],.agg #[.int .i64 t.op,.string (Oo t.sort),.string (Oo t.text),.int .i64 t.a,.int .i64 t.b,vk],vks] w fun e w'=>e=.returned (.bool (Om (Ou (On S)) t ks))/\Up w w':=by
 obtain⟨pk,ck,rfl,k1,k2,k3⟩:=hks;obtain⟨o,so,tx,a,b,K⟩:=t;simp only at hzs hzt hlen ho ⊢;have HS:=Hd hS;have HK:=Hd k3;have HZ:=Hd hz;have HL:=Hd hlen;have HO:=Hd ho;unfold maxLen at k2;have h1:(Oo so).size<=1048576:=by show so.toArray.size<=_;simpa using hzs
 have k8:(Oo tx).size<=1048576:=by show tx.toArray.size<=_;simpa using hzt
 clear hS k3 hz hlen ho
 go_in
 go_wp2_with fail
 obtain⟨W1,d7⟩:=O2 ((w.alloc (.cells #[vs,vf,vt] 27)).alloc (.cells #[.int .i64 o,.string (Oo so),.string (Oo tx),.int .i64 a,.int .i64 b,vk] 38));have e8:Hid (Up w W1):=by unfold Hid;rw[<-d7];exact((Ji _ _).alloc leR _).alloc (by rw[Ju];omega) _
 have g8:Hid (W1.heap.size=w.heap.size+2):=by unfold Hid;rw[<-d7];simp
 have e9:Hid (Bx W1 w.heap.size [vs,vf,vt]):=by unfold Hid;rw[<-d7];exact(Oq w _ _).alloc _
 have f5:Hid (Bx W1 (w.heap.size+1) [.int .i64 o,.string (Oo so),.string (Oo tx),.int .i64 a,.int .i64 b,vk]):=by unfold Hid;rw[<-d7];have h:=Oq (w.alloc (.cells #[vs,vf,vt] 27)) [.int .i64 o,.string (Oo so),.string (Oo tx),.int .i64 a,.int .i64 b,vk] 38;rw[Ju]at h;exact h
 rw[d7];clear d7;refine(Ef vs S (Oo so) _ (HS.o.bl e8.o) h1).mono ?_;rw[Ov];obtain⟨V,g0⟩:=O2 (Ou (On S) so);have a7:=Hd g0;rw[g0];clear g0;rintro e w2 ⟨rfl,hb2⟩;unfold Gu
 go_upto_if 20 with fail
 have d2:Hid (Wd (((w2.alloc (.cells #[.int .i64 V.kind,.int .i64 (V.width:Nat),.string (Oo V.index),.string (Oo V.elem)] 145)).alloc (.cells #[.int .i64 0,.int .i64 0,.string ⟨#[]⟩,.string ⟨#[]⟩] 145)).alloc (.cells #[.int .i64 0,.int .i64 0,.string ⟨#[]⟩,.string ⟨#[]⟩] 145)) w.heap.size w2.heap.size [vs,vf,vt] [.int .i64 o,.string (Oo so),.string (Oo tx),.int .i64 a,.int .i64 b,vk] V SI.none SI.none w):=by
  have j6:=g8.o;have k7:=hb2.size;have j7:=e9.o.bl e9.o.lt hb2;have j8:=f5.o.bl f5.o.lt hb2;have q0:=Oq w2 (IP V) 145;have q1:=Oq (w2.alloc (.cells (IP V).toArray 145)) (IP SI.none) 145;have q2:=Oq ((w2.alloc (.cells (IP V).toArray 145)).alloc (.cells (IP SI.none).toArray 145)) (IP SI.none) 145;rw[Ju]at q1;rw[Ju,Ju]at q2;refine⟨((j7.alloc _).alloc _).alloc _,((j8.alloc _).alloc _).alloc _,(q0.alloc _).alloc _,q1.alloc _,q2,by omega,?_⟩;have j2:Up w w2:=e8.o.trans (hb2.mono (by omega));exact((j2.alloc (by omega) _).alloc (by rw[Ju];omega) _).alloc (by rw[Ju,Ju];omega) _
 obtain⟨W3,g9⟩:=O2 (((w2.alloc (.cells #[.int .i64 V.kind,.int .i64 (V.width:Nat),.string (Oo V.index),.string (Oo V.elem)] 145)).alloc (.cells #[.int .i64 0,.int .i64 0,.string ⟨#[]⟩,.string ⟨#[]⟩] 145)).alloc (.cells #[.int .i64 0,.int .i64 0,.string ⟨#[]⟩,.string ⟨#[]⟩] 145));rw[g9]at d2 ⊢;clear g9 hb2 e8 g8 e9 f5;generalize w2.heap.size=M at d2 ⊢;have l2:=Hd d2.o.le
 go_cut [20] (fun s20 wx=>s20=.bool (decide (0<ks.length))/\Wd wx w.heap.size M [vs,vf,vt] [.int .i64 o,.string (Oo so),.string (Oo tx),.int .i64 a,.int .i64 b,vk] V (Np (Ou (On S)) ks 0) SI.none w)
 case first=>
  by_cases h0:0<ks.length
  ·rcases HK.o with e0|⟨bb,rfl,a1,R⟩
   ·rw[e0]at h0;cases h0
   have b3:=(d2.o.bel.cell (p:=⟨bb,0,none⟩) a1).trans (R 0 h0);have f8:=d2.o.bank.cell 0;simp only[Jr]at f8;have HR:Hid (Np (Ou (On S)) ks 0=Ou (On S) ks[0]):=by unfold Hid Np kS;rw[if_pos h0,Jg h0];rfl
   have e1:(Oo ks[0]).size<=1048576:=by show ks[0].toArray.size<=_;simpa using HZ.o _ (Jj h0)
   generalize ks[0]=k0 at b3 HR e1;have i0:(0:Int)<(ks.length:Int):=by omega
   clear R
   go_wp2
   go_region_with (go_at_call 85;refine(Ef vs S (Oo k0) W3.drew (HS.o.bl d2.o.bel.drew) e1).mono ?_;rw[Ov,<-HR.o];rintro e w3 ⟨rfl,b6⟩;have b4:=Hd (d2.o.bl (wy:=w3) ⟨b6.os,b6.tape,b6.output,b6.size,b6.block⟩);clear b6;obtain⟨x0,x1,x2,x3⟩:=b4.o.x.c4;have f0:=b4.o.x.fz 0;have f1:=b4.o.x.fz 1;have f2:=b4.o.x.fz 2;have f3:=b4.o.x.fz 3;unfold Gu)
   all_goals (go_wp2;go_meet;exact⟨by simp[h0],b4.o.setx _⟩)
  have e:Np (Ou (On S)) ks 0=SI.none:=by unfold Np;rw[if_neg h0]
  have HE:=Hd e;clear e
  go_wp2
  go_meet
  exact⟨by simp[h0],by rw[HE.o];exact d2.o⟩
 obtain⟨rfl,d9⟩:=hcut;have b4:=Hd d9;clear d9 d2;obtain⟨X1,g1⟩:=O2 (Np (Ou (On S)) ks 0);have b0:=Hd g1;rw[g1]at b4;clear g1
 go_upto_if 29 with fail
 go_cut [29] (fun s29 wx=>s29=.bool (decide ((1:Int)<(ks.length:Int)))/\Wd wx w.heap.size M [vs,vf,vt] [.int .i64 o,.string (Oo so),.string (Oo tx),.int .i64 a,.int .i64 b,vk] V X1 (Np (Ou (On S)) ks 1) w)
 case first=>
  by_cases h0:1<ks.length
  ·rcases HK.o with e0|⟨bb,rfl,a1,R⟩
   ·rw[e0]at h0;cases h0
   have b3:=(b4.o.bel.cell (p:=⟨bb,1,none⟩) a1).trans (R 1 h0);have f8:=b4.o.bank.cell 0;simp only[Jr]at f8;have HR:Hid (Np (Ou (On S)) ks 1=Ou (On S) ks[1]):=by unfold Hid Np kS;rw[if_pos h0,Jg h0];rfl
   have e1:(Oo ks[1]).size<=1048576:=by show ks[1].toArray.size<=_;simpa using HZ.o _ (Jj h0)
   generalize ks[1]=k0 at b3 HR e1;have i0:(1:Int)<(ks.length:Int):=by omega
   clear R
   go_wp2
   go_region_with (go_at_call 85;refine(Ef vs S (Oo k0) wc.drew (HS.o.bl b4.o.bel.drew) e1).mono ?_;rw[Ov,<-HR.o];rintro e w3 ⟨rfl,b6⟩;have b5:=Hd (b4.o.bl (wy:=w3) ⟨b6.os,b6.tape,b6.output,b6.size,b6.block⟩);clear b6;obtain⟨x0,x1,x2,x3⟩:=b5.o.y.c4;have f0:=b5.o.y.fz 0;have f1:=b5.o.y.fz 1;have f2:=b5.o.y.fz 2;have f3:=b5.o.y.fz 3;unfold Gu)
   all_goals (go_wp2;go_meet;exact⟨by simp[i0],b5.o.sety _⟩)
  have e:Np (Ou (On S)) ks 1=SI.none:=by unfold Np;rw[if_neg h0]
  have HE:=Hd e;clear e;have i0:(ks.length:Int)<=1:=by omega
  have i1:¬ (1:Int)<(ks.length:Int):=by omega
  go_wp2
  go_meet
  exact⟨by simp,by rw[HE.o];exact b4.o⟩
 obtain⟨rfl,d9⟩:=hcut;have b5:=Hd d9;clear d9 b4;obtain⟨X2,g2⟩:=O2 (Np (Ou (On S)) ks 1);have b1:=Hd g2;rw[g2]at b5;clear g2;obtain⟨s0,s1,s2,s3⟩:=b5.o.s.c4;obtain⟨x0,x1,x2,x3⟩:=b5.o.x.c4;obtain⟨y0,y1,y2,y3⟩:=b5.o.y.c4;obtain⟨t0,t1,t2,t3,t4⟩:=b5.o.term.k5;have E:=Hd b5.o.bel;clear b5;have b8:Hid (V.width<=64/\X1.width<=64/\X2.width<=64):=⟨by rw[<-a7.o];exact En _ _,by rw[<-b0.o];exact Fu _ _ _,by rw[<-b1.o];exact Fu _ _ _⟩
 rcases(show(o=24∨(25<=o/\o<=37)∨o=42)∨(o=43∨o=44∨o=45)∨(o=38∨o=39∨o=40∨o=41)∨o=46∨o=47 by have:=HO.o;omega)with (rfl|hdf|rfl)|(rfl|rfl|rfl)|(rfl|rfl|rfl|rfl)|rfl|rfl
 ·as_aux_lemma=>
  have q:Hid (Om (Ou (On S)) ⟨24,so,tx,a,b,K⟩ ks=(decide (V.kind=4)&&decide (tx.length=V.width)&&tx.all Gt)):=by unfold Hid Om;simp only;rw[a7.o];rfl
  have j6:(Oo tx).size=tx.length:=by show tx.toArray.size=_;simp
  by_cases G:V.kind=4
  ·have q0:=U4 G
   by_cases J:((Oo tx).size:Int)=(V.width:Int)
   ·have q1:=U4 J;have F:Hid (Om (Ou (On S)) ⟨24,so,tx,a,b,K⟩ ks=tx.all Gt):=by unfold Hid;rw[q.o,Jb G,Jb (by omega)];rfl
    clear G J
    go_wp2
    go_loop [10] (fun i=>∃k:Nat,k<=tx.length/\i=.int .i64 (k:Nat)/\∀j (h:j<tx.length),j<k->Gt tx[j]=true) (fun i=>tx.length - (intOf i).toNat)
    case atStart=>exact⟨0,Jp _,rfl,fun j _ h=>absurd h (Jz _)⟩
    obtain⟨k,hk,rfl,hp⟩:=hrel;have HP:=Hd hp;clear hp
    by_cases j5:k<tx.length
    ·have j4:(k:Int)<((Oo tx).size:Int):=by omega
     have i0:(0:Int)<=(k:Int):=by omega
     have j3:k<(Oo tx).size:=by omega
     obtain⟨c,hc⟩:=O2 ((Oo tx)[k]'j3);have HC:Hid (tx[k]=c):=by unfold Hid;rw[<-hc];rfl
     by_cases c0:(c.toNat:Int)=48
     ·have z0:=U4 c0;have HN:Hid (Gt tx[k]=true):=by unfold Hid Gt;rw[HC.o];simp;omega
      clear c0
      go_wp2
      go_round
      case rel=>exact⟨k+1,by omega,by go_num,fun j hj h2=>by
       rcases J4.1 h2 with h|rfl
       ·exact HP.o j hj h
       exact HN.o⟩
      simp[intOf];omega
     have z0:=Un c0
     by_cases c1:(c.toNat:Int)=49
     ·have z1:=U4 c1;have HN:Hid (Gt tx[k]=true):=by unfold Hid Gt;rw[HC.o];simp;omega
      clear c0 c1
      go_wp2
      go_round
      case rel=>exact⟨k+1,by omega,by go_num,fun j hj h2=>by
       rcases J4.1 h2 with h|rfl
       ·exact HP.o j hj h
       exact HN.o⟩
      simp[intOf];omega
     have z1:=Un c1;have F2:Hid (Om (Ou (On S)) ⟨24,so,tx,a,b,K⟩ ks=false):=by
      unfold Hid;rw[F.o,Yb];intro h;have h2:=Jx.1 h tx[k] (Jj j5);rw[HC.o]at h2;simp[Gt]at h2;omega
     clear c0 c1
     go_wp2
     go_ret
     exact⟨Oz F2.o.symm,E.o⟩
    have F2:Hid (Om (Ou (On S)) ⟨24,so,tx,a,b,K⟩ ks=true):=by
     unfold Hid;rw[F.o,Jx];intro x hx;obtain⟨j,hj,rfl⟩:=Ya hx;exact HP.o j hj (by omega)
    have j4:¬ (k:Int)<((Oo tx).size:Int):=by omega
    go_wp2
    go_ret
    exact⟨Oz F2.o.symm,E.o⟩
   have q1:=Un J;have F:Hid (Om (Ou (On S)) ⟨24,so,tx,a,b,K⟩ ks=false):=by unfold Hid;rw[q.o,Jb G,Jd (by omega)];rfl
   clear G J
   go_wp2
   go_ret
   exact⟨Oz F.o.symm,E.o⟩
  have q0:=Un G;have F:Hid (Om (Ou (On S)) ⟨24,so,tx,a,b,K⟩ ks=false):=by unfold Hid;rw[q.o,Jd G];rfl
  clear G
  go_wp2
  go_ret
  exact⟨Oz F.o.symm,E.o⟩
 ·as_aux_lemma=>
  have h9:=Hd hdf;clear hdf;have b7:Hid (25<=o/\o<=37):=h9.o;have m6:(o==24)=false:=by rw[Jc];have:=b7.o;omega
  have m7:(o==38)=false:=by rw[Jc];have:=b7.o;omega
  have m8:(o==39)=false:=by rw[Jc];have:=b7.o;omega
  have m9:(o==40)=false:=by rw[Jc];have:=b7.o;omega
  have n0:(o==41)=false:=by rw[Jc];have:=b7.o;omega
  have n1:(o==42)=false:=by rw[Jc];have:=b7.o;omega
  have n2:(o==43)=false:=by rw[Jc];have:=b7.o;omega
  have n4:(o==44)=false:=by rw[Jc];have:=b7.o;omega
  have n5:(o==45)=false:=by rw[Jc];have:=b7.o;omega
  have z46:(o==46)=false:=by rw[Jc];have:=b7.o;omega
  have n6:(o==47)=false:=by rw[Jc];have:=b7.o;omega
  have q:Hid (Om (Ou (On S)) ⟨o,so,tx,a,b,K⟩ ks=(decide (V.kind=4)&&Uw ks so)):=by
   have h:=b7.o;unfold Hid Om;simp only;rw[a7.o,if_neg (by omega),if_neg (by omega),if_neg (by omega),if_neg (by omega),if_neg (by omega),if_neg (by omega),if_neg (by omega)]
  rcases Ki V.kind 4 with⟨G,q0⟩|⟨G,q0⟩
  ·have F:Hid (Om (Ou (On S)) ⟨o,so,tx,a,b,K⟩ ks=Uw ks so):=by unfold Hid;rw[q.o,Jb G];rfl
   clear G
   go_wp2_with fail
   refine(V5 _ ks (Oo so) _ ⟨pk,ck,rfl,k1,by unfold maxLen;exact k2,(HK.o).imp id (fun⟨bb,e,hl,h⟩=>⟨bb,e,Jn hl E.o.size,fun i hi=>(E.o.cell (p:=⟨bb,i,none⟩) hl).trans (h i hi)⟩)⟩).mono ?_;rw[Ov];generalize Uw ks so=B at F ⊢;rintro e w6 ⟨rfl,rfl⟩
   go_wp2
   go_ret
   exact⟨Oz F.o.symm,E.o⟩
  have F:Hid (Om (Ou (On S)) ⟨o,so,tx,a,b,K⟩ ks=false):=by unfold Hid;rw[q.o,Jd G];rfl
  clear G
  go_wp2
  go_ret
  exact⟨Oz F.o.symm,E.o⟩
 ·as_aux_lemma=>
  have q:Hid (Om (Ou (On S)) ⟨42,so,tx,a,b,K⟩ ks=(decide (X1.kind=4)&&decide (X2.kind=4)&&decide (V.kind=4)&&decide (V.width=X1.width+X2.width))):=by unfold Hid Om;simp only;rw[a7.o,b0.o,b1.o];rfl
  have g3:(V.width:Int)<=64:=by have:=b8.o;omega
  have g4:(X1.width:Int)<=64:=by have:=b8.o;omega
  have g5:(X2.width:Int)<=64:=by have:=b8.o;omega
  rcases Ki X1.kind 4 with⟨G,q0⟩|⟨G,q0⟩
  ·rcases Ki X2.kind 4 with⟨J,q1⟩|⟨J,q1⟩
   ·rcases Ki V.kind 4 with⟨O,q2⟩|⟨O,q2⟩
    ·rcases Ki (V.width:Int) ((X1.width:Int)+(X2.width:Int))with⟨p3,q3⟩|⟨p3,q3⟩
     ·have F:Hid (Om (Ou (On S)) ⟨42,so,tx,a,b,K⟩ ks=true):=by unfold Hid;rw[q.o,Jb G,Jb J,Jb O,Jb (by omega)];rfl
      clear G J O p3
      go_wp2
      go_ret
      exact⟨Oz F.o.symm,E.o⟩
     have F:Hid (Om (Ou (On S)) ⟨42,so,tx,a,b,K⟩ ks=false):=by unfold Hid;rw[q.o,Jb G,Jb J,Jb O,Jd (by omega)];rfl
     clear G J O p3
     go_wp2
     go_ret
     exact⟨Oz F.o.symm,E.o⟩
    have F:Hid (Om (Ou (On S)) ⟨42,so,tx,a,b,K⟩ ks=false):=by unfold Hid;rw[q.o,Jb G,Jb J,Jd O];rfl
    clear G J O
    go_wp2
    go_ret
    exact⟨Oz F.o.symm,E.o⟩
   have F:Hid (Om (Ou (On S)) ⟨42,so,tx,a,b,K⟩ ks=false):=by unfold Hid;rw[q.o,Jb G,Jd J];rfl
   clear G J
   go_wp2
   go_ret
   exact⟨Oz F.o.symm,E.o⟩
  have F:Hid (Om (Ou (On S)) ⟨42,so,tx,a,b,K⟩ ks=false):=by unfold Hid;rw[q.o,Jd G];rfl
  clear G
  go_wp2
  go_ret
  exact⟨Oz F.o.symm,E.o⟩
 ·as_aux_lemma=>
  have q:Hid (Om (Ou (On S)) ⟨43,so,tx,a,b,K⟩ ks=(decide (X1.kind=4)&&decide (a<X1.width)&&decide (b<=a)&&decide (0<=b)&&decide (V.kind=4)&&decide ((V.width:Int)=a - b+1))):=by unfold Hid Om;simp only;rw[a7.o,b0.o,b1.o];rfl
  have g3:(V.width:Int)<=64:=by have:=b8.o;omega
  have g4:(X1.width:Int)<=64:=by have:=b8.o;omega
  have g5:(X2.width:Int)<=64:=by have:=b8.o;omega
  rcases Ki X1.kind 4 with⟨G,q0⟩|⟨G,q0⟩
  ·rcases UN a (X1.width:Int)with⟨J,q1⟩|⟨J,q1⟩
   ·rcases Pf b a with⟨O,q2⟩|⟨O,q2⟩
    ·rcases Pf 0 b with⟨p3,q3⟩|⟨p3,q3⟩
     ·rcases Ki V.kind 4 with⟨p4,q4⟩|⟨p4,q4⟩
      ·rcases Ki (V.width:Int) (a - b+1)with⟨p5,q5⟩|⟨p5,q5⟩
       ·have F:Hid (Om (Ou (On S)) ⟨43,so,tx,a,b,K⟩ ks=true):=by unfold Hid;rw[q.o,Jb G,Jb J,Jb O,Jb p3,Jb p4,Jb p5];rfl
        clear G p4 p5
        go_wp2
        go_ret
        exact⟨Oz F.o.symm,E.o⟩
       have F:Hid (Om (Ou (On S)) ⟨43,so,tx,a,b,K⟩ ks=false):=by unfold Hid;rw[q.o,Jb G,Jb J,Jb O,Jb p3,Jb p4,Jd p5];rfl
       clear G p4 p5
       go_wp2
       go_ret
       exact⟨Oz F.o.symm,E.o⟩
      have F:Hid (Om (Ou (On S)) ⟨43,so,tx,a,b,K⟩ ks=false):=by unfold Hid;rw[q.o,Jb G,Jb J,Jb O,Jb p3,Jd p4];rfl
      clear G p4
      go_wp2
      go_ret
      exact⟨Oz F.o.symm,E.o⟩
     have F:Hid (Om (Ou (On S)) ⟨43,so,tx,a,b,K⟩ ks=false):=by unfold Hid;rw[q.o,Jb G,Jb J,Jb O,Jd p3];rfl
     clear G
     go_wp2
     go_ret
     exact⟨Oz F.o.symm,E.o⟩
    have F:Hid (Om (Ou (On S)) ⟨43,so,tx,a,b,K⟩ ks=false):=by unfold Hid;rw[q.o,Jb G,Jb J,Jd O];rfl
    clear G
    go_wp2
    go_ret
    exact⟨Oz F.o.symm,E.o⟩
   have F:Hid (Om (Ou (On S)) ⟨43,so,tx,a,b,K⟩ ks=false):=by unfold Hid;rw[q.o,Jb G,Jd J];rfl
   clear G
   go_wp2
   go_ret
   exact⟨Oz F.o.symm,E.o⟩
  have F:Hid (Om (Ou (On S)) ⟨43,so,tx,a,b,K⟩ ks=false):=by unfold Hid;rw[q.o,Jd G];rfl
  clear G
  go_wp2
  go_ret
  exact⟨Oz F.o.symm,E.o⟩
 ·as_aux_lemma=>
  have q:Hid (Om (Ou (On S)) ⟨44,so,tx,a,b,K⟩ ks=(decide (X1.kind=4)&&decide (V.kind=4)&&decide (1<=a)&&decide (a<64)&&decide ((V.width:Int)=X1.width+a))):=by unfold Hid Om;simp only;rw[a7.o,b0.o,b1.o];rfl
  have g3:(V.width:Int)<=64:=by have:=b8.o;omega
  have g4:(X1.width:Int)<=64:=by have:=b8.o;omega
  have g5:(X2.width:Int)<=64:=by have:=b8.o;omega
  rcases Ki X1.kind 4 with⟨G,q0⟩|⟨G,q0⟩
  ·rcases Ki V.kind 4 with⟨J,q1⟩|⟨J,q1⟩
   ·rcases Pf 1 a with⟨O,q2⟩|⟨O,q2⟩
    ·rcases UN a 64 with⟨p3,q3⟩|⟨p3,q3⟩
     ·rcases Ki (V.width:Int) ((X1.width:Int)+a)with⟨p4,q4⟩|⟨p4,q4⟩
      ·have F:Hid (Om (Ou (On S)) ⟨44,so,tx,a,b,K⟩ ks=true):=by unfold Hid;rw[q.o,Jb G,Jb J,Jb O,Jb p3,Jb p4];rfl
       clear G J p4
       go_wp2
       go_ret
       exact⟨Oz F.o.symm,E.o⟩
      have F:Hid (Om (Ou (On S)) ⟨44,so,tx,a,b,K⟩ ks=false):=by unfold Hid;rw[q.o,Jb G,Jb J,Jb O,Jb p3,Jd p4];rfl
      clear G J p4
      go_wp2
      go_ret
      exact⟨Oz F.o.symm,E.o⟩
     have F:Hid (Om (Ou (On S)) ⟨44,so,tx,a,b,K⟩ ks=false):=by unfold Hid;rw[q.o,Jb G,Jb J,Jb O,Jd p3];rfl
     clear G J
     go_wp2
     go_ret
     exact⟨Oz F.o.symm,E.o⟩
    have F:Hid (Om (Ou (On S)) ⟨44,so,tx,a,b,K⟩ ks=false):=by unfold Hid;rw[q.o,Jb G,Jb J,Jd O];rfl
    clear G J
    go_wp2
    go_ret
    exact⟨Oz F.o.symm,E.o⟩
   have F:Hid (Om (Ou (On S)) ⟨44,so,tx,a,b,K⟩ ks=false):=by unfold Hid;rw[q.o,Jb G,Jd J];rfl
   clear G J
   go_wp2
   go_ret
   exact⟨Oz F.o.symm,E.o⟩
  have F:Hid (Om (Ou (On S)) ⟨44,so,tx,a,b,K⟩ ks=false):=by unfold Hid;rw[q.o,Jd G];rfl
  clear G
  go_wp2
  go_ret
  exact⟨Oz F.o.symm,E.o⟩
 ·as_aux_lemma=>
  have q:Hid (Om (Ou (On S)) ⟨45,so,tx,a,b,K⟩ ks=(decide (X1.kind=4)&&decide (V.kind=4)&&decide (1<=a)&&decide (a<64)&&decide ((V.width:Int)=X1.width+a))):=by unfold Hid Om;simp only;rw[a7.o,b0.o,b1.o];rfl
  have g3:(V.width:Int)<=64:=by have:=b8.o;omega
  have g4:(X1.width:Int)<=64:=by have:=b8.o;omega
  have g5:(X2.width:Int)<=64:=by have:=b8.o;omega
  rcases Ki X1.kind 4 with⟨G,q0⟩|⟨G,q0⟩
  ·rcases Ki V.kind 4 with⟨J,q1⟩|⟨J,q1⟩
   ·rcases Pf 1 a with⟨O,q2⟩|⟨O,q2⟩
    ·rcases UN a 64 with⟨p3,q3⟩|⟨p3,q3⟩
     ·rcases Ki (V.width:Int) ((X1.width:Int)+a)with⟨p4,q4⟩|⟨p4,q4⟩
      ·have F:Hid (Om (Ou (On S)) ⟨45,so,tx,a,b,K⟩ ks=true):=by unfold Hid;rw[q.o,Jb G,Jb J,Jb O,Jb p3,Jb p4];rfl
       clear G J p4
       go_wp2
       go_ret
       exact⟨Oz F.o.symm,E.o⟩
      have F:Hid (Om (Ou (On S)) ⟨45,so,tx,a,b,K⟩ ks=false):=by unfold Hid;rw[q.o,Jb G,Jb J,Jb O,Jb p3,Jd p4];rfl
      clear G J p4
      go_wp2
      go_ret
      exact⟨Oz F.o.symm,E.o⟩
     have F:Hid (Om (Ou (On S)) ⟨45,so,tx,a,b,K⟩ ks=false):=by unfold Hid;rw[q.o,Jb G,Jb J,Jb O,Jd p3];rfl
     clear G J
     go_wp2
     go_ret
     exact⟨Oz F.o.symm,E.o⟩
    have F:Hid (Om (Ou (On S)) ⟨45,so,tx,a,b,K⟩ ks=false):=by unfold Hid;rw[q.o,Jb G,Jb J,Jd O];rfl
    clear G J
    go_wp2
    go_ret
    exact⟨Oz F.o.symm,E.o⟩
   have F:Hid (Om (Ou (On S)) ⟨45,so,tx,a,b,K⟩ ks=false):=by unfold Hid;rw[q.o,Jb G,Jd J];rfl
   clear G J
   go_wp2
   go_ret
   exact⟨Oz F.o.symm,E.o⟩
  have F:Hid (Om (Ou (On S)) ⟨45,so,tx,a,b,K⟩ ks=false):=by unfold Hid;rw[q.o,Jd G];rfl
  clear G
  go_wp2
  go_ret
  exact⟨Oz F.o.symm,E.o⟩
 ·as_aux_lemma=>
  have q:Hid (Om (Ou (On S)) ⟨38,so,tx,a,b,K⟩ ks=(decide (so=Ok)&&decide (kS ks 0=kS ks 1)&&decide (X1.kind=4))):=by unfold Hid Om;simp only;rw[a7.o,b0.o,b1.o];rfl
  have b2:2<=ks.length:=by simpa[Uk]using HL.o
  rcases HK.o with e0|⟨bb,rfl,a1,R⟩
  ·rw[e0]at b2;cases b2
  have b3:=(E.o.cell (p:=⟨bb,0,none⟩) a1).trans (R 0 (by omega));have Z:kS ks 0=ks[0]:=by unfold kS;rw[Jg (by omega)];rfl
  have e2:(0:Int)<(ks.length:Int):=by omega
  have d0:=(E.o.cell (p:=⟨bb,1,none⟩) a1).trans (R 1 (by omega));have Y:kS ks 1=ks[1]:=by unfold kS;rw[Jg (by omega)];rfl
  have e3:(1:Int)<(ks.length:Int):=by omega
  rw[Z,Y]at q;generalize ks[0]=k0 at b3 q Z;generalize ks[1]=k1 at d0 q Y;clear R Z Y
  rcases Uz so [66,111,111,108]with⟨G,q0⟩|⟨G,q0⟩
  ·rcases Ez k0 k1 with⟨J,q1⟩|⟨J,q1⟩
   ·rcases Ki X1.kind 4 with⟨O,q2⟩|⟨O,q2⟩
    ·have F:Hid (Om (Ou (On S)) ⟨38,so,tx,a,b,K⟩ ks=true):=by unfold Hid;rw[q.o,Jb (show so=Ok from G),Jb J,Jb O];rfl
     clear G J O
     go_wp2
     go_quiet (fail)
     go_wp2
     go_ret
     exact⟨Oz F.o.symm,below_drewN E.o _⟩
    have F:Hid (Om (Ou (On S)) ⟨38,so,tx,a,b,K⟩ ks=false):=by unfold Hid;rw[q.o,Jb (show so=Ok from G),Jb J,Jd O];rfl
    clear G J O
    go_wp2
    go_quiet (fail)
    go_wp2
    go_ret
    exact⟨Oz F.o.symm,below_drewN E.o _⟩
   have F:Hid (Om (Ou (On S)) ⟨38,so,tx,a,b,K⟩ ks=false):=by unfold Hid;rw[q.o,Jb (show so=Ok from G),Jd J];rfl
   clear G J
   go_wp2
   go_quiet (fail)
   go_wp2
   go_ret
   exact⟨Oz F.o.symm,below_drewN E.o _⟩
  have F:Hid (Om (Ou (On S)) ⟨38,so,tx,a,b,K⟩ ks=false):=by unfold Hid;rw[q.o,Jd (show so≠Ok from G)];rfl
  clear G
  go_wp2
  go_quiet (fail)
  go_wp2
  go_ret
  exact⟨Oz F.o.symm,below_drewN E.o _⟩
 ·as_aux_lemma=>
  have q:Hid (Om (Ou (On S)) ⟨39,so,tx,a,b,K⟩ ks=(decide (so=Ok)&&decide (kS ks 0=kS ks 1)&&decide (X1.kind=4))):=by unfold Hid Om;simp only;rw[a7.o,b0.o,b1.o];rfl
  have b2:2<=ks.length:=by simpa[Uk]using HL.o
  rcases HK.o with e0|⟨bb,rfl,a1,R⟩
  ·rw[e0]at b2;cases b2
  have b3:=(E.o.cell (p:=⟨bb,0,none⟩) a1).trans (R 0 (by omega));have Z:kS ks 0=ks[0]:=by unfold kS;rw[Jg (by omega)];rfl
  have e2:(0:Int)<(ks.length:Int):=by omega
  have d0:=(E.o.cell (p:=⟨bb,1,none⟩) a1).trans (R 1 (by omega));have Y:kS ks 1=ks[1]:=by unfold kS;rw[Jg (by omega)];rfl
  have e3:(1:Int)<(ks.length:Int):=by omega
  rw[Z,Y]at q;generalize ks[0]=k0 at b3 q Z;generalize ks[1]=k1 at d0 q Y;clear R Z Y
  rcases Uz so [66,111,111,108]with⟨G,q0⟩|⟨G,q0⟩
  ·rcases Ez k0 k1 with⟨J,q1⟩|⟨J,q1⟩
   ·rcases Ki X1.kind 4 with⟨O,q2⟩|⟨O,q2⟩
    ·have F:Hid (Om (Ou (On S)) ⟨39,so,tx,a,b,K⟩ ks=true):=by unfold Hid;rw[q.o,Jb (show so=Ok from G),Jb J,Jb O];rfl
     clear G J O
     go_wp2
     go_quiet (fail)
     go_wp2
     go_ret
     exact⟨Oz F.o.symm,below_drewN E.o _⟩
    have F:Hid (Om (Ou (On S)) ⟨39,so,tx,a,b,K⟩ ks=false):=by unfold Hid;rw[q.o,Jb (show so=Ok from G),Jb J,Jd O];rfl
    clear G J O
    go_wp2
    go_quiet (fail)
    go_wp2
    go_ret
    exact⟨Oz F.o.symm,below_drewN E.o _⟩
   have F:Hid (Om (Ou (On S)) ⟨39,so,tx,a,b,K⟩ ks=false):=by unfold Hid;rw[q.o,Jb (show so=Ok from G),Jd J];rfl
   clear G J
   go_wp2
   go_quiet (fail)
   go_wp2
   go_ret
   exact⟨Oz F.o.symm,below_drewN E.o _⟩
  have F:Hid (Om (Ou (On S)) ⟨39,so,tx,a,b,K⟩ ks=false):=by unfold Hid;rw[q.o,Jd (show so≠Ok from G)];rfl
  clear G
  go_wp2
  go_quiet (fail)
  go_wp2
  go_ret
  exact⟨Oz F.o.symm,below_drewN E.o _⟩
 ·as_aux_lemma=>
  have q:Hid (Om (Ou (On S)) ⟨40,so,tx,a,b,K⟩ ks=(decide (so=Ok)&&decide (kS ks 0=kS ks 1)&&decide (X1.kind=4))):=by unfold Hid Om;simp only;rw[a7.o,b0.o,b1.o];rfl
  have b2:2<=ks.length:=by simpa[Uk]using HL.o
  rcases HK.o with e0|⟨bb,rfl,a1,R⟩
  ·rw[e0]at b2;cases b2
  have b3:=(E.o.cell (p:=⟨bb,0,none⟩) a1).trans (R 0 (by omega));have Z:kS ks 0=ks[0]:=by unfold kS;rw[Jg (by omega)];rfl
  have e2:(0:Int)<(ks.length:Int):=by omega
  have d0:=(E.o.cell (p:=⟨bb,1,none⟩) a1).trans (R 1 (by omega));have Y:kS ks 1=ks[1]:=by unfold kS;rw[Jg (by omega)];rfl
  have e3:(1:Int)<(ks.length:Int):=by omega
  rw[Z,Y]at q;generalize ks[0]=k0 at b3 q Z;generalize ks[1]=k1 at d0 q Y;clear R Z Y
  rcases Uz so [66,111,111,108]with⟨G,q0⟩|⟨G,q0⟩
  ·rcases Ez k0 k1 with⟨J,q1⟩|⟨J,q1⟩
   ·rcases Ki X1.kind 4 with⟨O,q2⟩|⟨O,q2⟩
    ·have F:Hid (Om (Ou (On S)) ⟨40,so,tx,a,b,K⟩ ks=true):=by unfold Hid;rw[q.o,Jb (show so=Ok from G),Jb J,Jb O];rfl
     clear G J O
     go_wp2
     go_quiet (fail)
     go_wp2
     go_ret
     exact⟨Oz F.o.symm,below_drewN E.o _⟩
    have F:Hid (Om (Ou (On S)) ⟨40,so,tx,a,b,K⟩ ks=false):=by unfold Hid;rw[q.o,Jb (show so=Ok from G),Jb J,Jd O];rfl
    clear G J O
    go_wp2
    go_quiet (fail)
    go_wp2
    go_ret
    exact⟨Oz F.o.symm,below_drewN E.o _⟩
   have F:Hid (Om (Ou (On S)) ⟨40,so,tx,a,b,K⟩ ks=false):=by unfold Hid;rw[q.o,Jb (show so=Ok from G),Jd J];rfl
   clear G J
   go_wp2
   go_quiet (fail)
   go_wp2
   go_ret
   exact⟨Oz F.o.symm,below_drewN E.o _⟩
  have F:Hid (Om (Ou (On S)) ⟨40,so,tx,a,b,K⟩ ks=false):=by unfold Hid;rw[q.o,Jd (show so≠Ok from G)];rfl
  clear G
  go_wp2
  go_quiet (fail)
  go_wp2
  go_ret
  exact⟨Oz F.o.symm,below_drewN E.o _⟩
 ·as_aux_lemma=>
  have q:Hid (Om (Ou (On S)) ⟨41,so,tx,a,b,K⟩ ks=(decide (so=Ok)&&decide (kS ks 0=kS ks 1)&&decide (X1.kind=4))):=by unfold Hid Om;simp only;rw[a7.o,b0.o,b1.o];rfl
  have b2:2<=ks.length:=by simpa[Uk]using HL.o
  rcases HK.o with e0|⟨bb,rfl,a1,R⟩
  ·rw[e0]at b2;cases b2
  have b3:=(E.o.cell (p:=⟨bb,0,none⟩) a1).trans (R 0 (by omega));have Z:kS ks 0=ks[0]:=by unfold kS;rw[Jg (by omega)];rfl
  have e2:(0:Int)<(ks.length:Int):=by omega
  have d0:=(E.o.cell (p:=⟨bb,1,none⟩) a1).trans (R 1 (by omega));have Y:kS ks 1=ks[1]:=by unfold kS;rw[Jg (by omega)];rfl
  have e3:(1:Int)<(ks.length:Int):=by omega
  rw[Z,Y]at q;generalize ks[0]=k0 at b3 q Z;generalize ks[1]=k1 at d0 q Y;clear R Z Y
  rcases Uz so [66,111,111,108]with⟨G,q0⟩|⟨G,q0⟩
  ·rcases Ez k0 k1 with⟨J,q1⟩|⟨J,q1⟩
   ·rcases Ki X1.kind 4 with⟨O,q2⟩|⟨O,q2⟩
    ·have F:Hid (Om (Ou (On S)) ⟨41,so,tx,a,b,K⟩ ks=true):=by unfold Hid;rw[q.o,Jb (show so=Ok from G),Jb J,Jb O];rfl
     clear G J O
     go_wp2
     go_quiet (fail)
     go_wp2
     go_ret
     exact⟨Oz F.o.symm,below_drewN E.o _⟩
    have F:Hid (Om (Ou (On S)) ⟨41,so,tx,a,b,K⟩ ks=false):=by unfold Hid;rw[q.o,Jb (show so=Ok from G),Jb J,Jd O];rfl
    clear G J O
    go_wp2
    go_quiet (fail)
    go_wp2
    go_ret
    exact⟨Oz F.o.symm,below_drewN E.o _⟩
   have F:Hid (Om (Ou (On S)) ⟨41,so,tx,a,b,K⟩ ks=false):=by unfold Hid;rw[q.o,Jb (show so=Ok from G),Jd J];rfl
   clear G J
   go_wp2
   go_quiet (fail)
   go_wp2
   go_ret
   exact⟨Oz F.o.symm,below_drewN E.o _⟩
  have F:Hid (Om (Ou (On S)) ⟨41,so,tx,a,b,K⟩ ks=false):=by unfold Hid;rw[q.o,Jd (show so≠Ok from G)];rfl
  clear G
  go_wp2
  go_quiet (fail)
  go_wp2
  go_ret
  exact⟨Oz F.o.symm,below_drewN E.o _⟩
 ·as_aux_lemma=>
  have q:Hid (Om (Ou (On S)) ⟨46,so,tx,a,b,K⟩ ks=(decide (X1.kind=6)&&decide (X1.index=kS ks 1)&&decide (X1.elem=so))):=by unfold Hid Om;simp only;rw[a7.o,b0.o,b1.o];rfl
  have b2:2<=ks.length:=by simpa[Uk]using HL.o
  rcases HK.o with e0|⟨bb,rfl,a1,R⟩
  ·rw[e0]at b2;cases b2
  have b3:=(E.o.cell (p:=⟨bb,0,none⟩) a1).trans (R 0 (by omega));have Z:kS ks 0=ks[0]:=by unfold kS;rw[Jg (by omega)];rfl
  have e2:(0:Int)<(ks.length:Int):=by omega
  have d0:=(E.o.cell (p:=⟨bb,1,none⟩) a1).trans (R 1 (by omega));have Y:kS ks 1=ks[1]:=by unfold kS;rw[Jg (by omega)];rfl
  have e3:(1:Int)<(ks.length:Int):=by omega
  rw[Y]at q;generalize ks[0]=k0 at b3 Z;generalize ks[1]=k1 at d0 q Y;clear R Z Y
  rcases Ki X1.kind 6 with⟨G,q0⟩|⟨G,q0⟩
  ·rcases Ez X1.index k1 with⟨J,q1⟩|⟨J,q1⟩
   ·rcases Ez X1.elem so with⟨O,q2⟩|⟨O,q2⟩
    ·have F:Hid (Om (Ou (On S)) ⟨46,so,tx,a,b,K⟩ ks=true):=by unfold Hid;rw[q.o,Jb G,Jb J,Jb O];rfl
     clear G J O
     go_wp2
     go_quiet (fail)
     go_wp2
     go_ret
     exact⟨Oz F.o.symm,below_drewN E.o _⟩
    have F:Hid (Om (Ou (On S)) ⟨46,so,tx,a,b,K⟩ ks=false):=by unfold Hid;rw[q.o,Jb G,Jb J,Jd O];rfl
    clear G J O
    go_wp2
    go_quiet (fail)
    go_wp2
    go_ret
    exact⟨Oz F.o.symm,below_drewN E.o _⟩
   have F:Hid (Om (Ou (On S)) ⟨46,so,tx,a,b,K⟩ ks=false):=by unfold Hid;rw[q.o,Jb G,Jd J];rfl
   clear G J
   go_wp2
   go_quiet (fail)
   go_wp2
   go_ret
   exact⟨Oz F.o.symm,below_drewN E.o _⟩
  have F:Hid (Om (Ou (On S)) ⟨46,so,tx,a,b,K⟩ ks=false):=by unfold Hid;rw[q.o,Jd G];rfl
  clear G
  go_wp2
  go_quiet (fail)
  go_wp2
  go_ret
  exact⟨Oz F.o.symm,below_drewN E.o _⟩
 as_aux_lemma=>
 have q:Hid (Om (Ou (On S)) ⟨47,so,tx,a,b,K⟩ ks=(decide (V.kind=6)&&decide (kS ks 0=so)&&decide (V.index=kS ks 1)&&decide (V.elem=kS ks 2))):=by unfold Hid Om;simp only;rw[a7.o,b0.o,b1.o];rfl
 have b2:3<=ks.length:=by simpa[Uk]using HL.o
 rcases HK.o with e0|⟨bb,rfl,a1,R⟩
 ·rw[e0]at b2;cases b2
 have b3:=(E.o.cell (p:=⟨bb,0,none⟩) a1).trans (R 0 (by omega));have Z:kS ks 0=ks[0]:=by unfold kS;rw[Jg (by omega)];rfl
 have e2:(0:Int)<(ks.length:Int):=by omega
 have d0:=(E.o.cell (p:=⟨bb,1,none⟩) a1).trans (R 1 (by omega));have Y:kS ks 1=ks[1]:=by unfold kS;rw[Jg (by omega)];rfl
 have e3:(1:Int)<(ks.length:Int):=by omega
 have j1:=(E.o.cell (p:=⟨bb,2,none⟩) a1).trans (R 2 (by omega));have f9:kS ks 2=ks[2]:=by unfold kS;rw[Jg (by omega)];rfl
 have l9:(2:Int)<(ks.length:Int):=by omega
 rw[Z,Y,f9]at q;generalize ks[0]=k0 at b3 q Z;generalize ks[1]=k1 at d0 q Y;generalize ks[2]=k2 at j1 q f9;clear R Z Y f9
 rcases Ki V.kind 6 with⟨G,q0⟩|⟨G,q0⟩
 ·rcases Ez k0 so with⟨J,q1⟩|⟨J,q1⟩
  ·rcases Ez V.index k1 with⟨O,q2⟩|⟨O,q2⟩
   ·rcases Ez V.elem k2 with⟨p3,q3⟩|⟨p3,q3⟩
    ·have F:Hid (Om (Ou (On S)) ⟨47,so,tx,a,b,K⟩ ks=true):=by unfold Hid;rw[q.o,Jb G,Jb J,Jb O,Jb p3];rfl
     clear G J O p3
     go_wp2
     go_quiet (fail)
     go_wp2
     go_ret
     exact⟨Oz F.o.symm,below_drewN E.o _⟩
    have F:Hid (Om (Ou (On S)) ⟨47,so,tx,a,b,K⟩ ks=false):=by unfold Hid;rw[q.o,Jb G,Jb J,Jb O,Jd p3];rfl
    clear G J O p3
    go_wp2
    go_quiet (fail)
    go_wp2
    go_ret
    exact⟨Oz F.o.symm,below_drewN E.o _⟩
   have F:Hid (Om (Ou (On S)) ⟨47,so,tx,a,b,K⟩ ks=false):=by unfold Hid;rw[q.o,Jb G,Jb J,Jd O];rfl
   clear G J O
   go_wp2
   go_quiet (fail)
   go_wp2
   go_ret
   exact⟨Oz F.o.symm,below_drewN E.o _⟩
  have F:Hid (Om (Ou (On S)) ⟨47,so,tx,a,b,K⟩ ks=false):=by unfold Hid;rw[q.o,Jb G,Jd J];rfl
  clear G J
  go_wp2
  go_quiet (fail)
  go_wp2
  go_ret
  exact⟨Oz F.o.symm,below_drewN E.o _⟩
 have F:Hid (Om (Ou (On S)) ⟨47,so,tx,a,b,K⟩ ks=false):=by unfold Hid;rw[q.o,Jd G];rfl
 clear G
 go_wp2
 go_quiet (fail)
 go_wp2
 go_ret
 exact⟨Oz F.o.symm,below_drewN E.o _⟩
end Go.Proofs.YtfkagjelljnpdaaGreatDoor
