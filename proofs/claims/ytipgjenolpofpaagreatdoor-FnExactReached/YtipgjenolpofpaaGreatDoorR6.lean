import Derived.Test.YtipgjenolpofpaaGreatDoorP00
import Derived.Test.YtipgjenolpofpaaGreatDoorR5
set_option maxRecDepth 100000
set_option maxHeartbeats 4000000
namespace Go.Proofs.YtipgjenolpofpaaGreatDoor
open ChangeShapes WideShapes ChangeAt RowKit Proofs.Tryz
theorem MG {T:List Tm}{R:List Int}{i:Nat}(h:i<R.length)(hb:¬ (0<=R[i]/\R[i]<(T.length:Int))):LL T R=false:=by
 rw[J9];intro d;unfold LL at d;rw[Ju] at d;exact hb (by simpa using d _ (Jw h))
theorem BI {w:World}{g b:Nat}{l:List Value}(h:Bx w g l)(hne:g≠b)(i:Nat)(v:Value):Bx (w.setCell ⟨b,i,none⟩ v) g l:=by
 obtain⟨j,d⟩:=h;exact⟨j,(Jq w ⟨b,i,none⟩ v g hne).trans d⟩
theorem BB (vs vf vt vr:Value)(T:List Tm)(R:List Int)(w:World)(hs:∃ p n c,vs=.slice p n c)(hf:∃ p n c,vf=.slice p n c)(ht:Km w vt T)(hr:U5 w vr R)(_hT:T.length<=3000) :
 Calls prog 62 #[.agg #[vs,vf,vt],vr] w fun e w'=>e=.returned (.bool (LL T R))/\Up w w':=by
 obtain⟨p1,Y,c1,rfl⟩:=hs;obtain⟨p2,Z,c2,rfl⟩:=hf;obtain⟨pt,V,rfl,b9,b5,-⟩:=ht;obtain⟨pr,cr,rfl,c6,b6,E⟩:=hr;unfold maxLen at b5 b6;have b4:=Hd E;have j:Hid (Up w (w.alloc (.cells #[.slice p1 Y c1,.slice p2 Z c2,.slice pt T.length V] 32))):=Oy _ _;have M:Hid (Bx (w.alloc (.cells #[.slice p1 Y c1,.slice p2 Z c2,.slice pt T.length V] 32)) w.heap.size [.slice p1 Y c1,.slice p2 Z c2,.slice pt T.length V]):=Oi w _ _;clear E
 go_in
 go_wp2_with fail
 obtain⟨W1,O⟩:=O1 (w.alloc (.cells #[.slice p1 Y c1,.slice p2 Z c2,.slice pt T.length V] 32));rw[O] at j M ⊢;clear O
 go_loopw [9] (fun iv wr=>∃ i:Nat,i<=R.length/\iv=.int .i64 (i:Nat)/\(∀ r∈R.take i,0<=r/\r<(T.length:Int))/\wr=W1) (fun iv _=>R.length - (intOf iv).toNat)
 case atStart=>exact⟨0,Jy _,rfl,fun r hr=>by simp at hr,rfl⟩
 obtain⟨i,hi,rfl,U,rfl⟩:=hrel;have K:=Hd U;clear U
 by_cases d:i<R.length
 ·obtain⟨b,rfl,hb,A⟩:∃ b,pr=some ⟨b,0,none⟩/\b<w.heap.size/\∀ i (h:i<R.length),w.cell? ⟨b,i,none⟩=some (.int .i64 R[i]):=by
   rcases b4.o with h|h
   ·rw[h] at d;cases d
   exact h
  have k0:=(j.o.cell (p:=⟨b,i,none⟩) hb).trans (A i d);obtain⟨r,I⟩:=O1 (R[i]);have G:=Hd I;rw[I] at k0;have b2:=M.o.c3.2.2;clear A I
  by_cases h1:r<0
  ·have y1:decide (r<0)=true:=Jb h1;have J:Hid (LL T R=false):=MG d (by rw[G.o];omega)
   go_wp2
   go_ret
   exact⟨Oz J.o.symm,j.o⟩
  have y1:decide (r<0)=false:=Jg h1
  by_cases h2:(T.length:Int)<=r
  ·have y2:decide ((T.length:Int)<=r)=true:=Jb h2;have J:Hid (LL T R=false):=MG d (by rw[G.o];omega)
   go_wp2
   go_ret
   exact⟨Oz J.o.symm,j.o⟩
  have y2:decide ((T.length:Int)<=r)=false:=Jg h2
  go_wp2
  go_roundw
  case rel=>
   refine⟨i+1,by omega,by go_num,fun r' hr=>?_,trivial⟩;rw[List.take_add_one,Jf d,G.o,Z6] at hr
   rcases hr with hr|hr
   ·exact K.o r' hr
   obtain rfl:r'=r:=by simpa using hr
   omega
  simp[intOf];omega
 obtain rfl:i=R.length:=by omega
 have J:Hid (LL T R=true):=MD (by have:=K.o;rwa [Yl] at this)
 go_wp2
 go_ret
 exact⟨Oz J.o.symm,j.o⟩
theorem BX (vs vf vt vr:Value)(T:List Tm)(R:List Int)(w:World)(hs:∃ p n c,vs=.slice p n c)(hf:∃ p n c,vf=.slice p n c)(ht:Km w vt T)(hr:U5 w vr R)(hT:T.length<=3000)(hA:BO T)(hR:LL T R=true) :
 Calls prog 63 #[.agg #[vs,vf,vt],vr] w fun e w'=>∃ g,e=.returned (.slice (some ⟨g,0,none⟩) T.length T.length)/\w'.ownsRow w.heap.size 4 1 (.slice (some ⟨g,0,none⟩) T.length T.length) T.length (LB (ME T R))/\Up w w':=by
 obtain⟨p1,n1,c1,rfl⟩:=hs;obtain⟨p2,n2,c2,rfl⟩:=hf;obtain⟨pt,ct,rfl,k8,j0,A⟩:=ht;obtain⟨pr,cr,rfl,k9,j1,a8⟩:=hr;unfold maxLen at j0 j1;obtain⟨i0,g0,j5,j6,j7⟩:=BZ;have h8:=Hd A;have e5:=Hd a8;have g3:=Hd hA;have h6:Hid (∀ r∈R,0<=r/\r<(T.length:Int)):=fun r hr=>by
  unfold LL at hR;rw[Ju] at hR
  simpa using hR r hr
 have e1:Hid (Up w (w.alloc (.cells #[.slice p1 n1 c1,.slice p2 n2 c2,.slice pt T.length ct] 32))):=Oy _ _;have c8:Hid (Bx (w.alloc (.cells #[.slice p1 n1 c1,.slice p2 n2 c2,.slice pt T.length ct] 32)) w.heap.size [.slice p1 n1 c1,.slice p2 n2 c2,.slice pt T.length ct]):=Oi w _ _;clear a8 A hA hR;have hb2:=c8.o.c3.2.2
 go_in
 go_wp2_with (at_make;refine wpList_make_full _ rfl _ _ 97 rfl w.heap.size 4 i0 (.bool false) 1 underlying97 g0 j5 j6 .i64 .i64 _ _ T.length rfl rfl (by simp) (by simp) (by rw[j7];omega) (by unfold maxLen;omega) (by simp) ?_)
 intro w1 G d3;have g4:Hid (Up w w1):=e1.o.grown d3 e1.o.size (fun k e=>by cases e);have h9:Hid (Bx w1 w.heap.size [.slice p1 n1 c1,.slice p2 n2 c2,.slice pt T.length ct]):=by
  obtain⟨ty,hh⟩:=c8.o;exact⟨ty,(d3.block _ c8.o.lt (by simp)).trans hh⟩
 rw[MP] at G;have g9:=Hd G;clear G d3 hb2
 go_wp2
 go_loopw [17] (fun iv wr=>∃ i:Nat,i<=R.length/\iv=.int .i64 (i:Nat)/\Bx wr w.heap.size [.slice p1 n1 c1,.slice p2 n2 c2,.slice pt T.length ct]/\wr.ownsRow w.heap.size 4 1 (.slice (some ⟨w.heap.size+1,0,none⟩) T.length T.length) T.length (LB (LS (List.replicate T.length false) (R.take i)))/\Up w wr) (fun iv _=>R.length - (intOf iv).toNat)
 case atStart=>exact⟨0,Jy _,rfl,h9.o,g9.o,g4.o⟩
 obtain⟨i,hi,rfl,hX,E,hB⟩:=hrel;have HX:=Hd hX;have O:=Hd E;have HB:=Hd hB;clear hX E hB
 by_cases Z:i<R.length
 ·obtain⟨b,rfl,hb,d⟩:∃ b,pr=some ⟨b,0,none⟩/\b<w.heap.size/\∀ i (h:i<R.length),w.cell? ⟨b,i,none⟩=some (.int .i64 R[i]):=by
   rcases e5.o with h|h
   ·rw[h] at Z;cases Z
   exact h
  have k0:=(HB.o.cell (p:=⟨b,i,none⟩) hb).trans (d i Z);have hr:=h6.o _ (Jw Z);obtain⟨m,hm⟩:∃ m:Nat,R[i]=(m:Int):=⟨R[i].toNat,by omega⟩;have h1:=Hd hm;rw[hm] at k0 hr;have j4:m<T.length:=by omega
  obtain⟨x1,k1⟩:=H9 O.o m (by omega);have f1:=O.o.frozenAt m;have c6:=Hd (O.o.stored m (.bool true)).1;have d0:=Hd (BI HX.o (show w.heap.size≠w.heap.size+1 by omega) m (.bool true));clear d hm
  go_wp2
  go_roundw
  case rel=>
   have et:R.take (i+1)=R.take i++[(m:Int)]:=by rw[List.take_add_one,Jf Z,h1.o];rfl
   refine⟨i+1,by omega,by go_num,d0.o,?_,HB.o.setCell (p:=⟨w.heap.size+1,m,none⟩) (Y2 _) _⟩;have:=c6.o;rw[MO] at this;rw[et,MZ];exact this
  simp[intOf];omega
 obtain rfl:i=R.length:=by omega
 have hO:=O.o;rw[Yl] at hO;obtain⟨L0,b3⟩:=O1 (LS (List.replicate T.length false) R);have g8:Hid (L0.length=T.length):=by unfold Hid;rw[<-b3,LW,Ue]
 have e3:Hid (ME T R=LD T T.length L0):=by unfold Hid ME;rw[b3]
 rw[b3] at hO;have e4:=Hd hO;clear hO O e5 b3
 go_wp2
 go_loopw [8] (fun iv wr=>∃ (i:Nat) (L:List Bool),i<=T.length/\iv=.int .i64 ((i:Int) - 1)/\L.length=T.length/\LD T i L=LD T T.length L0/\Bx wr w.heap.size [.slice p1 n1 c1,.slice p2 n2 c2,.slice pt T.length ct]/\wr.ownsRow w.heap.size 4 1 (.slice (some ⟨w.heap.size+1,0,none⟩) T.length T.length) T.length (LB L)/\Up w wr) (fun iv _=>(intOf iv+1).toNat)
 case atStart=>exact⟨T.length,L0,Of,rfl,g8.o,rfl,HX.o,e4.o,HB.o⟩
 obtain⟨i,L,hi,rfl,e9,b8,hX,E,hB⟩:=hrel;clear HX e4 HB;have I:=Hd b8;have HX:=Hd hX;have O:=Hd E;have M:=Hd hB;clear b8 E hX hB
 cases i with
 | zero=>
   have y0:decide ((0:Int)<=((0:Nat):Int) - 1)=false:=by decide
   have HR:Hid (ME T R=L):=e3.o.trans I.o.symm;clear I
   go_wp2
   go_ret
   exact⟨_,rfl,by rw[HR.o];exact O.o,M.o⟩
 | succ i=>
   have ei:(((i+1:Nat):Int) - 1)=(i:Int):=by omega
   rw[ei];have f9:i<L.length:=by omega
   have b5:i<T.length:=by omega
   have k1:=MX O.o f9;have J:L[i]? = some L[i]:=Jf f9
   cases b4:L[i] with
   | false=>
     rw[b4] at k1 J;have HS:Hid (LD T (i+1) L=LD T i L):=by
      unfold Hid
      show LD T i (LM T i L)=_
      unfold LM;rw[J,if_neg (by simp)]
     clear J b4 ei
     go_wp2
     go_roundw
     case rel=>exact⟨i,L,by omega,by go_num,e9,by rw[<-HS.o];exact I.o,HX.o,O.o,M.o⟩
     simp[intOf]
   | true=>
     rw[b4] at k1 J;obtain⟨b,rfl,hb,A⟩:∃ b,pt=some ⟨b,0,none⟩/\b<w.heap.size/\∃ va,w.cell? ⟨b,i*6+5,none⟩=some va/\U5 w va T[i].kids:=by
      rcases h8.o with h|⟨b,e,hb,h⟩
      ·rw[h] at b5;cases b5
      exact⟨b,e,hb,(h i b5).2.2.2.2.2⟩
     obtain⟨va,d5,pk,ck,rfl,j2,j3,V⟩:=A;obtain⟨K,hK⟩:=O1 (T[i].kids);have d2:kidsAt T i=K:=by unfold kidsAt;rw[Jf b5];exact hK
     have g5:Hid (∀ k∈K,0<=k/\k<(i:Int)):=by rw[<-d2];exact g3.o i
     have HS:Hid (LD T (i+1) L=LD T i (LS L K)):=by
      unfold Hid
      show LD T i (LM T i L)=_
      unfold LM;rw[J,if_pos rfl,d2]
     rw[hK] at d5 j2 V;have g6:=Hd V;have a5:=(M.o.cell (p:=⟨b,i*6+5,none⟩) hb).trans d5;have b2:=HX.o.c3.2.2;unfold maxLen at j3;clear J b4 ei hK d2 V d5
     go_wp2_with fail
     clear b2 a5 k1
     go_loopw [43] (fun jv wz=>∃ j:Nat,j<=K.length/\jv=.int .i64 (j:Nat)/\Bx wz w.heap.size [.slice p1 n1 c1,.slice p2 n2 c2,.slice (some ⟨b,0,none⟩) T.length ct]/\wz.ownsRow w.heap.size 4 1 (.slice (some ⟨w.heap.size+1,0,none⟩) T.length T.length) T.length (LB (LS L (K.take j)))/\Up w wz) (fun jv _=>K.length - (intOf jv).toNat)
     case atStart=>exact⟨0,Jy _,rfl,HX.o,O.o,M.o⟩
     obtain⟨j,hj,rfl,f8,a7,e8⟩:=hrel;have U:=Hd a7;have e6:=Hd f8;have b9:=Hd e8;clear a7 f8 e8 HX O M
     by_cases Y:j<K.length
     ·obtain⟨bk,rfl,i8,d⟩:∃ b,pk=some ⟨b,0,none⟩/\b<w.heap.size/\∀ i (h:i<K.length),w.cell? ⟨b,i,none⟩=some (.int .i64 K[i]):=by
       rcases g6.o with h|h
       ·rw[h] at Y;cases Y
       exact h
      have k0:=(b9.o.cell (p:=⟨bk,j,none⟩) i8).trans (d j Y);have hr:=g5.o _ (Jw Y);obtain⟨m,hm⟩:∃ m:Nat,K[j]=(m:Int):=⟨K[j].toNat,by omega⟩;have g7:=Hd hm;rw[hm] at k0 hr;have j4:m<T.length:=by omega
      obtain⟨x1,k1⟩:=H9 U.o m (by omega);have f1:=U.o.frozenAt m;have c6:=Hd (U.o.stored m (.bool true)).1;have d0:=Hd (BI e6.o (show w.heap.size≠w.heap.size+1 by omega) m (.bool true));clear d hm
      go_wp2
      go_roundw
      case rel=>
       have et:K.take (j+1)=K.take j++[(m:Int)]:=by rw[List.take_add_one,Jf Y,g7.o];rfl
       refine⟨j+1,by omega,by go_num,d0.o,?_,b9.o.setCell (p:=⟨w.heap.size+1,m,none⟩) (Y2 _) _⟩;have:=c6.o;rw[MO] at this;rw[et,MZ];exact this
      simp[intOf];omega
     obtain rfl:j=K.length:=by omega
     have hO:=U.o;rw[Yl] at hO;have h0:=Hd hO;clear hO U
     go_wp2
     go_roundw
     case rel=>exact⟨i,LS L K,by omega,by go_num,by rw[LW];exact e9,by rw[<-HS.o];exact I.o,e6.o,h0.o,b9.o⟩
     simp[intOf]
theorem BG {w:World}{vs vf vt vr:Value}{S:List (List UInt8)}{F:List Fn}{T:List Tm}{R:List Int}(h:BankAt w vs vf vt S F T)(hz:BankZ S F T)(hvs:∃ ad n c,vs=.slice (some ad) n c)(hr:U5 w vr R) :
 Calls prog 31 #[.agg #[vs,vf,vt],vr] w fun e w'=>∃ v,e=.returned v/\w'.ownsRow w.heap.size 3 1 v (LF S F T R).length (G8 (LF S F T R))/\Up w w':=by
 have b6:Hid (Up w (w.alloc (.cells #[vs,vf,vt] 32))):=Oy _ _;have M:Hid (Bx (w.alloc (.cells #[vs,vf,vt] 32)) w.heap.size [vs,vf,vt]):=Oi w _ _;have HG:=Hd (Cw (h.bl b6.o) hz hvs);have b9:=Hd h.t;have HR:=Hd hr;have c8:Hid (∃ p n c,vs=.slice p n c):=by obtain⟨a,n,c,e⟩:=hvs;exact⟨_,n,c,e⟩
 have c6:Hid (∃ p n c,vf=.slice p n c):=by obtain⟨p,c,e,_⟩:=h.f;exact⟨p,_,c,e⟩
 obtain⟨p1,c1,e1,-,-,-⟩:=h.s;obtain⟨p2,c2,e2,-,-,-⟩:=h.f;obtain⟨p3,c3,e3,-,-,-⟩:=h.t;obtain⟨p4,c4,rfl,-,-,-⟩:=hr;subst e1 e2 e3;clear h hz hvs;obtain⟨b0,b1,b2⟩:=M.o.c3
 go_in
 go_wp2_with fail
 clear b0 b1 b2;refine HG.o.mono ?_;rintro e w2 ⟨rfl,hb2⟩;have J:=b6.up hb2;have O:=Hd (M.o.bl M.o.lt hb2);obtain⟨b0,b1,b2⟩:=O.o.c3;clear hb2 HG
 cases V:Hg S Gr F T with
 | false=>
   have HE:Hid (LF S F T R=[]):=by unfold Hid LF;rw[V];rfl
   go_wp2
   go_ret
   exact⟨_,rfl,by rw[HE.o];exact⟨rfl,.inl ⟨rfl,rfl⟩⟩,J.o⟩
 | true=>
   have HE:Hid (LF S F T R=LC T R):=by unfold Hid LF;rw[V];rfl
   obtain⟨hA,hT⟩:=MM V;have HI:=Hd (BB _ _ _ _ T R w2 c8.o c6.o (b9.o.bl J.o) (HR.o.bl J.o) hT);have d9:=Hd hA;clear V hA
   go_wp2_with fail
   clear b0 b1 b2;refine HI.o.mono ?_;rintro e w3 ⟨rfl,b4⟩;have j:=J.up b4;have d0:=Hd (O.o.bl O.o.lt b4);obtain⟨b0,b1,b2⟩:=d0.o.c3;clear b4 HI
   cases Y:LL T R with
   | false=>
     have a8:Hid (LF S F T R=[]):=by unfold Hid;rw[HE.o];unfold LC;rw[Y];rfl
     go_wp2
     go_ret
     exact⟨_,rfl,by rw[a8.o];exact⟨rfl,.inl ⟨rfl,rfl⟩⟩,j.o⟩
   | true=>
     have b3:=Hd (BX _ _ _ _ T R w3 c8.o c6.o (b9.o.bl j.o) (HR.o.bl j.o) hT d9.o Y);obtain⟨L,hL⟩:=O1 (ME T R);have e5:Hid (L.length=T.length):=by unfold Hid;rw[<-hL];unfold ME;rw[MT,LW,Ue]
     have a8:Hid (LF S F T R=((List.range T.length).filter (fun i=>decide (L[i]? = some true))).map (fun (i:Nat)=>(i:Int))):=by unfold Hid;rw[HE.o];unfold LC;rw[Y,if_pos rfl,hL]
     rw[hL] at b3;clear Y hL
     go_wp2_with fail
     clear b0 b1 b2;refine b3.o.mono ?_;rintro e w4 ⟨g,rfl,d4,d2⟩;have b8:=Hd (E7 d4 j.o.size);have b7:=j.up d2;clear d4 d2 b3 M O d0
     go_wp2
     go_loopw [5,21] (fun ov iv wr=>∃ (i:Nat) (C:List Int),i<=T.length/\iv=.int .i64 (i:Nat)/\C=((List.range i).filter (fun i=>decide (L[i]? = some true))).map (fun (i:Nat)=>(i:Int))/\C.length<=i/\(∃ p c,ov=.slice p C.length c)/\wr.ownsRow w.heap.size 4 1 (.slice (some ⟨g,0,none⟩) T.length T.length) T.length (LB L)/\wr.ownsRow w.heap.size 3 1 ov C.length (G8 C)/\Up w wr) (fun _ iv _=>T.length - (intOf iv).toNat)
     case atStart=>exact⟨0,[],Jy _,rfl,rfl,Jy _,⟨_,_,rfl⟩,b8.o,⟨rfl,.inl ⟨rfl,rfl⟩⟩,b7.o⟩
     obtain⟨i,C,hi,rfl,d1,g7,⟨pc,cc,rfl⟩,a7,I,hB⟩:=hrel;have K:=Hd d1;have HO:=Hd a7;have HC:=Hd I;have A:=Hd hB;clear d1 a7 I hB b8 b7
     by_cases g8:i<T.length
     ·have d3:i<L.length:=by have:=e5.o;omega
      have k1:=MX HO.o d3;have d:L[i]? = some L[i]:=Jf d3;have Z:((List.range (i+1)).filter (fun i=>decide (L[i]? = some true)))=((List.range i).filter (fun i=>decide (L[i]? = some true)))++[i].filter (fun i=>decide (L[i]? = some true)):=by rw[Zd,List.filter_append]
      have e8:=A.o.size
      cases U:L[i] with
      | false=>
        rw[U] at k1 d;have HS:Hid (C=((List.range (i+1)).filter (fun i=>decide (L[i]? = some true))).map (fun (i:Nat)=>(i:Int))):=by
         unfold Hid;rw[Z,K.o];simp[d]
        clear d U Z
        go_wp2
        go_roundw
        case rel=>exact⟨i+1,C,by omega,by go_num,HS.o,by omega,⟨_,_,rfl⟩,HO.o,HC.o,A.o⟩
        simp[intOf];omega
      | true=>
        rw[U] at k1 d;have HS:Hid (C++[(i:Int)]=((List.range (i+1)).filter (fun i=>decide (L[i]? = some true))).map (fun (i:Nat)=>(i:Int))):=by
         unfold Hid;rw[Z,K.o];simp[d]
        clear d U Z
        go_wp2_with (at_builtin;refine MC (n:=C.length) (base:=w.heap.size) (xs:=G8 C) (y:=(i:Int)) rfl _ _ rfl rfl ?own2 _ rfl ?hH2 ?hn2 ?hb2 ?_)
        case own2=>exact HC.o
        case hH2=>rfl
        case hn2=>omega
        case hb2=>omega
        intro g5 c5 w5 G E;have e6:=Hd (MA (HC.o.alloc _) (HO.o.alloc _) (by decide) E);have e4:Hid (w5.ownsRow w.heap.size 3 1 (.slice (some ⟨g5,0,none⟩) (C.length+1) c5) (C.length+1) (G8 (C++[(i:Int)]))):=by
         unfold Hid;rw[show G8 (C++[(i:Int)])=G8 C++[.int .i64 (i:Int)] by simp[G8]];exact G
        have e0:Hid (Up w w5):=(A.o.alloc e8 _).grown E (by simp;omega) (fun k e=>by have:=(HC.o.lt k e).1;omega);clear G E k1 HO HC A
        go_wp2
        go_roundw
        case rel=>exact⟨i+1,C++[(i:Int)],by omega,by go_num,HS.o,by rw[Y8];simp;omega,⟨some ⟨g5,0,none⟩,c5,by rw[Y8];rfl⟩,e6.o,by rw[Y8];exact e4.o,e0.o⟩
        simp[intOf];omega
     obtain rfl:i=T.length:=by omega
     have HR:Hid (LF S F T R=C):=a8.o.trans K.o.symm;clear K
     go_wp2
     go_ret
     exact⟨_,rfl,by rw[HR.o];exact HC.o,A.o⟩
end Go.Proofs.YtipgjenolpofpaaGreatDoor
