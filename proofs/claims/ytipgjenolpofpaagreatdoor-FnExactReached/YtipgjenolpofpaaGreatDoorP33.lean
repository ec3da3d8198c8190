import Derived.Test.YtipgjenolpofpaaGreatDoorP31
set_option maxRecDepth 100000
set_option maxHeartbeats 16000000
namespace Go.Proofs.YtipgjenolpofpaaGreatDoor
open ChangeShapes WideShapes ChangeAt RowKit Proofs.Tryz
theorem YL (vs vf vt:Value)(S:List (List UInt8))(num:Tm->Bool)(F:List Fn)(T:List Tm)(n:Nat)(t:Tm)(vk:Value)(w:World)(hS:O8 w vs S)(hF:Eh w vf F)(hT:Km w vt T)(hk:U5 w vk t.kids)(hn:n<=T.length)(_hTl:T.length<=1048576)(_hFl:F.length<=1048576)(hkl:t.kids.length<=1048576)(hop:16<=t.op/\t.op<=20)
 (hzs:t.sort.length<=1048576) (hzt:t.text.length<=1048576) (hz:∀ u∈T,u.sort.length<=1048576) (hnum:∀ w',Up w w'->Calls prog 71 #[.agg #[.int .i64 t.op,.string (Oo t.sort),.string (Oo t.text),.int .i64 t.a,.int .i64 t.b,vk]] w' fun e w''=>e=.returned (.bool (num t))/\Below w'.heap.size w' w'') :
 Calls prog 41 #[.agg #[vs,vf,vt],.int .i64 (n:Nat),.agg #[.int .i64 t.op,.string (Oo t.sort),.string (Oo t.text),.int .i64 t.a,.int .i64 t.b,vk]] w fun e w'=>e=.returned (.bool (Kc S num F T n t))/\Up w w':=by
 obtain⟨qk,dk,rfl,j5,g8,g9⟩:=hk;obtain⟨o,so,U,a,b,A⟩:=t;simp only at hzs hzt hkl j5 g8 g9 hnum hop ⊢;have l0:=Hd hop;clear hop;have HS:=Hd hS;have HF:=Hd hF;have HT:=Hd hT;have HK:=Hd g9;have HZ:=Hd hz;have m5:=Hd hnum;have HC:=Hd g8;unfold maxLen at g8;clear hS hF hT g9 hz hnum
 go_in
 go_wp2_with fail
 obtain⟨W1,d1⟩:=O1 ((w.alloc (.cells #[vs,vf,vt] 32)).alloc (.cells #[.int .i64 o,.string (Oo so),.string (Oo U),.int .i64 a,.int .i64 b,.slice qk A.length dk] 57));have e5:Hid (Up w W1):=by unfold Hid;rw[<-d1];exact ((Jh _ _).alloc Of _).alloc (by rw[Ji];omega) _
 have i7:Hid (W1.heap.size=w.heap.size+2):=by unfold Hid;rw[<-d1];simp
 have e8:Hid (Bx W1 w.heap.size [vs,vf,vt]):=by unfold Hid;rw[<-d1];exact (Oi w _ _).alloc _
 have e9:Hid (Bx W1 (w.heap.size+1) [.int .i64 o,.string (Oo so),.string (Oo U),.int .i64 a,.int .i64 b,.slice qk A.length dk]):=by unfold Hid;rw[<-d1];have h:=Oi (w.alloc (.cells #[vs,vf,vt] 32)) [.int .i64 o,.string (Oo so),.string (Oo U),.int .i64 a,.int .i64 b,.slice qk A.length dk] 57;rw[Ji] at h;exact h
 rw[d1];clear d1;refine (Ge ⟨o,so,U,a,b,A⟩ qk dk _ j5 HC.o).mono ?_
 cases e2:Kf ⟨o,so,U,a,b,A⟩
 ·have b4:=Hd e2;clear e2;rintro e w2 ⟨rfl,b6⟩;have e6:=e5.up b6;clear b6
  go_wp2
  go_ret
  exact⟨Oz (by unfold Kc;rw[b4.o];rfl),e6.o⟩
 have b4:=Hd e2;clear e2;rintro e w2 ⟨rfl,b6⟩;have e6:=e5.up b6;have j0:=Hd (e8.o.bl e8.o.lt b6);have f5:=Hd (e9.o.bl e9.o.lt b6);have n2:Hid (w.heap.size+2<=w2.heap.size):=by have:=b6.size;have:=i7.o;unfold Hid;omega
 clear b6 e8 e9 e5 i7;have y5:=f5.o.cell 5;simp only[Jo,Jr] at y5;obtain⟨K,f9⟩:=O1 (E1 T ⟨o,so,U,a,b,A⟩);have h9:=Hd f9;have b8:Hid (K.length=A.length):=by unfold Hid;rw[<-f9];simp[E1]
 clear f9
 go_wp2_with fail
 clear y5
 go_loopw [7,20] (fun v i wr=>∃ k:Nat,k<=A.length/\i=.int .i64 (k:Nat)/\wr.ownsRow w2.heap.size 9 1 v k (U3 (K.take k))/\(∀ j (h:j<A.length),j<k->0<=A[j]/\A[j]<(n:Int))/\Up w2 wr) (fun _ i _=>A.length - (intOf i).toNat)
 case atStart=>exact⟨0,Jy _,rfl,⟨rfl,.inl ⟨rfl,rfl⟩⟩,fun j _ h=>absurd h (J2 _),Jh _ _⟩
 obtain⟨k,hk,rfl,d5,hp,d2⟩:=hrel;have d0:=Hd d5;have HP:=Hd hp;have e7:=Hd d2;have E:=e6.up d2;have l3:=Hd (j0.o.bl j0.o.lt d2);have l4:=Hd (f5.o.bl f5.o.lt d2);obtain⟨p7,c7,rfl⟩:=En d5;clear d5 hp d2;obtain⟨b0,b1,b2⟩:=l3.o.c3;obtain⟨t0,t1,t2,t3,t4,t5⟩:=l4.o.k6
 by_cases d3:k<A.length
 ·rcases HK.o with e0|⟨bq,rfl,g0,J⟩
  ·rw[e0] at d3;cases d3
  have cx:=(E.o.cell (p:=⟨bq,k,none⟩) g0).trans (J k d3);clear J;have i0:(0:Int)<=(k:Int):=by omega
  have i1:(k:Int)<(A.length:Int):=by omega
  by_cases hx:0<=A[k]/\A[k]<(n:Int)
  ·have l2:=Hd hx;have h8:Hid (∀ h:k<K.length,K[k]=(Ky T A[k]).sort):=by
    intro h;have e:=h9.o;subst e;simp[E1]
   obtain⟨y,hy⟩:∃ y:Nat,A[k]=(y:Int):=⟨A[k].toNat,by omega⟩;rw[hy] at cx hx h8;have HY:=Hd hy;clear hy;obtain⟨pt,ct,rfl,l6,g2,g3⟩:=HT.o;unfold maxLen at g2
   rcases g3 with e0|⟨bt,rfl,b7,J⟩
   ·rw[e0] at hn;simp at hn;omega
   have d7:y<T.length:=by omega
   obtain⟨-,c1,-⟩:=J y d7;have c1:=(E.o.cell (p:=⟨bt,y*6+1,none⟩) b7).trans c1;clear J;have i8:Hid ((Ky T (y:Int)).sort=T[y].sort):=by unfold Hid Ky;simp[List.getElem?_eq_getElem d7]
   generalize T[y].sort=sy at c1 i8;have i2:(y:Int)<(n:Int):=by omega
   have i3:(y:Int)<(T.length:Int):=by omega
   have i4:(0:Int)<=(y:Int):=by omega
   have i5:decide ((n:Int)<=(y:Int))=false:=dF (by omega)
   have i6:y<n:=by omega
   go_wp2_with (at_builtin;refine Ns (t:=Oo sy) (n:=k) (base:=w2.heap.size) (xs:=U3 (K.take k)) rfl _ _ rfl rfl ?own _ rfl ?hH ?hn ?hb ?_)
   case own=>exact d0.o
   case hH=>rfl
   case hn=>omega
   case hb=>exact e7.o.size
   intro g5 c5 w5 d6 e4 j2;have k7:Hid (Up w2 w5):=Nq e7.o d0.o e4 e7.o.size;have k9:Hid (w5.ownsRow w2.heap.size 9 1 (.slice (some ⟨g5,0,none⟩) (k+1) c5) (k+1) (U3 (K.take (k+1)))):=by
    have hl:=b8.o;unfold Hid;rw[Gh (by omega),h8.o (by omega),i8.o];exact d6
   clear d6 e4 j2
   go_wp2
   go_roundw
   case rel=>exact⟨k+1,by omega,by go_num,k9.o,fun j hj h2=>by
    rcases J0.1 h2 with h|rfl
    ·exact HP.o j hj h
    exact l2.o,k7.o⟩
   simp[intOf];omega
  have FR:Hid (Kc S num F T n ⟨o,so,U,a,b,A⟩=false):=by
   unfold Hid Kc;have:Xz n ⟨o,so,U,a,b,A⟩=false:=by
    unfold Xz;rw[J9];intro h;exact hx (by simpa using Ju.1 h A[k] (Jw d3))
   rw[this,Y0,Uj]
  generalize A[k]=x at cx hx
  by_cases l7:x<0
  ·clear hx
   go_wp2
   go_ret
   exact⟨Oz FR.o.symm,E.o⟩
  have n5:(n:Int)<=x:=by omega
  have n6:¬ x<0:=l7;clear hx
  go_wp2
  go_ret
  exact⟨Oz FR.o.symm,E.o⟩
 obtain rfl:k=A.length:=by omega
 have k8:Hid (Xz n ⟨o,so,U,a,b,A⟩=true):=by
  unfold Hid Xz;rw[Ju];intro x hx;obtain⟨j,hj,rfl⟩:=Ya hx
  simpa using HP.o j hj hj
 have b3:Hid (Kc S num F T n ⟨o,so,U,a,b,A⟩=Nv (Ov (On S)) num F T ⟨o,so,U,a,b,A⟩ K):=by
  unfold Hid Kc;rw[b4.o,k8.o,h9.o];rfl
 have j4:O8 wr (.slice p7 A.length c7) K:=by
  have h:=d0.o;rw[<-b8.o,Yl] at h;rw[<-b8.o];exact I2 h rfl
 have b9:=Hd j4;clear j4 d3 d0 hk
 go_upto_region 11 with fail
 go_cut [10] (fun s10 wx=>s10=.bool (Oa so)/\wx=wr)
 case first=>
  rcases U8 so [73,110,116] with⟨I,q0⟩|⟨I,q0⟩
  ·have F:Hid (Oa so=true):=by unfold Hid Oa;rw[Jb (show so=Kn from I)];rfl
   clear I
   go_wp2
   go_meet
   exact⟨by rw[F.o],rfl⟩
  rcases U8 so [82,101,97,108] with⟨M,q1⟩|⟨M,q1⟩
  ·have F:Hid (Oa so=true):=by unfold Hid Oa;rw[Jb (show so=Ki from M),Vt]
   clear I M
   go_wp2
   go_meet
   exact⟨by rw[F.o],rfl⟩
  have F:Hid (Oa so=false):=by unfold Hid Oa;rw[Jg (show so≠Kn from I),Jg (show so≠Ki from M)];rfl
  clear I M
  go_wp2
  go_meet
  exact⟨by rw[F.o],rfl⟩
 obtain⟨rfl,rfl⟩:=hcut
 rcases (show o=16∨o=17∨o=18∨o=19∨o=20 by have:=l0.o;omega) with rfl|rfl|rfl|rfl|rfl
 ·have d:Hid (Kc S num F T n ⟨16,so,U,a,b,A⟩=(Oa so&&K1 K so&&decide ((Ky T (A.headD 0)).op=12))):=by unfold Hid;rw[b3.o];rfl
  rw[show A.headD 0=(A[0]?).getD 0 by cases A<;>rfl] at d;have m7:2<=A.length:=by have:=(Kw b4.o).1;simpa[Kh] using this
  have a8:0<A.length:=by omega
  rcases HK.o with e0|⟨bq,rfl,g0,j3⟩
  ·rw[e0] at a8;cases a8
  have cx:=(E.o.cell (p:=⟨bq,0,none⟩) g0).trans (j3 0 a8);clear j3;have hx:=HP.o 0 a8 a8;have n7:(0:Int)<(A.length:Int):=by omega
  have j1:(A[0]?).getD 0=A[0]:=by rw[Jf a8];rfl
  rw[j1] at d;obtain⟨y,hy⟩:∃ y:Nat,A[0]=(y:Int):=⟨A[0].toNat,by omega⟩;rw[hy] at cx hx d;clear hy j1;obtain⟨pt,ct,rfl,l6,g2,g3⟩:=HT.o;unfold maxLen at g2
  rcases g3 with e0|⟨bt,rfl,b7,J⟩
  ·rw[e0] at hn;simp at hn;omega
  have d7:y<T.length:=by omega
  obtain⟨c0,c1,c2,c3,c4,va,c5,pa,ca,rfl,-,-,-⟩:=J y d7;have c0:=(E.o.cell (p:=⟨bt,y*6,none⟩) b7).trans c0;have c1:=(E.o.cell (p:=⟨bt,y*6+1,none⟩) b7).trans c1;have c2:=(E.o.cell (p:=⟨bt,y*6+2,none⟩) b7).trans c2;have c3:=(E.o.cell (p:=⟨bt,y*6+3,none⟩) b7).trans c3;have c4:=(E.o.cell (p:=⟨bt,y*6+4,none⟩) b7).trans c4;have c5:=(E.o.cell (p:=⟨bt,y*6+5,none⟩) b7).trans c5;clear J;rw[RK d7] at d;generalize T[y]=u at c0 c1 c2 c3 c4 c5 d;have i2:(y:Int)<(T.length:Int):=by omega
  have i4:(0:Int)<=(y:Int):=by omega
  cases d4:Oa so
  ·have G:Hid (Kc S num F T n ⟨16,so,U,a,b,A⟩=false):=by unfold Hid;rw[d.o,d4];rfl
   rw[d4] at d;clear d4
   go_wp2
   go_quiet (fail)
   go_wp2
   go_ret
   exact⟨Oz G.o.symm,below_drewN E.o _⟩
  rw[d4] at d;clear d4
  cases b5:K1 K so
  ·have e1:=Hd b5;have G:Hid (Kc S num F T n ⟨16,so,U,a,b,A⟩=false):=by unfold Hid;rw[d.o,b5];rfl
   clear b5
   go_wp2
   go_quiet (first|(go_at_call 69;refine Calls.quiet_of_same ((Kv _ K (Oo so) (wc.drewN _) (b9.o.bl (below_drewN (Jh _ _) _))).mono (fun e w6 h=>⟨h.1.trans (by rw[Ou,e1.o]),h.2⟩))))
   go_wp2
   go_ret
   exact⟨Oz G.o.symm,below_drewN E.o _⟩
  have e1:=Hd b5
  rcases Em u.op 12 with⟨I,q0⟩|⟨I,q0⟩
  ·have G:Hid (Kc S num F T n ⟨16,so,U,a,b,A⟩=true):=by unfold Hid;rw[d.o,b5,Jb I];rfl
   clear b5 I
   go_wp2
   go_quiet (first|(go_at_call 69;refine Calls.quiet_of_same ((Kv _ K (Oo so) (wc.drewN _) (b9.o.bl (below_drewN (Jh _ _) _))).mono (fun e w6 h=>⟨h.1.trans (by rw[Ou,e1.o]),h.2⟩))))
   go_wp2
   go_ret
   exact⟨Oz G.o.symm,below_drewN E.o _⟩
  have G:Hid (Kc S num F T n ⟨16,so,U,a,b,A⟩=false):=by unfold Hid;rw[d.o,b5,Jg I];rfl
  clear b5 I
  go_wp2
  go_quiet (first|(go_at_call 69;refine Calls.quiet_of_same ((Kv _ K (Oo so) (wc.drewN _) (b9.o.bl (below_drewN (Jh _ _) _))).mono (fun e w6 h=>⟨h.1.trans (by rw[Ou,e1.o]),h.2⟩))))
  go_wp2
  go_ret
  exact⟨Oz G.o.symm,below_drewN E.o _⟩
 ·have d:Hid (Kc S num F T n ⟨17,so,U,a,b,A⟩=(decide (so=Oc)&&decide (kS K 0=kS K 1)&&Oa (kS K 0))):=by unfold Hid;rw[b3.o];rfl
  have a8:2<=A.length:=by have:=(Kw b4.o).1;simpa[Kh] using this
  have g1:2<=K.length:=by have:=b8.o;omega
  obtain⟨bs,rfl,J⟩:=Nn b9.o (by omega);have c6:=J 0 (by omega);have V:=Ih (L:=K) (i:=0) (by omega);have g4:(0:Int)<(A.length:Int):=by omega
  have c8:=J 1 (by omega);have Y:=Ih (L:=K) (i:=1) (by omega);have g6:(1:Int)<(A.length:Int):=by omega
  rw[V,Y] at d;generalize K[0]=O at c6 d V;generalize K[1]=k1 at c8 d Y;clear J V Y
  rcases U8 so [66,111,111,108] with⟨I,q0⟩|⟨I,q0⟩
  ·rcases Nk O k1 with⟨M,q1⟩|⟨M,q1⟩
   ·rcases U8 O [73,110,116] with⟨Z,q2⟩|⟨Z,q2⟩
    ·have G:Hid (Kc S num F T n ⟨17,so,U,a,b,A⟩=true):=by unfold Hid;rw[d.o,Jb (show so=Oc from I),Jb M,show Oa O=true by unfold Oa;rw[Jb (show O=Kn from Z)];rfl];rfl
     clear I M Z
     go_wp2
     go_quiet (fail)
     go_wp2
     go_ret
     exact⟨Oz G.o.symm,below_drewN E.o _⟩
    rcases U8 O [82,101,97,108] with⟨p3,q3⟩|⟨p3,q3⟩
    ·have G:Hid (Kc S num F T n ⟨17,so,U,a,b,A⟩=true):=by unfold Hid;rw[d.o,Jb (show so=Oc from I),Jb M,show Oa O=true by unfold Oa;rw[Jb (show O=Ki from p3),Vt]];rfl
     clear I M Z p3
     go_wp2
     go_quiet (fail)
     go_wp2
     go_ret
     exact⟨Oz G.o.symm,below_drewN E.o _⟩
    have G:Hid (Kc S num F T n ⟨17,so,U,a,b,A⟩=false):=by unfold Hid;rw[d.o,Jb (show so=Oc from I),Jb M,show Oa O=false by unfold Oa;rw[Jg (show O≠Kn from Z),Jg (show O≠Ki from p3)];rfl];rfl
    clear I M Z p3
    go_wp2
    go_quiet (fail)
    go_wp2
    go_ret
    exact⟨Oz G.o.symm,below_drewN E.o _⟩
   have G:Hid (Kc S num F T n ⟨17,so,U,a,b,A⟩=false):=by unfold Hid;rw[d.o,Jb (show so=Oc from I),Jg M]<;>rfl
   clear I M
   go_wp2
   go_quiet (fail)
   go_wp2
   go_ret
   exact⟨Oz G.o.symm,below_drewN E.o _⟩
  have G:Hid (Kc S num F T n ⟨17,so,U,a,b,A⟩=false):=by unfold Hid;rw[d.o,Jg (show so≠Oc from I)]<;>rfl
  clear I
  go_wp2
  go_quiet (fail)
  go_wp2
  go_ret
  exact⟨Oz G.o.symm,below_drewN E.o _⟩
 ·have d:Hid (Kc S num F T n ⟨18,so,U,a,b,A⟩=(decide (so=Oc)&&decide (kS K 0=kS K 1)&&Oa (kS K 0))):=by unfold Hid;rw[b3.o];rfl
  have a8:2<=A.length:=by have:=(Kw b4.o).1;simpa[Kh] using this
  have g1:2<=K.length:=by have:=b8.o;omega
  obtain⟨bs,rfl,J⟩:=Nn b9.o (by omega);have c6:=J 0 (by omega);have V:=Ih (L:=K) (i:=0) (by omega);have g4:(0:Int)<(A.length:Int):=by omega
  have c8:=J 1 (by omega);have Y:=Ih (L:=K) (i:=1) (by omega);have g6:(1:Int)<(A.length:Int):=by omega
  rw[V,Y] at d;generalize K[0]=O at c6 d V;generalize K[1]=k1 at c8 d Y;clear J V Y
  rcases U8 so [66,111,111,108] with⟨I,q0⟩|⟨I,q0⟩
  ·rcases Nk O k1 with⟨M,q1⟩|⟨M,q1⟩
   ·rcases U8 O [73,110,116] with⟨Z,q2⟩|⟨Z,q2⟩
    ·have G:Hid (Kc S num F T n ⟨18,so,U,a,b,A⟩=true):=by unfold Hid;rw[d.o,Jb (show so=Oc from I),Jb M,show Oa O=true by unfold Oa;rw[Jb (show O=Kn from Z)];rfl];rfl
     clear I M Z
     go_wp2
     go_quiet (fail)
     go_wp2
     go_ret
     exact⟨Oz G.o.symm,below_drewN E.o _⟩
    rcases U8 O [82,101,97,108] with⟨p3,q3⟩|⟨p3,q3⟩
    ·have G:Hid (Kc S num F T n ⟨18,so,U,a,b,A⟩=true):=by unfold Hid;rw[d.o,Jb (show so=Oc from I),Jb M,show Oa O=true by unfold Oa;rw[Jb (show O=Ki from p3),Vt]];rfl
     clear I M Z p3
     go_wp2
     go_quiet (fail)
     go_wp2
     go_ret
     exact⟨Oz G.o.symm,below_drewN E.o _⟩
    have G:Hid (Kc S num F T n ⟨18,so,U,a,b,A⟩=false):=by unfold Hid;rw[d.o,Jb (show so=Oc from I),Jb M,show Oa O=false by unfold Oa;rw[Jg (show O≠Kn from Z),Jg (show O≠Ki from p3)];rfl];rfl
    clear I M Z p3
    go_wp2
    go_quiet (fail)
    go_wp2
    go_ret
    exact⟨Oz G.o.symm,below_drewN E.o _⟩
   have G:Hid (Kc S num F T n ⟨18,so,U,a,b,A⟩=false):=by unfold Hid;rw[d.o,Jb (show so=Oc from I),Jg M]<;>rfl
   clear I M
   go_wp2
   go_quiet (fail)
   go_wp2
   go_ret
   exact⟨Oz G.o.symm,below_drewN E.o _⟩
  have G:Hid (Kc S num F T n ⟨18,so,U,a,b,A⟩=false):=by unfold Hid;rw[d.o,Jg (show so≠Oc from I)]<;>rfl
  clear I
  go_wp2
  go_quiet (fail)
  go_wp2
  go_ret
  exact⟨Oz G.o.symm,below_drewN E.o _⟩
 ·have d:Hid (Kc S num F T n ⟨19,so,U,a,b,A⟩=(decide (so=Oc)&&decide (kS K 0=kS K 1)&&Oa (kS K 0))):=by unfold Hid;rw[b3.o];rfl
  have a8:2<=A.length:=by have:=(Kw b4.o).1;simpa[Kh] using this
  have g1:2<=K.length:=by have:=b8.o;omega
  obtain⟨bs,rfl,J⟩:=Nn b9.o (by omega);have c6:=J 0 (by omega);have V:=Ih (L:=K) (i:=0) (by omega);have g4:(0:Int)<(A.length:Int):=by omega
  have c8:=J 1 (by omega);have Y:=Ih (L:=K) (i:=1) (by omega);have g6:(1:Int)<(A.length:Int):=by omega
  rw[V,Y] at d;generalize K[0]=O at c6 d V;generalize K[1]=k1 at c8 d Y;clear J V Y
  rcases U8 so [66,111,111,108] with⟨I,q0⟩|⟨I,q0⟩
  ·rcases Nk O k1 with⟨M,q1⟩|⟨M,q1⟩
   ·rcases U8 O [73,110,116] with⟨Z,q2⟩|⟨Z,q2⟩
    ·have G:Hid (Kc S num F T n ⟨19,so,U,a,b,A⟩=true):=by unfold Hid;rw[d.o,Jb (show so=Oc from I),Jb M,show Oa O=true by unfold Oa;rw[Jb (show O=Kn from Z)];rfl];rfl
     clear I M Z
     go_wp2
     go_quiet (fail)
     go_wp2
     go_ret
     exact⟨Oz G.o.symm,below_drewN E.o _⟩
    rcases U8 O [82,101,97,108] with⟨p3,q3⟩|⟨p3,q3⟩
    ·have G:Hid (Kc S num F T n ⟨19,so,U,a,b,A⟩=true):=by unfold Hid;rw[d.o,Jb (show so=Oc from I),Jb M,show Oa O=true by unfold Oa;rw[Jb (show O=Ki from p3),Vt]];rfl
     clear I M Z p3
     go_wp2
     go_quiet (fail)
     go_wp2
     go_ret
     exact⟨Oz G.o.symm,below_drewN E.o _⟩
    have G:Hid (Kc S num F T n ⟨19,so,U,a,b,A⟩=false):=by unfold Hid;rw[d.o,Jb (show so=Oc from I),Jb M,show Oa O=false by unfold Oa;rw[Jg (show O≠Kn from Z),Jg (show O≠Ki from p3)];rfl];rfl
    clear I M Z p3
    go_wp2
    go_quiet (fail)
    go_wp2
    go_ret
    exact⟨Oz G.o.symm,below_drewN E.o _⟩
   have G:Hid (Kc S num F T n ⟨19,so,U,a,b,A⟩=false):=by unfold Hid;rw[d.o,Jb (show so=Oc from I),Jg M]<;>rfl
   clear I M
   go_wp2
   go_quiet (fail)
   go_wp2
   go_ret
   exact⟨Oz G.o.symm,below_drewN E.o _⟩
  have G:Hid (Kc S num F T n ⟨19,so,U,a,b,A⟩=false):=by unfold Hid;rw[d.o,Jg (show so≠Oc from I)]<;>rfl
  clear I
  go_wp2
  go_quiet (fail)
  go_wp2
  go_ret
  exact⟨Oz G.o.symm,below_drewN E.o _⟩
 have d:Hid (Kc S num F T n ⟨20,so,U,a,b,A⟩=(decide (so=Oc)&&decide (kS K 0=kS K 1)&&Oa (kS K 0))):=by unfold Hid;rw[b3.o];rfl
 have a8:2<=A.length:=by have:=(Kw b4.o).1;simpa[Kh] using this
 have g1:2<=K.length:=by have:=b8.o;omega
 obtain⟨bs,rfl,J⟩:=Nn b9.o (by omega);have c6:=J 0 (by omega);have V:=Ih (L:=K) (i:=0) (by omega);have g4:(0:Int)<(A.length:Int):=by omega
 have c8:=J 1 (by omega);have Y:=Ih (L:=K) (i:=1) (by omega);have g6:(1:Int)<(A.length:Int):=by omega
 rw[V,Y] at d;generalize K[0]=O at c6 d V;generalize K[1]=k1 at c8 d Y;clear J V Y
 rcases U8 so [66,111,111,108] with⟨I,q0⟩|⟨I,q0⟩
 ·rcases Nk O k1 with⟨M,q1⟩|⟨M,q1⟩
  ·rcases U8 O [73,110,116] with⟨Z,q2⟩|⟨Z,q2⟩
   ·have G:Hid (Kc S num F T n ⟨20,so,U,a,b,A⟩=true):=by unfold Hid;rw[d.o,Jb (show so=Oc from I),Jb M,show Oa O=true by unfold Oa;rw[Jb (show O=Kn from Z)];rfl];rfl
    clear I M Z
    go_wp2
    go_quiet (fail)
    go_wp2
    go_ret
    exact⟨Oz G.o.symm,below_drewN E.o _⟩
   rcases U8 O [82,101,97,108] with⟨p3,q3⟩|⟨p3,q3⟩
   ·have G:Hid (Kc S num F T n ⟨20,so,U,a,b,A⟩=true):=by unfold Hid;rw[d.o,Jb (show so=Oc from I),Jb M,show Oa O=true by unfold Oa;rw[Jb (show O=Ki from p3),Vt]];rfl
    clear I M Z p3
    go_wp2
    go_quiet (fail)
    go_wp2
    go_ret
    exact⟨Oz G.o.symm,below_drewN E.o _⟩
   have G:Hid (Kc S num F T n ⟨20,so,U,a,b,A⟩=false):=by unfold Hid;rw[d.o,Jb (show so=Oc from I),Jb M,show Oa O=false by unfold Oa;rw[Jg (show O≠Kn from Z),Jg (show O≠Ki from p3)];rfl];rfl
   clear I M Z p3
   go_wp2
   go_quiet (fail)
   go_wp2
   go_ret
   exact⟨Oz G.o.symm,below_drewN E.o _⟩
  have G:Hid (Kc S num F T n ⟨20,so,U,a,b,A⟩=false):=by unfold Hid;rw[d.o,Jb (show so=Oc from I),Jg M]<;>rfl
  clear I M
  go_wp2
  go_quiet (fail)
  go_wp2
  go_ret
  exact⟨Oz G.o.symm,below_drewN E.o _⟩
 have G:Hid (Kc S num F T n ⟨20,so,U,a,b,A⟩=false):=by unfold Hid;rw[d.o,Jg (show so≠Oc from I)]<;>rfl
 clear I
 go_wp2
 go_quiet (fail)
 go_wp2
 go_ret
 exact⟨Oz G.o.symm,below_drewN E.o _⟩
end Go.Proofs.YtipgjenolpofpaaGreatDoor
