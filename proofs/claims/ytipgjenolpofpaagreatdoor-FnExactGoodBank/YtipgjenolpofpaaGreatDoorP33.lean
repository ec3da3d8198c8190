import Derived.Test.YtipgjenolpofpaaGreatDoorP31
set_option maxRecDepth 100000
set_option maxHeartbeats 16000000
namespace Go.Proofs.YtipgjenolpofpaaGreatDoor
open Go.ChangeShapes Go.WideShapes Go.ChangeAt Go.RowKit Go.Proofs.Tryz
theorem ZJ (vs vf vt:Value)(S:List (List UInt8))(num:Tm->Bool)(F:List Fn)(T:List Tm)(n:Nat)(t:Tm)(vk:Value)(w:World)(hS:O8 w vs S)(hF:Ex w vf F)(hT:Kb w vt T)(hk:U6 w vk t.kids)(hn:n<=T.length)(_hTl:T.length<=1048576)(_hFl:F.length<=1048576)(hkl:t.kids.length<=1048576)(hop:16<=t.op/\t.op<=20)
 (hzs:t.sort.length<=1048576) (hzt:t.text.length<=1048576) (hz:∀ u∈T,u.sort.length<=1048576) (hnum:∀ w',Up w w'->Calls prog 71 #[.agg #[.int .i64 t.op,.string (Oo t.sort),.string (Oo t.text),.int .i64 t.a,.int .i64 t.b,vk]] w' fun e w''=>e=.returned (.bool (num t))/\Below w'.heap.size w' w'') :
 Calls prog 41 #[.agg #[vs,vf,vt],.int .i64 (n:Nat),.agg #[.int .i64 t.op,.string (Oo t.sort),.string (Oo t.text),.int .i64 t.a,.int .i64 t.b,vk]] w fun e w'=>e=.returned (.bool (Kd S num F T n t))/\Up w w':=by
 obtain⟨qk,dk,rfl,j5,g3,f5⟩:=hk;obtain⟨o,so,U,a,b,A⟩:=t;simp only at hzs hzt hkl j5 g3 f5 hnum hop ⊢;have k8:=Hd hop;clear hop;have HS:=Hd hS;have HF:=Hd hF;have HT:=Hd hT;have HK:=Hd f5;have HZ:=Hd hz;have m9:=Hd hnum;have HC:=Hd g3;unfold maxLen at g3;clear hS hF hT f5 hz hnum
 go_enter func41,ntmps41
 go_wp2_with fail
 obtain⟨W1,d1⟩:=O1 ((w.alloc (.cells #[vs,vf,vt] 32)).alloc (.cells #[.int .i64 o,.string (Oo so),.string (Oo U),.int .i64 a,.int .i64 b,.slice qk A.length dk] 57));have g2:Hid (Up w W1):=by unfold Hid;rw[<-d1];exact ((Jh _ _).alloc Of _).alloc (by rw[Ji];omega) _
 have i7:Hid (W1.heap.size=w.heap.size+2):=by unfold Hid;rw[<-d1];simp
 have e8:Hid (Bx W1 w.heap.size [vs,vf,vt]):=by unfold Hid;rw[<-d1];exact (Ox w _ _).alloc _
 have g7:Hid (Bx W1 (w.heap.size+1) [.int .i64 o,.string (Oo so),.string (Oo U),.int .i64 a,.int .i64 b,.slice qk A.length dk]):=by unfold Hid;rw[<-d1];have h:=Ox (w.alloc (.cells #[vs,vf,vt] 32)) [.int .i64 o,.string (Oo so),.string (Oo U),.int .i64 a,.int .i64 b,.slice qk A.length dk] 57;rw[Ji] at h;exact h
 rw[d1];clear d1;refine (Gi ⟨o,so,U,a,b,A⟩ qk dk _ j5 HC.o).mono ?_
 cases e3:Kf ⟨o,so,U,a,b,A⟩
 ·have b6:=Hd e3;clear e3;rintro e w2 ⟨rfl,b7⟩;have g9:=g2.up b7;clear b7
  go_wp2_with fail
  go_ret
  exact⟨Oz (by unfold Kd;rw[b6.o];rfl),g9.o⟩
 have b6:=Hd e3;clear e3;rintro e w2 ⟨rfl,b7⟩;have g9:=g2.up b7;have j4:=Hd (e8.o.below e8.o.lt b7);have g0:=Hd (g7.o.below g7.o.lt b7);have n4:Hid (w.heap.size+2<=w2.heap.size):=by have:=b7.size;have:=i7.o;unfold Hid;omega
 clear b7 e8 g7 g2 i7;have y5:=g0.o.cell 5;simp only[Jo,Jr] at y5;obtain⟨M,e7⟩:=O1 (E1 T ⟨o,so,U,a,b,A⟩);have j1:=Hd e7;have b9:Hid (M.length=A.length):=by unfold Hid;rw[<-e7];simp[E1]
 clear e7
 go_wp2_with fail
 clear y5
 go_loopw [7,20] (fun v i wr=>∃ k:Nat,k<=A.length/\i=.int .i64 (k:Nat)/\wr.ownsRow w2.heap.size 9 1 v k (U3 (M.take k))/\(∀ j (h:j<A.length),j<k->0<=A[j]/\A[j]<(n:Int))/\Up w2 wr) (fun _ i _=>A.length - (intOf i).toNat)
 case atStart=>exact⟨0,Jy _,rfl,⟨rfl,.inl ⟨rfl,rfl⟩⟩,fun j _ h=>absurd h (J1 _),Jh _ _⟩
 case round=>
  obtain⟨k,hk,rfl,d4,hp,d3⟩:=hrel;have d0:=Hd d4;have HP:=Hd hp;have g8:=Hd d3;have E:=g9.up d3;have l2:=Hd (j4.o.below j4.o.lt d3);have l5:=Hd (g0.o.below g0.o.lt d3);obtain⟨p7,c7,rfl⟩:=Eg d4;clear d4 hp d3;obtain⟨b0,b1,b2⟩:=l2.o.c3;obtain⟨t0,t1,t2,t3,t4,t5⟩:=l5.o.k6
  by_cases d8:k<A.length
  ·rcases HK.o with e0|⟨bq,rfl,e9,J⟩
   ·rw[e0] at d8;cases d8
   have cx:=(E.o.cell (p:=⟨bq,k,none⟩) e9).trans (J k d8);clear J;have i0:(0:Int)<=(k:Int):=by omega
   have i1:(k:Int)<(A.length:Int):=by omega
   by_cases hx:0<=A[k]/\A[k]<(n:Int)
   ·have l3:=Hd hx;have h9:Hid (∀ h:k<M.length,M[k]=(Ky T A[k]).sort):=by
     intro h;have e:=j1.o;subst e;simp[E1]
    obtain⟨y,hy⟩:∃ y:Nat,A[k]=(y:Int):=⟨A[k].toNat,by omega⟩;rw[hy] at cx hx h9;have HY:=Hd hy;clear hy;obtain⟨pt,ct,rfl,l6,h6,g6⟩:=HT.o;unfold maxLen at h6
    rcases g6 with e0|⟨bt,rfl,b4,J⟩
    ·rw[e0] at hn;simp at hn;omega
    have d5:y<T.length:=by omega
    obtain⟨-,c1,-⟩:=J y d5;have c1:=(E.o.cell (p:=⟨bt,y*6+1,none⟩) b4).trans c1;clear J;have j2:Hid ((Ky T (y:Int)).sort=T[y].sort):=by unfold Hid Ky;simp[List.getElem?_eq_getElem d5]
    generalize T[y].sort=sy at c1 j2;have i2:(y:Int)<(n:Int):=by omega
    have i3:(y:Int)<(T.length:Int):=by omega
    have i4:(0:Int)<=(y:Int):=by omega
    have i5:decide ((n:Int)<=(y:Int))=false:=dF (by omega)
    have i6:y<n:=by omega
    go_wp2_with (at_builtin;refine Nr (t:=Oo sy) (n:=k) (base:=w2.heap.size) (xs:=U3 (M.take k)) rfl _ _ rfl rfl ?own _ rfl ?hH ?hn ?hb ?_)
    case own=>exact d0.o
    case hH=>rfl
    case hn=>omega
    case hb=>exact g8.o.size
    intro g5 c5 w5 d7 e4 h8;have k7:Hid (Up w2 w5):=Nl g8.o d0.o e4 g8.o.size;have l7:Hid (w5.ownsRow w2.heap.size 9 1 (.slice (some ⟨g5,0,none⟩) (k+1) c5) (k+1) (U3 (M.take (k+1)))):=by
     have hl:=b9.o;unfold Hid;rw[Ge (by omega),h9.o (by omega),j2.o];exact d7
    clear d7 e4 h8
    go_wp2_with fail
    go_roundw
    case rel=>exact⟨k+1,by omega,by go_num,l7.o,fun j hj h2=>by
     rcases J0.1 h2 with h|rfl
     ·exact HP.o j hj h
     ·exact l3.o,k7.o⟩
    case measure=>simp[intOf];omega
   ·have FR:Hid (Kd S num F T n ⟨o,so,U,a,b,A⟩=false):=by
     unfold Hid Kd;have:I6 n ⟨o,so,U,a,b,A⟩=false:=by
      unfold I6;rw[J9];intro h;exact hx (by simpa using Ju.1 h A[k] (Jw d8))
     rw[this,Y0,Uj]
    generalize A[k]=x at cx hx
    by_cases k9:x<0
    ·clear hx
     go_wp2_with fail
     go_ret
     exact⟨Oz FR.o.symm,E.o⟩
    ·have o0:(n:Int)<=x:=by omega
     have n8:¬ x<0:=k9;clear hx
     go_wp2_with fail
     go_ret
     exact⟨Oz FR.o.symm,E.o⟩
  ·obtain rfl:k=A.length:=by omega
   have l0:Hid (I6 n ⟨o,so,U,a,b,A⟩=true):=by
    unfold Hid I6;rw[Ju];intro x hx;obtain⟨j,hj,rfl⟩:=Ya hx
    simpa using HP.o j hj hj
   have b5:Hid (Kd S num F T n ⟨o,so,U,a,b,A⟩=Nz (Ov (On S)) num F T ⟨o,so,U,a,b,A⟩ M):=by
    unfold Hid Kd;rw[b6.o,l0.o,j1.o];rfl
   have j3:O8 wr (.slice p7 A.length c7) M:=by
    have h:=d0.o;rw[<-b9.o,Yl] at h;rw[<-b9.o];exact I3 h rfl
   have c8:=Hd j3;clear j3 d8 d0 hk
   go_upto_region 11 with fail
   go_cut [10] (fun s10 wx=>s10=.bool (Oa so)/\wx=wr)
   case first=>
    rcases U8 so [73,110,116] with⟨I,q0⟩|⟨I,q0⟩
    ·have F:Hid (Oa so=true):=by unfold Hid Oa;rw[Jb (show so=Kn from I)];rfl
     clear I
     go_wp2_with fail
     go_meet
     exact⟨by rw[F.o],rfl⟩
    ·rcases U8 so [82,101,97,108] with⟨K,q1⟩|⟨K,q1⟩
     ·have F:Hid (Oa so=true):=by unfold Hid Oa;rw[Jb (show so=Ki from K),Vp]
      clear I K
      go_wp2_with fail
      go_meet
      exact⟨by rw[F.o],rfl⟩
     ·have F:Hid (Oa so=false):=by unfold Hid Oa;rw[Jg (show so≠Kn from I),Jg (show so≠Ki from K)];rfl
      clear I K
      go_wp2_with fail
      go_meet
      exact⟨by rw[F.o],rfl⟩
   case rest=>
    obtain⟨rfl,rfl⟩:=hcut
    rcases (show o=16∨o=17∨o=18∨o=19∨o=20 by have:=k8.o;omega) with rfl|rfl|rfl|rfl|rfl
    ·have d:Hid (Kd S num F T n ⟨16,so,U,a,b,A⟩=(Oa so&&K1 M so&&decide ((Ky T (A.headD 0)).op=12))):=by unfold Hid;rw[b5.o];rfl
     rw[show A.headD 0=(A[0]?).getD 0 by cases A<;>rfl] at d;have m5:2<=A.length:=by have:=(Kt b6.o).1;simpa[Kg] using this
     have a8:0<A.length:=by omega
     rcases HK.o with e0|⟨bq,rfl,e9,i8⟩
     ·rw[e0] at a8;cases a8
     have cx:=(E.o.cell (p:=⟨bq,0,none⟩) e9).trans (i8 0 a8);clear i8;have hx:=HP.o 0 a8 a8;have n6:(0:Int)<(A.length:Int):=by omega
     have j0:(A[0]?).getD 0=A[0]:=by rw[Jf a8];rfl
     rw[j0] at d;obtain⟨y,hy⟩:∃ y:Nat,A[0]=(y:Int):=⟨A[0].toNat,by omega⟩;rw[hy] at cx hx d;clear hy j0;obtain⟨pt,ct,rfl,l6,h6,g6⟩:=HT.o;unfold maxLen at h6
     rcases g6 with e0|⟨bt,rfl,b4,J⟩
     ·rw[e0] at hn;simp at hn;omega
     have d5:y<T.length:=by omega
     obtain⟨c0,c1,c2,c3,c4,va,c5,pa,ca,rfl,-,-,-⟩:=J y d5;have c0:=(E.o.cell (p:=⟨bt,y*6,none⟩) b4).trans c0;have c1:=(E.o.cell (p:=⟨bt,y*6+1,none⟩) b4).trans c1;have c2:=(E.o.cell (p:=⟨bt,y*6+2,none⟩) b4).trans c2;have c3:=(E.o.cell (p:=⟨bt,y*6+3,none⟩) b4).trans c3;have c4:=(E.o.cell (p:=⟨bt,y*6+4,none⟩) b4).trans c4;have c5:=(E.o.cell (p:=⟨bt,y*6+5,none⟩) b4).trans c5;clear J;rw[XO d5] at d;generalize T[y]=u at c0 c1 c2 c3 c4 c5 d;have i2:(y:Int)<(T.length:Int):=by omega
     have i4:(0:Int)<=(y:Int):=by omega
     cases d2:Oa so
     ·have G:Hid (Kd S num F T n ⟨16,so,U,a,b,A⟩=false):=by unfold Hid;rw[d.o,d2];rfl
      rw[d2] at d;clear d2
      go_wp2_with fail
      go_quiet (fail)
      go_wp2_with fail
      go_ret
      exact⟨Oz G.o.symm,below_drewN E.o _⟩
     ·rw[d2] at d;clear d2
      cases b3:K1 M so
      ·have e1:=Hd b3;have G:Hid (Kd S num F T n ⟨16,so,U,a,b,A⟩=false):=by unfold Hid;rw[d.o,b3];rfl
       clear b3
       go_wp2_with fail
       go_quiet (first|(go_at_call 69;refine Calls.quiet_of_same ((Kv _ M (Oo so) (wc.drewN _) (c8.o.below (below_drewN (Jh _ _) _))).mono (fun e w6 h=>⟨h.1.trans (by rw[Ou,e1.o]),h.2⟩))))
       go_wp2_with fail
       go_ret
       exact⟨Oz G.o.symm,below_drewN E.o _⟩
      ·have e1:=Hd b3
       rcases Em u.op 12 with⟨I,q0⟩|⟨I,q0⟩
       ·have G:Hid (Kd S num F T n ⟨16,so,U,a,b,A⟩=true):=by unfold Hid;rw[d.o,b3,Jb I];rfl
        clear b3 I
        go_wp2_with fail
        go_quiet (first|(go_at_call 69;refine Calls.quiet_of_same ((Kv _ M (Oo so) (wc.drewN _) (c8.o.below (below_drewN (Jh _ _) _))).mono (fun e w6 h=>⟨h.1.trans (by rw[Ou,e1.o]),h.2⟩))))
        go_wp2_with fail
        go_ret
        exact⟨Oz G.o.symm,below_drewN E.o _⟩
       ·have G:Hid (Kd S num F T n ⟨16,so,U,a,b,A⟩=false):=by unfold Hid;rw[d.o,b3,Jg I];rfl
        clear b3 I
        go_wp2_with fail
        go_quiet (first|(go_at_call 69;refine Calls.quiet_of_same ((Kv _ M (Oo so) (wc.drewN _) (c8.o.below (below_drewN (Jh _ _) _))).mono (fun e w6 h=>⟨h.1.trans (by rw[Ou,e1.o]),h.2⟩))))
        go_wp2_with fail
        go_ret
        exact⟨Oz G.o.symm,below_drewN E.o _⟩
    ·have d:Hid (Kd S num F T n ⟨17,so,U,a,b,A⟩=(decide (so=Oc)&&decide (kS M 0=kS M 1)&&Oa (kS M 0))):=by unfold Hid;rw[b5.o];rfl
     have a8:2<=A.length:=by have:=(Kt b6.o).1;simpa[Kg] using this
     have g1:2<=M.length:=by have:=b9.o;omega
     obtain⟨bs,rfl,J⟩:=Nn c8.o (by omega);have b8:=J 0 (by omega);have Y:=If (L:=M) (i:=0) (by omega);have h0:(0:Int)<(A.length:Int):=by omega
     have c6:=J 1 (by omega);have V:=If (L:=M) (i:=1) (by omega);have g4:(1:Int)<(A.length:Int):=by omega
     rw[Y,V] at d;generalize M[0]=O at b8 d Y;generalize M[1]=k1 at c6 d V;clear J Y V
     rcases U8 so [66,111,111,108] with⟨I,q0⟩|⟨I,q0⟩
     ·rcases Nv O k1 with⟨K,q1⟩|⟨K,q1⟩
      ·rcases U8 O [73,110,116] with⟨Z,q2⟩|⟨Z,q2⟩
       ·have G:Hid (Kd S num F T n ⟨17,so,U,a,b,A⟩=true):=by unfold Hid;rw[d.o,Jb (show so=Oc from I),Jb K,show Oa O=true by unfold Oa;rw[Jb (show O=Kn from Z)];rfl];rfl
        clear I K Z
        go_wp2_with fail
        go_quiet (fail)
        go_wp2_with fail
        go_ret
        exact⟨Oz G.o.symm,below_drewN E.o _⟩
       ·rcases U8 O [82,101,97,108] with⟨p3,q3⟩|⟨p3,q3⟩
        ·have G:Hid (Kd S num F T n ⟨17,so,U,a,b,A⟩=true):=by unfold Hid;rw[d.o,Jb (show so=Oc from I),Jb K,show Oa O=true by unfold Oa;rw[Jb (show O=Ki from p3),Vp]];rfl
         clear I K Z p3
         go_wp2_with fail
         go_quiet (fail)
         go_wp2_with fail
         go_ret
         exact⟨Oz G.o.symm,below_drewN E.o _⟩
        ·have G:Hid (Kd S num F T n ⟨17,so,U,a,b,A⟩=false):=by unfold Hid;rw[d.o,Jb (show so=Oc from I),Jb K,show Oa O=false by unfold Oa;rw[Jg (show O≠Kn from Z),Jg (show O≠Ki from p3)];rfl];rfl
         clear I K Z p3
         go_wp2_with fail
         go_quiet (fail)
         go_wp2_with fail
         go_ret
         exact⟨Oz G.o.symm,below_drewN E.o _⟩
      ·have G:Hid (Kd S num F T n ⟨17,so,U,a,b,A⟩=false):=by unfold Hid;rw[d.o,Jb (show so=Oc from I),Jg K]<;>rfl
       clear I K
       go_wp2_with fail
       go_quiet (fail)
       go_wp2_with fail
       go_ret
       exact⟨Oz G.o.symm,below_drewN E.o _⟩
     ·have G:Hid (Kd S num F T n ⟨17,so,U,a,b,A⟩=false):=by unfold Hid;rw[d.o,Jg (show so≠Oc from I)]<;>rfl
      clear I
      go_wp2_with fail
      go_quiet (fail)
      go_wp2_with fail
      go_ret
      exact⟨Oz G.o.symm,below_drewN E.o _⟩
    ·have d:Hid (Kd S num F T n ⟨18,so,U,a,b,A⟩=(decide (so=Oc)&&decide (kS M 0=kS M 1)&&Oa (kS M 0))):=by unfold Hid;rw[b5.o];rfl
     have a8:2<=A.length:=by have:=(Kt b6.o).1;simpa[Kg] using this
     have g1:2<=M.length:=by have:=b9.o;omega
     obtain⟨bs,rfl,J⟩:=Nn c8.o (by omega);have b8:=J 0 (by omega);have Y:=If (L:=M) (i:=0) (by omega);have h0:(0:Int)<(A.length:Int):=by omega
     have c6:=J 1 (by omega);have V:=If (L:=M) (i:=1) (by omega);have g4:(1:Int)<(A.length:Int):=by omega
     rw[Y,V] at d;generalize M[0]=O at b8 d Y;generalize M[1]=k1 at c6 d V;clear J Y V
     rcases U8 so [66,111,111,108] with⟨I,q0⟩|⟨I,q0⟩
     ·rcases Nv O k1 with⟨K,q1⟩|⟨K,q1⟩
      ·rcases U8 O [73,110,116] with⟨Z,q2⟩|⟨Z,q2⟩
       ·have G:Hid (Kd S num F T n ⟨18,so,U,a,b,A⟩=true):=by unfold Hid;rw[d.o,Jb (show so=Oc from I),Jb K,show Oa O=true by unfold Oa;rw[Jb (show O=Kn from Z)];rfl];rfl
        clear I K Z
        go_wp2_with fail
        go_quiet (fail)
        go_wp2_with fail
        go_ret
        exact⟨Oz G.o.symm,below_drewN E.o _⟩
       ·rcases U8 O [82,101,97,108] with⟨p3,q3⟩|⟨p3,q3⟩
        ·have G:Hid (Kd S num F T n ⟨18,so,U,a,b,A⟩=true):=by unfold Hid;rw[d.o,Jb (show so=Oc from I),Jb K,show Oa O=true by unfold Oa;rw[Jb (show O=Ki from p3),Vp]];rfl
         clear I K Z p3
         go_wp2_with fail
         go_quiet (fail)
         go_wp2_with fail
         go_ret
         exact⟨Oz G.o.symm,below_drewN E.o _⟩
        ·have G:Hid (Kd S num F T n ⟨18,so,U,a,b,A⟩=false):=by unfold Hid;rw[d.o,Jb (show so=Oc from I),Jb K,show Oa O=false by unfold Oa;rw[Jg (show O≠Kn from Z),Jg (show O≠Ki from p3)];rfl];rfl
         clear I K Z p3
         go_wp2_with fail
         go_quiet (fail)
         go_wp2_with fail
         go_ret
         exact⟨Oz G.o.symm,below_drewN E.o _⟩
      ·have G:Hid (Kd S num F T n ⟨18,so,U,a,b,A⟩=false):=by unfold Hid;rw[d.o,Jb (show so=Oc from I),Jg K]<;>rfl
       clear I K
       go_wp2_with fail
       go_quiet (fail)
       go_wp2_with fail
       go_ret
       exact⟨Oz G.o.symm,below_drewN E.o _⟩
     ·have G:Hid (Kd S num F T n ⟨18,so,U,a,b,A⟩=false):=by unfold Hid;rw[d.o,Jg (show so≠Oc from I)]<;>rfl
      clear I
      go_wp2_with fail
      go_quiet (fail)
      go_wp2_with fail
      go_ret
      exact⟨Oz G.o.symm,below_drewN E.o _⟩
    ·have d:Hid (Kd S num F T n ⟨19,so,U,a,b,A⟩=(decide (so=Oc)&&decide (kS M 0=kS M 1)&&Oa (kS M 0))):=by unfold Hid;rw[b5.o];rfl
     have a8:2<=A.length:=by have:=(Kt b6.o).1;simpa[Kg] using this
     have g1:2<=M.length:=by have:=b9.o;omega
     obtain⟨bs,rfl,J⟩:=Nn c8.o (by omega);have b8:=J 0 (by omega);have Y:=If (L:=M) (i:=0) (by omega);have h0:(0:Int)<(A.length:Int):=by omega
     have c6:=J 1 (by omega);have V:=If (L:=M) (i:=1) (by omega);have g4:(1:Int)<(A.length:Int):=by omega
     rw[Y,V] at d;generalize M[0]=O at b8 d Y;generalize M[1]=k1 at c6 d V;clear J Y V
     rcases U8 so [66,111,111,108] with⟨I,q0⟩|⟨I,q0⟩
     ·rcases Nv O k1 with⟨K,q1⟩|⟨K,q1⟩
      ·rcases U8 O [73,110,116] with⟨Z,q2⟩|⟨Z,q2⟩
       ·have G:Hid (Kd S num F T n ⟨19,so,U,a,b,A⟩=true):=by unfold Hid;rw[d.o,Jb (show so=Oc from I),Jb K,show Oa O=true by unfold Oa;rw[Jb (show O=Kn from Z)];rfl];rfl
        clear I K Z
        go_wp2_with fail
        go_quiet (fail)
        go_wp2_with fail
        go_ret
        exact⟨Oz G.o.symm,below_drewN E.o _⟩
       ·rcases U8 O [82,101,97,108] with⟨p3,q3⟩|⟨p3,q3⟩
        ·have G:Hid (Kd S num F T n ⟨19,so,U,a,b,A⟩=true):=by unfold Hid;rw[d.o,Jb (show so=Oc from I),Jb K,show Oa O=true by unfold Oa;rw[Jb (show O=Ki from p3),Vp]];rfl
         clear I K Z p3
         go_wp2_with fail
         go_quiet (fail)
         go_wp2_with fail
         go_ret
         exact⟨Oz G.o.symm,below_drewN E.o _⟩
        ·have G:Hid (Kd S num F T n ⟨19,so,U,a,b,A⟩=false):=by unfold Hid;rw[d.o,Jb (show so=Oc from I),Jb K,show Oa O=false by unfold Oa;rw[Jg (show O≠Kn from Z),Jg (show O≠Ki from p3)];rfl];rfl
         clear I K Z p3
         go_wp2_with fail
         go_quiet (fail)
         go_wp2_with fail
         go_ret
         exact⟨Oz G.o.symm,below_drewN E.o _⟩
      ·have G:Hid (Kd S num F T n ⟨19,so,U,a,b,A⟩=false):=by unfold Hid;rw[d.o,Jb (show so=Oc from I),Jg K]<;>rfl
       clear I K
       go_wp2_with fail
       go_quiet (fail)
       go_wp2_with fail
       go_ret
       exact⟨Oz G.o.symm,below_drewN E.o _⟩
     ·have G:Hid (Kd S num F T n ⟨19,so,U,a,b,A⟩=false):=by unfold Hid;rw[d.o,Jg (show so≠Oc from I)]<;>rfl
      clear I
      go_wp2_with fail
      go_quiet (fail)
      go_wp2_with fail
      go_ret
      exact⟨Oz G.o.symm,below_drewN E.o _⟩
    ·have d:Hid (Kd S num F T n ⟨20,so,U,a,b,A⟩=(decide (so=Oc)&&decide (kS M 0=kS M 1)&&Oa (kS M 0))):=by unfold Hid;rw[b5.o];rfl
     have a8:2<=A.length:=by have:=(Kt b6.o).1;simpa[Kg] using this
     have g1:2<=M.length:=by have:=b9.o;omega
     obtain⟨bs,rfl,J⟩:=Nn c8.o (by omega);have b8:=J 0 (by omega);have Y:=If (L:=M) (i:=0) (by omega);have h0:(0:Int)<(A.length:Int):=by omega
     have c6:=J 1 (by omega);have V:=If (L:=M) (i:=1) (by omega);have g4:(1:Int)<(A.length:Int):=by omega
     rw[Y,V] at d;generalize M[0]=O at b8 d Y;generalize M[1]=k1 at c6 d V;clear J Y V
     rcases U8 so [66,111,111,108] with⟨I,q0⟩|⟨I,q0⟩
     ·rcases Nv O k1 with⟨K,q1⟩|⟨K,q1⟩
      ·rcases U8 O [73,110,116] with⟨Z,q2⟩|⟨Z,q2⟩
       ·have G:Hid (Kd S num F T n ⟨20,so,U,a,b,A⟩=true):=by unfold Hid;rw[d.o,Jb (show so=Oc from I),Jb K,show Oa O=true by unfold Oa;rw[Jb (show O=Kn from Z)];rfl];rfl
        clear I K Z
        go_wp2_with fail
        go_quiet (fail)
        go_wp2_with fail
        go_ret
        exact⟨Oz G.o.symm,below_drewN E.o _⟩
       ·rcases U8 O [82,101,97,108] with⟨p3,q3⟩|⟨p3,q3⟩
        ·have G:Hid (Kd S num F T n ⟨20,so,U,a,b,A⟩=true):=by unfold Hid;rw[d.o,Jb (show so=Oc from I),Jb K,show Oa O=true by unfold Oa;rw[Jb (show O=Ki from p3),Vp]];rfl
         clear I K Z p3
         go_wp2_with fail
         go_quiet (fail)
         go_wp2_with fail
         go_ret
         exact⟨Oz G.o.symm,below_drewN E.o _⟩
        ·have G:Hid (Kd S num F T n ⟨20,so,U,a,b,A⟩=false):=by unfold Hid;rw[d.o,Jb (show so=Oc from I),Jb K,show Oa O=false by unfold Oa;rw[Jg (show O≠Kn from Z),Jg (show O≠Ki from p3)];rfl];rfl
         clear I K Z p3
         go_wp2_with fail
         go_quiet (fail)
         go_wp2_with fail
         go_ret
         exact⟨Oz G.o.symm,below_drewN E.o _⟩
      ·have G:Hid (Kd S num F T n ⟨20,so,U,a,b,A⟩=false):=by unfold Hid;rw[d.o,Jb (show so=Oc from I),Jg K]<;>rfl
       clear I K
       go_wp2_with fail
       go_quiet (fail)
       go_wp2_with fail
       go_ret
       exact⟨Oz G.o.symm,below_drewN E.o _⟩
     ·have G:Hid (Kd S num F T n ⟨20,so,U,a,b,A⟩=false):=by unfold Hid;rw[d.o,Jg (show so≠Oc from I)]<;>rfl
      clear I
      go_wp2_with fail
      go_quiet (fail)
      go_wp2_with fail
      go_ret
      exact⟨Oz G.o.symm,below_drewN E.o _⟩
end Go.Proofs.YtipgjenolpofpaaGreatDoor
