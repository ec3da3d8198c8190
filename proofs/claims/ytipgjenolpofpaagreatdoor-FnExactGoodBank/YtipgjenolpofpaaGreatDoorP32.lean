import Derived.Test.YtipgjenolpofpaaGreatDoorP31
set_option maxRecDepth 100000
set_option maxHeartbeats 16000000
namespace Go.Proofs.YtipgjenolpofpaaGreatDoor
open Go.ChangeShapes Go.WideShapes Go.ChangeAt Go.RowKit Go.Proofs.Tryz
theorem ZA (vs vf vt:Value)(S:List (List UInt8))(num:Tm->Bool)(F:List Fn)(T:List Tm)(n:Nat)(t:Tm)(vk:Value)(w:World)(hS:O8 w vs S)(hF:Ex w vf F)(hT:Kb w vt T)(hk:U6 w vk t.kids)(hn:n<=T.length)(_hTl:T.length<=1048576)(_hFl:F.length<=1048576)(hkl:t.kids.length<=1048576)(hop:11<=t.op/\t.op<=15)
 (hzs:t.sort.length<=1048576) (hzt:t.text.length<=1048576) (hz:∀ u∈T,u.sort.length<=1048576) (hnum:∀ w',Up w w'->Calls prog 71 #[.agg #[.int .i64 t.op,.string (Oo t.sort),.string (Oo t.text),.int .i64 t.a,.int .i64 t.b,vk]] w' fun e w''=>e=.returned (.bool (num t))/\Below w'.heap.size w' w'') :
 Calls prog 41 #[.agg #[vs,vf,vt],.int .i64 (n:Nat),.agg #[.int .i64 t.op,.string (Oo t.sort),.string (Oo t.text),.int .i64 t.a,.int .i64 t.b,vk]] w fun e w'=>e=.returned (.bool (Kd S num F T n t))/\Up w w':=by
 obtain⟨qk,dk,rfl,j9,e7,d9⟩:=hk;obtain⟨o,so,E,a,b,d⟩:=t;simp only at hzs hzt hkl j9 e7 d9 hnum hop ⊢;have l3:=Hd hop;clear hop;have HS:=Hd hS;have HF:=Hd hF;have HT:=Hd hT;have HK:=Hd d9;have HZ:=Hd hz;have d4:=Hd hnum;have HC:=Hd e7;unfold maxLen at e7;clear hS hF hT d9 hz hnum
 go_enter func41,ntmps41
 go_wp2_with fail
 obtain⟨W1,b7⟩:=O1 ((w.alloc (.cells #[vs,vf,vt] 32)).alloc (.cells #[.int .i64 o,.string (Oo so),.string (Oo E),.int .i64 a,.int .i64 b,.slice qk d.length dk] 57));have e6:Hid (Up w W1):=by unfold Hid;rw[<-b7];exact ((Jh _ _).alloc Of _).alloc (by rw[Ji];omega) _
 have g6:Hid (W1.heap.size=w.heap.size+2):=by unfold Hid;rw[<-b7];simp
 have d8:Hid (Bx W1 w.heap.size [vs,vf,vt]):=by unfold Hid;rw[<-b7];exact (Ox w _ _).alloc _
 have e9:Hid (Bx W1 (w.heap.size+1) [.int .i64 o,.string (Oo so),.string (Oo E),.int .i64 a,.int .i64 b,.slice qk d.length dk]):=by unfold Hid;rw[<-b7];have h:=Ox (w.alloc (.cells #[vs,vf,vt] 32)) [.int .i64 o,.string (Oo so),.string (Oo E),.int .i64 a,.int .i64 b,.slice qk d.length dk] 57;rw[Ji] at h;exact h
 rw[b7];clear b7;refine (Gi ⟨o,so,E,a,b,d⟩ qk dk _ j9 HC.o).mono ?_
 cases d0:Kf ⟨o,so,E,a,b,d⟩
 ·have e4:=Hd d0;clear d0;rintro e w2 ⟨rfl,a7⟩;have f5:=e6.up a7;clear a7
  go_wp2_with fail
  go_ret
  exact⟨Oz (by unfold Kd;rw[e4.o];rfl),f5.o⟩
 have e4:=Hd d0;clear d0;rintro e w2 ⟨rfl,a7⟩;have f5:=e6.up a7;have j7:=Hd (d8.o.below d8.o.lt a7);have e3:=Hd (e9.o.below e9.o.lt a7);have p9:Hid (w.heap.size+2<=w2.heap.size):=by have:=a7.size;have:=g6.o;unfold Hid;omega
 clear a7 d8 e9 e6 g6;have y5:=e3.o.cell 5;simp only[Jo,Jr] at y5;obtain⟨K,d7⟩:=O1 (E1 T ⟨o,so,E,a,b,d⟩);have g8:=Hd d7;have b8:Hid (K.length=d.length):=by unfold Hid;rw[<-d7];simp[E1]
 clear d7
 go_wp2_with fail
 clear y5
 go_loopw [7,20] (fun v i wr=>∃ k:Nat,k<=d.length/\i=.int .i64 (k:Nat)/\wr.ownsRow w2.heap.size 9 1 v k (U3 (K.take k))/\(∀ j (h:j<d.length),j<k->0<=d[j]/\d[j]<(n:Int))/\Up w2 wr) (fun _ i _=>d.length - (intOf i).toNat)
 case atStart=>exact⟨0,Jy _,rfl,⟨rfl,.inl ⟨rfl,rfl⟩⟩,fun j _ h=>absurd h (J1 _),Jh _ _⟩
 case round=>
  obtain⟨k,hk,rfl,b9,hp,M⟩:=hrel;have b5:=Hd b9;have HP:=Hd hp;have c8:=Hd M;have J:=f5.up M;have e5:=Hd (j7.o.below j7.o.lt M);have f8:=Hd (e3.o.below e3.o.lt M);obtain⟨p7,c7,rfl⟩:=Eg b9;clear b9 hp M;obtain⟨b0,b1,b2⟩:=e5.o.c3;obtain⟨t0,t1,t2,t3,t4,t5⟩:=f8.o.k6
  by_cases a8:k<d.length
  ·rcases HK.o with e0|⟨bq,rfl,l9,Z⟩
   ·rw[e0] at a8;cases a8
   have cx:=(J.o.cell (p:=⟨bq,k,none⟩) l9).trans (Z k a8);clear Z;have i0:(0:Int)<=(k:Int):=by omega
   have i1:(k:Int)<(d.length:Int):=by omega
   by_cases hx:0<=d[k]/\d[k]<(n:Int)
   ·have n2:=Hd hx;have g1:Hid (∀ h:k<K.length,K[k]=(Ky T d[k]).sort):=by
     intro h;have e:=g8.o;subst e;simp[E1]
    obtain⟨y,hy⟩:∃ y:Nat,d[k]=(y:Int):=⟨d[k].toNat,by omega⟩;rw[hy] at cx hx g1;have HY:=Hd hy;clear hy;obtain⟨pt,ct,rfl,r6,n6,n3⟩:=HT.o;unfold maxLen at n6
    rcases n3 with e0|⟨bt,rfl,l5,Z⟩
    ·rw[e0] at hn;simp at hn;omega
    have h6:y<T.length:=by omega
    obtain⟨-,c1,-⟩:=Z y h6;have c1:=(J.o.cell (p:=⟨bt,y*6+1,none⟩) l5).trans c1;clear Z;have j3:Hid ((Ky T (y:Int)).sort=T[y].sort):=by unfold Hid Ky;simp[List.getElem?_eq_getElem h6]
    generalize T[y].sort=sy at c1 j3;have i2:(y:Int)<(n:Int):=by omega
    have i3:(y:Int)<(T.length:Int):=by omega
    have i4:(0:Int)<=(y:Int):=by omega
    have i5:decide ((n:Int)<=(y:Int))=false:=dF (by omega)
    have i6:y<n:=by omega
    go_wp2_with (at_builtin;refine Nr (t:=Oo sy) (n:=k) (base:=w2.heap.size) (xs:=U3 (K.take k)) rfl _ _ rfl rfl ?own _ rfl ?hH ?hn ?hb ?_)
    case own=>exact b5.o
    case hH=>rfl
    case hn=>omega
    case hb=>exact c8.o.size
    intro g5 c5 w5 c6 d2 g0;have l1:Hid (Up w2 w5):=Nl c8.o b5.o d2 c8.o.size;have n7:Hid (w5.ownsRow w2.heap.size 9 1 (.slice (some ⟨g5,0,none⟩) (k+1) c5) (k+1) (U3 (K.take (k+1)))):=by
     have hl:=b8.o;unfold Hid;rw[Ge (by omega),g1.o (by omega),j3.o];exact c6
    clear c6 d2 g0
    go_wp2_with fail
    go_roundw
    case rel=>exact⟨k+1,by omega,by go_num,n7.o,fun j hj h2=>by
     rcases J0.1 h2 with h|rfl
     ·exact HP.o j hj h
     ·exact n2.o,l1.o⟩
    case measure=>simp[intOf];omega
   ·have FR:Hid (Kd S num F T n ⟨o,so,E,a,b,d⟩=false):=by
     unfold Hid Kd;have:I6 n ⟨o,so,E,a,b,d⟩=false:=by
      unfold I6;rw[J9];intro h;exact hx (by simpa using Ju.1 h d[k] (Jw a8))
     rw[this,Y0,Uj]
    generalize d[k]=x at cx hx
    by_cases l6:x<0
    ·clear hx
     go_wp2_with fail
     go_ret
     exact⟨Oz FR.o.symm,J.o⟩
    ·have r4:(n:Int)<=x:=by omega
     have q9:¬ x<0:=l6;clear hx
     go_wp2_with fail
     go_ret
     exact⟨Oz FR.o.symm,J.o⟩
  ·obtain rfl:k=d.length:=by omega
   have m7:Hid (I6 n ⟨o,so,E,a,b,d⟩=true):=by
    unfold Hid I6;rw[Ju];intro x hx;obtain⟨j,hj,rfl⟩:=Ya hx
    simpa using HP.o j hj hj
   have V:Hid (Kd S num F T n ⟨o,so,E,a,b,d⟩=Nz (Ov (On S)) num F T ⟨o,so,E,a,b,d⟩ K):=by
    unfold Hid Kd;rw[e4.o,m7.o,g8.o];rfl
   have j4:O8 wr (.slice p7 d.length c7) K:=by
    have h:=b5.o;rw[<-b8.o,Yl] at h;rw[<-b8.o];exact I3 h rfl
   have d1:=Hd j4;clear j4 a8 b5 hk
   go_upto_region 11 with fail
   go_cut [10] (fun s10 wx=>s10=.bool (Oa so)/\wx=wr)
   case first=>
    rcases U8 so [73,110,116] with⟨p0,q0⟩|⟨p0,q0⟩
    ·have F:Hid (Oa so=true):=by unfold Hid Oa;rw[Jb (show so=Kn from p0)];rfl
     clear p0
     go_wp2_with fail
     go_meet
     exact⟨by rw[F.o],rfl⟩
    ·rcases U8 so [82,101,97,108] with⟨p1,q1⟩|⟨p1,q1⟩
     ·have F:Hid (Oa so=true):=by unfold Hid Oa;rw[Jb (show so=Ki from p1),Vp]
      clear p0 p1
      go_wp2_with fail
      go_meet
      exact⟨by rw[F.o],rfl⟩
     ·have F:Hid (Oa so=false):=by unfold Hid Oa;rw[Jg (show so≠Kn from p0),Jg (show so≠Ki from p1)];rfl
      clear p0 p1
      go_wp2_with fail
      go_meet
      exact⟨by rw[F.o],rfl⟩
   case rest=>
    obtain⟨rfl,rfl⟩:=hcut
    rcases (show o=11∨o=12∨o=13∨o=14∨o=15 by have:=l3.o;omega) with rfl|rfl|rfl|rfl|rfl
    ·have A:Hid (Kd S num F T n ⟨11,so,E,a,b,d⟩=Sr F ⟨11,so,E,a,b,d⟩ K):=by unfold Hid;rw[V.o];rfl
     go_wp2_with fail
     refine (YN vs vf vt F (Oo E) _ (HF.o.below J.o)).mono ?_;rw[Ou];rintro e w6 ⟨rfl,U⟩;have Y:=J.up U;have m8:=Hd (d1.o.below U);have g9:=e5.o.below e5.o.lt U;have j5:=f8.o.below f8.o.lt U;obtain⟨b0,b1,b2⟩:=g9.c3;obtain⟨t0,t1⟩:=j5.k2;clear U g9 j5
     cases O:Oq F E with
     | none=>
       have e1:Xj F E = -1:=by unfold Xj;rw[O]
       have G:Hid (Kd S num F T n ⟨11,so,E,a,b,d⟩=false):=by unfold Hid;rw[A.o];unfold Sr;simp only;rw[O]
       rw[e1];clear e1 O
       go_wp2_with fail
       go_quiet (fail)
       go_wp2_with fail
       go_ret
       exact⟨Oz G.o.symm,below_drewN Y.o _⟩
     | some i=>
       have e1:Xj F E=(i:Int):=by unfold Xj;rw[O]
       have hi:i<F.length:=by
        unfold Oq at O;exact (Zk.1 O).1
       have b6:Hid (Kd S num F T n ⟨11,so,E,a,b,d⟩=(decide (so=F[i].sort)&&decide (K=F[i].args))):=by unfold Hid;rw[A.o];unfold Sr;simp only;rw[O];simp only;rw[Jf hi]
       rw[e1];clear e1 O A;obtain⟨pf,cf,rfl,o8,l8,n0⟩:=HF.o;unfold maxLen at l8
       rcases n0 with e0|⟨bf,rfl,j6,h9⟩
       ·rw[e0] at hi;cases hi
       obtain⟨k0,⟨va,k1,pa,ca,rfl,o9,m5,i7⟩,k2⟩:=h9 i hi;have k1:=(Y.o.cell (p:=⟨bf,i*3+1,none⟩) j6).trans k1;have k2:=(Y.o.cell (p:=⟨bf,i*3+2,none⟩) j6).trans k2;have l4:=Hd i7;unfold maxLen at m5;clear h9 k0 i7;generalize F[i]=x at *;have j0:(0:Int)<=(i:Int):=by omega
       have j1:(i:Int)<(F.length:Int):=by omega
       have j2:((i:Int)<0)=False:=by simp
       rcases Nv so x.sort with⟨p0,q0⟩|⟨p0,q0⟩
       ·by_cases p1:(d.length:Int)=(x.args.length:Int)
        ·have q1:=N4 p1;have q2:((d.length:Int)==(x.args.length:Int))=true:=by simp[p1]
         have P1:=Hd p1;have j8:Hid (Kd S num F T n ⟨11,so,E,a,b,d⟩=decide (K=x.args)):=by unfold Hid;rw[b6.o,Jb p0];rfl
         clear p0 p1 b6
         go_wp2_with fail
         go_quiet (fail)
         go_wp2_with fail
         clear b0 b2 t0 t1
         go_loopw [138] (fun i wr=>∃ k:Nat,k<=d.length/\i=.int .i64 (k:Nat)/\(∀ j (h:j<K.length) (h':j<x.args.length),j<k->K[j]=x.args[j])/\Up w6 wr) (fun i _=>d.length - (intOf i).toNat)
         case atStart=>exact⟨0,Jy _,rfl,fun j _ _ h=>absurd h (J1 _),below_drewN (Jh _ _) _⟩
         case round=>
          obtain⟨k,hk,rfl,g7,M⟩:=hrel;have h0:=Hd g7;have d5:=Y.up M;have b1:=(M.cell (p:=⟨w.heap.size,1,none⟩) (Yd _ _ b1)).trans b1;have k1:=(M.cell (p:=⟨bf,i*3+1,none⟩) (Yd _ _ k1)).trans k1;have n4:=Hd (m8.o.below M);have c8:=Hd M;clear g7 M
          by_cases a8:k<d.length
          ·have m6:k<K.length:=by rw[b8.o];exact a8
           have e8:k<x.args.length:=by have:=P1.o;omega
           obtain⟨bs,rfl,Z⟩:=Nn n4.o (by omega);have ck:=Z k m6
           rcases l4.o with e0|⟨ba,rfl,n1,h7⟩
           ·rw[e0] at e8;cases e8
           have h8:=(d5.o.cell (p:=⟨ba,k,none⟩) n1).trans (h7 k e8);clear Z h7;have i0:(0:Int)<=(k:Int):=by omega
           have i1:(k:Int)<(d.length:Int):=by omega
           have i2:(k:Int)<(x.args.length:Int):=by omega
           rcases Nv K[k] x.args[k] with⟨p2,q4⟩|⟨p2,q4⟩
           ·have HN:=Hd p2;clear p2;generalize K[k]=ya at ck q4;generalize x.args[k]=yb at h8 q4
            go_wp2_with fail
            go_quiet (fail)
            go_wp2_with fail
            go_roundw
            case rel=>exact⟨k+1,by omega,by go_num,fun j hj hj' h2=>by
             rcases J0.1 h2 with h|rfl
             ·exact h0.o j hj hj' h
             ·exact HN.o,below_drewN c8.o _⟩
            case measure=>simp[intOf];omega
           ·have G:Hid (Kd S num F T n ⟨11,so,E,a,b,d⟩=false):=by
             unfold Hid;rw[j8.o,Jm];intro e;exact p2 (by simp[e])
            clear p2;generalize K[k]=ya at ck q4;generalize x.args[k]=yb at h8 q4
            go_wp2_with fail
            go_quiet (fail)
            go_wp2_with fail
            go_ret
            exact⟨Oz G.o.symm,below_drewN d5.o _⟩
          ·have G:Hid (Kd S num F T n ⟨11,so,E,a,b,d⟩=true):=by
            unfold Hid;rw[j8.o,Js];have h1:=b8.o;have h2:=P1.o;exact Ul (by omega) (fun j h1 h2=>h0.o j h1 h2 (by omega))
           have z3:¬ (k:Int)<(d.length:Int):=by omega
           go_wp2_with fail
           go_ret
           exact⟨Oz G.o.symm,d5.o⟩
        ·have q1:=Eo p1;have q2:((d.length:Int)==(x.args.length:Int))=false:=by rw[Jc];exact p1
         have G:Hid (Kd S num F T n ⟨11,so,E,a,b,d⟩=false):=by
          unfold Hid;rw[b6.o,Jb p0,Jg (fun e=>p1 (by rw[<-e,b8.o]))];rfl
         clear p0 p1 b6
         go_wp2_with fail
         go_quiet (fail)
         go_wp2_with fail
         go_ret
         exact⟨Oz G.o.symm,below_drewN Y.o _⟩
       ·have G:Hid (Kd S num F T n ⟨11,so,E,a,b,d⟩=false):=by unfold Hid;rw[b6.o,Jg p0];rfl
        clear p0 b6
        go_wp2_with fail
        go_quiet (fail)
        go_wp2_with fail
        go_ret
        exact⟨Oz G.o.symm,below_drewN Y.o _⟩
    ·have A:Hid (Kd S num F T n ⟨12,so,E,a,b,d⟩=num ⟨12,so,E,a,b,d⟩):=by unfold Hid;rw[V.o];rfl
     generalize num ⟨12,so,E,a,b,d⟩=B at A d4
     go_wp2_with fail
     refine (d4.o _ J.o).mono ?_;rintro e w6 ⟨rfl,U⟩;have Y:=J.up U;clear U
     go_wp2_with fail
     go_ret
     exact⟨Oz A.o.symm,Y.o⟩
    ·have A:Hid (Kd S num F T n ⟨13,so,E,a,b,d⟩=(Oa so&&K1 K so)):=by unfold Hid;rw[V.o];rfl
     cases I:Oa so
     ·have G:Hid (Kd S num F T n ⟨13,so,E,a,b,d⟩=false):=by unfold Hid;rw[A.o,I];rfl
      rw[I] at A;clear I
      go_wp2_with fail
      go_ret
      exact⟨Oz G.o.symm,J.o⟩
     ·rw[I] at A;clear I;have G:Hid (Kd S num F T n ⟨13,so,E,a,b,d⟩=K1 K so):=by unfold Hid;rw[A.o];rfl
      go_wp2_with fail
      refine (Kv _ K (Oo so) _ d1.o).mono ?_;rw[Ou];generalize K1 K so=B at G A ⊢;rintro e w6 ⟨rfl,rfl⟩
      go_wp2_with fail
      go_ret
      exact⟨Oz G.o.symm,J.o⟩
    ·have A:Hid (Kd S num F T n ⟨14,so,E,a,b,d⟩=(Oa so&&K1 K so)):=by unfold Hid;rw[V.o];rfl
     cases I:Oa so
     ·have G:Hid (Kd S num F T n ⟨14,so,E,a,b,d⟩=false):=by unfold Hid;rw[A.o,I];rfl
      rw[I] at A;clear I
      go_wp2_with fail
      go_ret
      exact⟨Oz G.o.symm,J.o⟩
     ·rw[I] at A;clear I;have G:Hid (Kd S num F T n ⟨14,so,E,a,b,d⟩=K1 K so):=by unfold Hid;rw[A.o];rfl
      go_wp2_with fail
      refine (Kv _ K (Oo so) _ d1.o).mono ?_;rw[Ou];generalize K1 K so=B at G A ⊢;rintro e w6 ⟨rfl,rfl⟩
      go_wp2_with fail
      go_ret
      exact⟨Oz G.o.symm,J.o⟩
    ·have A:Hid (Kd S num F T n ⟨15,so,E,a,b,d⟩=(Oa so&&K1 K so)):=by unfold Hid;rw[V.o];rfl
     cases I:Oa so
     ·have G:Hid (Kd S num F T n ⟨15,so,E,a,b,d⟩=false):=by unfold Hid;rw[A.o,I];rfl
      rw[I] at A;clear I
      go_wp2_with fail
      go_ret
      exact⟨Oz G.o.symm,J.o⟩
     ·rw[I] at A;clear I;have G:Hid (Kd S num F T n ⟨15,so,E,a,b,d⟩=K1 K so):=by unfold Hid;rw[A.o];rfl
      go_wp2_with fail
      refine (Kv _ K (Oo so) _ d1.o).mono ?_;rw[Ou];generalize K1 K so=B at G A ⊢;rintro e w6 ⟨rfl,rfl⟩
      go_wp2_with fail
      go_ret
      exact⟨Oz G.o.symm,J.o⟩
end Go.Proofs.YtipgjenolpofpaaGreatDoor
