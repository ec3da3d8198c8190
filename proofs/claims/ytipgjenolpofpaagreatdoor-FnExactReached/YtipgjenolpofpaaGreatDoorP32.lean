import Derived.Test.YtipgjenolpofpaaGreatDoorP31
set_option maxRecDepth 100000
set_option maxHeartbeats 16000000
namespace Go.Proofs.YtipgjenolpofpaaGreatDoor
open ChangeShapes WideShapes ChangeAt RowKit Proofs.Tryz
theorem YF (vs vf vt:Value)(S:List (List UInt8))(num:Tm->Bool)(F:List Fn)(T:List Tm)(n:Nat)(t:Tm)(vk:Value)(w:World)(hS:O8 w vs S)(hF:Eh w vf F)(hT:Km w vt T)(hk:U5 w vk t.kids)(hn:n<=T.length)(_hTl:T.length<=1048576)(_hFl:F.length<=1048576)(hkl:t.kids.length<=1048576)(hop:11<=t.op/\t.op<=15)
 (hzs:t.sort.length<=1048576) (hzt:t.text.length<=1048576) (hz:∀ u∈T,u.sort.length<=1048576) (hnum:∀ w',Up w w'->Calls prog 71 #[.agg #[.int .i64 t.op,.string (Oo t.sort),.string (Oo t.text),.int .i64 t.a,.int .i64 t.b,vk]] w' fun e w''=>e=.returned (.bool (num t))/\Below w'.heap.size w' w'') :
 Calls prog 41 #[.agg #[vs,vf,vt],.int .i64 (n:Nat),.agg #[.int .i64 t.op,.string (Oo t.sort),.string (Oo t.text),.int .i64 t.a,.int .i64 t.b,vk]] w fun e w'=>e=.returned (.bool (Kc S num F T n t))/\Up w w':=by
 obtain⟨qk,dk,rfl,j6,e9,f5⟩:=hk;obtain⟨o,so,E,a,b,d⟩:=t;simp only at hzs hzt hkl j6 e9 f5 hnum hop ⊢;have l5:=Hd hop;clear hop;have HS:=Hd hS;have HF:=Hd hF;have HT:=Hd hT;have HK:=Hd f5;have HZ:=Hd hz;have d2:=Hd hnum;have HC:=Hd e9;unfold maxLen at e9;clear hS hF hT f5 hz hnum
 go_in
 go_wp2_with fail
 obtain⟨W1,b8⟩:=O1 ((w.alloc (.cells #[vs,vf,vt] 32)).alloc (.cells #[.int .i64 o,.string (Oo so),.string (Oo E),.int .i64 a,.int .i64 b,.slice qk d.length dk] 57));have d5:Hid (Up w W1):=by unfold Hid;rw[<-b8];exact ((Jh _ _).alloc Of _).alloc (by rw[Ji];omega) _
 have g2:Hid (W1.heap.size=w.heap.size+2):=by unfold Hid;rw[<-b8];simp
 have d9:Hid (Bx W1 w.heap.size [vs,vf,vt]):=by unfold Hid;rw[<-b8];exact (Oi w _ _).alloc _
 have e2:Hid (Bx W1 (w.heap.size+1) [.int .i64 o,.string (Oo so),.string (Oo E),.int .i64 a,.int .i64 b,.slice qk d.length dk]):=by unfold Hid;rw[<-b8];have h:=Oi (w.alloc (.cells #[vs,vf,vt] 32)) [.int .i64 o,.string (Oo so),.string (Oo E),.int .i64 a,.int .i64 b,.slice qk d.length dk] 57;rw[Ji] at h;exact h
 rw[b8];clear b8;refine (Ge ⟨o,so,E,a,b,d⟩ qk dk _ j6 HC.o).mono ?_
 cases d1:Kf ⟨o,so,E,a,b,d⟩
 ·have d8:=Hd d1;clear d1;rintro e w2 ⟨rfl,V⟩;have d6:=d5.up V;clear V
  go_wp2
  go_ret
  exact⟨Oz (by unfold Kc;rw[d8.o];rfl),d6.o⟩
 have d8:=Hd d1;clear d1;rintro e w2 ⟨rfl,V⟩;have d6:=d5.up V;have g6:=Hd (d9.o.bl d9.o.lt V);have e3:=Hd (e2.o.bl e2.o.lt V);have p3:Hid (w.heap.size+2<=w2.heap.size):=by have:=V.size;have:=g2.o;unfold Hid;omega
 clear V d9 e2 d5 g2;have y5:=e3.o.cell 5;simp only[Jo,Jr] at y5;obtain⟨K,e7⟩:=O1 (E1 T ⟨o,so,E,a,b,d⟩);have g0:=Hd e7;have b6:Hid (K.length=d.length):=by unfold Hid;rw[<-e7];simp[E1]
 clear e7
 go_wp2_with fail
 clear y5
 go_loopw [7,20] (fun v i wr=>∃ k:Nat,k<=d.length/\i=.int .i64 (k:Nat)/\wr.ownsRow w2.heap.size 9 1 v k (U3 (K.take k))/\(∀ j (h:j<d.length),j<k->0<=d[j]/\d[j]<(n:Int))/\Up w2 wr) (fun _ i _=>d.length - (intOf i).toNat)
 case atStart=>exact⟨0,Jy _,rfl,⟨rfl,.inl ⟨rfl,rfl⟩⟩,fun j _ h=>absurd h (J2 _),Jh _ _⟩
 obtain⟨k,hk,rfl,c6,hp,M⟩:=hrel;have b3:=Hd c6;have HP:=Hd hp;have b9:=Hd M;have J:=d6.up M;have e4:=Hd (g6.o.bl g6.o.lt M);have e5:=Hd (e3.o.bl e3.o.lt M);obtain⟨p7,c7,rfl⟩:=En c6;clear c6 hp M;obtain⟨b0,b1,b2⟩:=e4.o.c3;obtain⟨t0,t1,t2,t3,t4,t5⟩:=e5.o.k6
 by_cases a8:k<d.length
 ·rcases HK.o with e0|⟨bq,rfl,m7,Z⟩
  ·rw[e0] at a8;cases a8
  have cx:=(J.o.cell (p:=⟨bq,k,none⟩) m7).trans (Z k a8);clear Z;have i0:(0:Int)<=(k:Int):=by omega
  have i1:(k:Int)<(d.length:Int):=by omega
  by_cases hx:0<=d[k]/\d[k]<(n:Int)
  ·have l8:=Hd hx;have f9:Hid (∀ h:k<K.length,K[k]=(Ky T d[k]).sort):=by
    intro h;have e:=g0.o;subst e;simp[E1]
   obtain⟨y,hy⟩:∃ y:Nat,d[k]=(y:Int):=⟨d[k].toNat,by omega⟩;rw[hy] at cx hx f9;have HY:=Hd hy;clear hy;obtain⟨pt,ct,rfl,q3,n2,n3⟩:=HT.o;unfold maxLen at n2
   rcases n3 with e0|⟨bt,rfl,m8,Z⟩
   ·rw[e0] at hn;simp at hn;omega
   have i8:y<T.length:=by omega
   obtain⟨-,c1,-⟩:=Z y i8;have c1:=(J.o.cell (p:=⟨bt,y*6+1,none⟩) m8).trans c1;clear Z;have g3:Hid ((Ky T (y:Int)).sort=T[y].sort):=by unfold Hid Ky;simp[List.getElem?_eq_getElem i8]
   generalize T[y].sort=sy at c1 g3;have i2:(y:Int)<(n:Int):=by omega
   have i3:(y:Int)<(T.length:Int):=by omega
   have i4:(0:Int)<=(y:Int):=by omega
   have i5:decide ((n:Int)<=(y:Int))=false:=dF (by omega)
   have i6:y<n:=by omega
   go_wp2_with (at_builtin;refine Ns (t:=Oo sy) (n:=k) (base:=w2.heap.size) (xs:=U3 (K.take k)) rfl _ _ rfl rfl ?own _ rfl ?hH ?hn ?hb ?_)
   case own=>exact b3.o
   case hH=>rfl
   case hn=>omega
   case hb=>exact b9.o.size
   intro g5 c5 w5 c8 d3 h0;have l2:Hid (Up w2 w5):=Nq b9.o b3.o d3 b9.o.size;have l4:Hid (w5.ownsRow w2.heap.size 9 1 (.slice (some ⟨g5,0,none⟩) (k+1) c5) (k+1) (U3 (K.take (k+1)))):=by
    have hl:=b6.o;unfold Hid;rw[Gh (by omega),f9.o (by omega),g3.o];exact c8
   clear c8 d3 h0
   go_wp2
   go_roundw
   case rel=>exact⟨k+1,by omega,by go_num,l4.o,fun j hj h2=>by
    rcases J0.1 h2 with h|rfl
    ·exact HP.o j hj h
    exact l8.o,l2.o⟩
   simp[intOf];omega
  have FR:Hid (Kc S num F T n ⟨o,so,E,a,b,d⟩=false):=by
   unfold Hid Kc;have:Xz n ⟨o,so,E,a,b,d⟩=false:=by
    unfold Xz;rw[J9];intro h;exact hx (by simpa using Ju.1 h d[k] (Jw a8))
   rw[this,Y0,Uj]
  generalize d[k]=x at cx hx
  by_cases n4:x<0
  ·clear hx
   go_wp2
   go_ret
   exact⟨Oz FR.o.symm,J.o⟩
  have q5:(n:Int)<=x:=by omega
  have q6:¬ x<0:=n4;clear hx
  go_wp2
  go_ret
  exact⟨Oz FR.o.symm,J.o⟩
 obtain rfl:k=d.length:=by omega
 have l3:Hid (Xz n ⟨o,so,E,a,b,d⟩=true):=by
  unfold Hid Xz;rw[Ju];intro x hx;obtain⟨j,hj,rfl⟩:=Ya hx
  simpa using HP.o j hj hj
 have U:Hid (Kc S num F T n ⟨o,so,E,a,b,d⟩=Nv (Ov (On S)) num F T ⟨o,so,E,a,b,d⟩ K):=by
  unfold Hid Kc;rw[d8.o,l3.o,g0.o];rfl
 have i7:O8 wr (.slice p7 d.length c7) K:=by
  have h:=b3.o;rw[<-b6.o,Yl] at h;rw[<-b6.o];exact I2 h rfl
 have d0:=Hd i7;clear i7 a8 b3 hk
 go_upto_region 11 with fail
 go_cut [10] (fun s10 wx=>s10=.bool (Oa so)/\wx=wr)
 case first=>
  rcases U8 so [73,110,116] with⟨p0,q0⟩|⟨p0,q0⟩
  ·have F:Hid (Oa so=true):=by unfold Hid Oa;rw[Jb (show so=Kn from p0)];rfl
   clear p0
   go_wp2
   go_meet
   exact⟨by rw[F.o],rfl⟩
  rcases U8 so [82,101,97,108] with⟨p1,q1⟩|⟨p1,q1⟩
  ·have F:Hid (Oa so=true):=by unfold Hid Oa;rw[Jb (show so=Ki from p1),Vt]
   clear p0 p1
   go_wp2
   go_meet
   exact⟨by rw[F.o],rfl⟩
  have F:Hid (Oa so=false):=by unfold Hid Oa;rw[Jg (show so≠Kn from p0),Jg (show so≠Ki from p1)];rfl
  clear p0 p1
  go_wp2
  go_meet
  exact⟨by rw[F.o],rfl⟩
 obtain⟨rfl,rfl⟩:=hcut
 rcases (show o=11∨o=12∨o=13∨o=14∨o=15 by have:=l5.o;omega) with rfl|rfl|rfl|rfl|rfl
 ·have A:Hid (Kc S num F T n ⟨11,so,E,a,b,d⟩=So F ⟨11,so,E,a,b,d⟩ K):=by unfold Hid;rw[U.o];rfl
  go_wp2_with fail
  refine (YQ vs vf vt F (Oo E) _ (HF.o.bl J.o)).mono ?_;rw[Ou];rintro e w6 ⟨rfl,Y⟩;have O:=J.up Y;have l6:=Hd (d0.o.bl Y);have j3:=e4.o.bl e4.o.lt Y;have j4:=e5.o.bl e5.o.lt Y;obtain⟨b0,b1,b2⟩:=j3.c3;obtain⟨t0,t1⟩:=j4.k2;clear Y j3 j4
  cases a7:Oq F E with
  | none=>
    have e1:Xw F E = -1:=by unfold Xw;rw[a7]
    have G:Hid (Kc S num F T n ⟨11,so,E,a,b,d⟩=false):=by unfold Hid;rw[A.o];unfold So;simp only;rw[a7]
    rw[e1];clear e1 a7
    go_wp2
    go_quiet (fail)
    go_wp2
    go_ret
    exact⟨Oz G.o.symm,below_drewN O.o _⟩
  | some i=>
    have e1:Xw F E=(i:Int):=by unfold Xw;rw[a7]
    have hi:i<F.length:=by
     unfold Oq at a7;exact (Zk.1 a7).1
    have b7:Hid (Kc S num F T n ⟨11,so,E,a,b,d⟩=(decide (so=F[i].sort)&&decide (K=F[i].args))):=by unfold Hid;rw[A.o];unfold So;simp only;rw[a7];simp only;rw[Jf hi]
    rw[e1];clear e1 a7 A;obtain⟨pf,cf,rfl,p9,m9,n0⟩:=HF.o;unfold maxLen at m9
    rcases n0 with e0|⟨bf,rfl,h6,h8⟩
    ·rw[e0] at hi;cases hi
    obtain⟨k0,⟨va,k1,pa,ca,rfl,p8,m5,g9⟩,k2⟩:=h8 i hi;have k1:=(O.o.cell (p:=⟨bf,i*3+1,none⟩) h6).trans k1;have k2:=(O.o.cell (p:=⟨bf,i*3+2,none⟩) h6).trans k2;have l1:=Hd g9;unfold maxLen at m5;clear h8 k0 g9;generalize F[i]=x at *;have j0:(0:Int)<=(i:Int):=by omega
    have j1:(i:Int)<(F.length:Int):=by omega
    have j2:((i:Int)<0)=False:=by simp
    rcases Nk so x.sort with⟨p0,q0⟩|⟨p0,q0⟩
    ·by_cases p1:(d.length:Int)=(x.args.length:Int)
     ·have q1:=N3 p1;have q2:((d.length:Int)==(x.args.length:Int))=true:=by simp[p1]
      have P1:=Hd p1;have g4:Hid (Kc S num F T n ⟨11,so,E,a,b,d⟩=decide (K=x.args)):=by unfold Hid;rw[b7.o,Jb p0];rfl
      clear p0 p1 b7
      go_wp2
      go_quiet (fail)
      go_wp2_with fail
      clear b0 b2 t0 t1
      go_loopw [138] (fun i wr=>∃ k:Nat,k<=d.length/\i=.int .i64 (k:Nat)/\(∀ j (h:j<K.length) (h':j<x.args.length),j<k->K[j]=x.args[j])/\Up w6 wr) (fun i _=>d.length - (intOf i).toNat)
      case atStart=>exact⟨0,Jy _,rfl,fun j _ _ h=>absurd h (J2 _),below_drewN (Jh _ _) _⟩
      obtain⟨k,hk,rfl,h9,M⟩:=hrel;have g1:=Hd h9;have d7:=O.up M;have b1:=(M.cell (p:=⟨w.heap.size,1,none⟩) (Ye _ _ b1)).trans b1;have k1:=(M.cell (p:=⟨bf,i*3+1,none⟩) (Ye _ _ k1)).trans k1;have l7:=Hd (l6.o.bl M);have b9:=Hd M;clear h9 M
      by_cases a8:k<d.length
      ·have n1:k<K.length:=by rw[b6.o];exact a8
       have e8:k<x.args.length:=by have:=P1.o;omega
       obtain⟨bs,rfl,Z⟩:=Nn l7.o (by omega);have ck:=Z k n1
       rcases l1.o with e0|⟨ba,rfl,m6,h7⟩
       ·rw[e0] at e8;cases e8
       have g7:=(d7.o.cell (p:=⟨ba,k,none⟩) m6).trans (h7 k e8);clear Z h7;have i0:(0:Int)<=(k:Int):=by omega
       have i1:(k:Int)<(d.length:Int):=by omega
       have i2:(k:Int)<(x.args.length:Int):=by omega
       rcases Nk K[k] x.args[k] with⟨p2,q4⟩|⟨p2,q4⟩
       ·have HN:=Hd p2;clear p2;generalize K[k]=ya at ck q4;generalize x.args[k]=yb at g7 q4
        go_wp2
        go_quiet (fail)
        go_wp2
        go_roundw
        case rel=>exact⟨k+1,by omega,by go_num,fun j hj hj' h2=>by
         rcases J0.1 h2 with h|rfl
         ·exact g1.o j hj hj' h
         exact HN.o,below_drewN b9.o _⟩
        simp[intOf];omega
       have G:Hid (Kc S num F T n ⟨11,so,E,a,b,d⟩=false):=by
        unfold Hid;rw[g4.o,Jm];intro e;exact p2 (by simp[e])
       clear p2;generalize K[k]=ya at ck q4;generalize x.args[k]=yb at g7 q4
       go_wp2
       go_quiet (fail)
       go_wp2
       go_ret
       exact⟨Oz G.o.symm,below_drewN d7.o _⟩
      have G:Hid (Kc S num F T n ⟨11,so,E,a,b,d⟩=true):=by
       unfold Hid;rw[g4.o,Js];have h1:=b6.o;have h2:=P1.o;exact Ul (by omega) (fun j h1 h2=>g1.o j h1 h2 (by omega))
      have z3:¬ (k:Int)<(d.length:Int):=by omega
      go_wp2
      go_ret
      exact⟨Oz G.o.symm,d7.o⟩
     have q1:=Eo p1;have q2:((d.length:Int)==(x.args.length:Int))=false:=by rw[Jc];exact p1
     have G:Hid (Kc S num F T n ⟨11,so,E,a,b,d⟩=false):=by
      unfold Hid;rw[b7.o,Jb p0,Jg (fun e=>p1 (by rw[<-e,b6.o]))];rfl
     clear p0 p1 b7
     go_wp2
     go_quiet (fail)
     go_wp2
     go_ret
     exact⟨Oz G.o.symm,below_drewN O.o _⟩
    have G:Hid (Kc S num F T n ⟨11,so,E,a,b,d⟩=false):=by unfold Hid;rw[b7.o,Jg p0];rfl
    clear p0 b7
    go_wp2
    go_quiet (fail)
    go_wp2
    go_ret
    exact⟨Oz G.o.symm,below_drewN O.o _⟩
 ·have A:Hid (Kc S num F T n ⟨12,so,E,a,b,d⟩=num ⟨12,so,E,a,b,d⟩):=by unfold Hid;rw[U.o];rfl
  generalize num ⟨12,so,E,a,b,d⟩=B at A d2
  go_wp2_with fail
  refine (d2.o _ J.o).mono ?_;rintro e w6 ⟨rfl,Y⟩;have O:=J.up Y;clear Y
  go_wp2
  go_ret
  exact⟨Oz A.o.symm,O.o⟩
 ·have A:Hid (Kc S num F T n ⟨13,so,E,a,b,d⟩=(Oa so&&K1 K so)):=by unfold Hid;rw[U.o];rfl
  cases I:Oa so
  ·have G:Hid (Kc S num F T n ⟨13,so,E,a,b,d⟩=false):=by unfold Hid;rw[A.o,I];rfl
   rw[I] at A;clear I
   go_wp2
   go_ret
   exact⟨Oz G.o.symm,J.o⟩
  rw[I] at A;clear I;have G:Hid (Kc S num F T n ⟨13,so,E,a,b,d⟩=K1 K so):=by unfold Hid;rw[A.o];rfl
  go_wp2_with fail
  refine (Kv _ K (Oo so) _ d0.o).mono ?_;rw[Ou];generalize K1 K so=B at G A ⊢;rintro e w6 ⟨rfl,rfl⟩
  go_wp2
  go_ret
  exact⟨Oz G.o.symm,J.o⟩
 ·have A:Hid (Kc S num F T n ⟨14,so,E,a,b,d⟩=(Oa so&&K1 K so)):=by unfold Hid;rw[U.o];rfl
  cases I:Oa so
  ·have G:Hid (Kc S num F T n ⟨14,so,E,a,b,d⟩=false):=by unfold Hid;rw[A.o,I];rfl
   rw[I] at A;clear I
   go_wp2
   go_ret
   exact⟨Oz G.o.symm,J.o⟩
  rw[I] at A;clear I;have G:Hid (Kc S num F T n ⟨14,so,E,a,b,d⟩=K1 K so):=by unfold Hid;rw[A.o];rfl
  go_wp2_with fail
  refine (Kv _ K (Oo so) _ d0.o).mono ?_;rw[Ou];generalize K1 K so=B at G A ⊢;rintro e w6 ⟨rfl,rfl⟩
  go_wp2
  go_ret
  exact⟨Oz G.o.symm,J.o⟩
 have A:Hid (Kc S num F T n ⟨15,so,E,a,b,d⟩=(Oa so&&K1 K so)):=by unfold Hid;rw[U.o];rfl
 cases I:Oa so
 ·have G:Hid (Kc S num F T n ⟨15,so,E,a,b,d⟩=false):=by unfold Hid;rw[A.o,I];rfl
  rw[I] at A;clear I
  go_wp2
  go_ret
  exact⟨Oz G.o.symm,J.o⟩
 rw[I] at A;clear I;have G:Hid (Kc S num F T n ⟨15,so,E,a,b,d⟩=K1 K so):=by unfold Hid;rw[A.o];rfl
 go_wp2_with fail
 refine (Kv _ K (Oo so) _ d0.o).mono ?_;rw[Ou];generalize K1 K so=B at G A ⊢;rintro e w6 ⟨rfl,rfl⟩
 go_wp2
 go_ret
 exact⟨Oz G.o.symm,J.o⟩
end Go.Proofs.YtipgjenolpofpaaGreatDoor
