import Derived.Test.YtipgjenolpofpaaGreatDoorP27
import Derived.Test.YtipgjenolpofpaaGreatDoorP28
import Derived.Test.YtipgjenolpofpaaGreatDoorP29
import Derived.Test.YtipgjenolpofpaaGreatDoorP30
set_option maxRecDepth 100000
set_option maxHeartbeats 16000000
namespace Go.Proofs.YtipgjenolpofpaaGreatDoor
open ChangeShapes WideShapes ChangeAt RowKit Proofs.Tryz
theorem B5 (vs vf vt:Value)(S:List (List UInt8))(t:Tm)(vk vks:Value)(ks:List (List UInt8))(w:World)(hS:O8 w vs S)(hks:O8 w vks ks)(hzs:t.sort.length<=1048576)(hzt:t.text.length<=1048576)(hz:∀ k∈ks,k.length<=1048576)(hlen:Kh t.op<=ks.length)(ho:24<=t.op/\t.op<=47) :
 Calls prog 72 #[.agg #[vs,vf,vt],.agg #[.int .i64 t.op,.string (Oo t.sort),.string (Oo t.text),.int .i64 t.a,.int .i64 t.b,vk],vks] w fun e w'=>e=.returned (.bool (Oj (Ov (On S)) t ks))/\Up w w':=by
 rcases (show (24<=t.op/\t.op<=37∨t.op=42)∨(43<=t.op/\t.op<=45)∨(38<=t.op/\t.op<=41)∨(46<=t.op/\t.op<=47) by omega) with h|h|h|h
 ·exact YB vs vf vt S t vk vks ks w hS hks hzs hzt hz hlen h
 ·exact YA vs vf vt S t vk vks ks w hS hks hzs hzt hz hlen h
 ·exact YS vs vf vt S t vk vks ks w hS hks hzs hzt hz hlen h
 exact YT vs vf vt S t vk vks ks w hS hks hzs hzt hz hlen h
end Go.Proofs.YtipgjenolpofpaaGreatDoor
namespace Go.Proofs.YtipgjenolpofpaaGreatDoor
open ChangeShapes WideShapes ChangeAt RowKit
theorem Ot {w:World}{base:Nat}{e:TypeId}{size n:Nat}{v:Value}{xs:List Value}(h:w.ownsRow base e size v n xs):∀ g,v.ownBlock=some g->base<=g:=by
 intro g d
 rcases h.2 with⟨rfl,_⟩|⟨A,cap,j,rfl,hb,_⟩
 ·cases d
 cases d;exact hb
theorem I2 {w:World}{base:Nat}{v:Value}{n:Nat}{L:List (List UInt8)}(h:w.ownsRow base 9 1 v n (U3 L))(hn:n=L.length):O8 w v L:=by
 subst hn
 rcases h.2 with⟨rfl,d⟩|⟨g,cap,j,rfl,_,G,A,E,_,_⟩
 ·refine⟨none,0,?_,by omega,Jy _,.inl (List.length_eq_zero_iff.1 d)⟩;rw[d]
 refine⟨some ⟨g,0,none⟩,cap,rfl,A,E,.inr ⟨g,rfl,(J1.1 G).1,fun i hi=>?_⟩⟩;rw[h.cellAt i (by omega)];simp[U3,List.getElem?_eq_getElem hi]
theorem Nq {w W W':World}{base:Nat}{e:TypeId}{size n:Nat}{v:Value}{xs:List Value}{o:Obj}(hb:Below base w W)(hown:W.ownsRow base e size v n xs)(hg:(W.alloc o).grownBy W' v.ownBlock)(hl:base<=W.heap.size):Below base w W':=by
 refine⟨hg.os.trans hb.os,hg.tape.trans hb.tape,hg.output.trans hb.output,?_,fun k hk=>?_⟩
 ·have d:=hg.size;have h:=hb.size;rw[Ji] at d;omega
 rw[hg.block k (by rw[Ji];omega) (fun e=>by have:=Ot hown k e.symm;omega),(Oy W o).block k (by omega),hb.block k hk]
theorem Gh {L:List (List UInt8)}{k:Nat}(h:k<L.length):U3 (L.take (k+1))=U3 (L.take k)++[.string (Oo L[k])]:=by
 unfold U3;rw[Yd h,Zc];rfl
theorem Kw {t:Tm}(h:Kf t=true):Kh t.op<=t.kids.length/\1<=t.op/\t.op<=47:=by
 unfold Kf at h;simp only[J3,Yg] at h;exact⟨h.1.1.1.2.1,h.1.1.1.1⟩
theorem Nn {w:World}{p:Option Addr}{n c:Nat}{L:List (List UInt8)}(h:O8 w (.slice p n c) L)(h0:0<L.length):∃ b,p=some ⟨b,0,none⟩/\∀ i (h:i<L.length),w.cell? ⟨b,i,none⟩=some (.string (Oo L[i])):=by
 obtain⟨j,d,e,_,_,h3⟩:=h;simp only[Value.slice.injEq] at e;obtain⟨rfl,_,_⟩:=e
 rcases h3 with rfl|⟨b,e,_,hc⟩
 ·cases h0
 exact⟨b,e,hc⟩
theorem Ih {L:List (List UInt8)}{i:Nat}(h:i<L.length):kS L i=L[i]:=by unfold kS;rw[Jf h];rfl
theorem RK {T:List Tm}{y:Nat}(h:y<T.length):Ky T (y:Int)=T[y]:=by unfold Ky;simp[List.getElem?_eq_getElem h]
def Kc (S:List (List UInt8))(num:Tm->Bool)(F:List Fn)(T:List Tm)(n:Nat)(t:Tm):Bool:=Kf t&&Xz n t&&Nv (Ov (On S)) num F T t (E1 T t)
end Go.Proofs.YtipgjenolpofpaaGreatDoor
namespace Go.Proofs.YtipgjenolpofpaaGreatDoor
open ChangeShapes WideShapes ChangeAt RowKit Proofs.Tryz
theorem YD (vs vf vt:Value)(S:List (List UInt8))(num:Tm->Bool)(F:List Fn)(T:List Tm)(n:Nat)(t:Tm)(vk:Value)(w:World)(hS:O8 w vs S)(hF:Eh w vf F)(hT:Km w vt T)(hk:U5 w vk t.kids)(hn:n<=T.length)(_hTl:T.length<=1048576)(_hFl:F.length<=1048576)(hkl:t.kids.length<=1048576)(hop:1<=t.op/\t.op<=5)
 (hzs:t.sort.length<=1048576) (hzt:t.text.length<=1048576) (hz:∀ u∈T,u.sort.length<=1048576) (hnum:∀ w',Up w w'->Calls prog 71 #[.agg #[.int .i64 t.op,.string (Oo t.sort),.string (Oo t.text),.int .i64 t.a,.int .i64 t.b,vk]] w' fun e w''=>e=.returned (.bool (num t))/\Below w'.heap.size w' w'') :
 Calls prog 41 #[.agg #[vs,vf,vt],.int .i64 (n:Nat),.agg #[.int .i64 t.op,.string (Oo t.sort),.string (Oo t.text),.int .i64 t.a,.int .i64 t.b,vk]] w fun e w'=>e=.returned (.bool (Kc S num F T n t))/\Up w w':=by
 obtain⟨qk,dk,rfl,e8,d6,d7⟩:=hk;obtain⟨o,so,J,a,b,d⟩:=t;simp only at hzs hzt hkl e8 d6 d7 hnum hop ⊢;have g3:=Hd hop;clear hop;have HS:=Hd hS;have HF:=Hd hF;have HT:=Hd hT;have HK:=Hd d7;have HZ:=Hd hz;have i7:=Hd hnum;have HC:=Hd d6;unfold maxLen at d6;clear hS hF hT d7 hz hnum
 go_in
 go_wp2_with fail
 obtain⟨W1,V⟩:=O1 ((w.alloc (.cells #[vs,vf,vt] 32)).alloc (.cells #[.int .i64 o,.string (Oo so),.string (Oo J),.int .i64 a,.int .i64 b,.slice qk d.length dk] 57));have b8:Hid (Up w W1):=by unfold Hid;rw[<-V];exact ((Jh _ _).alloc Of _).alloc (by rw[Ji];omega) _
 have e2:Hid (W1.heap.size=w.heap.size+2):=by unfold Hid;rw[<-V];simp
 have d2:Hid (Bx W1 w.heap.size [vs,vf,vt]):=by unfold Hid;rw[<-V];exact (Oi w _ _).alloc _
 have d3:Hid (Bx W1 (w.heap.size+1) [.int .i64 o,.string (Oo so),.string (Oo J),.int .i64 a,.int .i64 b,.slice qk d.length dk]):=by unfold Hid;rw[<-V];have h:=Oi (w.alloc (.cells #[vs,vf,vt] 32)) [.int .i64 o,.string (Oo so),.string (Oo J),.int .i64 a,.int .i64 b,.slice qk d.length dk] 57;rw[Ji] at h;exact h
 rw[V];clear V;refine (Ge ⟨o,so,J,a,b,d⟩ qk dk _ e8 HC.o).mono ?_
 cases b5:Kf ⟨o,so,J,a,b,d⟩
 ·have d0:=Hd b5;clear b5;rintro e w2 ⟨rfl,O⟩;have b9:=b8.up O;clear O
  go_wp2
  go_ret
  exact⟨Oz (by unfold Kc;rw[d0.o];rfl),b9.o⟩
 have d0:=Hd b5;clear b5;rintro e w2 ⟨rfl,O⟩;have b9:=b8.up O;have e4:=Hd (d2.o.bl d2.o.lt O);have d4:=Hd (d3.o.bl d3.o.lt O);have j7:Hid (w.heap.size+2<=w2.heap.size):=by have:=O.size;have:=e2.o;unfold Hid;omega
 clear O d2 d3 b8 e2;have y5:=d4.o.cell 5;simp only[Jo,Jr] at y5;obtain⟨K,d5⟩:=O1 (E1 T ⟨o,so,J,a,b,d⟩);have e1:=Hd d5;have c8:Hid (K.length=d.length):=by unfold Hid;rw[<-d5];simp[E1]
 clear d5
 go_wp2_with fail
 clear y5
 go_loopw [7,20] (fun v i wr=>∃ k:Nat,k<=d.length/\i=.int .i64 (k:Nat)/\wr.ownsRow w2.heap.size 9 1 v k (U3 (K.take k))/\(∀ j (h:j<d.length),j<k->0<=d[j]/\d[j]<(n:Int))/\Up w2 wr) (fun _ i _=>d.length - (intOf i).toNat)
 case atStart=>exact⟨0,Jy _,rfl,⟨rfl,.inl ⟨rfl,rfl⟩⟩,fun j _ h=>absurd h (J2 _),Jh _ _⟩
 obtain⟨k,hk,rfl,a8,hp,Y⟩:=hrel;have U:=Hd a8;have HP:=Hd hp;have c6:=Hd Y;have E:=b9.up Y;have g6:=Hd (e4.o.bl e4.o.lt Y);have g7:=Hd (d4.o.bl d4.o.lt Y);obtain⟨p7,c7,rfl⟩:=En a8;clear a8 hp Y;obtain⟨b0,b1,b2⟩:=g6.o.c3;obtain⟨t0,t1,t2,t3,t4,t5⟩:=g7.o.k6
 by_cases a7:k<d.length
 ·rcases HK.o with e0|⟨bq,rfl,g9,Z⟩
  ·rw[e0] at a7;cases a7
  have cx:=(E.o.cell (p:=⟨bq,k,none⟩) g9).trans (Z k a7);clear Z;have i0:(0:Int)<=(k:Int):=by omega
  have i1:(k:Int)<(d.length:Int):=by omega
  by_cases hx:0<=d[k]/\d[k]<(n:Int)
  ·have g4:=Hd hx;have d9:Hid (∀ h:k<K.length,K[k]=(Ky T d[k]).sort):=by
    intro h;have e:=e1.o;subst e;simp[E1]
   obtain⟨y,hy⟩:∃ y:Nat,d[k]=(y:Int):=⟨d[k].toNat,by omega⟩;rw[hy] at cx hx d9;have HY:=Hd hy;clear hy;obtain⟨pt,ct,rfl,k0,h1,h6⟩:=HT.o;unfold maxLen at h1
   rcases h6 with e0|⟨bt,rfl,h0,Z⟩
   ·rw[e0] at hn;simp at hn;omega
   have e7:y<T.length:=by omega
   obtain⟨-,c1,-⟩:=Z y e7;have c1:=(E.o.cell (p:=⟨bt,y*6+1,none⟩) h0).trans c1;clear Z;have e3:Hid ((Ky T (y:Int)).sort=T[y].sort):=by unfold Hid Ky;simp[List.getElem?_eq_getElem e7]
   generalize T[y].sort=sy at c1 e3;have i2:(y:Int)<(n:Int):=by omega
   have i3:(y:Int)<(T.length:Int):=by omega
   have i4:(0:Int)<=(y:Int):=by omega
   have i5:decide ((n:Int)<=(y:Int))=false:=dF (by omega)
   have i6:y<n:=by omega
   go_wp2_with (at_builtin;refine Ns (t:=Oo sy) (n:=k) (base:=w2.heap.size) (xs:=U3 (K.take k)) rfl _ _ rfl rfl ?own _ rfl ?hH ?hn ?hb ?_)
   case own=>exact U.o
   case hH=>rfl
   case hn=>omega
   case hb=>exact c6.o.size
   intro g5 c5 w5 b3 b6 e5;have g0:Hid (Up w2 w5):=Nq c6.o U.o b6 c6.o.size;have g2:Hid (w5.ownsRow w2.heap.size 9 1 (.slice (some ⟨g5,0,none⟩) (k+1) c5) (k+1) (U3 (K.take (k+1)))):=by
    have hl:=c8.o;unfold Hid;rw[Gh (by omega),d9.o (by omega),e3.o];exact b3
   clear b3 b6 e5
   go_wp2
   go_roundw
   case rel=>exact⟨k+1,by omega,by go_num,g2.o,fun j hj h2=>by
    rcases J0.1 h2 with h|rfl
    ·exact HP.o j hj h
    exact g4.o,g0.o⟩
   simp[intOf];omega
  have FR:Hid (Kc S num F T n ⟨o,so,J,a,b,d⟩=false):=by
   unfold Hid Kc;have:Xz n ⟨o,so,J,a,b,d⟩=false:=by
    unfold Xz;rw[J9];intro h;exact hx (by simpa using Ju.1 h d[k] (Jw a7))
   rw[this,Y0,Uj]
  generalize d[k]=x at cx hx
  by_cases h7:x<0
  ·clear hx
   go_wp2
   go_ret
   exact⟨Oz FR.o.symm,E.o⟩
  have k1:(n:Int)<=x:=by omega
  have k7:¬ x<0:=h7;clear hx
  go_wp2
  go_ret
  exact⟨Oz FR.o.symm,E.o⟩
 obtain rfl:k=d.length:=by omega
 have g1:Hid (Xz n ⟨o,so,J,a,b,d⟩=true):=by
  unfold Hid Xz;rw[Ju];intro x hx;obtain⟨j,hj,rfl⟩:=Ya hx
  simpa using HP.o j hj hj
 have M:Hid (Kc S num F T n ⟨o,so,J,a,b,d⟩=Nv (Ov (On S)) num F T ⟨o,so,J,a,b,d⟩ K):=by
  unfold Hid Kc;rw[d0.o,g1.o,e1.o];rfl
 have e6:O8 wr (.slice p7 d.length c7) K:=by
  have h:=U.o;rw[<-c8.o,Yl] at h;rw[<-c8.o];exact I2 h rfl
 have d1:=Hd e6;clear e6 a7 U hk
 go_upto_region 11 with fail
 go_cut [10] (fun s10 wx=>s10=.bool (Oa so)/\wx=wr)
 case first=>
  rcases U8 so [73,110,116] with⟨A,q0⟩|⟨A,q0⟩
  ·have F:Hid (Oa so=true):=by unfold Hid Oa;rw[Jb (show so=Kn from A)];rfl
   clear A
   go_wp2
   go_meet
   exact⟨by rw[F.o],rfl⟩
  rcases U8 so [82,101,97,108] with⟨p1,q1⟩|⟨p1,q1⟩
  ·have F:Hid (Oa so=true):=by unfold Hid Oa;rw[Jb (show so=Ki from p1),Vt]
   clear A p1
   go_wp2
   go_meet
   exact⟨by rw[F.o],rfl⟩
  have F:Hid (Oa so=false):=by unfold Hid Oa;rw[Jg (show so≠Kn from A),Jg (show so≠Ki from p1)];rfl
  clear A p1
  go_wp2
  go_meet
  exact⟨by rw[F.o],rfl⟩
 obtain⟨rfl,rfl⟩:=hcut
 rcases (show o=1∨o=2∨o=3∨o=4∨o=5 by have:=g3.o;omega) with rfl|rfl|rfl|rfl|rfl
 ·have I:Hid (Kc S num F T n ⟨1,so,J,a,b,d⟩=(decide (so=Oc))):=by unfold Hid;rw[M.o];rfl
  rcases U8 so [66,111,111,108] with⟨A,q0⟩|⟨A,q0⟩
  ·have G:Hid (Kc S num F T n ⟨1,so,J,a,b,d⟩=true):=by unfold Hid;rw[I.o,Jb (show so=Oc from A)]<;>rfl
   clear A
   go_wp2
   go_ret
   exact⟨Oz G.o.symm,E.o⟩
  have G:Hid (Kc S num F T n ⟨1,so,J,a,b,d⟩=false):=by unfold Hid;rw[I.o,Jg (show so≠Oc from A)]<;>rfl
  clear A
  go_wp2
  go_ret
  exact⟨Oz G.o.symm,E.o⟩
 ·have I:Hid (Kc S num F T n ⟨2,so,J,a,b,d⟩=(decide (so=Oc))):=by unfold Hid;rw[M.o];rfl
  rcases U8 so [66,111,111,108] with⟨A,q0⟩|⟨A,q0⟩
  ·have G:Hid (Kc S num F T n ⟨2,so,J,a,b,d⟩=true):=by unfold Hid;rw[I.o,Jb (show so=Oc from A)]<;>rfl
   clear A
   go_wp2
   go_ret
   exact⟨Oz G.o.symm,E.o⟩
  have G:Hid (Kc S num F T n ⟨2,so,J,a,b,d⟩=false):=by unfold Hid;rw[I.o,Jg (show so≠Oc from A)]<;>rfl
  clear A
  go_wp2
  go_ret
  exact⟨Oz G.o.symm,E.o⟩
 ·have I:Hid (Kc S num F T n ⟨3,so,J,a,b,d⟩=(decide (so=Oc)&&K1 K Oc)):=by unfold Hid;rw[M.o];rfl
  rcases U8 so [66,111,111,108] with⟨A,q0⟩|⟨A,q0⟩
  ·have G:Hid (Kc S num F T n ⟨3,so,J,a,b,d⟩=K1 K Oc):=by unfold Hid;rw[I.o,Jb (show so=Oc from A)]<;>rfl
   clear A
   go_wp2_with fail
   refine (Kv _ K ⟨#[66,111,111,108]⟩ _ d1.o).mono ?_;rw[show (⟨#[66,111,111,108]⟩:ByteArray).data.toList=Oc from rfl];generalize K1 K Oc=B at G ⊢;rintro e w6 ⟨rfl,rfl⟩
   go_wp2
   go_ret
   exact⟨Oz G.o.symm,E.o⟩
  have G:Hid (Kc S num F T n ⟨3,so,J,a,b,d⟩=false):=by unfold Hid;rw[I.o,Jg (show so≠Oc from A)]<;>rfl
  clear A
  go_wp2
  go_ret
  exact⟨Oz G.o.symm,E.o⟩
 ·have I:Hid (Kc S num F T n ⟨4,so,J,a,b,d⟩=(decide (so=Oc)&&K1 K Oc)):=by unfold Hid;rw[M.o];rfl
  rcases U8 so [66,111,111,108] with⟨A,q0⟩|⟨A,q0⟩
  ·have G:Hid (Kc S num F T n ⟨4,so,J,a,b,d⟩=K1 K Oc):=by unfold Hid;rw[I.o,Jb (show so=Oc from A)]<;>rfl
   clear A
   go_wp2_with fail
   refine (Kv _ K ⟨#[66,111,111,108]⟩ _ d1.o).mono ?_;rw[show (⟨#[66,111,111,108]⟩:ByteArray).data.toList=Oc from rfl];generalize K1 K Oc=B at G ⊢;rintro e w6 ⟨rfl,rfl⟩
   go_wp2
   go_ret
   exact⟨Oz G.o.symm,E.o⟩
  have G:Hid (Kc S num F T n ⟨4,so,J,a,b,d⟩=false):=by unfold Hid;rw[I.o,Jg (show so≠Oc from A)]<;>rfl
  clear A
  go_wp2
  go_ret
  exact⟨Oz G.o.symm,E.o⟩
 have I:Hid (Kc S num F T n ⟨5,so,J,a,b,d⟩=(decide (so=Oc)&&K1 K Oc)):=by unfold Hid;rw[M.o];rfl
 rcases U8 so [66,111,111,108] with⟨A,q0⟩|⟨A,q0⟩
 ·have G:Hid (Kc S num F T n ⟨5,so,J,a,b,d⟩=K1 K Oc):=by unfold Hid;rw[I.o,Jb (show so=Oc from A)]<;>rfl
  clear A
  go_wp2_with fail
  refine (Kv _ K ⟨#[66,111,111,108]⟩ _ d1.o).mono ?_;rw[show (⟨#[66,111,111,108]⟩:ByteArray).data.toList=Oc from rfl];generalize K1 K Oc=B at G ⊢;rintro e w6 ⟨rfl,rfl⟩
  go_wp2
  go_ret
  exact⟨Oz G.o.symm,E.o⟩
 have G:Hid (Kc S num F T n ⟨5,so,J,a,b,d⟩=false):=by unfold Hid;rw[I.o,Jg (show so≠Oc from A)]<;>rfl
 clear A
 go_wp2
 go_ret
 exact⟨Oz G.o.symm,E.o⟩
theorem YC (vs vf vt:Value)(S:List (List UInt8))(num:Tm->Bool)(F:List Fn)(T:List Tm)(n:Nat)(t:Tm)(vk:Value)(w:World)(hS:O8 w vs S)(hF:Eh w vf F)(hT:Km w vt T)(hk:U5 w vk t.kids)(hn:n<=T.length)(_hTl:T.length<=1048576)(_hFl:F.length<=1048576)(hkl:t.kids.length<=1048576)(hop:6<=t.op/\t.op<=10)
 (hzs:t.sort.length<=1048576) (hzt:t.text.length<=1048576) (hz:∀ u∈T,u.sort.length<=1048576) (hnum:∀ w',Up w w'->Calls prog 71 #[.agg #[.int .i64 t.op,.string (Oo t.sort),.string (Oo t.text),.int .i64 t.a,.int .i64 t.b,vk]] w' fun e w''=>e=.returned (.bool (num t))/\Below w'.heap.size w' w'') :
 Calls prog 41 #[.agg #[vs,vf,vt],.int .i64 (n:Nat),.agg #[.int .i64 t.op,.string (Oo t.sort),.string (Oo t.text),.int .i64 t.a,.int .i64 t.b,vk]] w fun e w'=>e=.returned (.bool (Kc S num F T n t))/\Up w w':=by
 obtain⟨qk,dk,rfl,g4,e3,e4⟩:=hk;obtain⟨o,so,M,a,b,d⟩:=t;simp only at hzs hzt hkl g4 e3 e4 hnum hop ⊢;have h7:=Hd hop;clear hop;have HS:=Hd hS;have HF:=Hd hF;have HT:=Hd hT;have HK:=Hd e4;have HZ:=Hd hz;have k8:=Hd hnum;have HC:=Hd e3;unfold maxLen at e3;clear hS hF hT e4 hz hnum
 go_in
 go_wp2_with fail
 obtain⟨W1,b3⟩:=O1 ((w.alloc (.cells #[vs,vf,vt] 32)).alloc (.cells #[.int .i64 o,.string (Oo so),.string (Oo M),.int .i64 a,.int .i64 b,.slice qk d.length dk] 57));have d3:Hid (Up w W1):=by unfold Hid;rw[<-b3];exact ((Jh _ _).alloc Of _).alloc (by rw[Ji];omega) _
 have e8:Hid (W1.heap.size=w.heap.size+2):=by unfold Hid;rw[<-b3];simp
 have d6:Hid (Bx W1 w.heap.size [vs,vf,vt]):=by unfold Hid;rw[<-b3];exact (Oi w _ _).alloc _
 have d7:Hid (Bx W1 (w.heap.size+1) [.int .i64 o,.string (Oo so),.string (Oo M),.int .i64 a,.int .i64 b,.slice qk d.length dk]):=by unfold Hid;rw[<-b3];have h:=Oi (w.alloc (.cells #[vs,vf,vt] 32)) [.int .i64 o,.string (Oo so),.string (Oo M),.int .i64 a,.int .i64 b,.slice qk d.length dk] 57;rw[Ji] at h;exact h
 rw[b3];clear b3;refine (Ge ⟨o,so,M,a,b,d⟩ qk dk _ g4 HC.o).mono ?_
 cases d0:Kf ⟨o,so,M,a,b,d⟩
 ·have a8:=Hd d0;clear d0;rintro e w2 ⟨rfl,V⟩;have d4:=d3.up V;clear V
  go_wp2
  go_ret
  exact⟨Oz (by unfold Kc;rw[a8.o];rfl),d4.o⟩
 have a8:=Hd d0;clear d0;rintro e w2 ⟨rfl,V⟩;have d4:=d3.up V;have f5:=Hd (d6.o.bl d6.o.lt V);have d8:=Hd (d7.o.bl d7.o.lt V);have l7:Hid (w.heap.size+2<=w2.heap.size):=by have:=V.size;have:=e8.o;unfold Hid;omega
 clear V d6 d7 d3 e8;have y5:=d8.o.cell 5;simp only[Jo,Jr] at y5;obtain⟨E,e2⟩:=O1 (E1 T ⟨o,so,M,a,b,d⟩);have e7:=Hd e2;have a7:Hid (E.length=d.length):=by unfold Hid;rw[<-e2];simp[E1]
 clear e2
 go_wp2_with fail
 clear y5
 go_loopw [7,20] (fun v i wr=>∃ k:Nat,k<=d.length/\i=.int .i64 (k:Nat)/\wr.ownsRow w2.heap.size 9 1 v k (U3 (E.take k))/\(∀ j (h:j<d.length),j<k->0<=d[j]/\d[j]<(n:Int))/\Up w2 wr) (fun _ i _=>d.length - (intOf i).toNat)
 case atStart=>exact⟨0,Jy _,rfl,⟨rfl,.inl ⟨rfl,rfl⟩⟩,fun j _ h=>absurd h (J2 _),Jh _ _⟩
 obtain⟨k,hk,rfl,b9,hp,b7⟩:=hrel;have Z:=Hd b9;have HP:=Hd hp;have d5:=Hd b7;have J:=d4.up b7;have h9:=Hd (f5.o.bl f5.o.lt b7);have i7:=Hd (d8.o.bl d8.o.lt b7);obtain⟨p7,c7,rfl⟩:=En b9;clear b9 hp b7;obtain⟨b0,b1,b2⟩:=h9.o.c3;obtain⟨t0,t1,t2,t3,t4,t5⟩:=i7.o.k6
 by_cases b8:k<d.length
 ·rcases HK.o with e0|⟨bq,rfl,j2,K⟩
  ·rw[e0] at b8;cases b8
  have cx:=(J.o.cell (p:=⟨bq,k,none⟩) j2).trans (K k b8);clear K;have i0:(0:Int)<=(k:Int):=by omega
  have i1:(k:Int)<(d.length:Int):=by omega
  by_cases hx:0<=d[k]/\d[k]<(n:Int)
  ·have h8:=Hd hx;have e6:Hid (∀ h:k<E.length,E[k]=(Ky T d[k]).sort):=by
    intro h;have e:=e7.o;subst e;simp[E1]
   obtain⟨y,hy⟩:∃ y:Nat,d[k]=(y:Int):=⟨d[k].toNat,by omega⟩;rw[hy] at cx hx e6;have HY:=Hd hy;clear hy;obtain⟨pt,ct,rfl,m5,j4,j5⟩:=HT.o;unfold maxLen at j4
   rcases j5 with e0|⟨bt,rfl,j3,K⟩
   ·rw[e0] at hn;simp at hn;omega
   have g2:y<T.length:=by omega
   obtain⟨-,c1,-⟩:=K y g2;have c1:=(J.o.cell (p:=⟨bt,y*6+1,none⟩) j3).trans c1;clear K;have e9:Hid ((Ky T (y:Int)).sort=T[y].sort):=by unfold Hid Ky;simp[List.getElem?_eq_getElem g2]
   generalize T[y].sort=sy at c1 e9;have i2:(y:Int)<(n:Int):=by omega
   have i3:(y:Int)<(T.length:Int):=by omega
   have i4:(0:Int)<=(y:Int):=by omega
   have i5:decide ((n:Int)<=(y:Int))=false:=dF (by omega)
   have i6:y<n:=by omega
   go_wp2_with (at_builtin;refine Ns (t:=Oo sy) (n:=k) (base:=w2.heap.size) (xs:=U3 (E.take k)) rfl _ _ rfl rfl ?own _ rfl ?hH ?hn ?hb ?_)
   case own=>exact Z.o
   case hH=>rfl
   case hn=>omega
   case hb=>exact d5.o.size
   intro g5 c5 w5 c6 d1 f8;have h0:Hid (Up w2 w5):=Nq d5.o Z.o d1 d5.o.size;have h6:Hid (w5.ownsRow w2.heap.size 9 1 (.slice (some ⟨g5,0,none⟩) (k+1) c5) (k+1) (U3 (E.take (k+1)))):=by
    have hl:=a7.o;unfold Hid;rw[Gh (by omega),e6.o (by omega),e9.o];exact c6
   clear c6 d1 f8
   go_wp2
   go_roundw
   case rel=>exact⟨k+1,by omega,by go_num,h6.o,fun j hj h2=>by
    rcases J0.1 h2 with h|rfl
    ·exact HP.o j hj h
    exact h8.o,h0.o⟩
   simp[intOf];omega
  have FR:Hid (Kc S num F T n ⟨o,so,M,a,b,d⟩=false):=by
   unfold Hid Kc;have:Xz n ⟨o,so,M,a,b,d⟩=false:=by
    unfold Xz;rw[J9];intro h;exact hx (by simpa using Ju.1 h d[k] (Jw b8))
   rw[this,Y0,Uj]
  generalize d[k]=x at cx hx
  by_cases j6:x<0
  ·clear hx
   go_wp2
   go_ret
   exact⟨Oz FR.o.symm,J.o⟩
  have m6:(n:Int)<=x:=by omega
  have m7:¬ x<0:=j6;clear hx
  go_wp2
  go_ret
  exact⟨Oz FR.o.symm,J.o⟩
 obtain rfl:k=d.length:=by omega
 have h1:Hid (Xz n ⟨o,so,M,a,b,d⟩=true):=by
  unfold Hid Xz;rw[Ju];intro x hx;obtain⟨j,hj,rfl⟩:=Ya hx
  simpa using HP.o j hj hj
 have U:Hid (Kc S num F T n ⟨o,so,M,a,b,d⟩=Nv (Ov (On S)) num F T ⟨o,so,M,a,b,d⟩ E):=by
  unfold Hid Kc;rw[a8.o,h1.o,e7.o];rfl
 have g1:O8 wr (.slice p7 d.length c7) E:=by
  have h:=Z.o;rw[<-a7.o,Yl] at h;rw[<-a7.o];exact I2 h rfl
 have Y:=Hd g1;clear g1 b8 Z hk
 go_upto_region 11 with fail
 go_cut [10] (fun s10 wx=>s10=.bool (Oa so)/\wx=wr)
 case first=>
  rcases U8 so [73,110,116] with⟨I,q0⟩|⟨I,q0⟩
  ·have F:Hid (Oa so=true):=by unfold Hid Oa;rw[Jb (show so=Kn from I)];rfl
   clear I
   go_wp2
   go_meet
   exact⟨by rw[F.o],rfl⟩
  rcases U8 so [82,101,97,108] with⟨p1,q1⟩|⟨p1,q1⟩
  ·have F:Hid (Oa so=true):=by unfold Hid Oa;rw[Jb (show so=Ki from p1),Vt]
   clear I p1
   go_wp2
   go_meet
   exact⟨by rw[F.o],rfl⟩
  have F:Hid (Oa so=false):=by unfold Hid Oa;rw[Jg (show so≠Kn from I),Jg (show so≠Ki from p1)];rfl
  clear I p1
  go_wp2
  go_meet
  exact⟨by rw[F.o],rfl⟩
 obtain⟨rfl,rfl⟩:=hcut
 rcases (show o=6∨o=7∨o=8∨o=9∨o=10 by have:=h7.o;omega) with rfl|rfl|rfl|rfl|rfl
 ·have A:Hid (Kc S num F T n ⟨6,so,M,a,b,d⟩=(decide (so=Oc)&&K1 E Oc)):=by unfold Hid;rw[U.o];rfl
  rcases U8 so [66,111,111,108] with⟨I,q0⟩|⟨I,q0⟩
  ·have G:Hid (Kc S num F T n ⟨6,so,M,a,b,d⟩=K1 E Oc):=by unfold Hid;rw[A.o,Jb (show so=Oc from I)]<;>rfl
   clear I
   go_wp2_with fail
   refine (Kv _ E ⟨#[66,111,111,108]⟩ _ Y.o).mono ?_;rw[show (⟨#[66,111,111,108]⟩:ByteArray).data.toList=Oc from rfl];generalize K1 E Oc=B at G ⊢;rintro e w6 ⟨rfl,rfl⟩
   go_wp2
   go_ret
   exact⟨Oz G.o.symm,J.o⟩
  have G:Hid (Kc S num F T n ⟨6,so,M,a,b,d⟩=false):=by unfold Hid;rw[A.o,Jg (show so≠Oc from I)]<;>rfl
  clear I
  go_wp2
  go_ret
  exact⟨Oz G.o.symm,J.o⟩
 ·have A:Hid (Kc S num F T n ⟨7,so,M,a,b,d⟩=(decide (so=Oc)&&K1 E Oc)):=by unfold Hid;rw[U.o];rfl
  rcases U8 so [66,111,111,108] with⟨I,q0⟩|⟨I,q0⟩
  ·have G:Hid (Kc S num F T n ⟨7,so,M,a,b,d⟩=K1 E Oc):=by unfold Hid;rw[A.o,Jb (show so=Oc from I)]<;>rfl
   clear I
   go_wp2_with fail
   refine (Kv _ E ⟨#[66,111,111,108]⟩ _ Y.o).mono ?_;rw[show (⟨#[66,111,111,108]⟩:ByteArray).data.toList=Oc from rfl];generalize K1 E Oc=B at G ⊢;rintro e w6 ⟨rfl,rfl⟩
   go_wp2
   go_ret
   exact⟨Oz G.o.symm,J.o⟩
  have G:Hid (Kc S num F T n ⟨7,so,M,a,b,d⟩=false):=by unfold Hid;rw[A.o,Jg (show so≠Oc from I)]<;>rfl
  clear I
  go_wp2
  go_ret
  exact⟨Oz G.o.symm,J.o⟩
 ·have A:Hid (Kc S num F T n ⟨8,so,M,a,b,d⟩=(decide (kS E 0=Oc)&&decide (kS E 1=so)&&decide (kS E 2=so))):=by unfold Hid;rw[U.o];rfl
  have f9:3<=d.length:=by have:=(Kw a8.o).1;simpa[Kh] using this
  have g0:3<=E.length:=by have:=a7.o;omega
  obtain⟨bs,rfl,K⟩:=Nn Y.o (by omega);have b6:=K 0 (by omega);have O:=Ih (L:=E) (i:=0) (by omega);have g3:(0:Int)<(d.length:Int):=by omega
  have i8:=K 1 (by omega);have d9:=Ih (L:=E) (i:=1) (by omega);have m8:(1:Int)<(d.length:Int):=by omega
  have j0:=K 2 (by omega);have e1:=Ih (L:=E) (i:=2) (by omega);have m9:(2:Int)<(d.length:Int):=by omega
  rw[O,d9,e1] at A;generalize E[0]=k0 at b6 A O;generalize E[1]=k1 at i8 A d9;generalize E[2]=k2 at j0 A e1;clear K O d9 e1
  rcases U8 k0 [66,111,111,108] with⟨I,q0⟩|⟨I,q0⟩
  ·rcases Nk k1 so with⟨p1,q1⟩|⟨p1,q1⟩
   ·rcases Nk k2 so with⟨p2,q2⟩|⟨p2,q2⟩
    ·have G:Hid (Kc S num F T n ⟨8,so,M,a,b,d⟩=true):=by unfold Hid;rw[A.o,Jb (show k0=Oc from I),Jb p1,Jb p2]<;>rfl
     clear I p1 p2
     go_wp2
     go_quiet (fail)
     go_wp2
     go_ret
     exact⟨Oz G.o.symm,below_drewN J.o _⟩
    have G:Hid (Kc S num F T n ⟨8,so,M,a,b,d⟩=false):=by unfold Hid;rw[A.o,Jb (show k0=Oc from I),Jb p1,Jg p2]<;>rfl
    clear I p1 p2
    go_wp2
    go_quiet (fail)
    go_wp2
    go_ret
    exact⟨Oz G.o.symm,below_drewN J.o _⟩
   have G:Hid (Kc S num F T n ⟨8,so,M,a,b,d⟩=false):=by unfold Hid;rw[A.o,Jb (show k0=Oc from I),Jg p1]<;>rfl
   clear I p1
   go_wp2
   go_quiet (fail)
   go_wp2
   go_ret
   exact⟨Oz G.o.symm,below_drewN J.o _⟩
  have G:Hid (Kc S num F T n ⟨8,so,M,a,b,d⟩=false):=by unfold Hid;rw[A.o,Jg (show k0≠Oc from I)]<;>rfl
  clear I
  go_wp2
  go_quiet (fail)
  go_wp2
  go_ret
  exact⟨Oz G.o.symm,below_drewN J.o _⟩
 ·have A:Hid (Kc S num F T n ⟨9,so,M,a,b,d⟩=(decide (so=Oc)&&K1 E (kS E 0))):=by unfold Hid;rw[U.o];rfl
  have f9:2<=d.length:=by have:=(Kw a8.o).1;simpa[Kh] using this
  have g0:2<=E.length:=by have:=a7.o;omega
  obtain⟨bs,rfl,K⟩:=Nn Y.o (by omega);have b6:=K 0 (by omega);have O:=Ih (L:=E) (i:=0) (by omega);have g3:(0:Int)<(d.length:Int):=by omega
  rw[O] at A;generalize E[0]=k0 at b6 A O;clear K O
  rcases U8 so [66,111,111,108] with⟨I,q0⟩|⟨I,q0⟩
  ·have G:Hid (Kc S num F T n ⟨9,so,M,a,b,d⟩=K1 E k0):=by unfold Hid;rw[A.o,Jb (show so=Oc from I)]<;>rfl
   clear I
   go_wp2_with fail
   refine (Kv _ E (Oo k0) _ Y.o).mono ?_;rw[Ou];generalize K1 E k0=B at G ⊢;rintro e w6 ⟨rfl,rfl⟩
   go_wp2
   go_ret
   exact⟨Oz G.o.symm,J.o⟩
  have G:Hid (Kc S num F T n ⟨9,so,M,a,b,d⟩=false):=by unfold Hid;rw[A.o,Jg (show so≠Oc from I)]<;>rfl
  clear I
  go_wp2
  go_ret
  exact⟨Oz G.o.symm,J.o⟩
 have A:Hid (Kc S num F T n ⟨10,so,M,a,b,d⟩=(decide (so=Oc)&&K1 E (kS E 0))):=by unfold Hid;rw[U.o];rfl
 have f9:2<=d.length:=by have:=(Kw a8.o).1;simpa[Kh] using this
 have g0:2<=E.length:=by have:=a7.o;omega
 obtain⟨bs,rfl,K⟩:=Nn Y.o (by omega);have b6:=K 0 (by omega);have O:=Ih (L:=E) (i:=0) (by omega);have g3:(0:Int)<(d.length:Int):=by omega
 rw[O] at A;generalize E[0]=k0 at b6 A O;clear K O
 rcases U8 so [66,111,111,108] with⟨I,q0⟩|⟨I,q0⟩
 ·have G:Hid (Kc S num F T n ⟨10,so,M,a,b,d⟩=K1 E k0):=by unfold Hid;rw[A.o,Jb (show so=Oc from I)]<;>rfl
  clear I
  go_wp2_with fail
  refine (Kv _ E (Oo k0) _ Y.o).mono ?_;rw[Ou];generalize K1 E k0=B at G ⊢;rintro e w6 ⟨rfl,rfl⟩
  go_wp2
  go_ret
  exact⟨Oz G.o.symm,J.o⟩
 have G:Hid (Kc S num F T n ⟨10,so,M,a,b,d⟩=false):=by unfold Hid;rw[A.o,Jg (show so≠Oc from I)]<;>rfl
 clear I
 go_wp2
 go_ret
 exact⟨Oz G.o.symm,J.o⟩
end Go.Proofs.YtipgjenolpofpaaGreatDoor
