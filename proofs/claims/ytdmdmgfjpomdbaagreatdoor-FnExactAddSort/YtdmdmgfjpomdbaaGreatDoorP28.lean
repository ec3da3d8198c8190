import Derived.Test.YtdmdmgfjpomdbaaGreatDoorP00
import Derived.Test.YtdmdmgfjpomdbaaGreatDoorP27
import Derived.Test.YtdmdmgfjpomdbaaGreatDoorP21
set_option maxRecDepth 100000
set_option maxHeartbeats 16000000
namespace Go.Proofs.YtdmdmgfjpomdbaaGreatDoor
open ChangeShapes WideShapes ChangeAt RowKit
variable {L:List (List UInt8)}{base n:Nat}{v:Value}{w:World}
theorem Ol {e:TypeId}{size:Nat}{xs:List Value}(h:w.ownsRow base e size v n xs):∀ g,v.ownBlock=some g->base<=g:=by
 intro g d
 rcases h.2 with⟨rfl,_⟩|⟨A,cap,j,rfl,hb,_⟩
 ·cases d
 cases d;exact hb
theorem I2 (h:w.ownsRow base 9 1 v n (strsC L))(hn:n=L.length):O3 w v L:=by
 subst hn
 rcases h.2 with⟨rfl,d⟩|⟨g,cap,j,rfl,_,E,A,h2,_,_⟩
 ·refine⟨none,0,?_,by omega,Jr _,.inl (List.length_eq_zero_iff.1 d)⟩;rw[d]
 refine⟨some ⟨g,0,none⟩,cap,rfl,A,h2,.inr ⟨g,rfl,(Jv.1 E).1,fun i hi=>?_⟩⟩;rw[h.cellAt i (by omega)];simp[strsC,List.getElem?_eq_getElem hi]
theorem Nj {W W':World}{e:TypeId}{size:Nat}{xs:List Value}{o:Obj}(hb:Below base w W)(hown:W.ownsRow base e size v n xs)(hg:(W.alloc o).grownBy W' v.ownBlock)(hl:base<=W.heap.size):Below base w W':=by
 refine⟨hg.os.trans hb.os,hg.tape.trans hb.tape,hg.output.trans hb.output,?_,fun k hk=>?_⟩
 ·have d:=hg.size;have h2:=hb.size;rw[Jf] at d;omega
 rw[hg.block k (by rw[Jf];omega) (fun e=>by have:=Ol hown k e.symm;omega),(Oz W o).block k (by omega),hb.block k hk]
theorem Hj {k:Nat}(h:k<L.length):strsC (L.take (k+1))=strsC (L.take k)++[.string (Oo L[k])]:=by
 unfold strsC;rw[Ye h,Yr];rfl
theorem O9 {t:Tm}(h:K5 t=true):Ko t.op<=t.kids.length/\1<=t.op/\t.op<=47:=by
 unfold K5 at h;simp only[J3,Yi] at h;exact⟨h.1.1.1.2.1,h.1.1.1.1⟩
theorem K2 {p:Option Addr}{c:Nat}(h:O3 w (.slice p n c) L)(h0:0<L.length):∃ b,p=some ⟨b,0,none⟩/\∀ i (h:i<L.length),w.cell? ⟨b,i,none⟩=some (.string (Oo L[i])):=by
 obtain⟨j,d,e,_,_,h3⟩:=h;simp only[Value.slice.injEq] at e;obtain⟨rfl,_,_⟩:=e
 rcases h3 with rfl|⟨b,e,_,hc⟩
 ·cases h0
 exact⟨b,e,hc⟩
theorem Nm {i:Nat}(h:i<L.length):kS L i=L[i]:=by unfold kS;rw[Jd h];rfl
theorem Sk {T:List Tm}{y:Nat}(h:y<T.length):Ke T (y:Int)=T[y]:=by unfold Ke;simp[List.getElem?_eq_getElem h]
def U6 (S:List (List UInt8))(num:Tm->Bool)(F:List Fn)(T:List Tm)(n:Nat)(t:Tm):Bool:=K5 t&&Xp n t&&Na (Ov (Ok S)) num F T t (Nu T t)
end Go.Proofs.YtdmdmgfjpomdbaaGreatDoor
namespace Go.Proofs.YtdmdmgfjpomdbaaGreatDoor
open ChangeShapes WideShapes ChangeAt RowKit Proofs.Tryz
theorem S6 (vs vf vt:Value)(S:List (List UInt8))(num:Tm->Bool)(F:List Fn)(T:List Tm)(n:Nat)(t:Tm)(vk:Value)(w:World)(hS:O3 w vs S)(hF:E9 w vf F)(hT:K9 w vt T)(hk:Kg w vk t.kids)(hn:n<=T.length)(_hTl:T.length<=1048576)(_hFl:F.length<=1048576)(hkl:t.kids.length<=1048576)
 (hzs:t.sort.length<=1048576) (hzt:t.text.length<=1048576) (hz:∀ u∈T,u.sort.length<=1048576) (hnum:∀ w',Up w w'->Calls prog 72 #[.agg #[.int .i64 t.op,.string (Oo t.sort),.string (Oo t.text),.int .i64 t.a,.int .i64 t.b,vk]] w' fun e w''=>e=.returned (.bool (num t))/\Below w'.heap.size w' w'') :
 Calls prog 49 #[.agg #[vs,vf,vt],.int .i64 (n:Nat),.agg #[.int .i64 t.op,.string (Oo t.sort),.string (Oo t.text),.int .i64 t.a,.int .i64 t.b,vk]] w fun e w'=>e=.returned (.bool (U6 S num F T n t))/\Up w w':=by
 obtain⟨qk,dk,rfl,p5,m9,n0⟩:=hk;obtain⟨o,so,K,a,b,A⟩:=t;simp only at hzs hzt hkl p5 m9 n0 hnum ⊢;have HS:=Hd hS;have HF:=Hd hF;have HT:=Hd hT;have HK:=Hd n0;have HZ:=Hd hz;have j8:=Hd hnum;have HC:=Hd m9;unfold maxLen at m9;clear hS hF hT n0 hz hnum
 go_in
 go_wp2_with fail
 obtain⟨W1,h6⟩:=Oa ((w.alloc (.cells #[vs,vf,vt] 31)).alloc (.cells #[.int .i64 o,.string (Oo so),.string (Oo K),.int .i64 a,.int .i64 b,.slice qk A.length dk] 55));have k9:Hid (Up w W1):=by unfold Hid;rw[<-h6];exact ((Je _ _).alloc leR _).alloc (by rw[Jf];omega) _
 have n6:Hid (W1.heap.size=w.heap.size+2):=by unfold Hid;rw[<-h6];simp
 have l7:Hid (Bx W1 w.heap.size [vs,vf,vt]):=by unfold Hid;rw[<-h6];exact (Oi w _ _).alloc _
 have l8:Hid (Bx W1 (w.heap.size+1) [.int .i64 o,.string (Oo so),.string (Oo K),.int .i64 a,.int .i64 b,.slice qk A.length dk]):=by unfold Hid;rw[<-h6];have h:=Oi (w.alloc (.cells #[vs,vf,vt] 31)) [.int .i64 o,.string (Oo so),.string (Oo K),.int .i64 a,.int .i64 b,.slice qk A.length dk] 55;rw[Jf] at h;exact h
 rw[h6];clear h6;refine (G7 ⟨o,so,K,a,b,A⟩ qk dk _ p5 HC.o).mono ?_
 cases j5:K5 ⟨o,so,K,a,b,A⟩
 ·have c6:=Hd j5;clear j5;rintro e w2 ⟨rfl,hb2⟩;have l0:=k9.up hb2;clear hb2
  go_wp2
  go_ret
  exact⟨Oy (by unfold U6;rw[c6.o];rfl),l0.o⟩
 have c6:=Hd j5;clear j5;rintro e w2 ⟨rfl,hb2⟩;have l0:=k9.up hb2;have n9:=Hd (l7.o.bl l7.o.lt hb2);have l9:=Hd (l8.o.bl l8.o.lt hb2);have w8:Hid (w.heap.size+2<=w2.heap.size):=by have:=hb2.size;have:=n6.o;unfold Hid;omega
 clear hb2 l7 l8 k9 n6;have y5:=l9.o.cell 5;simp only[Jm,Js] at y5;obtain⟨J,m7⟩:=Oa (Nu T ⟨o,so,K,a,b,A⟩);have l6:=Hd m7;have c8:Hid (J.length=A.length):=by unfold Hid;rw[<-m7];simp[Nu]
 clear m7
 go_wp2_with fail
 clear y5
 go_loopw [7,20] (fun v i wr=>∃ k:Nat,k<=A.length/\i=.int .i64 (k:Nat)/\wr.ownsRow w2.heap.size 9 1 v k (strsC (J.take k))/\(∀ j (h:j<A.length),j<k->0<=A[j]/\A[j]<(n:Int))/\Up w2 wr) (fun _ i _=>A.length - (intOf i).toNat)
 case atStart=>exact⟨0,Jr _,rfl,⟨rfl,.inl ⟨rfl,rfl⟩⟩,fun j _ h=>absurd h (J2 _),Je _ _⟩
 obtain⟨k,hk,rfl,i7,hp,d1⟩:=hrel;have g9:=Hd i7;have HP:=Hd hp;have h8:=Hd d1;have E:=l0.up d1;have m5:=Hd (n9.o.bl n9.o.lt d1);have d9:=Hd (l9.o.bl l9.o.lt d1);obtain⟨p7,c7,rfl⟩:=Ed i7;clear i7 hp d1;obtain⟨b0,b1,b2⟩:=m5.o.c3;obtain⟨t0,t1,t2,t3,t4,t5⟩:=d9.o.k6
 by_cases g2:k<A.length
 ·rcases HK.o with e0|⟨bq,rfl,f9,M⟩
  ·rw[e0] at g2;cases g2
  have cx:=(E.o.cell (p:=⟨bq,k,none⟩) f9).trans (M k g2);clear M;have i0:(0:Int)<=(k:Int):=by omega
  have i1:(k:Int)<(A.length:Int):=by omega
  by_cases hx:0<=A[k]/\A[k]<(n:Int)
  ·have r9:=Hd hx;have n3:Hid (∀ h:k<J.length,J[k]=(Ke T A[k]).sort):=by
    intro h;have e:=l6.o;subst e;simp[Nu]
   obtain⟨y,hy⟩:∃ y:Nat,A[k]=(y:Int):=⟨A[k].toNat,by omega⟩;rw[hy] at cx hx n3;have HY:=Hd hy;clear hy;obtain⟨pt,ct,rfl,m8,g3,g4⟩:=HT.o;unfold maxLen at g3
   rcases g4 with e0|⟨bt,rfl,b6,M⟩
   ·rw[e0] at hn;simp at hn;omega
   have d4:y<T.length:=by omega
   obtain⟨-,c1,-⟩:=M y d4;have c1:=(E.o.cell (p:=⟨bt,y*6+1,none⟩) b6).trans c1;clear M;have n7:Hid ((Ke T (y:Int)).sort=T[y].sort):=by unfold Hid Ke;simp[List.getElem?_eq_getElem d4]
   generalize T[y].sort=sy at c1 n7;have i2:(y:Int)<(n:Int):=by omega
   have i3:(y:Int)<(T.length:Int):=by omega
   have i4:(0:Int)<=(y:Int):=by omega
   have i5:decide ((n:Int)<=(y:Int))=false:=dF (by omega)
   have i6:y<n:=by omega
   go_wp2_with (at_builtin;refine N4 (t:=Oo sy) (n:=k) (base:=w2.heap.size) (xs:=strsC (J.take k)) rfl _ _ rfl rfl ?own _ rfl ?hH ?hn ?hb ?_)
   case own=>exact g9.o
   case hH=>rfl
   case hn=>omega
   case hb=>exact h8.o.size
   intro g5 c5 w5 i8 k7 o3;have r3:Hid (Up w2 w5):=Nj h8.o g9.o k7 h8.o.size;have r5:Hid (w5.ownsRow w2.heap.size 9 1 (.slice (some ⟨g5,0,none⟩) (k+1) c5) (k+1) (strsC (J.take (k+1)))):=by
    have hl:=c8.o;unfold Hid;rw[Hj (by omega),n3.o (by omega),n7.o];exact i8
   clear i8 k7 o3
   go_wp2
   go_roundw
   case rel=>exact⟨k+1,by omega,by go_num,r5.o,fun j hj h2=>by
    rcases J1.1 h2 with h|rfl
    ·exact HP.o j hj h
    exact r9.o,r3.o⟩
   simp[intOf];omega
  have FR:Hid (U6 S num F T n ⟨o,so,K,a,b,A⟩=false):=by
   unfold Hid U6;have:Xp n ⟨o,so,K,a,b,A⟩=false:=by
    unfold Xp;rw[J8];intro h;exact hx (by simpa using Jt.1 h A[k] (Jo g2))
   rw[this,Y1,Uc]
  generalize A[k]=x at cx hx
  by_cases s8:x<0
  ·clear hx
   go_wp2
   go_ret
   exact⟨Oy FR.o.symm,E.o⟩
  have x6:(n:Int)<=x:=by omega
  have x7:¬ x<0:=s8;clear hx
  go_wp2
  go_ret
  exact⟨Oy FR.o.symm,E.o⟩
 obtain rfl:k=A.length:=by omega
 have n2:Hid (Xp n ⟨o,so,K,a,b,A⟩=true):=by
  unfold Hid Xp;rw[Jt];intro x hx;obtain⟨j,hj,rfl⟩:=J6 hx
  simpa using HP.o j hj hj
 have U:Hid (U6 S num F T n ⟨o,so,K,a,b,A⟩=Na (Ov (Ok S)) num F T ⟨o,so,K,a,b,A⟩ J):=by
  unfold Hid U6;rw[c6.o,n2.o,l6.o];rfl
 have o8:O3 wr (.slice p7 A.length c7) J:=by
  have h:=g9.o;rw[<-c8.o,Yk] at h;rw[<-c8.o];exact I2 h rfl
 have b3:=Hd o8;clear o8 g2 g9 hk
 go_upto_region 11 with fail
 go_cut [10] (fun s10 wx=>s10=.bool (Ox so)/\wx=wr)
 case first=>
  rcases Oj so [73,110,116] with⟨I,q0⟩|⟨I,q0⟩
  ·have F:Hid (Ox so=true):=by unfold Hid Ox;rw[Ja (show so=U8 from I)];rfl
   clear I
   go_wp2
   go_meet
   exact⟨by rw[F.o],rfl⟩
  rcases Oj so [82,101,97,108] with⟨O,q1⟩|⟨O,q1⟩
  ·have F:Hid (Ox so=true):=by unfold Hid Ox;rw[Ja (show so=Ku from O),Zz]
   clear I O
   go_wp2
   go_meet
   exact⟨by rw[F.o],rfl⟩
  have F:Hid (Ox so=false):=by unfold Hid Ox;rw[Jc (show so≠U8 from I),Jc (show so≠Ku from O)];rfl
  clear I O
  go_wp2
  go_meet
  exact⟨by rw[F.o],rfl⟩
 obtain⟨rfl,rfl⟩:=hcut;have r6:Hid (1<=o/\o<=47):=(O9 c6.o).2
 rcases (show o=1∨o=2∨o=3∨o=4∨o=5∨o=6∨o=7∨o=8∨o=9∨o=10∨o=11∨o=12∨o=13∨o=14∨o=15∨o=16∨o=17∨o=18∨o=19∨o=20∨o=21∨o=22∨o=23∨(24<=o/\o<=47) by have:=r6.o;omega) with rfl|rfl|rfl|rfl|rfl|rfl|rfl|rfl|rfl|rfl|rfl|rfl|rfl|rfl|rfl|rfl|rfl|rfl|rfl|rfl|rfl|rfl|rfl|hdf
 ·as_aux_lemma=>
  have d:Hid (U6 S num F T n ⟨1,so,K,a,b,A⟩=(decide (so=On))):=by unfold Hid;rw[U.o];rfl
  rcases Oj so [66,111,111,108] with⟨I,q0⟩|⟨I,q0⟩
  ·have G:Hid (U6 S num F T n ⟨1,so,K,a,b,A⟩=true):=by unfold Hid;rw[d.o,Ja (show so=On from I)]<;>rfl
   clear I
   go_wp2
   go_ret
   exact⟨Oy G.o.symm,E.o⟩
  have G:Hid (U6 S num F T n ⟨1,so,K,a,b,A⟩=false):=by unfold Hid;rw[d.o,Jc (show so≠On from I)]<;>rfl
  clear I
  go_wp2
  go_ret
  exact⟨Oy G.o.symm,E.o⟩
 ·as_aux_lemma=>
  have d:Hid (U6 S num F T n ⟨2,so,K,a,b,A⟩=(decide (so=On))):=by unfold Hid;rw[U.o];rfl
  rcases Oj so [66,111,111,108] with⟨I,q0⟩|⟨I,q0⟩
  ·have G:Hid (U6 S num F T n ⟨2,so,K,a,b,A⟩=true):=by unfold Hid;rw[d.o,Ja (show so=On from I)]<;>rfl
   clear I
   go_wp2
   go_ret
   exact⟨Oy G.o.symm,E.o⟩
  have G:Hid (U6 S num F T n ⟨2,so,K,a,b,A⟩=false):=by unfold Hid;rw[d.o,Jc (show so≠On from I)]<;>rfl
  clear I
  go_wp2
  go_ret
  exact⟨Oy G.o.symm,E.o⟩
 ·as_aux_lemma=>
  have d:Hid (U6 S num F T n ⟨3,so,K,a,b,A⟩=(decide (so=On)&&Kk J On)):=by unfold Hid;rw[U.o];rfl
  rcases Oj so [66,111,111,108] with⟨I,q0⟩|⟨I,q0⟩
  ·have G:Hid (U6 S num F T n ⟨3,so,K,a,b,A⟩=Kk J On):=by unfold Hid;rw[d.o,Ja (show so=On from I)]<;>rfl
   clear I
   go_wp2_with fail
   refine (Ow _ J ⟨#[66,111,111,108]⟩ _ b3.o).mono ?_;rw[show (⟨#[66,111,111,108]⟩:ByteArray).data.toList=On from rfl];generalize Kk J On=B at G ⊢;rintro e w6 ⟨rfl,rfl⟩
   go_wp2
   go_ret
   exact⟨Oy G.o.symm,E.o⟩
  have G:Hid (U6 S num F T n ⟨3,so,K,a,b,A⟩=false):=by unfold Hid;rw[d.o,Jc (show so≠On from I)]<;>rfl
  clear I
  go_wp2
  go_ret
  exact⟨Oy G.o.symm,E.o⟩
 ·as_aux_lemma=>
  have d:Hid (U6 S num F T n ⟨4,so,K,a,b,A⟩=(decide (so=On)&&Kk J On)):=by unfold Hid;rw[U.o];rfl
  rcases Oj so [66,111,111,108] with⟨I,q0⟩|⟨I,q0⟩
  ·have G:Hid (U6 S num F T n ⟨4,so,K,a,b,A⟩=Kk J On):=by unfold Hid;rw[d.o,Ja (show so=On from I)]<;>rfl
   clear I
   go_wp2_with fail
   refine (Ow _ J ⟨#[66,111,111,108]⟩ _ b3.o).mono ?_;rw[show (⟨#[66,111,111,108]⟩:ByteArray).data.toList=On from rfl];generalize Kk J On=B at G ⊢;rintro e w6 ⟨rfl,rfl⟩
   go_wp2
   go_ret
   exact⟨Oy G.o.symm,E.o⟩
  have G:Hid (U6 S num F T n ⟨4,so,K,a,b,A⟩=false):=by unfold Hid;rw[d.o,Jc (show so≠On from I)]<;>rfl
  clear I
  go_wp2
  go_ret
  exact⟨Oy G.o.symm,E.o⟩
 ·as_aux_lemma=>
  have d:Hid (U6 S num F T n ⟨5,so,K,a,b,A⟩=(decide (so=On)&&Kk J On)):=by unfold Hid;rw[U.o];rfl
  rcases Oj so [66,111,111,108] with⟨I,q0⟩|⟨I,q0⟩
  ·have G:Hid (U6 S num F T n ⟨5,so,K,a,b,A⟩=Kk J On):=by unfold Hid;rw[d.o,Ja (show so=On from I)]<;>rfl
   clear I
   go_wp2_with fail
   refine (Ow _ J ⟨#[66,111,111,108]⟩ _ b3.o).mono ?_;rw[show (⟨#[66,111,111,108]⟩:ByteArray).data.toList=On from rfl];generalize Kk J On=B at G ⊢;rintro e w6 ⟨rfl,rfl⟩
   go_wp2
   go_ret
   exact⟨Oy G.o.symm,E.o⟩
  have G:Hid (U6 S num F T n ⟨5,so,K,a,b,A⟩=false):=by unfold Hid;rw[d.o,Jc (show so≠On from I)]<;>rfl
  clear I
  go_wp2
  go_ret
  exact⟨Oy G.o.symm,E.o⟩
 ·as_aux_lemma=>
  have d:Hid (U6 S num F T n ⟨6,so,K,a,b,A⟩=(decide (so=On)&&Kk J On)):=by unfold Hid;rw[U.o];rfl
  rcases Oj so [66,111,111,108] with⟨I,q0⟩|⟨I,q0⟩
  ·have G:Hid (U6 S num F T n ⟨6,so,K,a,b,A⟩=Kk J On):=by unfold Hid;rw[d.o,Ja (show so=On from I)]<;>rfl
   clear I
   go_wp2_with fail
   refine (Ow _ J ⟨#[66,111,111,108]⟩ _ b3.o).mono ?_;rw[show (⟨#[66,111,111,108]⟩:ByteArray).data.toList=On from rfl];generalize Kk J On=B at G ⊢;rintro e w6 ⟨rfl,rfl⟩
   go_wp2
   go_ret
   exact⟨Oy G.o.symm,E.o⟩
  have G:Hid (U6 S num F T n ⟨6,so,K,a,b,A⟩=false):=by unfold Hid;rw[d.o,Jc (show so≠On from I)]<;>rfl
  clear I
  go_wp2
  go_ret
  exact⟨Oy G.o.symm,E.o⟩
 ·as_aux_lemma=>
  have d:Hid (U6 S num F T n ⟨7,so,K,a,b,A⟩=(decide (so=On)&&Kk J On)):=by unfold Hid;rw[U.o];rfl
  rcases Oj so [66,111,111,108] with⟨I,q0⟩|⟨I,q0⟩
  ·have G:Hid (U6 S num F T n ⟨7,so,K,a,b,A⟩=Kk J On):=by unfold Hid;rw[d.o,Ja (show so=On from I)]<;>rfl
   clear I
   go_wp2_with fail
   refine (Ow _ J ⟨#[66,111,111,108]⟩ _ b3.o).mono ?_;rw[show (⟨#[66,111,111,108]⟩:ByteArray).data.toList=On from rfl];generalize Kk J On=B at G ⊢;rintro e w6 ⟨rfl,rfl⟩
   go_wp2
   go_ret
   exact⟨Oy G.o.symm,E.o⟩
  have G:Hid (U6 S num F T n ⟨7,so,K,a,b,A⟩=false):=by unfold Hid;rw[d.o,Jc (show so≠On from I)]<;>rfl
  clear I
  go_wp2
  go_ret
  exact⟨Oy G.o.symm,E.o⟩
 ·as_aux_lemma=>
  have d:Hid (U6 S num F T n ⟨8,so,K,a,b,A⟩=(decide (kS J 0=On)&&decide (kS J 1=so)&&decide (kS J 2=so))):=by unfold Hid;rw[U.o];rfl
  have V:3<=A.length:=by have:=(O9 c6.o).1;simpa[Ko] using this
  have g1:3<=J.length:=by have:=c8.o;omega
  obtain⟨bs,rfl,M⟩:=K2 b3.o (by omega);have d0:=M 0 (by omega);have Y:=Nm (L:=J) (i:=0) (by omega);have g6:(0:Int)<(A.length:Int):=by omega
  have e3:=M 1 (by omega);have b7:=Nm (L:=J) (i:=1) (by omega);have j6:(1:Int)<(A.length:Int):=by omega
  have s1:=M 2 (by omega);have m6:=Nm (L:=J) (i:=2) (by omega);have x9:(2:Int)<(A.length:Int):=by omega
  rw[Y,b7,m6] at d;generalize J[0]=Z at d0 d Y;generalize J[1]=k1 at e3 d b7;generalize J[2]=k2 at s1 d m6;clear M Y b7 m6
  rcases Oj Z [66,111,111,108] with⟨I,q0⟩|⟨I,q0⟩
  ·rcases Ev k1 so with⟨O,q1⟩|⟨O,q1⟩
   ·rcases Ev k2 so with⟨p2,q2⟩|⟨p2,q2⟩
    ·have G:Hid (U6 S num F T n ⟨8,so,K,a,b,A⟩=true):=by unfold Hid;rw[d.o,Ja (show Z=On from I),Ja O,Ja p2]<;>rfl
     clear I O p2
     go_wp2
     go_quiet (fail)
     go_wp2
     go_ret
     exact⟨Oy G.o.symm,below_drewN E.o _⟩
    have G:Hid (U6 S num F T n ⟨8,so,K,a,b,A⟩=false):=by unfold Hid;rw[d.o,Ja (show Z=On from I),Ja O,Jc p2]<;>rfl
    clear I O p2
    go_wp2
    go_quiet (fail)
    go_wp2
    go_ret
    exact⟨Oy G.o.symm,below_drewN E.o _⟩
   have G:Hid (U6 S num F T n ⟨8,so,K,a,b,A⟩=false):=by unfold Hid;rw[d.o,Ja (show Z=On from I),Jc O]<;>rfl
   clear I O
   go_wp2
   go_quiet (fail)
   go_wp2
   go_ret
   exact⟨Oy G.o.symm,below_drewN E.o _⟩
  have G:Hid (U6 S num F T n ⟨8,so,K,a,b,A⟩=false):=by unfold Hid;rw[d.o,Jc (show Z≠On from I)]<;>rfl
  clear I
  go_wp2
  go_quiet (fail)
  go_wp2
  go_ret
  exact⟨Oy G.o.symm,below_drewN E.o _⟩
 ·as_aux_lemma=>
  have d:Hid (U6 S num F T n ⟨9,so,K,a,b,A⟩=(decide (so=On)&&Kk J (kS J 0))):=by unfold Hid;rw[U.o];rfl
  have V:2<=A.length:=by have:=(O9 c6.o).1;simpa[Ko] using this
  have g1:2<=J.length:=by have:=c8.o;omega
  obtain⟨bs,rfl,M⟩:=K2 b3.o (by omega);have d0:=M 0 (by omega);have Y:=Nm (L:=J) (i:=0) (by omega);have g6:(0:Int)<(A.length:Int):=by omega
  rw[Y] at d;generalize J[0]=Z at d0 d Y;clear M Y
  rcases Oj so [66,111,111,108] with⟨I,q0⟩|⟨I,q0⟩
  ·have G:Hid (U6 S num F T n ⟨9,so,K,a,b,A⟩=Kk J Z):=by unfold Hid;rw[d.o,Ja (show so=On from I)]<;>rfl
   clear I
   go_wp2_with fail
   refine (Ow _ J (Oo Z) _ b3.o).mono ?_;rw[Ou];generalize Kk J Z=B at G ⊢;rintro e w6 ⟨rfl,rfl⟩
   go_wp2
   go_ret
   exact⟨Oy G.o.symm,E.o⟩
  have G:Hid (U6 S num F T n ⟨9,so,K,a,b,A⟩=false):=by unfold Hid;rw[d.o,Jc (show so≠On from I)]<;>rfl
  clear I
  go_wp2
  go_ret
  exact⟨Oy G.o.symm,E.o⟩
 ·as_aux_lemma=>
  have d:Hid (U6 S num F T n ⟨10,so,K,a,b,A⟩=(decide (so=On)&&Kk J (kS J 0))):=by unfold Hid;rw[U.o];rfl
  have V:2<=A.length:=by have:=(O9 c6.o).1;simpa[Ko] using this
  have g1:2<=J.length:=by have:=c8.o;omega
  obtain⟨bs,rfl,M⟩:=K2 b3.o (by omega);have d0:=M 0 (by omega);have Y:=Nm (L:=J) (i:=0) (by omega);have g6:(0:Int)<(A.length:Int):=by omega
  rw[Y] at d;generalize J[0]=Z at d0 d Y;clear M Y
  rcases Oj so [66,111,111,108] with⟨I,q0⟩|⟨I,q0⟩
  ·have G:Hid (U6 S num F T n ⟨10,so,K,a,b,A⟩=Kk J Z):=by unfold Hid;rw[d.o,Ja (show so=On from I)]<;>rfl
   clear I
   go_wp2_with fail
   refine (Ow _ J (Oo Z) _ b3.o).mono ?_;rw[Ou];generalize Kk J Z=B at G ⊢;rintro e w6 ⟨rfl,rfl⟩
   go_wp2
   go_ret
   exact⟨Oy G.o.symm,E.o⟩
  have G:Hid (U6 S num F T n ⟨10,so,K,a,b,A⟩=false):=by unfold Hid;rw[d.o,Jc (show so≠On from I)]<;>rfl
  clear I
  go_wp2
  go_ret
  exact⟨Oy G.o.symm,E.o⟩
 ·as_aux_lemma=>
  have d:Hid (U6 S num F T n ⟨11,so,K,a,b,A⟩=Cs F ⟨11,so,K,a,b,A⟩ J):=by unfold Hid;rw[U.o];rfl
  go_wp2_with fail
  refine (Ph vs vf vt F (Oo K) _ (HF.o.bl E.o)).mono ?_;rw[Ou];rintro e w6 ⟨rfl,d3⟩;have d6:=E.up d3;have r7:=Hd (b3.o.bl d3);have o9:=m5.o.bl m5.o.lt d3;have d7:=d9.o.bl d9.o.lt d3;obtain⟨b0,b1,b2⟩:=o9.c3;obtain⟨t0,t1⟩:=d7.k2;clear d3 o9 d7
  cases e9:Od F K with
  | none=>
    have e1:Hc F K = -1:=by unfold Hc;rw[e9]
    have G:Hid (U6 S num F T n ⟨11,so,K,a,b,A⟩=false):=by unfold Hid;rw[d.o];unfold Cs;simp only;rw[e9]
    rw[e1];clear e1 e9
    go_wp2
    go_quiet (fail)
    go_wp2
    go_ret
    exact⟨Oy G.o.symm,below_drewN d6.o _⟩
  | some i=>
    have e1:Hc F K=(i:Int):=by unfold Hc;rw[e9]
    have hi:i<F.length:=by
     unfold Od at e9;exact (Zk.1 e9).1
    have h0:Hid (U6 S num F T n ⟨11,so,K,a,b,A⟩=(decide (so=F[i].sort)&&decide (J=F[i].args))):=by unfold Hid;rw[d.o];unfold Cs;simp only;rw[e9];simp only;rw[Jd hi]
    rw[e1];clear e1 e9 d;obtain⟨pf,cf,rfl,x5,s5,s6⟩:=HF.o;unfold maxLen at s5
    rcases s6 with e0|⟨bf,rfl,o4,o6⟩
    ·rw[e0] at hi;cases hi
    obtain⟨Z,⟨va,k1,pa,ca,rfl,x4,s3,o2⟩,k2⟩:=o6 i hi;have k1:=(d6.o.cell (p:=⟨bf,i*3+1,none⟩) o4).trans k1;have k2:=(d6.o.cell (p:=⟨bf,i*3+2,none⟩) o4).trans k2;have q9:=Hd o2;unfold maxLen at s3;clear o6 Z o2;generalize F[i]=x at *;have j0:(0:Int)<=(i:Int):=by omega
    have j1:(i:Int)<(F.length:Int):=by omega
    have j2:((i:Int)<0)=False:=by simp
    rcases Ev so x.sort with⟨I,q0⟩|⟨I,q0⟩
    ·by_cases O:(A.length:Int)=(x.args.length:Int)
     ·have q1:=Nr O;have q2:((A.length:Int)==(x.args.length:Int))=true:=by simp[O]
      have P1:=Hd O;have n8:Hid (U6 S num F T n ⟨11,so,K,a,b,A⟩=decide (J=x.args)):=by unfold Hid;rw[h0.o,Ja I];rfl
      clear I O h0
      go_wp2
      go_quiet (fail)
      go_wp2_with fail
      clear b0 b2 t0 t1
      go_loopw [138] (fun i wr=>∃ k:Nat,k<=A.length/\i=.int .i64 (k:Nat)/\(∀ j (h:j<J.length) (h':j<x.args.length),j<k->J[j]=x.args[j])/\Up w6 wr) (fun i _=>A.length - (intOf i).toNat)
      case atStart=>exact⟨0,Jr _,rfl,fun j _ _ h=>absurd h (J2 _),below_drewN (Je _ _) _⟩
      obtain⟨k,hk,rfl,o7,d1⟩:=hrel;have n5:=Hd o7;have l5:=d6.up d1;have b1:=(d1.cell (p:=⟨w.heap.size,1,none⟩) (J5 _ _ b1)).trans b1;have k1:=(d1.cell (p:=⟨bf,i*3+1,none⟩) (J5 _ _ k1)).trans k1;have r8:=Hd (r7.o.bl d1);have h8:=Hd d1;clear o7 d1
      by_cases g2:k<A.length
      ·have s7:k<J.length:=by rw[c8.o];exact g2
       have V:k<x.args.length:=by have:=P1.o;omega
       obtain⟨bs,rfl,M⟩:=K2 r8.o (by omega);have ck:=M k s7
       rcases q9.o with e0|⟨ba,rfl,s4,o5⟩
       ·rw[e0] at V;cases V
       have o0:=(l5.o.cell (p:=⟨ba,k,none⟩) s4).trans (o5 k V);clear M o5;have i0:(0:Int)<=(k:Int):=by omega
       have i1:(k:Int)<(A.length:Int):=by omega
       have i2:(k:Int)<(x.args.length:Int):=by omega
       rcases Ev J[k] x.args[k] with⟨p2,q4⟩|⟨p2,q4⟩
       ·have HN:=Hd p2;clear p2;generalize J[k]=ya at ck q4;generalize x.args[k]=yb at o0 q4
        go_wp2
        go_quiet (fail)
        go_wp2
        go_roundw
        case rel=>exact⟨k+1,by omega,by go_num,fun j hj hj' h2=>by
         rcases J1.1 h2 with h|rfl
         ·exact n5.o j hj hj' h
         exact HN.o,below_drewN h8.o _⟩
        simp[intOf];omega
       have G:Hid (U6 S num F T n ⟨11,so,K,a,b,A⟩=false):=by
        unfold Hid;rw[n8.o,Jj];intro e;exact p2 (by simp[e])
       clear p2;generalize J[k]=ya at ck q4;generalize x.args[k]=yb at o0 q4
       go_wp2
       go_quiet (fail)
       go_wp2
       go_ret
       exact⟨Oy G.o.symm,below_drewN l5.o _⟩
      have G:Hid (U6 S num F T n ⟨11,so,K,a,b,A⟩=true):=by
       unfold Hid;rw[n8.o,Ju];have h1:=c8.o;have h2:=P1.o;exact Ue (by omega) (fun j h1 h2=>n5.o j h1 h2 (by omega))
      have z3:¬ (k:Int)<(A.length:Int):=by omega
      go_wp2
      go_ret
      exact⟨Oy G.o.symm,l5.o⟩
     have q1:=K3 O;have q2:((A.length:Int)==(x.args.length:Int))=false:=by rw[Jb];exact O
     have G:Hid (U6 S num F T n ⟨11,so,K,a,b,A⟩=false):=by
      unfold Hid;rw[h0.o,Ja I,Jc (fun e=>O (by rw[<-e,c8.o]))];rfl
     clear I O h0
     go_wp2
     go_quiet (fail)
     go_wp2
     go_ret
     exact⟨Oy G.o.symm,below_drewN d6.o _⟩
    have G:Hid (U6 S num F T n ⟨11,so,K,a,b,A⟩=false):=by unfold Hid;rw[h0.o,Jc I];rfl
    clear I h0
    go_wp2
    go_quiet (fail)
    go_wp2
    go_ret
    exact⟨Oy G.o.symm,below_drewN d6.o _⟩
 ·as_aux_lemma=>
  have d:Hid (U6 S num F T n ⟨12,so,K,a,b,A⟩=num ⟨12,so,K,a,b,A⟩):=by unfold Hid;rw[U.o];rfl
  generalize num ⟨12,so,K,a,b,A⟩=B at d j8
  go_wp2_with fail
  refine (j8.o _ E.o).mono ?_;rintro e w6 ⟨rfl,d3⟩;have d6:=E.up d3;clear d3
  go_wp2
  go_ret
  exact⟨Oy d.o.symm,d6.o⟩
 ·as_aux_lemma=>
  have d:Hid (U6 S num F T n ⟨13,so,K,a,b,A⟩=(Ox so&&Kk J so)):=by unfold Hid;rw[U.o];rfl
  cases b5:Ox so
  ·have G:Hid (U6 S num F T n ⟨13,so,K,a,b,A⟩=false):=by unfold Hid;rw[d.o,b5];rfl
   rw[b5] at d;clear b5
   go_wp2
   go_ret
   exact⟨Oy G.o.symm,E.o⟩
  rw[b5] at d;clear b5;have G:Hid (U6 S num F T n ⟨13,so,K,a,b,A⟩=Kk J so):=by unfold Hid;rw[d.o];rfl
  go_wp2_with fail
  refine (Ow _ J (Oo so) _ b3.o).mono ?_;rw[Ou];generalize Kk J so=B at G d ⊢;rintro e w6 ⟨rfl,rfl⟩
  go_wp2
  go_ret
  exact⟨Oy G.o.symm,E.o⟩
 ·as_aux_lemma=>
  have d:Hid (U6 S num F T n ⟨14,so,K,a,b,A⟩=(Ox so&&Kk J so)):=by unfold Hid;rw[U.o];rfl
  cases b5:Ox so
  ·have G:Hid (U6 S num F T n ⟨14,so,K,a,b,A⟩=false):=by unfold Hid;rw[d.o,b5];rfl
   rw[b5] at d;clear b5
   go_wp2
   go_ret
   exact⟨Oy G.o.symm,E.o⟩
  rw[b5] at d;clear b5;have G:Hid (U6 S num F T n ⟨14,so,K,a,b,A⟩=Kk J so):=by unfold Hid;rw[d.o];rfl
  go_wp2_with fail
  refine (Ow _ J (Oo so) _ b3.o).mono ?_;rw[Ou];generalize Kk J so=B at G d ⊢;rintro e w6 ⟨rfl,rfl⟩
  go_wp2
  go_ret
  exact⟨Oy G.o.symm,E.o⟩
 ·as_aux_lemma=>
  have d:Hid (U6 S num F T n ⟨15,so,K,a,b,A⟩=(Ox so&&Kk J so)):=by unfold Hid;rw[U.o];rfl
  cases b5:Ox so
  ·have G:Hid (U6 S num F T n ⟨15,so,K,a,b,A⟩=false):=by unfold Hid;rw[d.o,b5];rfl
   rw[b5] at d;clear b5
   go_wp2
   go_ret
   exact⟨Oy G.o.symm,E.o⟩
  rw[b5] at d;clear b5;have G:Hid (U6 S num F T n ⟨15,so,K,a,b,A⟩=Kk J so):=by unfold Hid;rw[d.o];rfl
  go_wp2_with fail
  refine (Ow _ J (Oo so) _ b3.o).mono ?_;rw[Ou];generalize Kk J so=B at G d ⊢;rintro e w6 ⟨rfl,rfl⟩
  go_wp2
  go_ret
  exact⟨Oy G.o.symm,E.o⟩
 ·as_aux_lemma=>
  have d:Hid (U6 S num F T n ⟨16,so,K,a,b,A⟩=(Ox so&&Kk J so&&decide ((Ke T (A.headD 0)).op=12))):=by unfold Hid;rw[U.o];rfl
  rw[show A.headD 0=(A[0]?).getD 0 by cases A<;>rfl] at d;have k8:2<=A.length:=by have:=(O9 c6.o).1;simpa[Ko] using this
  have V:0<A.length:=by omega
  rcases HK.o with e0|⟨bq,rfl,f9,e8⟩
  ·rw[e0] at V;cases V
  have cx:=(E.o.cell (p:=⟨bq,0,none⟩) f9).trans (e8 0 V);clear e8;have hx:=HP.o 0 V V;have p4:(0:Int)<(A.length:Int):=by omega
  have e7:(A[0]?).getD 0=A[0]:=by rw[Jd V];rfl
  rw[e7] at d;obtain⟨y,hy⟩:∃ y:Nat,A[0]=(y:Int):=⟨A[0].toNat,by omega⟩;rw[hy] at cx hx d;clear hy e7;obtain⟨pt,ct,rfl,m8,g3,g4⟩:=HT.o;unfold maxLen at g3
  rcases g4 with e0|⟨bt,rfl,b6,M⟩
  ·rw[e0] at hn;simp at hn;omega
  have d4:y<T.length:=by omega
  obtain⟨c0,c1,c2,c3,c4,va,c5,pa,ca,rfl,-,-,-⟩:=M y d4;have c0:=(E.o.cell (p:=⟨bt,y*6,none⟩) b6).trans c0;have c1:=(E.o.cell (p:=⟨bt,y*6+1,none⟩) b6).trans c1;have c2:=(E.o.cell (p:=⟨bt,y*6+2,none⟩) b6).trans c2;have c3:=(E.o.cell (p:=⟨bt,y*6+3,none⟩) b6).trans c3;have c4:=(E.o.cell (p:=⟨bt,y*6+4,none⟩) b6).trans c4;have c5:=(E.o.cell (p:=⟨bt,y*6+5,none⟩) b6).trans c5;clear M;rw[Sk d4] at d;generalize T[y]=u at c0 c1 c2 c3 c4 c5 d;have i2:(y:Int)<(T.length:Int):=by omega
  have i4:(0:Int)<=(y:Int):=by omega
  cases b5:Ox so
  ·have G:Hid (U6 S num F T n ⟨16,so,K,a,b,A⟩=false):=by unfold Hid;rw[d.o,b5];rfl
   rw[b5] at d;clear b5
   go_wp2
   go_quiet (fail)
   go_wp2
   go_ret
   exact⟨Oy G.o.symm,below_drewN E.o _⟩
  rw[b5] at d;clear b5
  cases a7:Kk J so
  ·have b9:=Hd a7;have G:Hid (U6 S num F T n ⟨16,so,K,a,b,A⟩=false):=by unfold Hid;rw[d.o,a7];rfl
   clear a7
   go_wp2
   go_quiet (first|(go_at_call 71;refine Calls.quiet_of_same ((Ow _ J (Oo so) (wc.drewN _) (b3.o.bl (below_drewN (Je _ _) _))).mono (fun e w6 h=>⟨h.1.trans (by rw[Ou,b9.o]),h.2⟩))))
   go_wp2
   go_ret
   exact⟨Oy G.o.symm,below_drewN E.o _⟩
  have b9:=Hd a7
  rcases Kr u.op 12 with⟨I,q0⟩|⟨I,q0⟩
  ·have G:Hid (U6 S num F T n ⟨16,so,K,a,b,A⟩=true):=by unfold Hid;rw[d.o,a7,Ja I];rfl
   clear a7 I
   go_wp2
   go_quiet (first|(go_at_call 71;refine Calls.quiet_of_same ((Ow _ J (Oo so) (wc.drewN _) (b3.o.bl (below_drewN (Je _ _) _))).mono (fun e w6 h=>⟨h.1.trans (by rw[Ou,b9.o]),h.2⟩))))
   go_wp2
   go_ret
   exact⟨Oy G.o.symm,below_drewN E.o _⟩
  have G:Hid (U6 S num F T n ⟨16,so,K,a,b,A⟩=false):=by unfold Hid;rw[d.o,a7,Jc I];rfl
  clear a7 I
  go_wp2
  go_quiet (first|(go_at_call 71;refine Calls.quiet_of_same ((Ow _ J (Oo so) (wc.drewN _) (b3.o.bl (below_drewN (Je _ _) _))).mono (fun e w6 h=>⟨h.1.trans (by rw[Ou,b9.o]),h.2⟩))))
  go_wp2
  go_ret
  exact⟨Oy G.o.symm,below_drewN E.o _⟩
 ·as_aux_lemma=>
  have d:Hid (U6 S num F T n ⟨17,so,K,a,b,A⟩=(decide (so=On)&&decide (kS J 0=kS J 1)&&Ox (kS J 0))):=by unfold Hid;rw[U.o];rfl
  have V:2<=A.length:=by have:=(O9 c6.o).1;simpa[Ko] using this
  have g1:2<=J.length:=by have:=c8.o;omega
  obtain⟨bs,rfl,M⟩:=K2 b3.o (by omega);have d0:=M 0 (by omega);have Y:=Nm (L:=J) (i:=0) (by omega);have g6:(0:Int)<(A.length:Int):=by omega
  have e3:=M 1 (by omega);have b7:=Nm (L:=J) (i:=1) (by omega);have j6:(1:Int)<(A.length:Int):=by omega
  rw[Y,b7] at d;generalize J[0]=Z at d0 d Y;generalize J[1]=k1 at e3 d b7;clear M Y b7
  rcases Oj so [66,111,111,108] with⟨I,q0⟩|⟨I,q0⟩
  ·rcases Ev Z k1 with⟨O,q1⟩|⟨O,q1⟩
   ·rcases Oj Z [73,110,116] with⟨p2,q2⟩|⟨p2,q2⟩
    ·have G:Hid (U6 S num F T n ⟨17,so,K,a,b,A⟩=true):=by unfold Hid;rw[d.o,Ja (show so=On from I),Ja O,show Ox Z=true by unfold Ox;rw[Ja (show Z=U8 from p2)];rfl];rfl
     clear I O p2
     go_wp2
     go_quiet (fail)
     go_wp2
     go_ret
     exact⟨Oy G.o.symm,below_drewN E.o _⟩
    rcases Oj Z [82,101,97,108] with⟨p3,q3⟩|⟨p3,q3⟩
    ·have G:Hid (U6 S num F T n ⟨17,so,K,a,b,A⟩=true):=by unfold Hid;rw[d.o,Ja (show so=On from I),Ja O,show Ox Z=true by unfold Ox;rw[Ja (show Z=Ku from p3),Zz]];rfl
     clear I O p2 p3
     go_wp2
     go_quiet (fail)
     go_wp2
     go_ret
     exact⟨Oy G.o.symm,below_drewN E.o _⟩
    have G:Hid (U6 S num F T n ⟨17,so,K,a,b,A⟩=false):=by unfold Hid;rw[d.o,Ja (show so=On from I),Ja O,show Ox Z=false by unfold Ox;rw[Jc (show Z≠U8 from p2),Jc (show Z≠Ku from p3)];rfl];rfl
    clear I O p2 p3
    go_wp2
    go_quiet (fail)
    go_wp2
    go_ret
    exact⟨Oy G.o.symm,below_drewN E.o _⟩
   have G:Hid (U6 S num F T n ⟨17,so,K,a,b,A⟩=false):=by unfold Hid;rw[d.o,Ja (show so=On from I),Jc O]<;>rfl
   clear I O
   go_wp2
   go_quiet (fail)
   go_wp2
   go_ret
   exact⟨Oy G.o.symm,below_drewN E.o _⟩
  have G:Hid (U6 S num F T n ⟨17,so,K,a,b,A⟩=false):=by unfold Hid;rw[d.o,Jc (show so≠On from I)]<;>rfl
  clear I
  go_wp2
  go_quiet (fail)
  go_wp2
  go_ret
  exact⟨Oy G.o.symm,below_drewN E.o _⟩
 ·as_aux_lemma=>
  have d:Hid (U6 S num F T n ⟨18,so,K,a,b,A⟩=(decide (so=On)&&decide (kS J 0=kS J 1)&&Ox (kS J 0))):=by unfold Hid;rw[U.o];rfl
  have V:2<=A.length:=by have:=(O9 c6.o).1;simpa[Ko] using this
  have g1:2<=J.length:=by have:=c8.o;omega
  obtain⟨bs,rfl,M⟩:=K2 b3.o (by omega);have d0:=M 0 (by omega);have Y:=Nm (L:=J) (i:=0) (by omega);have g6:(0:Int)<(A.length:Int):=by omega
  have e3:=M 1 (by omega);have b7:=Nm (L:=J) (i:=1) (by omega);have j6:(1:Int)<(A.length:Int):=by omega
  rw[Y,b7] at d;generalize J[0]=Z at d0 d Y;generalize J[1]=k1 at e3 d b7;clear M Y b7
  rcases Oj so [66,111,111,108] with⟨I,q0⟩|⟨I,q0⟩
  ·rcases Ev Z k1 with⟨O,q1⟩|⟨O,q1⟩
   ·rcases Oj Z [73,110,116] with⟨p2,q2⟩|⟨p2,q2⟩
    ·have G:Hid (U6 S num F T n ⟨18,so,K,a,b,A⟩=true):=by unfold Hid;rw[d.o,Ja (show so=On from I),Ja O,show Ox Z=true by unfold Ox;rw[Ja (show Z=U8 from p2)];rfl];rfl
     clear I O p2
     go_wp2
     go_quiet (fail)
     go_wp2
     go_ret
     exact⟨Oy G.o.symm,below_drewN E.o _⟩
    rcases Oj Z [82,101,97,108] with⟨p3,q3⟩|⟨p3,q3⟩
    ·have G:Hid (U6 S num F T n ⟨18,so,K,a,b,A⟩=true):=by unfold Hid;rw[d.o,Ja (show so=On from I),Ja O,show Ox Z=true by unfold Ox;rw[Ja (show Z=Ku from p3),Zz]];rfl
     clear I O p2 p3
     go_wp2
     go_quiet (fail)
     go_wp2
     go_ret
     exact⟨Oy G.o.symm,below_drewN E.o _⟩
    have G:Hid (U6 S num F T n ⟨18,so,K,a,b,A⟩=false):=by unfold Hid;rw[d.o,Ja (show so=On from I),Ja O,show Ox Z=false by unfold Ox;rw[Jc (show Z≠U8 from p2),Jc (show Z≠Ku from p3)];rfl];rfl
    clear I O p2 p3
    go_wp2
    go_quiet (fail)
    go_wp2
    go_ret
    exact⟨Oy G.o.symm,below_drewN E.o _⟩
   have G:Hid (U6 S num F T n ⟨18,so,K,a,b,A⟩=false):=by unfold Hid;rw[d.o,Ja (show so=On from I),Jc O]<;>rfl
   clear I O
   go_wp2
   go_quiet (fail)
   go_wp2
   go_ret
   exact⟨Oy G.o.symm,below_drewN E.o _⟩
  have G:Hid (U6 S num F T n ⟨18,so,K,a,b,A⟩=false):=by unfold Hid;rw[d.o,Jc (show so≠On from I)]<;>rfl
  clear I
  go_wp2
  go_quiet (fail)
  go_wp2
  go_ret
  exact⟨Oy G.o.symm,below_drewN E.o _⟩
 ·as_aux_lemma=>
  have d:Hid (U6 S num F T n ⟨19,so,K,a,b,A⟩=(decide (so=On)&&decide (kS J 0=kS J 1)&&Ox (kS J 0))):=by unfold Hid;rw[U.o];rfl
  have V:2<=A.length:=by have:=(O9 c6.o).1;simpa[Ko] using this
  have g1:2<=J.length:=by have:=c8.o;omega
  obtain⟨bs,rfl,M⟩:=K2 b3.o (by omega);have d0:=M 0 (by omega);have Y:=Nm (L:=J) (i:=0) (by omega);have g6:(0:Int)<(A.length:Int):=by omega
  have e3:=M 1 (by omega);have b7:=Nm (L:=J) (i:=1) (by omega);have j6:(1:Int)<(A.length:Int):=by omega
  rw[Y,b7] at d;generalize J[0]=Z at d0 d Y;generalize J[1]=k1 at e3 d b7;clear M Y b7
  rcases Oj so [66,111,111,108] with⟨I,q0⟩|⟨I,q0⟩
  ·rcases Ev Z k1 with⟨O,q1⟩|⟨O,q1⟩
   ·rcases Oj Z [73,110,116] with⟨p2,q2⟩|⟨p2,q2⟩
    ·have G:Hid (U6 S num F T n ⟨19,so,K,a,b,A⟩=true):=by unfold Hid;rw[d.o,Ja (show so=On from I),Ja O,show Ox Z=true by unfold Ox;rw[Ja (show Z=U8 from p2)];rfl];rfl
     clear I O p2
     go_wp2
     go_quiet (fail)
     go_wp2
     go_ret
     exact⟨Oy G.o.symm,below_drewN E.o _⟩
    rcases Oj Z [82,101,97,108] with⟨p3,q3⟩|⟨p3,q3⟩
    ·have G:Hid (U6 S num F T n ⟨19,so,K,a,b,A⟩=true):=by unfold Hid;rw[d.o,Ja (show so=On from I),Ja O,show Ox Z=true by unfold Ox;rw[Ja (show Z=Ku from p3),Zz]];rfl
     clear I O p2 p3
     go_wp2
     go_quiet (fail)
     go_wp2
     go_ret
     exact⟨Oy G.o.symm,below_drewN E.o _⟩
    have G:Hid (U6 S num F T n ⟨19,so,K,a,b,A⟩=false):=by unfold Hid;rw[d.o,Ja (show so=On from I),Ja O,show Ox Z=false by unfold Ox;rw[Jc (show Z≠U8 from p2),Jc (show Z≠Ku from p3)];rfl];rfl
    clear I O p2 p3
    go_wp2
    go_quiet (fail)
    go_wp2
    go_ret
    exact⟨Oy G.o.symm,below_drewN E.o _⟩
   have G:Hid (U6 S num F T n ⟨19,so,K,a,b,A⟩=false):=by unfold Hid;rw[d.o,Ja (show so=On from I),Jc O]<;>rfl
   clear I O
   go_wp2
   go_quiet (fail)
   go_wp2
   go_ret
   exact⟨Oy G.o.symm,below_drewN E.o _⟩
  have G:Hid (U6 S num F T n ⟨19,so,K,a,b,A⟩=false):=by unfold Hid;rw[d.o,Jc (show so≠On from I)]<;>rfl
  clear I
  go_wp2
  go_quiet (fail)
  go_wp2
  go_ret
  exact⟨Oy G.o.symm,below_drewN E.o _⟩
 ·as_aux_lemma=>
  have d:Hid (U6 S num F T n ⟨20,so,K,a,b,A⟩=(decide (so=On)&&decide (kS J 0=kS J 1)&&Ox (kS J 0))):=by unfold Hid;rw[U.o];rfl
  have V:2<=A.length:=by have:=(O9 c6.o).1;simpa[Ko] using this
  have g1:2<=J.length:=by have:=c8.o;omega
  obtain⟨bs,rfl,M⟩:=K2 b3.o (by omega);have d0:=M 0 (by omega);have Y:=Nm (L:=J) (i:=0) (by omega);have g6:(0:Int)<(A.length:Int):=by omega
  have e3:=M 1 (by omega);have b7:=Nm (L:=J) (i:=1) (by omega);have j6:(1:Int)<(A.length:Int):=by omega
  rw[Y,b7] at d;generalize J[0]=Z at d0 d Y;generalize J[1]=k1 at e3 d b7;clear M Y b7
  rcases Oj so [66,111,111,108] with⟨I,q0⟩|⟨I,q0⟩
  ·rcases Ev Z k1 with⟨O,q1⟩|⟨O,q1⟩
   ·rcases Oj Z [73,110,116] with⟨p2,q2⟩|⟨p2,q2⟩
    ·have G:Hid (U6 S num F T n ⟨20,so,K,a,b,A⟩=true):=by unfold Hid;rw[d.o,Ja (show so=On from I),Ja O,show Ox Z=true by unfold Ox;rw[Ja (show Z=U8 from p2)];rfl];rfl
     clear I O p2
     go_wp2
     go_quiet (fail)
     go_wp2
     go_ret
     exact⟨Oy G.o.symm,below_drewN E.o _⟩
    rcases Oj Z [82,101,97,108] with⟨p3,q3⟩|⟨p3,q3⟩
    ·have G:Hid (U6 S num F T n ⟨20,so,K,a,b,A⟩=true):=by unfold Hid;rw[d.o,Ja (show so=On from I),Ja O,show Ox Z=true by unfold Ox;rw[Ja (show Z=Ku from p3),Zz]];rfl
     clear I O p2 p3
     go_wp2
     go_quiet (fail)
     go_wp2
     go_ret
     exact⟨Oy G.o.symm,below_drewN E.o _⟩
    have G:Hid (U6 S num F T n ⟨20,so,K,a,b,A⟩=false):=by unfold Hid;rw[d.o,Ja (show so=On from I),Ja O,show Ox Z=false by unfold Ox;rw[Jc (show Z≠U8 from p2),Jc (show Z≠Ku from p3)];rfl];rfl
    clear I O p2 p3
    go_wp2
    go_quiet (fail)
    go_wp2
    go_ret
    exact⟨Oy G.o.symm,below_drewN E.o _⟩
   have G:Hid (U6 S num F T n ⟨20,so,K,a,b,A⟩=false):=by unfold Hid;rw[d.o,Ja (show so=On from I),Jc O]<;>rfl
   clear I O
   go_wp2
   go_quiet (fail)
   go_wp2
   go_ret
   exact⟨Oy G.o.symm,below_drewN E.o _⟩
  have G:Hid (U6 S num F T n ⟨20,so,K,a,b,A⟩=false):=by unfold Hid;rw[d.o,Jc (show so≠On from I)]<;>rfl
  clear I
  go_wp2
  go_quiet (fail)
  go_wp2
  go_ret
  exact⟨Oy G.o.symm,below_drewN E.o _⟩
 ·as_aux_lemma=>
  have d:Hid (U6 S num F T n ⟨21,so,K,a,b,A⟩=(decide (so=U8)&&Kk J U8&&decide ((Ke T ((A[1]?).getD 0)).op=12)&&decide ((Ke T ((A[1]?).getD 0)).text≠[48]))):=by unfold Hid;rw[U.o];rfl
  have k8:2<=A.length:=by have:=(O9 c6.o).1;simpa[Ko] using this
  have V:1<A.length:=by omega
  rcases HK.o with e0|⟨bq,rfl,f9,e8⟩
  ·rw[e0] at V;cases V
  have cx:=(E.o.cell (p:=⟨bq,1,none⟩) f9).trans (e8 1 V);clear e8;have hx:=HP.o 1 V V;have p4:(1:Int)<(A.length:Int):=by omega
  have e7:(A[1]?).getD 0=A[1]:=by rw[Jd V];rfl
  rw[e7] at d;obtain⟨y,hy⟩:∃ y:Nat,A[1]=(y:Int):=⟨A[1].toNat,by omega⟩;rw[hy] at cx hx d;clear hy e7;obtain⟨pt,ct,rfl,m8,g3,g4⟩:=HT.o;unfold maxLen at g3
  rcases g4 with e0|⟨bt,rfl,b6,M⟩
  ·rw[e0] at hn;simp at hn;omega
  have d4:y<T.length:=by omega
  obtain⟨c0,c1,c2,c3,c4,va,c5,pa,ca,rfl,-,-,-⟩:=M y d4;have c0:=(E.o.cell (p:=⟨bt,y*6,none⟩) b6).trans c0;have c1:=(E.o.cell (p:=⟨bt,y*6+1,none⟩) b6).trans c1;have c2:=(E.o.cell (p:=⟨bt,y*6+2,none⟩) b6).trans c2;have c3:=(E.o.cell (p:=⟨bt,y*6+3,none⟩) b6).trans c3;have c4:=(E.o.cell (p:=⟨bt,y*6+4,none⟩) b6).trans c4;have c5:=(E.o.cell (p:=⟨bt,y*6+5,none⟩) b6).trans c5;clear M;rw[Sk d4] at d;generalize T[y]=u at c0 c1 c2 c3 c4 c5 d;have i2:(y:Int)<(T.length:Int):=by omega
  have i4:(0:Int)<=(y:Int):=by omega
  obtain⟨W9,rfl⟩:∃ W9,W9=wc:=⟨_,rfl⟩;have l1:w.heap.size+1<W9.heap.size:=d9.o.lt;have l2:w.heap.size<W9.heap.size:=by omega
  have l3:bq<W9.heap.size:=by omega
  have l4:bt<W9.heap.size:=by omega
  have h9:Hid (Bx ((W9.alloc (.cells #[.int .i64 u.op,.string (Oo u.sort),.string (Oo u.text),.int .i64 u.a,.int .i64 u.b,.slice pa u.kids.length ca] 55)).drew) W9.heap.size [.int .i64 u.op,.string (Oo u.sort),.string (Oo u.text),.int .i64 u.a,.int .i64 u.b,.slice pa u.kids.length ca]):=(Oi _ _ _).drew
  go_upto_region 53 with fail
  go_cut [13] (fun s13 wx=>s13=.pointer (some ⟨W9.heap.size,0,none⟩)/\Bx wx W9.heap.size [.int .i64 u.op,.string (Oo u.sort),.string (Oo u.text),.int .i64 u.a,.int .i64 u.b,.slice pa u.kids.length ca]/\Up W9 wx)
  case first=>
   go_region
   all_goals (go_wp2;go_meet;exact⟨rfl,h9.o,(Oz _ _).drew⟩)
  obtain⟨rfl,g0,e5⟩:=hcut;have d2:=E.up e5;have d8:=Hd (b3.o.bl e5);have d7:=d9.o.bl d9.o.lt e5;have x0:=g0.cell 0;have x2:=g0.cell 2;have t0:=d7.cell 0;have t1:=d7.cell 1;simp only[Jm,Js] at x0 x2 t0 t1;clear g0 e5 d7 c0 c1 c2 c3 c4 c5 cx l1 l2 l3 l4 h9
  rcases Oj so [73,110,116] with⟨I,q0⟩|⟨I,q0⟩
  ·cases a7:Kk J U8
   ·have b9:=Hd a7;have G:Hid (U6 S num F T n ⟨21,so,K,a,b,A⟩=false):=by unfold Hid;rw[d.o,Ja (show so=U8 from I),a7];rfl
    clear a7 I
    go_wp2_with fail
    refine (Ow _ J ⟨#[73,110,116]⟩ _ d8.o).mono ?_;rw[show (⟨#[73,110,116]⟩:ByteArray).data.toList=U8 from rfl,b9.o];rintro e w6 ⟨rfl,rfl⟩
    go_wp2
    go_ret
    exact⟨Oy G.o.symm,d2.o⟩
   have b9:=Hd a7
   rcases Kr u.op 12 with⟨O,q1⟩|⟨O,q1⟩
   ·rcases Oj u.text [48] with⟨p2,q2⟩|⟨p2,q2⟩
    ·have G:Hid (U6 S num F T n ⟨21,so,K,a,b,A⟩=false):=by unfold Hid;rw[d.o,Ja (show so=U8 from I),a7,Ja O,Jc (fun h=>h p2)];rfl
     clear a7 I O p2
     go_wp2_with fail
     refine (Ow _ J ⟨#[73,110,116]⟩ _ d8.o).mono ?_;rw[show (⟨#[73,110,116]⟩:ByteArray).data.toList=U8 from rfl,b9.o];rintro e w6 ⟨rfl,rfl⟩
     go_wp2
     go_ret
     exact⟨Oy G.o.symm,d2.o⟩
    have G:Hid (U6 S num F T n ⟨21,so,K,a,b,A⟩=true):=by unfold Hid;rw[d.o,Ja (show so=U8 from I),a7,Ja O,Ja p2];rfl
    clear a7 I O p2
    go_wp2_with fail
    refine (Ow _ J ⟨#[73,110,116]⟩ _ d8.o).mono ?_;rw[show (⟨#[73,110,116]⟩:ByteArray).data.toList=U8 from rfl,b9.o];rintro e w6 ⟨rfl,rfl⟩
    go_wp2
    go_ret
    exact⟨Oy G.o.symm,d2.o⟩
   have G:Hid (U6 S num F T n ⟨21,so,K,a,b,A⟩=false):=by unfold Hid;rw[d.o,Ja (show so=U8 from I),a7,Jc O];rfl
   clear a7 I O
   go_wp2_with fail
   refine (Ow _ J ⟨#[73,110,116]⟩ _ d8.o).mono ?_;rw[show (⟨#[73,110,116]⟩:ByteArray).data.toList=U8 from rfl,b9.o];rintro e w6 ⟨rfl,rfl⟩
   go_wp2
   go_ret
   exact⟨Oy G.o.symm,d2.o⟩
  have G:Hid (U6 S num F T n ⟨21,so,K,a,b,A⟩=false):=by unfold Hid;rw[d.o,Jc (show so≠U8 from I)];rfl
  clear I
  go_wp2
  go_ret
  exact⟨Oy G.o.symm,d2.o⟩
 ·as_aux_lemma=>
  have d:Hid (U6 S num F T n ⟨22,so,K,a,b,A⟩=(decide (so=U8)&&Kk J U8&&decide ((Ke T ((A[1]?).getD 0)).op=12)&&decide ((Ke T ((A[1]?).getD 0)).text≠[48]))):=by unfold Hid;rw[U.o];rfl
  have k8:2<=A.length:=by have:=(O9 c6.o).1;simpa[Ko] using this
  have V:1<A.length:=by omega
  rcases HK.o with e0|⟨bq,rfl,f9,e8⟩
  ·rw[e0] at V;cases V
  have cx:=(E.o.cell (p:=⟨bq,1,none⟩) f9).trans (e8 1 V);clear e8;have hx:=HP.o 1 V V;have p4:(1:Int)<(A.length:Int):=by omega
  have e7:(A[1]?).getD 0=A[1]:=by rw[Jd V];rfl
  rw[e7] at d;obtain⟨y,hy⟩:∃ y:Nat,A[1]=(y:Int):=⟨A[1].toNat,by omega⟩;rw[hy] at cx hx d;clear hy e7;obtain⟨pt,ct,rfl,m8,g3,g4⟩:=HT.o;unfold maxLen at g3
  rcases g4 with e0|⟨bt,rfl,b6,M⟩
  ·rw[e0] at hn;simp at hn;omega
  have d4:y<T.length:=by omega
  obtain⟨c0,c1,c2,c3,c4,va,c5,pa,ca,rfl,-,-,-⟩:=M y d4;have c0:=(E.o.cell (p:=⟨bt,y*6,none⟩) b6).trans c0;have c1:=(E.o.cell (p:=⟨bt,y*6+1,none⟩) b6).trans c1;have c2:=(E.o.cell (p:=⟨bt,y*6+2,none⟩) b6).trans c2;have c3:=(E.o.cell (p:=⟨bt,y*6+3,none⟩) b6).trans c3;have c4:=(E.o.cell (p:=⟨bt,y*6+4,none⟩) b6).trans c4;have c5:=(E.o.cell (p:=⟨bt,y*6+5,none⟩) b6).trans c5;clear M;rw[Sk d4] at d;generalize T[y]=u at c0 c1 c2 c3 c4 c5 d;have i2:(y:Int)<(T.length:Int):=by omega
  have i4:(0:Int)<=(y:Int):=by omega
  obtain⟨W9,rfl⟩:∃ W9,W9=wc:=⟨_,rfl⟩;have l1:w.heap.size+1<W9.heap.size:=d9.o.lt;have l2:w.heap.size<W9.heap.size:=by omega
  have l3:bq<W9.heap.size:=by omega
  have l4:bt<W9.heap.size:=by omega
  have h9:Hid (Bx ((W9.alloc (.cells #[.int .i64 u.op,.string (Oo u.sort),.string (Oo u.text),.int .i64 u.a,.int .i64 u.b,.slice pa u.kids.length ca] 55)).drew) W9.heap.size [.int .i64 u.op,.string (Oo u.sort),.string (Oo u.text),.int .i64 u.a,.int .i64 u.b,.slice pa u.kids.length ca]):=(Oi _ _ _).drew
  go_upto_region 53 with fail
  go_cut [13] (fun s13 wx=>s13=.pointer (some ⟨W9.heap.size,0,none⟩)/\Bx wx W9.heap.size [.int .i64 u.op,.string (Oo u.sort),.string (Oo u.text),.int .i64 u.a,.int .i64 u.b,.slice pa u.kids.length ca]/\Up W9 wx)
  case first=>
   go_region
   all_goals (go_wp2;go_meet;exact⟨rfl,h9.o,(Oz _ _).drew⟩)
  obtain⟨rfl,g0,e5⟩:=hcut;have d2:=E.up e5;have d8:=Hd (b3.o.bl e5);have d7:=d9.o.bl d9.o.lt e5;have x0:=g0.cell 0;have x2:=g0.cell 2;have t0:=d7.cell 0;have t1:=d7.cell 1;simp only[Jm,Js] at x0 x2 t0 t1;clear g0 e5 d7 c0 c1 c2 c3 c4 c5 cx l1 l2 l3 l4 h9
  rcases Oj so [73,110,116] with⟨I,q0⟩|⟨I,q0⟩
  ·cases a7:Kk J U8
   ·have b9:=Hd a7;have G:Hid (U6 S num F T n ⟨22,so,K,a,b,A⟩=false):=by unfold Hid;rw[d.o,Ja (show so=U8 from I),a7];rfl
    clear a7 I
    go_wp2_with fail
    refine (Ow _ J ⟨#[73,110,116]⟩ _ d8.o).mono ?_;rw[show (⟨#[73,110,116]⟩:ByteArray).data.toList=U8 from rfl,b9.o];rintro e w6 ⟨rfl,rfl⟩
    go_wp2
    go_ret
    exact⟨Oy G.o.symm,d2.o⟩
   have b9:=Hd a7
   rcases Kr u.op 12 with⟨O,q1⟩|⟨O,q1⟩
   ·rcases Oj u.text [48] with⟨p2,q2⟩|⟨p2,q2⟩
    ·have G:Hid (U6 S num F T n ⟨22,so,K,a,b,A⟩=false):=by unfold Hid;rw[d.o,Ja (show so=U8 from I),a7,Ja O,Jc (fun h=>h p2)];rfl
     clear a7 I O p2
     go_wp2_with fail
     refine (Ow _ J ⟨#[73,110,116]⟩ _ d8.o).mono ?_;rw[show (⟨#[73,110,116]⟩:ByteArray).data.toList=U8 from rfl,b9.o];rintro e w6 ⟨rfl,rfl⟩
     go_wp2
     go_ret
     exact⟨Oy G.o.symm,d2.o⟩
    have G:Hid (U6 S num F T n ⟨22,so,K,a,b,A⟩=true):=by unfold Hid;rw[d.o,Ja (show so=U8 from I),a7,Ja O,Ja p2];rfl
    clear a7 I O p2
    go_wp2_with fail
    refine (Ow _ J ⟨#[73,110,116]⟩ _ d8.o).mono ?_;rw[show (⟨#[73,110,116]⟩:ByteArray).data.toList=U8 from rfl,b9.o];rintro e w6 ⟨rfl,rfl⟩
    go_wp2
    go_ret
    exact⟨Oy G.o.symm,d2.o⟩
   have G:Hid (U6 S num F T n ⟨22,so,K,a,b,A⟩=false):=by unfold Hid;rw[d.o,Ja (show so=U8 from I),a7,Jc O];rfl
   clear a7 I O
   go_wp2_with fail
   refine (Ow _ J ⟨#[73,110,116]⟩ _ d8.o).mono ?_;rw[show (⟨#[73,110,116]⟩:ByteArray).data.toList=U8 from rfl,b9.o];rintro e w6 ⟨rfl,rfl⟩
   go_wp2
   go_ret
   exact⟨Oy G.o.symm,d2.o⟩
  have G:Hid (U6 S num F T n ⟨22,so,K,a,b,A⟩=false):=by unfold Hid;rw[d.o,Jc (show so≠U8 from I)];rfl
  clear I
  go_wp2
  go_ret
  exact⟨Oy G.o.symm,d2.o⟩
 ·as_aux_lemma=>
  have d:Hid (U6 S num F T n ⟨23,so,K,a,b,A⟩=(decide (so=Ku)&&decide (kS J 0=U8))):=by unfold Hid;rw[U.o];rfl
  have V:1<=A.length:=by have:=(O9 c6.o).1;simpa[Ko] using this
  have g1:1<=J.length:=by have:=c8.o;omega
  obtain⟨bs,rfl,M⟩:=K2 b3.o (by omega);have d0:=M 0 (by omega);have Y:=Nm (L:=J) (i:=0) (by omega);have g6:(0:Int)<(A.length:Int):=by omega
  rw[Y] at d;generalize J[0]=Z at d0 d Y;clear M Y
  rcases Oj so [82,101,97,108] with⟨I,q0⟩|⟨I,q0⟩
  ·rcases Oj Z [73,110,116] with⟨O,q1⟩|⟨O,q1⟩
   ·have G:Hid (U6 S num F T n ⟨23,so,K,a,b,A⟩=true):=by unfold Hid;rw[d.o,Ja (show so=Ku from I),Ja (show Z=U8 from O)]<;>rfl
    clear I O
    go_wp2
    go_ret
    exact⟨Oy G.o.symm,E.o⟩
   have G:Hid (U6 S num F T n ⟨23,so,K,a,b,A⟩=false):=by unfold Hid;rw[d.o,Ja (show so=Ku from I),Jc (show Z≠U8 from O)]<;>rfl
   clear I O
   go_wp2
   go_ret
   exact⟨Oy G.o.symm,E.o⟩
  have G:Hid (U6 S num F T n ⟨23,so,K,a,b,A⟩=false):=by unfold Hid;rw[d.o,Jc (show so≠Ku from I)]<;>rfl
  clear I
  go_wp2
  go_ret
  exact⟨Oy G.o.symm,E.o⟩
 as_aux_lemma=>
 have a8:=Hd hdf;clear hdf;have z1:(o==1)=false:=by rw[Jb];have:=a8.o;omega
 have z2:(o==2)=false:=by rw[Jb];have:=a8.o;omega
 have z3:(o==3)=false:=by rw[Jb];have:=a8.o;omega
 have z4:(o==4)=false:=by rw[Jb];have:=a8.o;omega
 have z5:(o==5)=false:=by rw[Jb];have:=a8.o;omega
 have z6:(o==6)=false:=by rw[Jb];have:=a8.o;omega
 have z7:(o==7)=false:=by rw[Jb];have:=a8.o;omega
 have z8:(o==8)=false:=by rw[Jb];have:=a8.o;omega
 have z9:(o==9)=false:=by rw[Jb];have:=a8.o;omega
 have y4:(o==10)=false:=by rw[Jb];have:=a8.o;omega
 have y6:(o==11)=false:=by rw[Jb];have:=a8.o;omega
 have y7:(o==12)=false:=by rw[Jb];have:=a8.o;omega
 have y8:(o==13)=false:=by rw[Jb];have:=a8.o;omega
 have y9:(o==14)=false:=by rw[Jb];have:=a8.o;omega
 have A6:(o==15)=false:=by rw[Jb];have:=a8.o;omega
 have A9:(o==16)=false:=by rw[Jb];have:=a8.o;omega
 have B2:(o==17)=false:=by rw[Jb];have:=a8.o;omega
 have B6:(o==18)=false:=by rw[Jb];have:=a8.o;omega
 have B9:(o==19)=false:=by rw[Jb];have:=a8.o;omega
 have z20:(o==20)=false:=by rw[Jb];have:=a8.o;omega
 have z21:(o==21)=false:=by rw[Jb];have:=a8.o;omega
 have z22:(o==22)=false:=by rw[Jb];have:=a8.o;omega
 have D0:(o==23)=false:=by rw[Jb];have:=a8.o;omega
 have d:Hid (U6 S num F T n ⟨o,so,K,a,b,A⟩=Oh (Ov (Ok S)) ⟨o,so,K,a,b,A⟩ J):=by
  have h:=a8.o;unfold Hid;rw[U.o];unfold Na;simp only;rw[if_neg (by omega),if_neg (by omega),if_neg (by omega),if_neg (by omega),if_neg (by omega),if_neg (by omega),if_neg (by omega),if_neg (by omega),if_neg (by omega),if_neg (by omega),if_neg (by omega)]
 generalize hB:Oh (Ov (Ok S)) ⟨o,so,K,a,b,A⟩ J=B at d;have r4:=Hd hB;clear hB
 go_wp2_with fail
 refine (Dz vs vf vt S ⟨o,so,K,a,b,A⟩ _ _ J _ (HS.o.bl E.o) b3.o hzs hzt (fun k hk=>?_) ?_ a8.o).mono ?_
 ·have e:=l6.o;subst e;obtain⟨x,hx,rfl⟩:=Zh.1 hk;have h1:0<=x/\x<(n:Int):=by simpa using Jt.1 n2.o x hx
  have h2:Ke T x∈T:=by
   unfold Ke;rw[Jd (by omega)];exact Jo _
  exact HZ.o _ h2
 ·rw[c8.o];exact (O9 c6.o).1
 rw[r4.o];rintro e w6 ⟨rfl,d3⟩;have d6:=E.up d3;clear d3
 go_wp2
 go_ret
 exact⟨Oy d.o.symm,d6.o⟩
end Go.Proofs.YtdmdmgfjpomdbaaGreatDoor
