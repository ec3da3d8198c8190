import Derived.Test.YtfkagjelljnpdaaGreatDoorP45
set_option linter.all false
set_option maxRecDepth 100000
set_option maxHeartbeats 16000000
namespace Go.Proofs.YtfkagjelljnpdaaGreatDoor
open ChangeShapes WideShapes ChangeAt RowKit Proofs.Tryz
theorem B1(vs vf vt:Value)(S:List (List UInt8))(num:Tm->Bool)(F:List Fn)(T:List Tm)(n:Nat)(t:Tm)(vk:Value)(w:World)(hS:O4 w vs S)(hF:Em w vf F)(hT:TermsAt w vt T)(hk:IntsAt w vk t.kids)(hn:n<=T.length)(_hTl:T.length<=1048576)(_hFl:F.length<=1048576)(hkl:t.kids.length<=1048576)
 (hzs:t.sort.length<=1048576) (hzt:t.text.length<=1048576) (hz:∀u∈T,u.sort.length<=1048576) (hnum:∀w',Up w w'->Calls prog 69 #[.agg #[.int .i64 t.op,.string (Oo t.sort),.string (Oo t.text),.int .i64 t.a,.int .i64 t.b,vk]] w' fun e w''=>e=.returned (.bool (num t))/\Below w'.heap.size w' w'') :
 Calls prog 37 #[.agg #[vs,vf,vt],.int .i64 (n:Nat),.agg #[.int .i64 t.op,.string (Oo t.sort),.string (Oo t.text),.int .i64 t.a,.int .i64 t.b,vk]] w fun e w'=>e=.returned (.bool (Us S num F T n t))/\Up w w':=by
 obtain⟨qk,dk,rfl,o7,l9,m0⟩:=hk;obtain⟨o,so,tx,a,b,E⟩:=t;simp only at hzs hzt hkl o7 l9 m0 hnum ⊢;have HS:=Hd hS;have HF:=Hd hF;have HT:=Hd hT;have HK:=Hd m0;have HZ:=Hd hz;have j4:=Hd hnum;have HC:=Hd l9;unfold maxLen at l9;clear hS hF hT m0 hz hnum
 go_in
 go_wp2_with fail
 obtain⟨W1,g8⟩:=O2 ((w.alloc (.cells #[vs,vf,vt] 27)).alloc (.cells #[.int .i64 o,.string (Oo so),.string (Oo tx),.int .i64 a,.int .i64 b,.slice qk E.length dk] 38));have j7:Hid (Up w W1):=by unfold Hid;rw[<-g8];exact((Ji _ _).alloc leR _).alloc (by rw[Ju];omega) _
 have n1:Hid (W1.heap.size=w.heap.size+2):=by unfold Hid;rw[<-g8];simp
 have k8:Hid (Bx W1 w.heap.size [vs,vf,vt]):=by unfold Hid;rw[<-g8];exact(Oq w _ _).alloc _
 have k9:Hid (Bx W1 (w.heap.size+1) [.int .i64 o,.string (Oo so),.string (Oo tx),.int .i64 a,.int .i64 b,.slice qk E.length dk]):=by unfold Hid;rw[<-g8];have h:=Oq (w.alloc (.cells #[vs,vf,vt] 27)) [.int .i64 o,.string (Oo so),.string (Oo tx),.int .i64 a,.int .i64 b,.slice qk E.length dk] 38;rw[Ju]at h;exact h
 rw[g8];clear g8;refine(Tu ⟨o,so,tx,a,b,E⟩ qk dk _ o7 HC.o).mono ?_
 cases i7:Ul ⟨o,so,tx,a,b,E⟩
 ·have c8:=Hd i7;clear i7;rintro e w2 ⟨rfl,hb2⟩;have j8:=j7.up hb2;clear hb2
  go_wp2
  go_ret
  exact⟨Oz (by unfold Us;rw[c8.o];rfl),j8.o⟩
 have c8:=Hd i7;clear i7;rintro e w2 ⟨rfl,hb2⟩;have j8:=j7.up hb2;have n5:=Hd (k8.o.bl k8.o.lt hb2);have l0:=Hd (k9.o.bl k9.o.lt hb2);have x5:Hid (w.heap.size+2<=w2.heap.size):=by have:=hb2.size;have:=n1.o;unfold Hid;omega
 clear hb2 k8 k9 j7 n1;have y5:=l0.o.cell 5;simp only[Jr,Jy]at y5;obtain⟨O,l7⟩:=O2 (Nr T ⟨o,so,tx,a,b,E⟩);have k7:=Hd l7;have d0:Hid (O.length=E.length):=by unfold Hid;rw[<-l7];simp[Nr]
 clear l7
 go_wp2_with fail
 clear y5
 go_loopw [7,20] (fun v i wr=>∃k:Nat,k<=E.length/\i=.int .i64 (k:Nat)/\wr.ownsRow w2.heap.size 9 1 v k (strsC (O.take k))/\(∀j (h:j<E.length),j<k->0<=E[j]/\E[j]<(n:Int))/\Up w2 wr) (fun _ i _=>E.length - (intOf i).toNat)
 case atStart=>exact⟨0,Jp _,rfl,⟨rfl,.inl ⟨rfl,rfl⟩⟩,fun j _ h=>absurd h (Jz _),Ji _ _⟩
 obtain⟨k,hk,rfl,h4,hp,d2⟩:=hrel;have g6:=Hd h4;have HP:=Hd hp;have h0:=Hd d2;have J:=j8.up d2;have l5:=Hd (n5.o.bl n5.o.lt d2);have e3:=Hd (l0.o.bl l0.o.lt d2);obtain⟨p7,c7,rfl⟩:=V6 h4;clear h4 hp d2;obtain⟨b0,b1,b2⟩:=l5.o.c3;obtain⟨t0,t1,t2,t3,t4,t5⟩:=e3.o.k6
 by_cases f9:k<E.length
 ·rcases HK.o with e0|⟨bq,rfl,f1,R⟩
  ·rw[e0]at f9;cases f9
  have cx:=(J.o.cell (p:=⟨bq,k,none⟩) f1).trans (R k f9);clear R;have i0:(0:Int)<=(k:Int):=by omega
  have i1:(k:Int)<(E.length:Int):=by omega
  by_cases hx:0<=E[k]/\E[k]<(n:Int)
  ·have r6:=Hd hx;have m8:Hid (∀h:k<O.length,O[k]=(tmAt T E[k]).sort):=by
    intro h;have e:=k7.o;subst e;simp[Nr]
   obtain⟨y,hy⟩:∃y:Nat,E[k]=(y:Int):=⟨E[k].toNat,by omega⟩;rw[hy]at cx hx m8;have HY:=Hd hy;clear hy;obtain⟨pt,ct,rfl,l8,g0,g1⟩:=HT.o;unfold maxLen at g0
   rcases g1 with e0|⟨bt,rfl,b7,R⟩
   ·rw[e0]at hn;simp at hn;omega
   have d6:y<T.length:=by omega
   obtain⟨-,c1,-⟩:=R y d6;have c1:=(J.o.cell (p:=⟨bt,y*6+1,none⟩) b7).trans c1;clear R;have n2:Hid ((tmAt T (y:Int)).sort=T[y].sort):=by unfold Hid tmAt;simp[List.getElem?_eq_getElem d6]
   generalize T[y].sort=sy at c1 n2;have i2:(y:Int)<(n:Int):=by omega
   have i3:(y:Int)<(T.length:Int):=by omega
   have i4:(0:Int)<=(y:Int):=by omega
   have i5:decide ((n:Int)<=(y:Int))=false:=dF (by omega)
   have i6:y<n:=by omega
   go_wp2_with (at_builtin;refine Nt (t:=Oo sy) (n:=k) (base:=w2.heap.size) (xs:=strsC (O.take k)) rfl _ _ rfl rfl ?own _ rfl ?hH ?hn ?hb ?_)
   case own=>exact g6.o
   case hH=>rfl
   case hn=>omega
   case hb=>exact h0.o.size
   intro g5 c5 w5 h5 j5 n9;have q7:Hid (Up w2 w5):=Xg h0.o g6.o j5 h0.o.size;have q9:Hid (w5.ownsRow w2.heap.size 9 1 (.slice (some ⟨g5,0,none⟩) (k+1) c5) (k+1) (strsC (O.take (k+1)))):=by
    have hl:=d0.o;unfold Hid;rw[M0 (by omega),m8.o (by omega),n2.o];exact h5
   clear h5 j5 n9
   go_wp2
   go_roundw
   case rel=>exact⟨k+1,by omega,by go_num,q9.o,fun j hj h2=>by
    rcases J4.1 h2 with h|rfl
    ·exact HP.o j hj h
    exact r6.o,q7.o⟩
   simp[intOf];omega
  have FR:Hid (Us S num F T n ⟨o,so,tx,a,b,E⟩=false):=by
   unfold Hid Us;have:Di n ⟨o,so,tx,a,b,E⟩=false:=by
    unfold Di;rw[Yb];intro h;exact hx (by simpa using Jx.1 h E[k] (Jj f9))
   rw[this,Y6,Bool.false_and]
  generalize E[k]=x at cx hx
  by_cases s7:x<0
  ·clear hx
   go_wp2
   go_ret
   exact⟨Oz FR.o.symm,J.o⟩
  have y1:(n:Int)<=x:=by omega
  have y2:¬ x<0:=s7;clear hx
  go_wp2
  go_ret
  exact⟨Oz FR.o.symm,J.o⟩
 obtain rfl:k=E.length:=by omega
 have m7:Hid (Di n ⟨o,so,tx,a,b,E⟩=true):=by
  unfold Hid Di;rw[Jx];intro x hx;obtain⟨j,hj,rfl⟩:=Ya hx
  simpa using HP.o j hj hj
 have Y:Hid (Us S num F T n ⟨o,so,tx,a,b,E⟩=E4 (Ou (On S)) num F T ⟨o,so,tx,a,b,E⟩ O):=by
  unfold Hid Us;rw[c8.o,m7.o,k7.o];rfl
 have o4:O4 wr (.slice p7 E.length c7) O:=by
  have h:=g6.o;rw[<-d0.o,Y1]at h;rw[<-d0.o];exact Ta h rfl
 have b4:=Hd o4;clear o4 f9 g6 hk
 go_upto_region 11 with fail
 go_cut [10] (fun s10 wx=>s10=.bool (O3 so)/\wx=wr)
 case first=>
  rcases Uz so [73,110,116]with⟨K,q0⟩|⟨K,q0⟩
  ·have F:Hid (O3 so=true):=by unfold Hid O3;rw[Jb (show so=Uu from K)];rfl
   clear K
   go_wp2
   go_meet
   exact⟨by rw[F.o],rfl⟩
  rcases Uz so [82,101,97,108]with⟨V,q1⟩|⟨V,q1⟩
  ·have F:Hid (O3 so=true):=by unfold Hid O3;rw[Jb (show so=Ui from V),Bool.or_true]
   clear K V
   go_wp2
   go_meet
   exact⟨by rw[F.o],rfl⟩
  have F:Hid (O3 so=false):=by unfold Hid O3;rw[Jd (show so≠Uu from K),Jd (show so≠Ui from V)];rfl
  clear K V
  go_wp2
  go_meet
  exact⟨by rw[F.o],rfl⟩
 obtain⟨rfl,rfl⟩:=hcut;have r3:Hid (1<=o/\o<=47):=(Uh c8.o).2
 rcases(show o=1∨o=2∨o=3∨o=4∨o=5∨o=6∨o=7∨o=8∨o=9∨o=10∨o=11∨o=12∨o=13∨o=14∨o=15∨o=16∨o=17∨o=18∨o=19∨o=20∨o=21∨o=22∨o=23∨(24<=o/\o<=47)by have:=r3.o;omega)with rfl|rfl|rfl|rfl|rfl|rfl|rfl|rfl|rfl|rfl|rfl|rfl|rfl|rfl|rfl|rfl|rfl|rfl|rfl|rfl|rfl|rfl|rfl|hdf
 ·as_aux_lemma=>
  have q:Hid (Us S num F T n ⟨1,so,tx,a,b,E⟩=(decide (so=Ok))):=by unfold Hid;rw[Y.o];rfl
  rcases Uz so [66,111,111,108]with⟨K,q0⟩|⟨K,q0⟩
  ·have G:Hid (Us S num F T n ⟨1,so,tx,a,b,E⟩=true):=by unfold Hid;rw[q.o,Jb (show so=Ok from K)]<;>rfl
   clear K
   go_wp2
   go_ret
   exact⟨Oz G.o.symm,J.o⟩
  have G:Hid (Us S num F T n ⟨1,so,tx,a,b,E⟩=false):=by unfold Hid;rw[q.o,Jd (show so≠Ok from K)]<;>rfl
  clear K
  go_wp2
  go_ret
  exact⟨Oz G.o.symm,J.o⟩
 ·as_aux_lemma=>
  have q:Hid (Us S num F T n ⟨2,so,tx,a,b,E⟩=(decide (so=Ok))):=by unfold Hid;rw[Y.o];rfl
  rcases Uz so [66,111,111,108]with⟨K,q0⟩|⟨K,q0⟩
  ·have G:Hid (Us S num F T n ⟨2,so,tx,a,b,E⟩=true):=by unfold Hid;rw[q.o,Jb (show so=Ok from K)]<;>rfl
   clear K
   go_wp2
   go_ret
   exact⟨Oz G.o.symm,J.o⟩
  have G:Hid (Us S num F T n ⟨2,so,tx,a,b,E⟩=false):=by unfold Hid;rw[q.o,Jd (show so≠Ok from K)]<;>rfl
  clear K
  go_wp2
  go_ret
  exact⟨Oz G.o.symm,J.o⟩
 ·as_aux_lemma=>
  have q:Hid (Us S num F T n ⟨3,so,tx,a,b,E⟩=(decide (so=Ok)&&Uw O Ok)):=by unfold Hid;rw[Y.o];rfl
  rcases Uz so [66,111,111,108]with⟨K,q0⟩|⟨K,q0⟩
  ·have G:Hid (Us S num F T n ⟨3,so,tx,a,b,E⟩=Uw O Ok):=by unfold Hid;rw[q.o,Jb (show so=Ok from K)]<;>rfl
   clear K
   go_wp2_with fail
   refine(V5 _ O ⟨#[66,111,111,108]⟩ _ b4.o).mono ?_;rw[show(⟨#[66,111,111,108]⟩:ByteArray).data.toList=Ok from rfl];generalize Uw O Ok=B at G ⊢;rintro e w6 ⟨rfl,rfl⟩
   go_wp2
   go_ret
   exact⟨Oz G.o.symm,J.o⟩
  have G:Hid (Us S num F T n ⟨3,so,tx,a,b,E⟩=false):=by unfold Hid;rw[q.o,Jd (show so≠Ok from K)]<;>rfl
  clear K
  go_wp2
  go_ret
  exact⟨Oz G.o.symm,J.o⟩
 ·as_aux_lemma=>
  have q:Hid (Us S num F T n ⟨4,so,tx,a,b,E⟩=(decide (so=Ok)&&Uw O Ok)):=by unfold Hid;rw[Y.o];rfl
  rcases Uz so [66,111,111,108]with⟨K,q0⟩|⟨K,q0⟩
  ·have G:Hid (Us S num F T n ⟨4,so,tx,a,b,E⟩=Uw O Ok):=by unfold Hid;rw[q.o,Jb (show so=Ok from K)]<;>rfl
   clear K
   go_wp2_with fail
   refine(V5 _ O ⟨#[66,111,111,108]⟩ _ b4.o).mono ?_;rw[show(⟨#[66,111,111,108]⟩:ByteArray).data.toList=Ok from rfl];generalize Uw O Ok=B at G ⊢;rintro e w6 ⟨rfl,rfl⟩
   go_wp2
   go_ret
   exact⟨Oz G.o.symm,J.o⟩
  have G:Hid (Us S num F T n ⟨4,so,tx,a,b,E⟩=false):=by unfold Hid;rw[q.o,Jd (show so≠Ok from K)]<;>rfl
  clear K
  go_wp2
  go_ret
  exact⟨Oz G.o.symm,J.o⟩
 ·as_aux_lemma=>
  have q:Hid (Us S num F T n ⟨5,so,tx,a,b,E⟩=(decide (so=Ok)&&Uw O Ok)):=by unfold Hid;rw[Y.o];rfl
  rcases Uz so [66,111,111,108]with⟨K,q0⟩|⟨K,q0⟩
  ·have G:Hid (Us S num F T n ⟨5,so,tx,a,b,E⟩=Uw O Ok):=by unfold Hid;rw[q.o,Jb (show so=Ok from K)]<;>rfl
   clear K
   go_wp2_with fail
   refine(V5 _ O ⟨#[66,111,111,108]⟩ _ b4.o).mono ?_;rw[show(⟨#[66,111,111,108]⟩:ByteArray).data.toList=Ok from rfl];generalize Uw O Ok=B at G ⊢;rintro e w6 ⟨rfl,rfl⟩
   go_wp2
   go_ret
   exact⟨Oz G.o.symm,J.o⟩
  have G:Hid (Us S num F T n ⟨5,so,tx,a,b,E⟩=false):=by unfold Hid;rw[q.o,Jd (show so≠Ok from K)]<;>rfl
  clear K
  go_wp2
  go_ret
  exact⟨Oz G.o.symm,J.o⟩
 ·as_aux_lemma=>
  have q:Hid (Us S num F T n ⟨6,so,tx,a,b,E⟩=(decide (so=Ok)&&Uw O Ok)):=by unfold Hid;rw[Y.o];rfl
  rcases Uz so [66,111,111,108]with⟨K,q0⟩|⟨K,q0⟩
  ·have G:Hid (Us S num F T n ⟨6,so,tx,a,b,E⟩=Uw O Ok):=by unfold Hid;rw[q.o,Jb (show so=Ok from K)]<;>rfl
   clear K
   go_wp2_with fail
   refine(V5 _ O ⟨#[66,111,111,108]⟩ _ b4.o).mono ?_;rw[show(⟨#[66,111,111,108]⟩:ByteArray).data.toList=Ok from rfl];generalize Uw O Ok=B at G ⊢;rintro e w6 ⟨rfl,rfl⟩
   go_wp2
   go_ret
   exact⟨Oz G.o.symm,J.o⟩
  have G:Hid (Us S num F T n ⟨6,so,tx,a,b,E⟩=false):=by unfold Hid;rw[q.o,Jd (show so≠Ok from K)]<;>rfl
  clear K
  go_wp2
  go_ret
  exact⟨Oz G.o.symm,J.o⟩
 ·as_aux_lemma=>
  have q:Hid (Us S num F T n ⟨7,so,tx,a,b,E⟩=(decide (so=Ok)&&Uw O Ok)):=by unfold Hid;rw[Y.o];rfl
  rcases Uz so [66,111,111,108]with⟨K,q0⟩|⟨K,q0⟩
  ·have G:Hid (Us S num F T n ⟨7,so,tx,a,b,E⟩=Uw O Ok):=by unfold Hid;rw[q.o,Jb (show so=Ok from K)]<;>rfl
   clear K
   go_wp2_with fail
   refine(V5 _ O ⟨#[66,111,111,108]⟩ _ b4.o).mono ?_;rw[show(⟨#[66,111,111,108]⟩:ByteArray).data.toList=Ok from rfl];generalize Uw O Ok=B at G ⊢;rintro e w6 ⟨rfl,rfl⟩
   go_wp2
   go_ret
   exact⟨Oz G.o.symm,J.o⟩
  have G:Hid (Us S num F T n ⟨7,so,tx,a,b,E⟩=false):=by unfold Hid;rw[q.o,Jd (show so≠Ok from K)]<;>rfl
  clear K
  go_wp2
  go_ret
  exact⟨Oz G.o.symm,J.o⟩
 ·as_aux_lemma=>
  have q:Hid (Us S num F T n ⟨8,so,tx,a,b,E⟩=(decide (kS O 0=Ok)&&decide (kS O 1=so)&&decide (kS O 2=so))):=by unfold Hid;rw[Y.o];rfl
  have Z:3<=E.length:=by have:=(Uh c8.o).1;simpa[Uk]using this
  have f8:3<=O.length:=by have:=d0.o;omega
  obtain⟨bs,rfl,R⟩:=El b4.o (by omega);have d1:=R 0 (by omega);have a1:=Hf (L:=O) (i:=0) (by omega);have g2:(0:Int)<(E.length:Int):=by omega
  have e4:=R 1 (by omega);have b8:=Hf (L:=O) (i:=1) (by omega);have i8:(1:Int)<(E.length:Int):=by omega
  have r8:=R 2 (by omega);have l6:=Hf (L:=O) (i:=2) (by omega);have y4:(2:Int)<(E.length:Int):=by omega
  rw[a1,b8,l6]at q;generalize O[0]=k0 at d1 q a1;generalize O[1]=k1 at e4 q b8;generalize O[2]=k2 at r8 q l6;clear R a1 b8 l6
  rcases Uz k0 [66,111,111,108]with⟨K,q0⟩|⟨K,q0⟩
  ·rcases Ez k1 so with⟨V,q1⟩|⟨V,q1⟩
   ·rcases Ez k2 so with⟨p2,q2⟩|⟨p2,q2⟩
    ·have G:Hid (Us S num F T n ⟨8,so,tx,a,b,E⟩=true):=by unfold Hid;rw[q.o,Jb (show k0=Ok from K),Jb V,Jb p2]<;>rfl
     clear K V p2
     go_wp2
     go_quiet (fail)
     go_wp2
     go_ret
     exact⟨Oz G.o.symm,below_drewN J.o _⟩
    have G:Hid (Us S num F T n ⟨8,so,tx,a,b,E⟩=false):=by unfold Hid;rw[q.o,Jb (show k0=Ok from K),Jb V,Jd p2]<;>rfl
    clear K V p2
    go_wp2
    go_quiet (fail)
    go_wp2
    go_ret
    exact⟨Oz G.o.symm,below_drewN J.o _⟩
   have G:Hid (Us S num F T n ⟨8,so,tx,a,b,E⟩=false):=by unfold Hid;rw[q.o,Jb (show k0=Ok from K),Jd V]<;>rfl
   clear K V
   go_wp2
   go_quiet (fail)
   go_wp2
   go_ret
   exact⟨Oz G.o.symm,below_drewN J.o _⟩
  have G:Hid (Us S num F T n ⟨8,so,tx,a,b,E⟩=false):=by unfold Hid;rw[q.o,Jd (show k0≠Ok from K)]<;>rfl
  clear K
  go_wp2
  go_quiet (fail)
  go_wp2
  go_ret
  exact⟨Oz G.o.symm,below_drewN J.o _⟩
 ·as_aux_lemma=>
  have q:Hid (Us S num F T n ⟨9,so,tx,a,b,E⟩=(decide (so=Ok)&&Uw O (kS O 0))):=by unfold Hid;rw[Y.o];rfl
  have Z:2<=E.length:=by have:=(Uh c8.o).1;simpa[Uk]using this
  have f8:2<=O.length:=by have:=d0.o;omega
  obtain⟨bs,rfl,R⟩:=El b4.o (by omega);have d1:=R 0 (by omega);have a1:=Hf (L:=O) (i:=0) (by omega);have g2:(0:Int)<(E.length:Int):=by omega
  rw[a1]at q;generalize O[0]=k0 at d1 q a1;clear R a1
  rcases Uz so [66,111,111,108]with⟨K,q0⟩|⟨K,q0⟩
  ·have G:Hid (Us S num F T n ⟨9,so,tx,a,b,E⟩=Uw O k0):=by unfold Hid;rw[q.o,Jb (show so=Ok from K)]<;>rfl
   clear K
   go_wp2_with fail
   refine(V5 _ O (Oo k0) _ b4.o).mono ?_;rw[Ov];generalize Uw O k0=B at G ⊢;rintro e w6 ⟨rfl,rfl⟩
   go_wp2
   go_ret
   exact⟨Oz G.o.symm,J.o⟩
  have G:Hid (Us S num F T n ⟨9,so,tx,a,b,E⟩=false):=by unfold Hid;rw[q.o,Jd (show so≠Ok from K)]<;>rfl
  clear K
  go_wp2
  go_ret
  exact⟨Oz G.o.symm,J.o⟩
 ·as_aux_lemma=>
  have q:Hid (Us S num F T n ⟨10,so,tx,a,b,E⟩=(decide (so=Ok)&&Uw O (kS O 0))):=by unfold Hid;rw[Y.o];rfl
  have Z:2<=E.length:=by have:=(Uh c8.o).1;simpa[Uk]using this
  have f8:2<=O.length:=by have:=d0.o;omega
  obtain⟨bs,rfl,R⟩:=El b4.o (by omega);have d1:=R 0 (by omega);have a1:=Hf (L:=O) (i:=0) (by omega);have g2:(0:Int)<(E.length:Int):=by omega
  rw[a1]at q;generalize O[0]=k0 at d1 q a1;clear R a1
  rcases Uz so [66,111,111,108]with⟨K,q0⟩|⟨K,q0⟩
  ·have G:Hid (Us S num F T n ⟨10,so,tx,a,b,E⟩=Uw O k0):=by unfold Hid;rw[q.o,Jb (show so=Ok from K)]<;>rfl
   clear K
   go_wp2_with fail
   refine(V5 _ O (Oo k0) _ b4.o).mono ?_;rw[Ov];generalize Uw O k0=B at G ⊢;rintro e w6 ⟨rfl,rfl⟩
   go_wp2
   go_ret
   exact⟨Oz G.o.symm,J.o⟩
  have G:Hid (Us S num F T n ⟨10,so,tx,a,b,E⟩=false):=by unfold Hid;rw[q.o,Jd (show so≠Ok from K)]<;>rfl
  clear K
  go_wp2
  go_ret
  exact⟨Oz G.o.symm,J.o⟩
 ·as_aux_lemma=>
  have q:Hid (Us S num F T n ⟨11,so,tx,a,b,E⟩=So F ⟨11,so,tx,a,b,E⟩ O):=by unfold Hid;rw[Y.o];rfl
  go_wp2_with fail
  refine(YB vs vf vt F (Oo tx) _ (HF.o.bl J.o)).mono ?_;rw[Ov];rintro e w6 ⟨rfl,d5⟩;have d8:=J.up d5;have r4:=Hd (b4.o.bl d5);have o5:=l5.o.bl l5.o.lt d5;have d9:=e3.o.bl e3.o.lt d5;obtain⟨b0,b1,b2⟩:=o5.c3;obtain⟨t0,t1⟩:=d9.k2;clear d5 o5 d9
  cases f0:Ox F tx with
  | none=>
    have e1:Xi F tx = -1:=by unfold Xi;rw[f0]
    have G:Hid (Us S num F T n ⟨11,so,tx,a,b,E⟩=false):=by unfold Hid;rw[q.o];unfold So;simp only;rw[f0]
    rw[e1];clear e1 f0
    go_wp2
    go_quiet (fail)
    go_wp2
    go_ret
    exact⟨Oz G.o.symm,below_drewN d8.o _⟩
  | some i=>
    have e1:Xi F tx=(i:Int):=by unfold Xi;rw[f0]
    have hi:i<F.length:=by
     unfold Ox at f0;exact(J9.1 f0).1
    have g7:Hid (Us S num F T n ⟨11,so,tx,a,b,E⟩=(decide (so=F[i].sort)&&decide (O=F[i].args))):=by unfold Hid;rw[q.o];unfold So;simp only;rw[f0];simp only;rw[Jg hi]
    rw[e1];clear e1 f0 q;obtain⟨pf,cf,rfl,y0,s4,s5⟩:=HF.o;unfold maxLen at s4
    rcases s5 with e0|⟨bf,rfl,o0,o2⟩
    ·rw[e0]at hi;cases hi
    obtain⟨k0,⟨va,k1,pa,ca,rfl,x9,s2,n8⟩,k2⟩:=o2 i hi;have k1:=(d8.o.cell (p:=⟨bf,i*3+1,none⟩) o0).trans k1;have k2:=(d8.o.cell (p:=⟨bf,i*3+2,none⟩) o0).trans k2;have q6:=Hd n8;unfold maxLen at s2;clear o2 k0 n8;generalize F[i]=x at *;have j0:(0:Int)<=(i:Int):=by omega
    have j1:(i:Int)<(F.length:Int):=by omega
    have j2:((i:Int)<0)=False:=by simp
    rcases Ez so x.sort with⟨K,q0⟩|⟨K,q0⟩
    ·by_cases V:(E.length:Int)=(x.args.length:Int)
     ·have q1:=U4 V;have q2:((E.length:Int)==(x.args.length:Int))=true:=by simp[V]
      have P1:=Hd V;have n4:Hid (Us S num F T n ⟨11,so,tx,a,b,E⟩=decide (O=x.args)):=by unfold Hid;rw[g7.o,Jb K];rfl
      clear K V g7
      go_wp2
      go_quiet (fail)
      go_wp2_with fail
      clear b0 b2 t0 t1
      go_loopw [138] (fun i wr=>∃k:Nat,k<=E.length/\i=.int .i64 (k:Nat)/\(∀j (h:j<O.length) (h':j<x.args.length),j<k->O[j]=x.args[j])/\Up w6 wr) (fun i _=>E.length - (intOf i).toNat)
      case atStart=>exact⟨0,Jp _,rfl,fun j _ _ h=>absurd h (Jz _),below_drewN (Ji _ _) _⟩
      obtain⟨k,hk,rfl,o3,d2⟩:=hrel;have n0:=Hd o3;have j9:=d8.up d2;have b1:=(d2.cell (p:=⟨w.heap.size,1,none⟩) (J3 _ _ b1)).trans b1;have k1:=(d2.cell (p:=⟨bf,i*3+1,none⟩) (J3 _ _ k1)).trans k1;have r5:=Hd (r4.o.bl d2);have h0:=Hd d2;clear o3 d2
      by_cases f9:k<E.length
      ·have s6:k<O.length:=by rw[d0.o];exact f9
       have Z:k<x.args.length:=by have:=P1.o;omega
       obtain⟨bs,rfl,R⟩:=El r5.o (by omega);have ck:=R k s6
       rcases q6.o with e0|⟨ba,rfl,s3,o1⟩
       ·rw[e0]at Z;cases Z
       have n6:=(j9.o.cell (p:=⟨ba,k,none⟩) s3).trans (o1 k Z);clear R o1;have i0:(0:Int)<=(k:Int):=by omega
       have i1:(k:Int)<(E.length:Int):=by omega
       have i2:(k:Int)<(x.args.length:Int):=by omega
       rcases Ez O[k] x.args[k]with⟨p2,q4⟩|⟨p2,q4⟩
       ·have HN:=Hd p2;clear p2;generalize O[k]=ya at ck q4;generalize x.args[k]=yb at n6 q4
        go_wp2
        go_quiet (fail)
        go_wp2
        go_roundw
        case rel=>exact⟨k+1,by omega,by go_num,fun j hj hj' h2=>by
         rcases J4.1 h2 with h|rfl
         ·exact n0.o j hj hj' h
         exact HN.o,below_drewN h0.o _⟩
        simp[intOf];omega
       have G:Hid (Us S num F T n ⟨11,so,tx,a,b,E⟩=false):=by
        unfold Hid;rw[n4.o,J0];intro e;exact p2 (by simp[e])
       clear p2;generalize O[k]=ya at ck q4;generalize x.args[k]=yb at n6 q4
       go_wp2
       go_quiet (fail)
       go_wp2
       go_ret
       exact⟨Oz G.o.symm,below_drewN j9.o _⟩
      have G:Hid (Us S num F T n ⟨11,so,tx,a,b,E⟩=true):=by
       unfold Hid;rw[n4.o,Jv];have h1:=d0.o;have h2:=P1.o;exact Vi (by omega) (fun j h1 h2=>n0.o j h1 h2 (by omega))
      have z3:¬ (k:Int)<(E.length:Int):=by omega
      go_wp2
      go_ret
      exact⟨Oz G.o.symm,j9.o⟩
     have q1:=Un V;have q2:((E.length:Int)==(x.args.length:Int))=false:=by rw[Jc];exact V
     have G:Hid (Us S num F T n ⟨11,so,tx,a,b,E⟩=false):=by
      unfold Hid;rw[g7.o,Jb K,Jd (fun e=>V (by rw[<-e,d0.o]))];rfl
     clear K V g7
     go_wp2
     go_quiet (fail)
     go_wp2
     go_ret
     exact⟨Oz G.o.symm,below_drewN d8.o _⟩
    have G:Hid (Us S num F T n ⟨11,so,tx,a,b,E⟩=false):=by unfold Hid;rw[g7.o,Jd K];rfl
    clear K g7
    go_wp2
    go_quiet (fail)
    go_wp2
    go_ret
    exact⟨Oz G.o.symm,below_drewN d8.o _⟩
 ·as_aux_lemma=>
  have q:Hid (Us S num F T n ⟨12,so,tx,a,b,E⟩=num ⟨12,so,tx,a,b,E⟩):=by unfold Hid;rw[Y.o];rfl
  generalize num ⟨12,so,tx,a,b,E⟩=B at q j4
  go_wp2_with fail
  refine(j4.o _ J.o).mono ?_;rintro e w6 ⟨rfl,d5⟩;have d8:=J.up d5;clear d5
  go_wp2
  go_ret
  exact⟨Oz q.o.symm,d8.o⟩
 ·as_aux_lemma=>
  have q:Hid (Us S num F T n ⟨13,so,tx,a,b,E⟩=(O3 so&&Uw O so)):=by unfold Hid;rw[Y.o];rfl
  cases b6:O3 so
  ·have G:Hid (Us S num F T n ⟨13,so,tx,a,b,E⟩=false):=by unfold Hid;rw[q.o,b6];rfl
   rw[b6]at q;clear b6
   go_wp2
   go_ret
   exact⟨Oz G.o.symm,J.o⟩
  rw[b6]at q;clear b6;have G:Hid (Us S num F T n ⟨13,so,tx,a,b,E⟩=Uw O so):=by unfold Hid;rw[q.o];rfl
  go_wp2_with fail
  refine(V5 _ O (Oo so) _ b4.o).mono ?_;rw[Ov];generalize Uw O so=B at G q ⊢;rintro e w6 ⟨rfl,rfl⟩
  go_wp2
  go_ret
  exact⟨Oz G.o.symm,J.o⟩
 ·as_aux_lemma=>
  have q:Hid (Us S num F T n ⟨14,so,tx,a,b,E⟩=(O3 so&&Uw O so)):=by unfold Hid;rw[Y.o];rfl
  cases b6:O3 so
  ·have G:Hid (Us S num F T n ⟨14,so,tx,a,b,E⟩=false):=by unfold Hid;rw[q.o,b6];rfl
   rw[b6]at q;clear b6
   go_wp2
   go_ret
   exact⟨Oz G.o.symm,J.o⟩
  rw[b6]at q;clear b6;have G:Hid (Us S num F T n ⟨14,so,tx,a,b,E⟩=Uw O so):=by unfold Hid;rw[q.o];rfl
  go_wp2_with fail
  refine(V5 _ O (Oo so) _ b4.o).mono ?_;rw[Ov];generalize Uw O so=B at G q ⊢;rintro e w6 ⟨rfl,rfl⟩
  go_wp2
  go_ret
  exact⟨Oz G.o.symm,J.o⟩
 ·as_aux_lemma=>
  have q:Hid (Us S num F T n ⟨15,so,tx,a,b,E⟩=(O3 so&&Uw O so)):=by unfold Hid;rw[Y.o];rfl
  cases b6:O3 so
  ·have G:Hid (Us S num F T n ⟨15,so,tx,a,b,E⟩=false):=by unfold Hid;rw[q.o,b6];rfl
   rw[b6]at q;clear b6
   go_wp2
   go_ret
   exact⟨Oz G.o.symm,J.o⟩
  rw[b6]at q;clear b6;have G:Hid (Us S num F T n ⟨15,so,tx,a,b,E⟩=Uw O so):=by unfold Hid;rw[q.o];rfl
  go_wp2_with fail
  refine(V5 _ O (Oo so) _ b4.o).mono ?_;rw[Ov];generalize Uw O so=B at G q ⊢;rintro e w6 ⟨rfl,rfl⟩
  go_wp2
  go_ret
  exact⟨Oz G.o.symm,J.o⟩
 ·as_aux_lemma=>
  have q:Hid (Us S num F T n ⟨16,so,tx,a,b,E⟩=(O3 so&&Uw O so&&decide ((tmAt T (E.headD 0)).op=12))):=by unfold Hid;rw[Y.o];rfl
  rw[show E.headD 0=(E[0]?).getD 0 by cases E<;>rfl]at q;have j6:2<=E.length:=by have:=(Uh c8.o).1;simpa[Uk]using this
  have Z:0<E.length:=by omega
  rcases HK.o with e0|⟨bq,rfl,f1,e9⟩
  ·rw[e0]at Z;cases Z
  have cx:=(J.o.cell (p:=⟨bq,0,none⟩) f1).trans (e9 0 Z);clear e9;have hx:=HP.o 0 Z Z;have o6:(0:Int)<(E.length:Int):=by omega
  have e8:(E[0]?).getD 0=E[0]:=by rw[Jg Z];rfl
  rw[e8]at q;obtain⟨y,hy⟩:∃y:Nat,E[0]=(y:Int):=⟨E[0].toNat,by omega⟩;rw[hy]at cx hx q;clear hy e8;obtain⟨pt,ct,rfl,l8,g0,g1⟩:=HT.o;unfold maxLen at g0
  rcases g1 with e0|⟨bt,rfl,b7,R⟩
  ·rw[e0]at hn;simp at hn;omega
  have d6:y<T.length:=by omega
  obtain⟨c0,c1,c2,c3,c4,va,c5,pa,ca,rfl,-,-,-⟩:=R y d6;have c0:=(J.o.cell (p:=⟨bt,y*6,none⟩) b7).trans c0;have c1:=(J.o.cell (p:=⟨bt,y*6+1,none⟩) b7).trans c1;have c2:=(J.o.cell (p:=⟨bt,y*6+2,none⟩) b7).trans c2;have c3:=(J.o.cell (p:=⟨bt,y*6+3,none⟩) b7).trans c3;have c4:=(J.o.cell (p:=⟨bt,y*6+4,none⟩) b7).trans c4;have c5:=(J.o.cell (p:=⟨bt,y*6+5,none⟩) b7).trans c5;clear R;rw[PO d6]at q;generalize T[y]=u at c0 c1 c2 c3 c4 c5 q;have i2:(y:Int)<(T.length:Int):=by omega
  have i4:(0:Int)<=(y:Int):=by omega
  cases b6:O3 so
  ·have G:Hid (Us S num F T n ⟨16,so,tx,a,b,E⟩=false):=by unfold Hid;rw[q.o,b6];rfl
   rw[b6]at q;clear b6
   go_wp2
   go_quiet (fail)
   go_wp2
   go_ret
   exact⟨Oz G.o.symm,below_drewN J.o _⟩
  rw[b6]at q;clear b6
  cases a8:Uw O so
  ·have c6:=Hd a8;have G:Hid (Us S num F T n ⟨16,so,tx,a,b,E⟩=false):=by unfold Hid;rw[q.o,a8];rfl
   clear a8
   go_wp2
   go_quiet (first|(go_at_call 67;refine Calls.quiet_of_same ((V5 _ O (Oo so) (wc.drewN _) (b4.o.bl (below_drewN (Ji _ _) _))).mono (fun e w6 h=>⟨h.1.trans (by rw[Ov,c6.o]),h.2⟩))))
   go_wp2
   go_ret
   exact⟨Oz G.o.symm,below_drewN J.o _⟩
  have c6:=Hd a8
  rcases Ki u.op 12 with⟨K,q0⟩|⟨K,q0⟩
  ·have G:Hid (Us S num F T n ⟨16,so,tx,a,b,E⟩=true):=by unfold Hid;rw[q.o,a8,Jb K];rfl
   clear a8 K
   go_wp2
   go_quiet (first|(go_at_call 67;refine Calls.quiet_of_same ((V5 _ O (Oo so) (wc.drewN _) (b4.o.bl (below_drewN (Ji _ _) _))).mono (fun e w6 h=>⟨h.1.trans (by rw[Ov,c6.o]),h.2⟩))))
   go_wp2
   go_ret
   exact⟨Oz G.o.symm,below_drewN J.o _⟩
  have G:Hid (Us S num F T n ⟨16,so,tx,a,b,E⟩=false):=by unfold Hid;rw[q.o,a8,Jd K];rfl
  clear a8 K
  go_wp2
  go_quiet (first|(go_at_call 67;refine Calls.quiet_of_same ((V5 _ O (Oo so) (wc.drewN _) (b4.o.bl (below_drewN (Ji _ _) _))).mono (fun e w6 h=>⟨h.1.trans (by rw[Ov,c6.o]),h.2⟩))))
  go_wp2
  go_ret
  exact⟨Oz G.o.symm,below_drewN J.o _⟩
 ·as_aux_lemma=>
  have q:Hid (Us S num F T n ⟨17,so,tx,a,b,E⟩=(decide (so=Ok)&&decide (kS O 0=kS O 1)&&O3 (kS O 0))):=by unfold Hid;rw[Y.o];rfl
  have Z:2<=E.length:=by have:=(Uh c8.o).1;simpa[Uk]using this
  have f8:2<=O.length:=by have:=d0.o;omega
  obtain⟨bs,rfl,R⟩:=El b4.o (by omega);have d1:=R 0 (by omega);have a1:=Hf (L:=O) (i:=0) (by omega);have g2:(0:Int)<(E.length:Int):=by omega
  have e4:=R 1 (by omega);have b8:=Hf (L:=O) (i:=1) (by omega);have i8:(1:Int)<(E.length:Int):=by omega
  rw[a1,b8]at q;generalize O[0]=k0 at d1 q a1;generalize O[1]=k1 at e4 q b8;clear R a1 b8
  rcases Uz so [66,111,111,108]with⟨K,q0⟩|⟨K,q0⟩
  ·rcases Ez k0 k1 with⟨V,q1⟩|⟨V,q1⟩
   ·rcases Uz k0 [73,110,116]with⟨p2,q2⟩|⟨p2,q2⟩
    ·have G:Hid (Us S num F T n ⟨17,so,tx,a,b,E⟩=true):=by unfold Hid;rw[q.o,Jb (show so=Ok from K),Jb V,show O3 k0=true by unfold O3;rw[Jb (show k0=Uu from p2)];rfl];rfl
     clear K V p2
     go_wp2
     go_quiet (fail)
     go_wp2
     go_ret
     exact⟨Oz G.o.symm,below_drewN J.o _⟩
    rcases Uz k0 [82,101,97,108]with⟨p3,q3⟩|⟨p3,q3⟩
    ·have G:Hid (Us S num F T n ⟨17,so,tx,a,b,E⟩=true):=by unfold Hid;rw[q.o,Jb (show so=Ok from K),Jb V,show O3 k0=true by unfold O3;rw[Jb (show k0=Ui from p3),Bool.or_true]];rfl
     clear K V p2 p3
     go_wp2
     go_quiet (fail)
     go_wp2
     go_ret
     exact⟨Oz G.o.symm,below_drewN J.o _⟩
    have G:Hid (Us S num F T n ⟨17,so,tx,a,b,E⟩=false):=by unfold Hid;rw[q.o,Jb (show so=Ok from K),Jb V,show O3 k0=false by unfold O3;rw[Jd (show k0≠Uu from p2),Jd (show k0≠Ui from p3)];rfl];rfl
    clear K V p2 p3
    go_wp2
    go_quiet (fail)
    go_wp2
    go_ret
    exact⟨Oz G.o.symm,below_drewN J.o _⟩
   have G:Hid (Us S num F T n ⟨17,so,tx,a,b,E⟩=false):=by unfold Hid;rw[q.o,Jb (show so=Ok from K),Jd V]<;>rfl
   clear K V
   go_wp2
   go_quiet (fail)
   go_wp2
   go_ret
   exact⟨Oz G.o.symm,below_drewN J.o _⟩
  have G:Hid (Us S num F T n ⟨17,so,tx,a,b,E⟩=false):=by unfold Hid;rw[q.o,Jd (show so≠Ok from K)]<;>rfl
  clear K
  go_wp2
  go_quiet (fail)
  go_wp2
  go_ret
  exact⟨Oz G.o.symm,below_drewN J.o _⟩
 ·as_aux_lemma=>
  have q:Hid (Us S num F T n ⟨18,so,tx,a,b,E⟩=(decide (so=Ok)&&decide (kS O 0=kS O 1)&&O3 (kS O 0))):=by unfold Hid;rw[Y.o];rfl
  have Z:2<=E.length:=by have:=(Uh c8.o).1;simpa[Uk]using this
  have f8:2<=O.length:=by have:=d0.o;omega
  obtain⟨bs,rfl,R⟩:=El b4.o (by omega);have d1:=R 0 (by omega);have a1:=Hf (L:=O) (i:=0) (by omega);have g2:(0:Int)<(E.length:Int):=by omega
  have e4:=R 1 (by omega);have b8:=Hf (L:=O) (i:=1) (by omega);have i8:(1:Int)<(E.length:Int):=by omega
  rw[a1,b8]at q;generalize O[0]=k0 at d1 q a1;generalize O[1]=k1 at e4 q b8;clear R a1 b8
  rcases Uz so [66,111,111,108]with⟨K,q0⟩|⟨K,q0⟩
  ·rcases Ez k0 k1 with⟨V,q1⟩|⟨V,q1⟩
   ·rcases Uz k0 [73,110,116]with⟨p2,q2⟩|⟨p2,q2⟩
    ·have G:Hid (Us S num F T n ⟨18,so,tx,a,b,E⟩=true):=by unfold Hid;rw[q.o,Jb (show so=Ok from K),Jb V,show O3 k0=true by unfold O3;rw[Jb (show k0=Uu from p2)];rfl];rfl
     clear K V p2
     go_wp2
     go_quiet (fail)
     go_wp2
     go_ret
     exact⟨Oz G.o.symm,below_drewN J.o _⟩
    rcases Uz k0 [82,101,97,108]with⟨p3,q3⟩|⟨p3,q3⟩
    ·have G:Hid (Us S num F T n ⟨18,so,tx,a,b,E⟩=true):=by unfold Hid;rw[q.o,Jb (show so=Ok from K),Jb V,show O3 k0=true by unfold O3;rw[Jb (show k0=Ui from p3),Bool.or_true]];rfl
     clear K V p2 p3
     go_wp2
     go_quiet (fail)
     go_wp2
     go_ret
     exact⟨Oz G.o.symm,below_drewN J.o _⟩
    have G:Hid (Us S num F T n ⟨18,so,tx,a,b,E⟩=false):=by unfold Hid;rw[q.o,Jb (show so=Ok from K),Jb V,show O3 k0=false by unfold O3;rw[Jd (show k0≠Uu from p2),Jd (show k0≠Ui from p3)];rfl];rfl
    clear K V p2 p3
    go_wp2
    go_quiet (fail)
    go_wp2
    go_ret
    exact⟨Oz G.o.symm,below_drewN J.o _⟩
   have G:Hid (Us S num F T n ⟨18,so,tx,a,b,E⟩=false):=by unfold Hid;rw[q.o,Jb (show so=Ok from K),Jd V]<;>rfl
   clear K V
   go_wp2
   go_quiet (fail)
   go_wp2
   go_ret
   exact⟨Oz G.o.symm,below_drewN J.o _⟩
  have G:Hid (Us S num F T n ⟨18,so,tx,a,b,E⟩=false):=by unfold Hid;rw[q.o,Jd (show so≠Ok from K)]<;>rfl
  clear K
  go_wp2
  go_quiet (fail)
  go_wp2
  go_ret
  exact⟨Oz G.o.symm,below_drewN J.o _⟩
 ·as_aux_lemma=>
  have q:Hid (Us S num F T n ⟨19,so,tx,a,b,E⟩=(decide (so=Ok)&&decide (kS O 0=kS O 1)&&O3 (kS O 0))):=by unfold Hid;rw[Y.o];rfl
  have Z:2<=E.length:=by have:=(Uh c8.o).1;simpa[Uk]using this
  have f8:2<=O.length:=by have:=d0.o;omega
  obtain⟨bs,rfl,R⟩:=El b4.o (by omega);have d1:=R 0 (by omega);have a1:=Hf (L:=O) (i:=0) (by omega);have g2:(0:Int)<(E.length:Int):=by omega
  have e4:=R 1 (by omega);have b8:=Hf (L:=O) (i:=1) (by omega);have i8:(1:Int)<(E.length:Int):=by omega
  rw[a1,b8]at q;generalize O[0]=k0 at d1 q a1;generalize O[1]=k1 at e4 q b8;clear R a1 b8
  rcases Uz so [66,111,111,108]with⟨K,q0⟩|⟨K,q0⟩
  ·rcases Ez k0 k1 with⟨V,q1⟩|⟨V,q1⟩
   ·rcases Uz k0 [73,110,116]with⟨p2,q2⟩|⟨p2,q2⟩
    ·have G:Hid (Us S num F T n ⟨19,so,tx,a,b,E⟩=true):=by unfold Hid;rw[q.o,Jb (show so=Ok from K),Jb V,show O3 k0=true by unfold O3;rw[Jb (show k0=Uu from p2)];rfl];rfl
     clear K V p2
     go_wp2
     go_quiet (fail)
     go_wp2
     go_ret
     exact⟨Oz G.o.symm,below_drewN J.o _⟩
    rcases Uz k0 [82,101,97,108]with⟨p3,q3⟩|⟨p3,q3⟩
    ·have G:Hid (Us S num F T n ⟨19,so,tx,a,b,E⟩=true):=by unfold Hid;rw[q.o,Jb (show so=Ok from K),Jb V,show O3 k0=true by unfold O3;rw[Jb (show k0=Ui from p3),Bool.or_true]];rfl
     clear K V p2 p3
     go_wp2
     go_quiet (fail)
     go_wp2
     go_ret
     exact⟨Oz G.o.symm,below_drewN J.o _⟩
    have G:Hid (Us S num F T n ⟨19,so,tx,a,b,E⟩=false):=by unfold Hid;rw[q.o,Jb (show so=Ok from K),Jb V,show O3 k0=false by unfold O3;rw[Jd (show k0≠Uu from p2),Jd (show k0≠Ui from p3)];rfl];rfl
    clear K V p2 p3
    go_wp2
    go_quiet (fail)
    go_wp2
    go_ret
    exact⟨Oz G.o.symm,below_drewN J.o _⟩
   have G:Hid (Us S num F T n ⟨19,so,tx,a,b,E⟩=false):=by unfold Hid;rw[q.o,Jb (show so=Ok from K),Jd V]<;>rfl
   clear K V
   go_wp2
   go_quiet (fail)
   go_wp2
   go_ret
   exact⟨Oz G.o.symm,below_drewN J.o _⟩
  have G:Hid (Us S num F T n ⟨19,so,tx,a,b,E⟩=false):=by unfold Hid;rw[q.o,Jd (show so≠Ok from K)]<;>rfl
  clear K
  go_wp2
  go_quiet (fail)
  go_wp2
  go_ret
  exact⟨Oz G.o.symm,below_drewN J.o _⟩
 ·as_aux_lemma=>
  have q:Hid (Us S num F T n ⟨20,so,tx,a,b,E⟩=(decide (so=Ok)&&decide (kS O 0=kS O 1)&&O3 (kS O 0))):=by unfold Hid;rw[Y.o];rfl
  have Z:2<=E.length:=by have:=(Uh c8.o).1;simpa[Uk]using this
  have f8:2<=O.length:=by have:=d0.o;omega
  obtain⟨bs,rfl,R⟩:=El b4.o (by omega);have d1:=R 0 (by omega);have a1:=Hf (L:=O) (i:=0) (by omega);have g2:(0:Int)<(E.length:Int):=by omega
  have e4:=R 1 (by omega);have b8:=Hf (L:=O) (i:=1) (by omega);have i8:(1:Int)<(E.length:Int):=by omega
  rw[a1,b8]at q;generalize O[0]=k0 at d1 q a1;generalize O[1]=k1 at e4 q b8;clear R a1 b8
  rcases Uz so [66,111,111,108]with⟨K,q0⟩|⟨K,q0⟩
  ·rcases Ez k0 k1 with⟨V,q1⟩|⟨V,q1⟩
   ·rcases Uz k0 [73,110,116]with⟨p2,q2⟩|⟨p2,q2⟩
    ·have G:Hid (Us S num F T n ⟨20,so,tx,a,b,E⟩=true):=by unfold Hid;rw[q.o,Jb (show so=Ok from K),Jb V,show O3 k0=true by unfold O3;rw[Jb (show k0=Uu from p2)];rfl];rfl
     clear K V p2
     go_wp2
     go_quiet (fail)
     go_wp2
     go_ret
     exact⟨Oz G.o.symm,below_drewN J.o _⟩
    rcases Uz k0 [82,101,97,108]with⟨p3,q3⟩|⟨p3,q3⟩
    ·have G:Hid (Us S num F T n ⟨20,so,tx,a,b,E⟩=true):=by unfold Hid;rw[q.o,Jb (show so=Ok from K),Jb V,show O3 k0=true by unfold O3;rw[Jb (show k0=Ui from p3),Bool.or_true]];rfl
     clear K V p2 p3
     go_wp2
     go_quiet (fail)
     go_wp2
     go_ret
     exact⟨Oz G.o.symm,below_drewN J.o _⟩
    have G:Hid (Us S num F T n ⟨20,so,tx,a,b,E⟩=false):=by unfold Hid;rw[q.o,Jb (show so=Ok from K),Jb V,show O3 k0=false by unfold O3;rw[Jd (show k0≠Uu from p2),Jd (show k0≠Ui from p3)];rfl];rfl
    clear K V p2 p3
    go_wp2
    go_quiet (fail)
    go_wp2
    go_ret
    exact⟨Oz G.o.symm,below_drewN J.o _⟩
   have G:Hid (Us S num F T n ⟨20,so,tx,a,b,E⟩=false):=by unfold Hid;rw[q.o,Jb (show so=Ok from K),Jd V]<;>rfl
   clear K V
   go_wp2
   go_quiet (fail)
   go_wp2
   go_ret
   exact⟨Oz G.o.symm,below_drewN J.o _⟩
  have G:Hid (Us S num F T n ⟨20,so,tx,a,b,E⟩=false):=by unfold Hid;rw[q.o,Jd (show so≠Ok from K)]<;>rfl
  clear K
  go_wp2
  go_quiet (fail)
  go_wp2
  go_ret
  exact⟨Oz G.o.symm,below_drewN J.o _⟩
 ·as_aux_lemma=>
  have q:Hid (Us S num F T n ⟨21,so,tx,a,b,E⟩=(decide (so=Uu)&&Uw O Uu&&decide ((tmAt T ((E[1]?).getD 0)).op=12)&&decide ((tmAt T ((E[1]?).getD 0)).text≠[48]))):=by unfold Hid;rw[Y.o];rfl
  have j6:2<=E.length:=by have:=(Uh c8.o).1;simpa[Uk]using this
  have Z:1<E.length:=by omega
  rcases HK.o with e0|⟨bq,rfl,f1,e9⟩
  ·rw[e0]at Z;cases Z
  have cx:=(J.o.cell (p:=⟨bq,1,none⟩) f1).trans (e9 1 Z);clear e9;have hx:=HP.o 1 Z Z;have o6:(1:Int)<(E.length:Int):=by omega
  have e8:(E[1]?).getD 0=E[1]:=by rw[Jg Z];rfl
  rw[e8]at q;obtain⟨y,hy⟩:∃y:Nat,E[1]=(y:Int):=⟨E[1].toNat,by omega⟩;rw[hy]at cx hx q;clear hy e8;obtain⟨pt,ct,rfl,l8,g0,g1⟩:=HT.o;unfold maxLen at g0
  rcases g1 with e0|⟨bt,rfl,b7,R⟩
  ·rw[e0]at hn;simp at hn;omega
  have d6:y<T.length:=by omega
  obtain⟨c0,c1,c2,c3,c4,va,c5,pa,ca,rfl,-,-,-⟩:=R y d6;have c0:=(J.o.cell (p:=⟨bt,y*6,none⟩) b7).trans c0;have c1:=(J.o.cell (p:=⟨bt,y*6+1,none⟩) b7).trans c1;have c2:=(J.o.cell (p:=⟨bt,y*6+2,none⟩) b7).trans c2;have c3:=(J.o.cell (p:=⟨bt,y*6+3,none⟩) b7).trans c3;have c4:=(J.o.cell (p:=⟨bt,y*6+4,none⟩) b7).trans c4;have c5:=(J.o.cell (p:=⟨bt,y*6+5,none⟩) b7).trans c5;clear R;rw[PO d6]at q;generalize T[y]=u at c0 c1 c2 c3 c4 c5 q;have i2:(y:Int)<(T.length:Int):=by omega
  have i4:(0:Int)<=(y:Int):=by omega
  obtain⟨W9,rfl⟩:∃W9,W9=wc:=⟨_,rfl⟩;have l1:w.heap.size+1<W9.heap.size:=e3.o.lt;have l2:w.heap.size<W9.heap.size:=by omega
  have l3:bq<W9.heap.size:=by omega
  have l4:bt<W9.heap.size:=by omega
  have h3:Hid (Bx ((W9.alloc (.cells #[.int .i64 u.op,.string (Oo u.sort),.string (Oo u.text),.int .i64 u.a,.int .i64 u.b,.slice pa u.kids.length ca] 38)).drew) W9.heap.size [.int .i64 u.op,.string (Oo u.sort),.string (Oo u.text),.int .i64 u.a,.int .i64 u.b,.slice pa u.kids.length ca]):=(Oq _ _ _).drew
  go_upto_region 53 with fail
  go_cut [13] (fun s13 wx=>s13=.pointer (some ⟨W9.heap.size,0,none⟩)/\Bx wx W9.heap.size [.int .i64 u.op,.string (Oo u.sort),.string (Oo u.text),.int .i64 u.a,.int .i64 u.b,.slice pa u.kids.length ca]/\Up W9 wx)
  case first=>
   go_region
   all_goals (go_wp2;go_meet;exact⟨rfl,h3.o,(Oy _ _).drew⟩)
  obtain⟨rfl,f5,e6⟩:=hcut;have d4:=J.up e6;have e2:=Hd (b4.o.bl e6);have d9:=e3.o.bl e3.o.lt e6;have x0:=f5.cell 0;have x2:=f5.cell 2;have t0:=d9.cell 0;have t1:=d9.cell 1;simp only[Jr,Jy]at x0 x2 t0 t1;clear f5 e6 d9 c0 c1 c2 c3 c4 c5 cx l1 l2 l3 l4 h3
  rcases Uz so [73,110,116]with⟨K,q0⟩|⟨K,q0⟩
  ·cases a8:Uw O Uu
   ·have c6:=Hd a8;have G:Hid (Us S num F T n ⟨21,so,tx,a,b,E⟩=false):=by unfold Hid;rw[q.o,Jb (show so=Uu from K),a8];rfl
    clear a8 K
    go_wp2_with fail
    refine(V5 _ O ⟨#[73,110,116]⟩ _ e2.o).mono ?_;rw[show(⟨#[73,110,116]⟩:ByteArray).data.toList=Uu from rfl,c6.o];rintro e w6 ⟨rfl,rfl⟩
    go_wp2
    go_ret
    exact⟨Oz G.o.symm,d4.o⟩
   have c6:=Hd a8
   rcases Ki u.op 12 with⟨V,q1⟩|⟨V,q1⟩
   ·rcases Uz u.text [48]with⟨p2,q2⟩|⟨p2,q2⟩
    ·have G:Hid (Us S num F T n ⟨21,so,tx,a,b,E⟩=false):=by unfold Hid;rw[q.o,Jb (show so=Uu from K),a8,Jb V,Jd (fun h=>h p2)];rfl
     clear a8 K V p2
     go_wp2_with fail
     refine(V5 _ O ⟨#[73,110,116]⟩ _ e2.o).mono ?_;rw[show(⟨#[73,110,116]⟩:ByteArray).data.toList=Uu from rfl,c6.o];rintro e w6 ⟨rfl,rfl⟩
     go_wp2
     go_ret
     exact⟨Oz G.o.symm,d4.o⟩
    have G:Hid (Us S num F T n ⟨21,so,tx,a,b,E⟩=true):=by unfold Hid;rw[q.o,Jb (show so=Uu from K),a8,Jb V,Jb p2];rfl
    clear a8 K V p2
    go_wp2_with fail
    refine(V5 _ O ⟨#[73,110,116]⟩ _ e2.o).mono ?_;rw[show(⟨#[73,110,116]⟩:ByteArray).data.toList=Uu from rfl,c6.o];rintro e w6 ⟨rfl,rfl⟩
    go_wp2
    go_ret
    exact⟨Oz G.o.symm,d4.o⟩
   have G:Hid (Us S num F T n ⟨21,so,tx,a,b,E⟩=false):=by unfold Hid;rw[q.o,Jb (show so=Uu from K),a8,Jd V];rfl
   clear a8 K V
   go_wp2_with fail
   refine(V5 _ O ⟨#[73,110,116]⟩ _ e2.o).mono ?_;rw[show(⟨#[73,110,116]⟩:ByteArray).data.toList=Uu from rfl,c6.o];rintro e w6 ⟨rfl,rfl⟩
   go_wp2
   go_ret
   exact⟨Oz G.o.symm,d4.o⟩
  have G:Hid (Us S num F T n ⟨21,so,tx,a,b,E⟩=false):=by unfold Hid;rw[q.o,Jd (show so≠Uu from K)];rfl
  clear K
  go_wp2
  go_ret
  exact⟨Oz G.o.symm,d4.o⟩
 ·as_aux_lemma=>
  have q:Hid (Us S num F T n ⟨22,so,tx,a,b,E⟩=(decide (so=Uu)&&Uw O Uu&&decide ((tmAt T ((E[1]?).getD 0)).op=12)&&decide ((tmAt T ((E[1]?).getD 0)).text≠[48]))):=by unfold Hid;rw[Y.o];rfl
  have j6:2<=E.length:=by have:=(Uh c8.o).1;simpa[Uk]using this
  have Z:1<E.length:=by omega
  rcases HK.o with e0|⟨bq,rfl,f1,e9⟩
  ·rw[e0]at Z;cases Z
  have cx:=(J.o.cell (p:=⟨bq,1,none⟩) f1).trans (e9 1 Z);clear e9;have hx:=HP.o 1 Z Z;have o6:(1:Int)<(E.length:Int):=by omega
  have e8:(E[1]?).getD 0=E[1]:=by rw[Jg Z];rfl
  rw[e8]at q;obtain⟨y,hy⟩:∃y:Nat,E[1]=(y:Int):=⟨E[1].toNat,by omega⟩;rw[hy]at cx hx q;clear hy e8;obtain⟨pt,ct,rfl,l8,g0,g1⟩:=HT.o;unfold maxLen at g0
  rcases g1 with e0|⟨bt,rfl,b7,R⟩
  ·rw[e0]at hn;simp at hn;omega
  have d6:y<T.length:=by omega
  obtain⟨c0,c1,c2,c3,c4,va,c5,pa,ca,rfl,-,-,-⟩:=R y d6;have c0:=(J.o.cell (p:=⟨bt,y*6,none⟩) b7).trans c0;have c1:=(J.o.cell (p:=⟨bt,y*6+1,none⟩) b7).trans c1;have c2:=(J.o.cell (p:=⟨bt,y*6+2,none⟩) b7).trans c2;have c3:=(J.o.cell (p:=⟨bt,y*6+3,none⟩) b7).trans c3;have c4:=(J.o.cell (p:=⟨bt,y*6+4,none⟩) b7).trans c4;have c5:=(J.o.cell (p:=⟨bt,y*6+5,none⟩) b7).trans c5;clear R;rw[PO d6]at q;generalize T[y]=u at c0 c1 c2 c3 c4 c5 q;have i2:(y:Int)<(T.length:Int):=by omega
  have i4:(0:Int)<=(y:Int):=by omega
  obtain⟨W9,rfl⟩:∃W9,W9=wc:=⟨_,rfl⟩;have l1:w.heap.size+1<W9.heap.size:=e3.o.lt;have l2:w.heap.size<W9.heap.size:=by omega
  have l3:bq<W9.heap.size:=by omega
  have l4:bt<W9.heap.size:=by omega
  have h3:Hid (Bx ((W9.alloc (.cells #[.int .i64 u.op,.string (Oo u.sort),.string (Oo u.text),.int .i64 u.a,.int .i64 u.b,.slice pa u.kids.length ca] 38)).drew) W9.heap.size [.int .i64 u.op,.string (Oo u.sort),.string (Oo u.text),.int .i64 u.a,.int .i64 u.b,.slice pa u.kids.length ca]):=(Oq _ _ _).drew
  go_upto_region 53 with fail
  go_cut [13] (fun s13 wx=>s13=.pointer (some ⟨W9.heap.size,0,none⟩)/\Bx wx W9.heap.size [.int .i64 u.op,.string (Oo u.sort),.string (Oo u.text),.int .i64 u.a,.int .i64 u.b,.slice pa u.kids.length ca]/\Up W9 wx)
  case first=>
   go_region
   all_goals (go_wp2;go_meet;exact⟨rfl,h3.o,(Oy _ _).drew⟩)
  obtain⟨rfl,f5,e6⟩:=hcut;have d4:=J.up e6;have e2:=Hd (b4.o.bl e6);have d9:=e3.o.bl e3.o.lt e6;have x0:=f5.cell 0;have x2:=f5.cell 2;have t0:=d9.cell 0;have t1:=d9.cell 1;simp only[Jr,Jy]at x0 x2 t0 t1;clear f5 e6 d9 c0 c1 c2 c3 c4 c5 cx l1 l2 l3 l4 h3
  rcases Uz so [73,110,116]with⟨K,q0⟩|⟨K,q0⟩
  ·cases a8:Uw O Uu
   ·have c6:=Hd a8;have G:Hid (Us S num F T n ⟨22,so,tx,a,b,E⟩=false):=by unfold Hid;rw[q.o,Jb (show so=Uu from K),a8];rfl
    clear a8 K
    go_wp2_with fail
    refine(V5 _ O ⟨#[73,110,116]⟩ _ e2.o).mono ?_;rw[show(⟨#[73,110,116]⟩:ByteArray).data.toList=Uu from rfl,c6.o];rintro e w6 ⟨rfl,rfl⟩
    go_wp2
    go_ret
    exact⟨Oz G.o.symm,d4.o⟩
   have c6:=Hd a8
   rcases Ki u.op 12 with⟨V,q1⟩|⟨V,q1⟩
   ·rcases Uz u.text [48]with⟨p2,q2⟩|⟨p2,q2⟩
    ·have G:Hid (Us S num F T n ⟨22,so,tx,a,b,E⟩=false):=by unfold Hid;rw[q.o,Jb (show so=Uu from K),a8,Jb V,Jd (fun h=>h p2)];rfl
     clear a8 K V p2
     go_wp2_with fail
     refine(V5 _ O ⟨#[73,110,116]⟩ _ e2.o).mono ?_;rw[show(⟨#[73,110,116]⟩:ByteArray).data.toList=Uu from rfl,c6.o];rintro e w6 ⟨rfl,rfl⟩
     go_wp2
     go_ret
     exact⟨Oz G.o.symm,d4.o⟩
    have G:Hid (Us S num F T n ⟨22,so,tx,a,b,E⟩=true):=by unfold Hid;rw[q.o,Jb (show so=Uu from K),a8,Jb V,Jb p2];rfl
    clear a8 K V p2
    go_wp2_with fail
    refine(V5 _ O ⟨#[73,110,116]⟩ _ e2.o).mono ?_;rw[show(⟨#[73,110,116]⟩:ByteArray).data.toList=Uu from rfl,c6.o];rintro e w6 ⟨rfl,rfl⟩
    go_wp2
    go_ret
    exact⟨Oz G.o.symm,d4.o⟩
   have G:Hid (Us S num F T n ⟨22,so,tx,a,b,E⟩=false):=by unfold Hid;rw[q.o,Jb (show so=Uu from K),a8,Jd V];rfl
   clear a8 K V
   go_wp2_with fail
   refine(V5 _ O ⟨#[73,110,116]⟩ _ e2.o).mono ?_;rw[show(⟨#[73,110,116]⟩:ByteArray).data.toList=Uu from rfl,c6.o];rintro e w6 ⟨rfl,rfl⟩
   go_wp2
   go_ret
   exact⟨Oz G.o.symm,d4.o⟩
  have G:Hid (Us S num F T n ⟨22,so,tx,a,b,E⟩=false):=by unfold Hid;rw[q.o,Jd (show so≠Uu from K)];rfl
  clear K
  go_wp2
  go_ret
  exact⟨Oz G.o.symm,d4.o⟩
 ·as_aux_lemma=>
  have q:Hid (Us S num F T n ⟨23,so,tx,a,b,E⟩=(decide (so=Ui)&&decide (kS O 0=Uu))):=by unfold Hid;rw[Y.o];rfl
  have Z:1<=E.length:=by have:=(Uh c8.o).1;simpa[Uk]using this
  have f8:1<=O.length:=by have:=d0.o;omega
  obtain⟨bs,rfl,R⟩:=El b4.o (by omega);have d1:=R 0 (by omega);have a1:=Hf (L:=O) (i:=0) (by omega);have g2:(0:Int)<(E.length:Int):=by omega
  rw[a1]at q;generalize O[0]=k0 at d1 q a1;clear R a1
  rcases Uz so [82,101,97,108]with⟨K,q0⟩|⟨K,q0⟩
  ·rcases Uz k0 [73,110,116]with⟨V,q1⟩|⟨V,q1⟩
   ·have G:Hid (Us S num F T n ⟨23,so,tx,a,b,E⟩=true):=by unfold Hid;rw[q.o,Jb (show so=Ui from K),Jb (show k0=Uu from V)]<;>rfl
    clear K V
    go_wp2
    go_ret
    exact⟨Oz G.o.symm,J.o⟩
   have G:Hid (Us S num F T n ⟨23,so,tx,a,b,E⟩=false):=by unfold Hid;rw[q.o,Jb (show so=Ui from K),Jd (show k0≠Uu from V)]<;>rfl
   clear K V
   go_wp2
   go_ret
   exact⟨Oz G.o.symm,J.o⟩
  have G:Hid (Us S num F T n ⟨23,so,tx,a,b,E⟩=false):=by unfold Hid;rw[q.o,Jd (show so≠Ui from K)]<;>rfl
  clear K
  go_wp2
  go_ret
  exact⟨Oz G.o.symm,J.o⟩
 as_aux_lemma=>
 have b3:=Hd hdf;clear hdf;have z1:(o==1)=false:=by rw[Jc];have:=b3.o;omega
 have z2:(o==2)=false:=by rw[Jc];have:=b3.o;omega
 have z3:(o==3)=false:=by rw[Jc];have:=b3.o;omega
 have z4:(o==4)=false:=by rw[Jc];have:=b3.o;omega
 have z5:(o==5)=false:=by rw[Jc];have:=b3.o;omega
 have z6:(o==6)=false:=by rw[Jc];have:=b3.o;omega
 have z7:(o==7)=false:=by rw[Jc];have:=b3.o;omega
 have z8:(o==8)=false:=by rw[Jc];have:=b3.o;omega
 have z9:(o==9)=false:=by rw[Jc];have:=b3.o;omega
 have A1:(o==10)=false:=by rw[Jc];have:=b3.o;omega
 have A2:(o==11)=false:=by rw[Jc];have:=b3.o;omega
 have A3:(o==12)=false:=by rw[Jc];have:=b3.o;omega
 have B2:(o==13)=false:=by rw[Jc];have:=b3.o;omega
 have D2:(o==14)=false:=by rw[Jc];have:=b3.o;omega
 have D9:(o==15)=false:=by rw[Jc];have:=b3.o;omega
 have F2:(o==16)=false:=by rw[Jc];have:=b3.o;omega
 have H0:(o==17)=false:=by rw[Jc];have:=b3.o;omega
 have H1:(o==18)=false:=by rw[Jc];have:=b3.o;omega
 have H2:(o==19)=false:=by rw[Jc];have:=b3.o;omega
 have z20:(o==20)=false:=by rw[Jc];have:=b3.o;omega
 have z21:(o==21)=false:=by rw[Jc];have:=b3.o;omega
 have H4:(o==22)=false:=by rw[Jc];have:=b3.o;omega
 have H7:(o==23)=false:=by rw[Jc];have:=b3.o;omega
 have q:Hid (Us S num F T n ⟨o,so,tx,a,b,E⟩=Om (Ou (On S)) ⟨o,so,tx,a,b,E⟩ O):=by
  have h:=b3.o;unfold Hid;rw[Y.o];unfold E4;simp only;rw[if_neg (by omega),if_neg (by omega),if_neg (by omega),if_neg (by omega),if_neg (by omega),if_neg (by omega),if_neg (by omega),if_neg (by omega),if_neg (by omega),if_neg (by omega),if_neg (by omega)]
 generalize hB:Om (Ou (On S)) ⟨o,so,tx,a,b,E⟩ O=B at q;have q8:=Hd hB;clear hB
 go_wp2_with fail
 refine(B3 vs vf vt S ⟨o,so,tx,a,b,E⟩ _ _ O _ (HS.o.bl J.o) b4.o hzs hzt (fun k hk=>?_) ?_ b3.o).mono ?_
 ·have e:=k7.o;subst e;obtain⟨x,hx,rfl⟩:=Yu.1 hk;have h1:0<=x/\x<(n:Int):=by simpa using Jx.1 m7.o x hx
  have h2:tmAt T x∈T:=by
   unfold tmAt;rw[Jg (by omega)];exact Jj _
  exact HZ.o _ h2
 ·rw[d0.o];exact(Uh c8.o).1
 rw[q8.o];rintro e w6 ⟨rfl,d5⟩;have d8:=J.up d5;clear d5
 go_wp2
 go_ret
 exact⟨Oz q.o.symm,d8.o⟩
end Go.Proofs.YtfkagjelljnpdaaGreatDoor
