import Derived.Test.YtipgjenolpofpaaGreatDoorP01
import Derived.Deep.QuietTactic
import Derived.BigQuiet
import Derived.WalkSmall
import Derived.OneCell
set_option maxRecDepth 100000
set_option maxHeartbeats 2000000
namespace Go.Proofs.YtipgjenolpofpaaGreatDoor.Q
open ChangeShapes WideShapes ChangeAt RowKit Proofs.Tryz
def K7 (a b:List Nat):Nat->Int
 | 0=>0
 | k+1=>if a.getD k 0<b.getD k 0 then -1 else if b.getD k 0<a.getD k 0 then 1 else K7 a b k
def El (a b:List Nat):Int:=if a.length<b.length then -1 else if b.length<a.length then 1 else K7 a b a.length
theorem U1.cells {B:Nat}{w:World}{a:Option Addr}{cap n:Nat}{l:List Nat}(h:U1 B w (.slice a n cap) l):n=l.length/\l.length<=cap/\cap<=maxLen/\okL l /\
 ∀ i,i<l.length->∃ b off,a=some ⟨b,off,none⟩/\b<w.heap.size/\w.cell? ⟨b,off+i,none⟩=some (.int .u32 (l.getD i 0:Nat)):=by
 obtain⟨I,A,E,hl,d,j,G⟩:=h;simp only[Value.slice.injEq] at E;obtain⟨rfl,rfl,rfl⟩:=E;refine⟨rfl,hl,d,j,fun i hi=>?_⟩
 rcases G with rfl|⟨b,off,rfl,_,hb,hc⟩
 ·simp at hi
 exact⟨b,off,rfl,hb,hc i hi⟩
theorem Ed (B:Nat)(va vb:Value)(a b:List Nat)(w:World)(ha:U1 B w va a)(hb:U1 B w vb b) :
 Calls prog 224 #[va,vb] w fun e w'=>e=.returned (.int .i64 (El a b))/\Up w w':=by
 obtain⟨pa,ca,rfl,_⟩:=id ha;obtain⟨pb,cb,rfl,_⟩:=id hb;obtain⟨_,c6,U,K,h⟩:=ha.cells;obtain⟨_,c8,V,M,j⟩:=hb.cells;unfold maxLen at U V;have HA:=Hd h;have HB:=Hd j;clear h j ha hb K M
 by_cases G:a.length=b.length
 ·have z:((a.length:Int) != b.length)=false:=by rw[bne_eq_false_iff_eq];omega
  have A:Hid (El a b=K7 a b a.length):=by show El a b=_;unfold El;rw[if_neg (by omega),if_neg (by omega)]
  have HL:=Hd G;clear G
  go_in
  go_wp2
  go_loopw [5] (fun i wr=>∃ k:Nat,k<=a.length/\i=.int .i64 (k - 1)/\K7 a b a.length=K7 a b k/\Up w wr) (fun i _=>(intOf i+1).toNat)
  case atStart=>exact⟨a.length,Of,rfl,rfl,Jh _ _⟩
  obtain⟨k,hk,rfl,hp,hB⟩:=hrel;have O:=Hd hp;have d:=Hd hB;clear hp hB
  cases k with
  | zero=>
    go_wp2
    go_ret
    exact⟨K5 (by rw[A.o,O.o];rfl),d.o⟩
  | succ k=>
    obtain⟨ba,oa,rfl,Y,h⟩:=HA.o k (by omega);obtain⟨bb,ob,rfl,Z,j⟩:=HB.o k (by have:=HL.o;omega);rw[<-d.o.cell (p:=⟨ba,oa+k,none⟩) Y] at h;rw[<-d.o.cell (p:=⟨bb,ob+k,none⟩) Z] at j;obtain⟨x,hx⟩:=O1 (a.getD k 0);obtain⟨y,hy⟩:=O1 (b.getD k 0);have E:Hid (K7 a b (k+1)=if x<y then -1 else if y<x then 1 else K7 a b k):=by rw[<-hx,<-hy];rfl
    rw[hx] at h;rw[hy] at j;have d0:k<b.length:=by have:=HL.o;omega
    clear hx hy
    by_cases G:x<y
    ·have I:Hid (K7 a b (k+1) = -1):=E.o.trans (if_pos G);clear E
     go_wp2
     go_quiet (fail)
     go_wp2
     go_ret
     exact⟨K5 (by rw[A.o,O.o,I.o]),below_drewN d.o _⟩
    by_cases J:y<x
    ·have I:Hid (K7 a b (k+1)=1):=E.o.trans ((if_neg G).trans (if_pos J));clear E
     go_wp2
     go_quiet (fail)
     go_wp2
     go_quiet (fail)
     go_wp2
     go_ret
     exact⟨K5 (by rw[A.o,O.o,I.o]),below_drewN (below_drewN d.o _) _⟩
    have I:Hid (K7 a b (k+1)=K7 a b k):=E.o.trans ((if_neg G).trans (if_neg J));clear E
    go_wp2
    go_quiet (fail)
    go_wp2
    go_quiet (fail)
    go_wp2
    go_roundw
    case rel=>exact⟨k,by omega,Ob (by omega),O.o.trans I.o,below_drewN d.o _⟩
    simp[intOf]
 have z:((a.length:Int) != b.length)=true:=by rw[bne_iff_ne];omega
 by_cases J:a.length<b.length
 ·have A:Hid (El a b = -1):=if_pos J
  go_in
  go_wp2
  go_ret
  exact⟨K5 A.o.symm,Jh _ _⟩
 have A:Hid (El a b=1):=(if_neg J).trans (if_pos (by omega))
 go_in
 go_wp2
 go_ret
 exact⟨K5 A.o.symm,Jh _ _⟩
theorem Nr (B:Nat)(va vb:Value)(a b:List Nat)(w:World)(ha:U1 B w va a)(hb:U1 B w vb b) :
 Calls prog 164 #[va,vb] w fun e w'=>e=.returned (.int .i64 (El a b))/\Up w w':=by
 obtain⟨pa,ca,rfl,_⟩:=id ha;obtain⟨pb,cb,rfl,_⟩:=id hb;obtain⟨_,c6,U,K,h⟩:=ha.cells;obtain⟨_,c8,V,M,j⟩:=hb.cells;unfold maxLen at U V;have HA:=Hd h;have HB:=Hd j;clear h j ha hb K M
 by_cases G:a.length=b.length
 ·have z:((a.length:Int) != b.length)=false:=by rw[bne_eq_false_iff_eq];omega
  have A:Hid (El a b=K7 a b a.length):=by show El a b=_;unfold El;rw[if_neg (by omega),if_neg (by omega)]
  have HL:=Hd G;clear G
  go_in
  go_wp2
  go_loopw [5] (fun i wr=>∃ k:Nat,k<=a.length/\i=.int .i64 (k - 1)/\K7 a b a.length=K7 a b k/\Up w wr) (fun i _=>(intOf i+1).toNat)
  case atStart=>exact⟨a.length,Of,rfl,rfl,Jh _ _⟩
  obtain⟨k,hk,rfl,hp,hB⟩:=hrel;have O:=Hd hp;have d:=Hd hB;clear hp hB
  cases k with
  | zero=>
    go_wp2
    go_ret
    exact⟨K5 (by rw[A.o,O.o];rfl),d.o⟩
  | succ k=>
    obtain⟨ba,oa,rfl,Y,h⟩:=HA.o k (by omega);obtain⟨bb,ob,rfl,Z,j⟩:=HB.o k (by have:=HL.o;omega);rw[<-d.o.cell (p:=⟨ba,oa+k,none⟩) Y] at h;rw[<-d.o.cell (p:=⟨bb,ob+k,none⟩) Z] at j;obtain⟨x,hx⟩:=O1 (a.getD k 0);obtain⟨y,hy⟩:=O1 (b.getD k 0);have E:Hid (K7 a b (k+1)=if x<y then -1 else if y<x then 1 else K7 a b k):=by rw[<-hx,<-hy];rfl
    rw[hx] at h;rw[hy] at j;have d0:k<b.length:=by have:=HL.o;omega
    clear hx hy
    by_cases G:x<y
    ·have I:Hid (K7 a b (k+1) = -1):=E.o.trans (if_pos G);clear E
     go_wp2
     go_quiet (fail)
     go_wp2
     go_ret
     exact⟨K5 (by rw[A.o,O.o,I.o]),below_drewN d.o _⟩
    by_cases J:y<x
    ·have I:Hid (K7 a b (k+1)=1):=E.o.trans ((if_neg G).trans (if_pos J));clear E
     go_wp2
     go_quiet (fail)
     go_wp2
     go_quiet (fail)
     go_wp2
     go_ret
     exact⟨K5 (by rw[A.o,O.o,I.o]),below_drewN (below_drewN d.o _) _⟩
    have I:Hid (K7 a b (k+1)=K7 a b k):=E.o.trans ((if_neg G).trans (if_neg J));clear E
    go_wp2
    go_quiet (fail)
    go_wp2
    go_quiet (fail)
    go_wp2
    go_roundw
    case rel=>exact⟨k,by omega,Ob (by omega),O.o.trans I.o,below_drewN d.o _⟩
    simp[intOf]
 have z:((a.length:Int) != b.length)=true:=by rw[bne_iff_ne];omega
 by_cases J:a.length<b.length
 ·have A:Hid (El a b = -1):=if_pos J
  go_in
  go_wp2
  go_ret
  exact⟨K5 A.o.symm,Jh _ _⟩
 have A:Hid (El a b=1):=(if_neg J).trans (if_pos (by omega))
 go_in
 go_wp2
 go_ret
 exact⟨K5 A.o.symm,Jh _ _⟩
def sg (neg:Bool)(n:Nat):Int:=if neg then -(n:Int) else n
def Nz (B:Nat)(w:World)(z:Value)(neg:Bool)(t:List Nat):Prop:=
 okL t/\isTrim t/\((2<t.length/\∃ v,z=.agg #[.int .i64 0,.bool neg,v]/\U1 B w v t) ∨
 (t.length<=2/\z=.agg #[.int .i64 (sg neg (val t)),.bool false,.slice none 0 0]))
theorem Nz.bl {B:Nat}{w w':World}{z:Value}{neg:Bool}{t:List Nat}(h:Nz B w z neg t)(hb:Up w w'):Nz B w' z neg t:=by
 obtain⟨d,j,h3⟩:=h;refine⟨d,j,?_⟩
 rcases h3 with⟨h3,v,rfl,A⟩|h3
 ·exact .inl ⟨h3,v,rfl,A.bl hb⟩
 exact .inr h3
def Ek (l:List Nat)(i:Nat):Nat:=val (l.drop i)
theorem Ik (l:List Nat)(i:Nat)(h:i<l.length):Ek l i=Ek l (i+1)*1000000000+l.getD i 0:=by
 unfold Ek;rw[Vm h];simp only[val,Jk,Jf h,Un];omega
theorem Dz (l:List Nat):Ek l l.length=0:=by unfold Ek;rw[List.drop_length];rfl
theorem Lk (l:List Nat)(hok:okL l)(i:Nat)(h:l.length<=i+2):Ek l i<1000000000000000000:=by
 unfold Ek;have d:okL (l.drop i):=fun x hx=>hok x (Zy hx);have j:(l.drop i).length<=2:=by rw[Zb];omega
 match hl:l.drop i,j with
 | [],_=>simp[val]
 | [a],_=>have:=d a (by rw[hl];simp);simp[val];omega
 | [a,b],_=>have:=d a (by rw[hl];simp);have:=d b (by rw[hl];simp);simp[val];omega
def LU (neg:Bool)(a:Option Addr)(cap:Nat)(t:List Nat):Value:=
 if 2<t.length then .agg #[.int .i64 0,.bool neg,.slice a t.length cap] else .agg #[.int .i64 (sg neg (val t)),.bool false,.slice none 0 0]
theorem UP {neg:Bool}{a:Option Addr}{cap:Nat}{t:List Nat}(h:2<t.length):LU neg a cap t=.agg #[.int .i64 0,.bool neg,.slice a t.length cap]:=if_pos h
theorem Ps {neg:Bool}{a:Option Addr}{cap:Nat}{t:List Nat}(h:¬ 2<t.length):LU neg a cap t=.agg #[.int .i64 (sg neg (val t)),.bool false,.slice none 0 0]:=if_neg h
theorem YG (neg:Bool)(b off cap:Nat)(l:List Nat)(w:World)(hl:l.length<=cap)(hcap:cap<=maxLen)(hok:okL l)(hb:b<w.heap.size)
 (hc:∀ i,i<l.length->w.cell? ⟨b,off+i,none⟩=some (.int .u32 (l.getD i 0:Nat))) :
 Calls prog 126 #[.bool neg,.slice (some ⟨b,off,none⟩) l.length cap] w fun e w'=>
  e=.returned (LU neg (some ⟨b,off,none⟩) cap (Oe l))/\Up w w':=by
 unfold maxLen at hcap;have HC:Hid (∀ o,∀ i,i<l.length->(w.alloc o).cell? ⟨b,off+i,none⟩=some (.int .u32 (l.getD i 0:Nat))):=fun o i hi=>by rw[Jt _ _ _ hb];exact hc i hi
 clear hc
 go_in
 go_wp2
 go_loop [5] (fun n=>∃ k:Nat,k<=l.length/\n=.int .i64 k/\Oe (l.take k)=Oe l) (fun n=>(intOf n).toNat)
 case atStart=>exact⟨l.length,Of,rfl,by rw[Yl]⟩
 obtain⟨k,hk,rfl,hp⟩:=hrel;have U:=Hd hp;clear hp
 cases k with
 | zero=>
   have K:Hid (Oe l=[]):=by rw[<-U.o];rfl
   cases neg
   all_goals
    go_wp2
    refine wp_loop_rounds 1 ?_;rw[rounds_succ]
    go_wp2
    refine Jj (v:=.agg #[.int .i64 0,.bool false,.slice none 0 0]) ?_ rfl ⟨?_,Oy _ _⟩
    ·simp[results,results126,go_sem]
    rw[K.o,Ps (by simp)];simp[sg,val]
 | succ m=>
   obtain⟨x,hx⟩:=O1 (l.getD m 0);have d:=fun o=>HC.o o m (by omega);simp only[hx] at d;have HX:=Hd hx;clear hx
   by_cases I:x=0
   ·have hz:((x:Int)==0)=true:=by rw[Yc];omega
    have K:Hid (Oe (l.take m)=Oe l):=by rw[<-Ex l m (by omega) (by rw[HX.o,I])];exact U.o
    clear I
    go_wp2
    go_round
    case rel=>exact⟨m,by omega,Ob (by omega),K.o⟩
    simp[intOf]
   have hz:((x:Int)==0)=false:=by rw[Jc];omega
   have HT:Hid (Oe l=l.take (m+1)):=U.o.symm.trans (Ea l m (by omega) (by rw[HX.o];exact I));have G:Hid ((Oe l).length=m+1):=by rw[HT.o,J4];exact Zi (by omega)
   clear I
   by_cases h2:2<m+1
   ·go_wp2
    refine Jj (v:=.agg #[.int .i64 0,.bool neg,.slice (some ⟨b,off,none⟩) (m+1) cap]) ?_ rfl ⟨?_,Oy _ _⟩
    ·simp[results,results126,go_sem]
    rw[UP (by rw[G.o];exact h2),G.o]
   have h:okL (Oe l):=trimL_ok l hok;have M:Hid (∀ i,i<m+1->l.getD i 0=(Oe l).getD i 0):=fun i hi=>(Xy l i (by rw[G.o];exact hi)).symm;obtain⟨t,E⟩:=O1 (Oe l);rw[E] at h;have Y:=Hd E;have O:Hid (∀ i,i<m+1->l.getD i 0=t.getD i 0):=by rw[E] at M;exact M
   have A:Hid (t.length=m+1):=by rw[<-E];exact G.o
   clear M E hok
   cases neg
   all_goals
    go_wp2
    go_loop [6,7] (fun v i=>∃ j:Nat,j<=m+1/\i=.int .i64 (j - 1)/\v=.int .i64 (Ek t j:Nat)) (fun _ i=>(intOf i+1).toNat)
    case atStart=>exact⟨m+1,Of,Ob (by omega),by rw[<-A.o,Dz];rfl⟩
    obtain⟨j,hj,rfl,rfl⟩:=hrel
    cases j with
    | zero=>
      have hv:=Lk t h 0 (by rw[A.o];omega);have HV:Hid (Ek t 0=val t):=rfl
      go_wp2
      refine Jj ?_ rfl ⟨rfl,Oy _ _⟩;rw[Y.o,Ps (by rw[A.o];exact h2),<-HV.o];simp[results,results126,go_sem,sg]
    | succ i=>
      have hv:=Lk t h i (by rw[A.o];omega);have V:Hid (Ek t i=Ek t (i+1)*1000000000+t.getD i 0):=Ik t i (by rw[A.o];omega);obtain⟨y,J⟩:=O1 (t.getD i 0);obtain⟨q,Z⟩:=O1 (Ek t (i+1));have d:=fun o=>HC.o o i (by omega);simp only[O.o i (by omega),J] at d;have b9:y<1000000000:=by
       rw[<-J,Jk,Jf (by rw[A.o];omega)];exact h _ (Jw _)
      rw[J,Z] at V;rw[Z];rw[V.o] at hv;clear J Z
      go_wp2
      go_round
      case rel=>exact⟨i,by omega,Ob (by omega),by rw[V.o];exact Ob (by omega)⟩
      simp[intOf]
theorem Tn (neg:Bool)(a:Option Addr)(cap:Nat)(w:World) :
 Calls prog 126 #[.bool neg,.slice a 0 cap] w fun e w'=>e=.returned (.agg #[.int .i64 0,.bool false,.slice none 0 0])/\Up w w':=by
 cases neg
 all_goals
  go_in
  go_wp2
  refine wp_loop_rounds 1 ?_;rw[rounds_succ]
  go_wp2
  refine wp_loop_rounds 1 ?_;rw[rounds_succ]
  go_wp2
  refine Jj (v:=.agg #[.int .i64 0,.bool false,.slice none 0 0]) ?_ rfl ⟨rfl,Oy _ _⟩;simp[results,results126,go_sem]
theorem Np (B:Nat)(neg:Bool)(v:Value)(l:List Nat)(w:World)(h:U1 B w v l) :
 Calls prog 126 #[.bool neg,v] w fun e w'=>∃ z,e=.returned z/\(∀ B W,U1 B W v l->Nz B W z neg (Oe l))/\Up w w':=by
 obtain⟨a,cap,rfl,hl,j,d,G⟩:=h
 rcases G with rfl|⟨b,E,rfl,_,hb,hc⟩
 ·refine (Tn neg a cap w).mono ?_;rintro e w' ⟨rfl,hb⟩;refine⟨_,rfl,fun B W h=>⟨d,trimL_trim _,.inr ⟨by simp[P8],?_⟩⟩,hb⟩;simp[P8,sg,val]
 refine (YG neg b E cap l w hl j d hb hc).mono ?_;rintro e w' ⟨rfl,hb⟩;refine⟨_,rfl,fun B W h=>⟨trimL_ok l d,trimL_trim _,?_⟩,hb⟩
 by_cases A:2<(Oe l).length
 ·exact .inl ⟨A,_,UP A,U1.cut B W h⟩
 exact .inr ⟨by omega,Ps A⟩
theorem D3 (t:List Nat)(h:t.length<=2)(hok:okL t)(htr:isTrim t) :
 t=[]∨(∃ a,t=[a]/\0<a/\a<1000000000)∨∃ a b,t=[a,b]/\a<1000000000/\0<b/\b<1000000000:=by
 match t,h with
 | [],_=>exact .inl rfl
 | [a],_=>
   have d:=hok a (by simp);have j:=htr (by simp);simp at j;exact .inr (.inl ⟨a,rfl,by omega,d⟩)
 | [a,b],_=>
   have d:=hok a (by simp);have h3:=hok b (by simp);have j:=htr (by simp);simp at j;exact .inr (.inr ⟨a,b,rfl,d,by omega,h3⟩)
theorem Dt (neg:Bool)(t:List Nat)(h2:t.length<=2)(hok:okL t)(htr:isTrim t):U0 neg t=decide (sg neg (val t)<0):=by
 rcases D3 t h2 hok htr with rfl|⟨a,rfl,h3,h4⟩|⟨a,b,rfl,h3,h4,h5⟩
 ·cases neg<;>simp[U0,sg,val]
 ·cases neg<;>simp[U0,sg,val]<;>omega
 cases neg<;>simp[U0,sg,val]<;>omega
theorem UQ {w:World}{x:Int}(B e a g:Nat)(ha:a<1000000000)(hx:x=a)(hg:w.heap.size=g)(hB:B<=g):U1 B (w.alloc (.cells #[.int .u32 x] e)) (.slice (some ⟨g,0,none⟩) 1 1) [a]:=by
 subst hx;subst hg;exact⟨_,1,rfl,by simp,by unfold maxLen;omega,fun x hx=>by simp at hx;omega,.inr ⟨w.heap.size,0,rfl,hB,by simp,fun i hi=>by
  match i,hi with
  | 0,_=>rw[Jp _ _ _ _ rfl];rfl⟩⟩
theorem PQ {w:World}{x y:Int}(B e a b g:Nat)(ha:a<1000000000)(hb:b<1000000000)(hx:x=a)(hy:y=b)(hg:w.heap.size=g)(hB:B<=g):U1 B (w.alloc (.cells #[.int .u32 x,.int .u32 y] e)) (.slice (some ⟨g,0,none⟩) 2 2) [a,b]:=by
 subst hx;subst hy;subst hg;exact⟨_,2,rfl,by simp,by unfold maxLen;omega,fun x hx=>by simp at hx;omega,.inr ⟨w.heap.size,0,rfl,hB,by simp,fun i hi=>by
  match i,hi with
  | 0,_=>rw[Jp _ _ _ _ rfl];rfl
  | 1,_=>rw[Jp _ _ _ _ rfl];rfl⟩⟩
theorem Ez (B:Nat)(z:Value)(neg:Bool)(t:List Nat)(w:World)(h:Nz B w z neg t)(hB:B<=w.heap.size) :
 Calls prog 127 #[z] w fun e w'=>∃ v,e=.returned v/\U1 B w' v t/\Up w w':=by
 obtain⟨A,G,h⟩:=h
 rcases h with⟨I,v,rfl,J⟩|⟨I,rfl⟩
 ·have M:=Hd J;obtain⟨a,cap,rfl,hl,j,_,_⟩:=J;have Z:0<t.length:=by omega
  unfold maxLen at j
  go_in
  go_wp2
  go_ret
  exact⟨_,rfl,M.o.bl (Oy _ _),Oy _ _⟩
 rcases D3 t I A G with rfl|⟨a,rfl,h3,h4⟩|⟨a,b,rfl,h3,h4,h5⟩
 ·cases neg
  all_goals
   simp only[sg,val]
   go_in
   go_wp2
   go_ret
   exact⟨_,rfl,⟨none,0,rfl,by simp,by unfold maxLen;omega,A,.inl rfl⟩,Oy _ _⟩
 ·obtain⟨x,d⟩:∃ x:Int,(a:Int)=x:=⟨_,rfl⟩;have V:0<x:=by omega
  have Y:x<1000000000:=by omega
  have U:(x==0)=false:=by rw[Jc];omega
  have ev:(val [a]:Int)=x:=by simp[val,d]
  have O:=Hd d;unfold sg;rw[ev];clear d ev
  cases neg
  all_goals
   simp only[if_true,if_false,Y7]
   go_in
   go_wp2
   go_ret
   exact⟨_,rfl,UQ B _ a _ h4 O.o.symm (by simp) (by omega),(Oy _ _).alloc (by simp) _⟩
 obtain⟨x,d⟩:∃ x:Int,(a:Int)+1000000000*b=x:=⟨_,rfl⟩;have ev:(val [a,b]:Int)=x:=by simp[val,d]
 have V:1000000000<=x:=by omega
 have Y:x<1000000000000000000:=by omega
 have K:Hid (x % 1000000000=a):=by unfold Hid;omega
 have E:Hid (x / 1000000000=b):=by unfold Hid;omega
 have U:(x==0)=false:=by rw[Jc];omega
 unfold sg;rw[ev];clear d ev
 cases neg
 all_goals
  simp only[if_true,if_false,Y7]
  go_in
  go_wp2
  go_ret
  exact⟨_,rfl,PQ B _ a b _ h3 h5 K.o E.o (by simp) (by omega),(Oy _ _).alloc (by simp) _⟩
open RowKit Proofs.Tryz
def Ay (x y:Nat):Int:=if x<y then -1 else if y<x then 1 else 0
def PJ (x y:Int):Int:=if x<y then -1 else if y<x then 1 else 0
theorem Rh (a b:List Nat):val (a++b)=val a+1000000000 ^ a.length*val b:=by
 induction a with
 | nil=>simp[val]
 | cons x a ih=>
   simp only[Yu,val,ih,Yo,J5];rw[Yf,Yy (1000000000 ^ a.length) 1000000000,Yt];omega
theorem Gu (a:List Nat)(h:okL a):val a<1000000000 ^ a.length:=by
 induction a with
 | nil=>simp[val]
 | cons x a ih=>
   have d:=h x (by simp);have j:=ih (fun y hy=>h y (by simp[hy]));simp only[val,Yo,J5];omega
theorem Iu (a:List Nat)(x:Nat):val (a++[x])=val a+1000000000 ^ a.length*x:=by rw[Rh];simp[val]
theorem Xd (a:List Nat)(htr:isTrim a)(hne:a≠[]):1000000000 ^ (a.length - 1)<=val a:=by
 have h:=htr hne;rw[<-Zg hne];rw[Iu];simp only[Y8,Yo,Zh,List.length_dropLast];have:a.length - 1+(0+1) - 1=a.length - 1:=by omega
 rw[this];have d:1000000000 ^ (a.length - 1)*1<=1000000000 ^ (a.length - 1)*a.getLast hne:=J8 _ (Yp h);omega
theorem N2 (a:List Nat)(htr:isTrim a)(hne:a≠[]):0<val a:=
 Jz (Nat.pow_pos (by decide)) (Xd a htr hne)
theorem NE (P A A' x y:Nat)(hA:A<P)(hA':A'<P):Ay (A+P*x) (A'+P*y)=if x<y then -1 else if y<x then 1 else Ay A A':=by
 unfold Ay
 by_cases d:x<y
 ·have:P*x+P<=P*y:=by rw[<-Nat.mul_succ];exact J8 _ d
  rw[if_pos d,if_pos (by omega)]
 rw[if_neg d]
 by_cases h:y<x
 ·have:P*y+P<=P*x:=by rw[<-Nat.mul_succ];exact J8 _ h
  rw[if_pos h,if_neg (by omega),if_pos (by omega)]
 have:x=y:=by omega
 subst this;rw[if_neg h]
 by_cases h3:A<A'
 ·rw[if_pos h3,if_pos (by omega)]
 rw[if_neg h3,if_neg (by omega)]
 by_cases h4:A'<A
 ·rw[if_pos h4,if_pos (by omega)]
 rw[if_neg h4,if_neg (by omega)]
theorem Fx (a:List Nat)(h:okL a)(k:Nat):okL (a.take k):=fun x hx=>h x (Yv hx)
theorem Wj (a b:List Nat)(ha:okL a)(hb:okL b)(k:Nat)(h1:k<=a.length)(h2:k<=b.length):K7 a b k=Ay (val (a.take k)) (val (b.take k)):=by
 induction k with
 | zero=>simp[K7,Ay,val]
 | succ k ih=>
   have la:(a.take k).length=k:=by rw[J4];omega
   have lb:(b.take k).length=k:=by rw[J4];omega
   have d:=Gu _ (Fx a ha k);have h:=Gu _ (Fx b hb k);rw[la] at d;rw[lb] at h;have j:a.getD k 0=a[k]:=by rw[Jk,Jf (by omega)];rfl
   have A:b.getD k 0=b[k]:=by rw[Jk,Jf (by omega)];rfl
   rw[Yd (by omega),Yd (by omega),Iu,Iu,la,lb,NE _ _ _ _ _ d h,<-ih (by omega) (by omega)];simp only[K7,j,A]
theorem Gf (a b:List Nat)(ha:okL a)(hb:okL b)(ta:isTrim a)(tb:isTrim b):El a b=Ay (val a) (val b):=by
 have d:∀ x y:List Nat,okL x->isTrim y->x.length<y.length->val x<val y:=fun x y hx ty hl=>by
  have h:=Gu x hx;have j:=Xd y ty (by intro e;rw[e] at hl;simp at hl);have h3:1000000000 ^ x.length<=1000000000 ^ (y.length - 1):=Yx (by decide) (by omega);omega
 unfold El
 by_cases h:a.length<b.length
 ·rw[if_pos h];unfold Ay;rw[if_pos (d a b ha tb h)]
 rw[if_neg h]
 by_cases j:b.length<a.length
 ·have:=d b a hb ta j;rw[if_pos j];unfold Ay;rw[if_neg (by omega),if_pos this]
 rw[if_neg j,Wj a b ha hb a.length Of (by omega),Yl,show a.length=b.length by omega,Yl]
def Ww (na nb:Bool)(a b:List Nat):Int:=if na=nb then (if na then El b a else El a b) else if na then -1 else 1
theorem IX (na nb:Bool)(a b:List Nat)(ha:okL a)(hb:okL b)(ta:isTrim a)(tb:isTrim b):Ww (U0 na a) (U0 nb b) a b=PJ (sg na (val a)) (sg nb (val b)):=by
 have d:a=[]/\val a=0∨0<a.length/\0<val a:=by
  by_cases h:a=[]
  ·exact .inl ⟨h,by rw[h];rfl⟩
  exact .inr ⟨Zf.2 h,N2 a ta h⟩
 have j:b=[]/\val b=0∨0<b.length/\0<val b:=by
  by_cases h:b=[]
  ·exact .inl ⟨h,by rw[h];rfl⟩
  exact .inr ⟨Zf.2 h,N2 b tb h⟩
 unfold Ww;rw[Gf a b ha hb ta tb,Gf b a hb ha tb ta];unfold Ay PJ U0 sg
 rcases d with⟨rfl,A⟩|⟨la,A⟩<;>rcases j with⟨rfl,E⟩|⟨lb,E⟩<;>cases na<;>cases nb<;>simp_all<;>(repeat' split)<;>omega
abbrev Nx (l:List Nat):List Value:=l.map (fun x=>Value.int .u32 (x:Nat))
def Gw (w:World)(R:Nat)(l:List Nat):Prop:=w.heap[R]? = some (.cells (Nx l).toArray 154 (0,0))
theorem Gw.lt {w:World}{R:Nat}{l:List Nat}(h:Gw w R l):R<w.heap.size:=(J1.1 h).1
theorem Gw.cell {w:World}{R:Nat}{l:List Nat}(h:Gw w R l)(i:Nat)(hi:i<l.length):w.cell? ⟨R,i,none⟩=some (.int .u32 (l.getD i 0:Nat)):=by
 simp[World.cell?,show w.heap[R]? = _ from h,List.getElem?_eq_getElem hi,List.getD_eq_getElem?_getD]
theorem Gw.frozen {w:World}{R:Nat}{l:List Nat}(h:Gw w R l)(i:Nat):w.frozen? ⟨R,i,none⟩=false:=by
 simp[World.frozen?,show w.heap[R]? = _ from h]
theorem Gw.set {w:World}{R:Nat}{l:List Nat}(h:Gw w R l)(i x:Nat):Gw (w.setCell ⟨R,i,none⟩ (.int .u32 (x:Nat))) R (l.set i x):=by
 obtain⟨d,j⟩:=J1.1 h
 show (w.heap.modify R _)[R]? = _
 rw[Vk (by rw[Z1];exact d),Vl,j];simp[Nx,List.map_set]
theorem Gw.kept {w w':World}{R:Nat}{l:List Nat}(h:Gw w R l)(hb:Up w w'):Gw w' R l:=(hb.block R h.lt).trans h
theorem Gw.drew {w:World}{R:Nat}{l:List Nat}(h:Gw w R l):Gw w.drew R l:=h
theorem Kp {w:World}{base g n:Nat}{l:List Nat}(h:w.ownsRow base 154 1 (.slice (some ⟨g,0,none⟩) n n) n (Nx l)):Gw w g l:=by
 rcases h.2 with⟨e,_⟩|⟨A,cap,j,e,_,hb,_,_,hc,d⟩
 ·cases e
 simp only[Value.slice.injEq,Option.some.injEq,Addr.mk.injEq,and_true,true_and] at e;obtain⟨rfl,rfl⟩:=e;rw[Z0] at hc d;rw[Jn (by rw[Vg];omega)] at d;unfold Gw;rw[hb,<-d]
theorem Gw.isL {w:World}{R B cap:Nat}{l:List Nat}(h:Gw w R l)(hB:B<=R)(hok:okL l)(hc:l.length<=cap)(hm:cap<=maxLen):U1 B w (.slice (some ⟨R,0,none⟩) l.length cap) l:=
 ⟨_,cap,rfl,hc,hm,hok,.inr ⟨R,0,rfl,hB,h.lt,fun i hi=>by rw[Y4];exact h.cell i hi⟩⟩
theorem K8 (n:Nat):(madeCells (Value.int .u32 0).cells (n*1)).toList=Nx (List.replicate n 0):=by
 rw[Z0]
 show (madeCells #[.int .u32 0] n).toList=_
 rw[toList_madeCells_one];simp[Nx]
theorem O2 (l:List Nat)(i x:Nat)(hi:i<l.length):val ((l.set i x).take (i+1))=val (l.take i)+1000000000 ^ i*x:=by
 have e:(l.set i x).take (i+1)=l.take i++[x]:=by
  rw[Yd (by simpa using hi),List.getElem_set_self]
  congr 1
  rw[List.take_set_of_le (Nat.le_refl i)]
 rw[e,Iu,J4,Zi (by omega)]
theorem Ok (l:List Nat)(i:Nat):val (l.take (i+1))=val (l.take i)+1000000000 ^ i*l.getD i 0:=by
 by_cases d:i<l.length
 ·rw[Yd d,Iu,J4,Zi (by omega),Jk,Jf d];rfl
 rw[Jn (by omega),Jn (by omega),Jk,Yj (by omega)];simp
theorem U4 (l:List Nat)(h:okL l)(i x:Nat)(hx:x<1000000000):okL (l.set i x):=fun y hy=>by
 rcases List.mem_or_eq_of_mem_set hy with d|d
 ·exact h y d
 omega
theorem info_u32:(prog.info? 154).map (fun i=>(i.zero,i.size,i.bytes))=some (some (.int .u32 0),1,4):=by kernel_rfl
theorem Fm (s:ByteArray)(w:World)(hs:s.size<=maxLen)(hi:isIntB s=false) :
 Calls prog 139 #[.string s] w fun e w'=>e=.returned (.tuple #[.agg #[.bool false,.slice none 0 0],.bool false])/\Up w w':=by
 have d:=Hd hi;clear hi
 go_in
 go_wp2_with (go_at_call 155;refine (C4 _ _ hs).mono ?_;rintro e w' ⟨rfl,rfl⟩;rw[d.o])
 refine Jj (v:=.tuple #[.agg #[.bool false,.slice none 0 0],.bool false]) ?_ rfl ⟨rfl,Oy _ _⟩;simp[results,results139,go_sem]
theorem Ry (s:ByteArray)(h:isIntB s=true):(∀ c∈(dgs s).data.toList,dig c)/\0<(dgs s).size/\(dgs s).size<=2500:=by
 unfold isIntB at h;simp only[J3,Yg] at h;obtain⟨⟨⟨d,j⟩,h3⟩,_⟩:=h;refine⟨fun c hc=>?_,d,j⟩;rw[Ju] at h3;have:=h3 c hc
 simpa[isDig,dig] using this
theorem OW (s:ByteArray):decide ((dgs s).size<s.size)=isNeg s:=by
 cases h:isNeg s with
 | true=>
   obtain⟨d,_⟩:=Qi s h;rw[Cv s h,Rs];simp;omega
 | false=>rw[Cu s h];simp
theorem Mu (d:ByteArray)(k:Nat):num (d.extract (d.size - 9*k - 9) (d.size - 9*k)).data.toList=chunk d.data.toList k:=by
 unfold chunk;rw[Lib.extract_data,<-Lib.size_eq]
 congr 1
 rw[Uk]
theorem D8 (s:ByteArray)(w:World)(hs:s.size<=maxLen)(hi:isIntB s=true) :
 Calls prog 139 #[.string s] w fun e w'=>∃ v,e=.returned (.tuple #[.agg #[.bool (U0 (isNeg s) (Oe (Et (dgs s).data.toList))),v],.bool true]) /\
  U1 w.heap.size w' v (Oe (Et (dgs s).data.toList))/\Up w w':=by
 obtain⟨O,d5,d6⟩:=Ry s hi;have HI:=Hd hi;obtain⟨d,hd⟩:=O1 (dgs s);rw[hd] at O d5 d6 ⊢;have HD:=Hd hd;have HG:=Hd O;obtain⟨i0,U,b3,b4,b5⟩:=info_parts info_u32;clear hi hd O
 go_in
 go_wp2_with (first
  | (go_at_call 155;refine (C4 _ _ hs).mono ?_;rintro e w' ⟨rfl,rfl⟩;rw[HI.o])
  | (go_at_call 154;refine (Iv _ _ hs).mono ?_;rintro e w' ⟨rfl,rfl⟩;rw[HD.o])
  | (at_make;refine wpList_make_own _ rfl _ _ 121 rfl (w.heap.size+1) 154 i0 (.int .u32 0) 1 underlying121 U b3 b4 .i64 .i64 _ (d.size / 9+1) rfl rfl ?m1 ?m2 ?m3 ?m4 ?_))
 case m1=>omega
 case m2=>rw[b5];omega
 case m3=>unfold maxLen;omega
 case m4=>simp
 intro wm j G;obtain⟨W0,Z⟩:=O1 (w.alloc (.cells #[.bool false,.slice none 0 0] 162));have M:=Hd Z;rw[Z] at G;have c6:W0.heap.size=w.heap.size+1:=by rw[<-Z];simp
 have b8:Below (w.heap.size+1) W0 wm:=(Jh _ _).grown G (by omega) (fun k h=>by cases h);have E:=Hd c6;clear G Z c6
 go_wp2
 go_loopw [5,6] (fun v e wr=>∃ k:Nat,9*k<=d.size+8/\e=.int .i64 (d.size - 9*k) /\
  wr.ownsRow (w.heap.size+1) 154 1 v k ((List.range k).map (fun i=>Value.int .u32 (chunk d.data.toList i:Nat)))/\Below (w.heap.size+1) W0 wr)
  (fun _ e _=>(intOf e).toNat)
 case atStart=>exact⟨0,by omega,by simp,j,b8⟩
 clear j b8;obtain⟨k,hk,rfl,j,J⟩:=hrel
 by_cases f5:9*k<d.size
 ·have e6:=Gc d.data.toList k HG.o;have e9:k<=d.size:=by omega
  go_wp2_with fail
  ·rw[show d.extract ((d.size:Int) - 9*k - 9).toNat (d.size - 9*k)=d.extract (d.size - 9*k - 9) (d.size - 9*k) by rw[show ((d.size:Int) - 9*k - 9).toNat=d.size - 9*k - 9 by omega]];refine (Py _ _ ?ph9 ?phdg).mono ?_
   case ph9=>rw[Ym];omega
   case phdg=>
    intro c hc;rw[Lib.extract_data] at hc;exact HG.o c (Zy (Yv hc))
   rintro e w' ⟨rfl,rfl⟩;rw[Mu]
   go_wp2_with (at_builtin;refine wpList_append_own _ rfl _ _ 121 rfl (w.heap.size+1) 154 i0 (.int .u32 0) 1 4 underlying121 U b3 b4 b5 rfl (by decide) _ _ _ rfl (j.alloc _) ⟨w'.heap.size,0,none⟩ 1 1 [.int .u32 (chunk d.data.toList k:Nat)] rfl rfl (cell_one_new _ _ _) ?pc2 ?pc3 ?pc4 ?pc5 ?_)
   case pc2=>intro u hu;simp at hu;subst hu;rfl
   case pc3=>unfold maxLen;omega
   case pc4=>omega
   case pc5=>have:=J.size;have:=E.o;simp;omega
   intro v' Y I A _;have a7:Below (w.heap.size+1) W0 Y:=(J.alloc (by have:=J.size;have:=E.o;omega) _).grown A (by have:=J.size;have:=E.o;simp;omega) (fun q hq=>(j.lt q hq).1);clear A j J
   go_wp2
   go_roundw
   case rel=>exact⟨k+1,by omega,Ob (by omega),by rw[Zd,Zc];exact I,a7⟩
   simp[intOf];omega
  rw[show d.extract 0 (d.size - 9*k)=d.extract (d.size - 9*k - 9) (d.size - 9*k) by rw[show d.size - 9*k - 9=0 by omega]];refine (Py _ _ ?qh9 ?qhdg).mono ?_
  case qh9=>rw[Ym];omega
  case qhdg=>
   intro c hc;rw[Lib.extract_data] at hc;exact HG.o c (Zy (Yv hc))
  rintro e w' ⟨rfl,rfl⟩;rw[Mu]
  go_wp2_with (at_builtin;refine wpList_append_own _ rfl _ _ 121 rfl (w.heap.size+1) 154 i0 (.int .u32 0) 1 4 underlying121 U b3 b4 b5 rfl (by decide) _ _ _ rfl (j.alloc _) ⟨w'.heap.size,0,none⟩ 1 1 [.int .u32 (chunk d.data.toList k:Nat)] rfl rfl (cell_one_new _ _ _) ?qc2 ?qc3 ?qc4 ?qc5 ?_)
  case qc2=>intro u hu;simp at hu;subst hu;rfl
  case qc3=>unfold maxLen;omega
  case qc4=>omega
  case qc5=>have:=J.size;have:=E.o;simp;omega
  intro v' Y I A _;have a7:Below (w.heap.size+1) W0 Y:=(J.alloc (by have:=J.size;have:=E.o;omega) _).grown A (by have:=J.size;have:=E.o;simp;omega) (fun q hq=>(j.lt q hq).1);clear A j J
  go_wp2
  go_roundw
  case rel=>exact⟨k+1,by omega,Ob (by omega),by rw[Zd,Zc];exact I,a7⟩
  simp[intOf];omega
 have b9:k=Qn d.size:=by unfold Qn;omega
 have hL:U1 (w.heap.size+1) wr u5 (Et d.data.toList):=by
  unfold Et;rw[<-Lib.size_eq,<-b9];refine Ig (e:=154) ?_ (fun x hx=>?_)
  ·simpa[Function.comp_def] using j
  rw[Zm] at hx;obtain⟨i,_,rfl⟩:=hx;exact Gc d.data.toList i HG.o
 have HL:=Hd hL;clear hL j b9
 go_wp2_with fail
 refine (Kd _ _ _ _ _ HL.o).mono ?_;rintro e Y ⟨v',rfl,hcut,a8⟩;have HC:Hid (U1 (w.heap.size+1) Y v' (Oe (Et d.data.toList))):=(hcut _ _ HL.o).bl a8;have K:Below (w.heap.size+1) W0 Y:=J.trans (a8.mono (by have:=J.size;have:=E.o;omega));have d2:Y.cell? ⟨w.heap.size,0,none⟩=some (.bool false):=by
  rw[K.cell (p:=⟨w.heap.size,0,none⟩) (Yi _),<-M.o,Jp _ _ _ _ rfl];rfl
 have d3:Y.cell? ⟨w.heap.size,1,none⟩=some (.slice none 0 0):=by
  rw[K.cell (p:=⟨w.heap.size,1,none⟩) (Yi _),<-M.o,Jp _ _ _ _ rfl];rfl
 have e7:Y.frozen? ⟨w.heap.size,0,none⟩=false:=by
  rw[K.frozen (p:=⟨w.heap.size,0,none⟩) (Yi _),<-M.o,J7 _ _ _ _ rfl]
 have e8:Y.frozen? ⟨w.heap.size,1,none⟩=false:=by
  rw[K.frozen (p:=⟨w.heap.size,1,none⟩) (Yi _),<-M.o,J7 _ _ _ _ rfl]
 have V:Up w Y:=by
  have h0:=Oy w (.cells #[.bool false,.slice none 0 0] 162);rw[M.o] at h0;exact h0.trans (K.mono (Y2 _))
 have HB:=Hd V;obtain⟨a',b7,d7,_⟩:=hcut _ _ HL.o;subst d7;clear hcut a8 K J V
 go_wp2
 refine Jj (v:=.tuple #[.agg #[.bool (U0 (decide (d.size<s.size)) (Oe (Et d.data.toList))),.slice a' (Oe (Et d.data.toList)).length b7],.bool true]) ?_ rfl
  ⟨_,by rw[<-OW s,HD.o],((HC.o.setCell _ _ (Yi _)).setCell _ _ (Yi _)).mono (Y2 _),(HB.o.setCell Of _).setCell Of _⟩
 simp[results,results139,go_sem,d2,d3]
theorem O3 (l:List Nat):val (Oe l)=val l:=by
 induction hn:l.length generalizing l with
 | zero=>rw[Jv hn];rfl
 | succ n ih=>
   have d:l≠[]:=by intro h;rw[h] at hn;simp at hn
   rw[<-Zg d]
   by_cases j:l.getLast d=0
   ·rw[j,Gy,Iu,ih _ (by simp[hn])];omega
   rw[Nb _ _ j]
theorem Dm (x:Nat)(l:List Nat)(h:isTrim (x::l)):isTrim l:=by
 intro d;have:=h (by simp)
 rwa [List.getLast_cons d] at this
theorem val_inj (a b:List Nat)(ha:okL a)(hb:okL b)(ta:isTrim a)(tb:isTrim b)(h:val a=val b):a=b:=by
 induction a generalizing b with
 | nil=>
   by_cases d:b=[]
   ·rw[d]
   have:=N2 b tb d;rw[<-h] at this;simp[val] at this
 | cons x a ih=>
   cases b with
   | nil=>
     have:=N2 (x::a) ta (by simp);rw[h] at this;simp[val] at this
   | cons y b=>
     have E:=ha x (by simp);have G:=hb y (by simp);simp only[val] at h;have j:x=y:=by omega
     have A:val a=val b:=by omega
     rw[j,ih b (fun z hz=>ha z (by simp[hz])) (fun z hz=>hb z (by simp[hz])) (Dm x a ta) (Dm y b tb) A]
def wl (n k:Nat):List Nat:=(List.range k).map (fun i=>n / 1000000000 ^ i % 1000000000)
theorem Aa (n k:Nat):wl n (k+1)=wl n k++[n / 1000000000 ^ k % 1000000000]:=by simp[wl,List.range_succ]
theorem Dk (n k:Nat):(wl n k).length=k:=by simp[wl]
theorem FT (n k:Nat):okL (wl n k):=by
 intro x d;unfold wl at d;rw[Zm] at d;obtain⟨i,_,rfl⟩:=d;exact Zx _ (by decide)
theorem CJ (n k:Nat):val (wl n k)+1000000000 ^ k*(n / 1000000000 ^ k)=n:=by
 induction k with
 | zero=>simp[wl,val]
 | succ k ih=>
   rw[Aa,Iu,Dk,J5,<-Z3];have d:=Uc (n / 1000000000 ^ k) 1000000000;have h:1000000000 ^ k*(n / 1000000000 ^ k)=1000000000 ^ k*(1000000000*(n / 1000000000 ^ k / 1000000000)+n / 1000000000 ^ k % 1000000000):=by rw[d]
   rw[Yf,<-Yt] at h;omega
def Ly (neg:Bool)(l:List Nat):ByteArray:=if l.length=0 then strB [48] else F9 neg l
theorem RV (B:Nat)(neg:Bool)(v:Value)(l:List Nat)(w:World)(hI:U1 B w v l)(hlen:l.length<=600)(hLT:LT w) :
 Calls prog 191 #[.agg #[.bool neg,v]] w fun e w'=>e=.returned (.string (Ly neg l))/\Up w w':=by
 by_cases h:l.length=0
 ·obtain⟨a,cap,rfl,_⟩:=hI;rw[h];refine (GR neg a cap w).mono ?_;rintro e w' ⟨rfl,hb⟩;exact⟨by unfold Ly;rw[if_pos h];rfl,hb⟩
 refine (RU B neg v l w hI (by omega) hlen hLT).mono ?_;rintro e w' ⟨rfl,hb⟩;exact⟨by unfold Ly;rw[if_neg h],hb⟩
theorem LT.bl {w w':World}(h:LT w)(hb:Up w w'):LT w':=fun j hj=>(hb.cell (p:=⟨4,j,none⟩) (A8 h)).trans (h j hj)
def Gb (d:List UInt8)(a b:Nat):Nat:=num ((d.take b).drop a)
theorem Qc (d:List UInt8)(a:Nat):Gb d a a=0:=by
 unfold Gb;rw[Zj (List.length_take_le _ _)];rfl
theorem NX (d:ByteArray)(a j:Nat)(h1:a<=j)(h2:j<d.size):Gb d.data.toList a (j+1)=Gb d.data.toList a j*10+(d[j].toNat - 48):=by
 unfold Gb;rw[G3 d j h2,List.drop_append_of_le_length (by rw[J4,<-Lib.size_eq];omega),R7]
theorem Xi (d:ByteArray)(dl:List UInt8)(hd:d.data.toList=dl)(a j:Nat)(h1:a<=j)(h2:j<d.size):Gb dl a (j+1)=Gb dl a j*10+(d[j].toNat - 48):=by
 subst hd;exact NX d a j h1 h2
theorem Po (d:List UInt8)(h:∀ c∈d,dig c)(a j:Nat)(hj:j<a+9):Gb d a j<100000000:=by
 unfold Gb;have E:=ZU ((d.take j).drop a) (fun c hc=>h c (Yv (Zy hc)));have A:((d.take j).drop a).length<=8:=by rw[Zb,J4];omega
 have h3:10 ^ ((d.take j).drop a).length<=10 ^ 8:=Yx (by omega) A;have:(10:Nat) ^ 8=100000000:=by decide
 omega
theorem Nz.setCell {B:Nat}{w:World}{z:Value}{neg:Bool}{t:List Nat}(h:Nz B w z neg t)(p:Addr)(u:Value)(hp:p.block<B):Nz B (w.setCell p u) z neg t:=by
 obtain⟨d,j,h3⟩:=h;refine⟨d,j,?_⟩
 rcases h3 with⟨h3,v,rfl,A⟩|h3
 ·exact .inl ⟨h3,v,rfl,A.setCell p u hp⟩
 exact .inr h3
theorem Nz.mono {B B':Nat}{w:World}{z:Value}{neg:Bool}{t:List Nat}(h:Nz B w z neg t)(hb:B'<=B):Nz B' w z neg t:=by
 obtain⟨d,j,h3⟩:=h;refine⟨d,j,?_⟩
 rcases h3 with⟨h3,v,rfl,A⟩|h3
 ·exact .inl ⟨h3,v,rfl,A.mono hb⟩
 exact .inr h3
theorem Nz.shape {B:Nat}{w:World}{z:Value}{neg:Bool}{t:List Nat}(h:Nz B w z neg t):∃ (z0:Int) (zn:Bool) (za:Option Addr) (zl zc:Nat),z=.agg #[.int .i64 z0,.bool zn,.slice za zl zc]:=by
 obtain⟨d,j,h3⟩:=h
 rcases h3 with⟨h3,v,rfl,a,cap,rfl,_⟩|⟨_,rfl⟩
 ·exact⟨_,_,_,_,_,rfl⟩
 exact⟨_,_,_,_,_,rfl⟩
theorem YI (s:ByteArray)(w:World)(hi:isIntB s=true)(hn:isNeg s=false) :
 Calls prog 109 #[.string s] w fun e w'=>∃ z,e=.returned z/\Nz w.heap.size w' z false (Oe (Et (s).data.toList))/\Up w w':=by
 obtain⟨J,c6,c8⟩:=Ry s hi;rw[Cu s hn] at J c6 c8;obtain⟨dl,V⟩:=O1 ((s).data.toList);have K:=Hd V;have HZ:Hid (dl.length=s.size):=by unfold Hid;rw[<-V,<-Lib.size_eq]
 rw[Lib.size_eq,V,HZ.o] at c6 c8;rw[V] at J ⊢;have HG:=Hd J;have e8:0<s.size:=by omega
 have hm:((s[0].toNat:Int)==45)=false:=by have:=S7 s hn e8;simp;omega
 obtain⟨i0,a8,d3,d4,d5⟩:=info_parts info_u32;obtain⟨W0,b5⟩:=O1 (w.alloc (.cells #[.int .i64 0,.bool false,.slice none 0 0] 123));have A:=Hd b5;have d1:W0.heap.size=w.heap.size+1:=by rw[<-b5];simp
 have G:=Hd d1;clear hi J d1 b5 hn V
 go_in
 go_wp2
 rw[A.o]
 go_loopw [4,5] (fun v e wr=>∃ k:Nat,9*k<=s.size+8/\e=.int .i64 ((s.size:Nat) - 9*k) /\
  wr.ownsRow (w.heap.size+1) 154 1 v k ((List.range k).map (fun i=>Value.int .u32 (chunk dl i:Nat)))/\Below (w.heap.size+1) W0 wr)
  (fun _ e _=>(intOf e).toNat)
 case atStart=>exact⟨0,by omega,Ob (by omega),Vv _ _ _ _,Jh _ _⟩
 obtain⟨k,hk,rfl,h,M⟩:=hrel
 by_cases g4:9*k<s.size
 ·by_cases h9:9*k+9<=s.size
  ·
   go_wp2
   go_loop [7,8] (fun t i=>∃ j:Nat,s.size - 9*k - 9<=j/\j<=s.size - 9*k/\i=.int .i64 j/\t=.int .u32 (Gb dl (s.size - 9*k - 9) j:Nat)) (fun _ i=>s.size - 9*k - (intOf i).toNat)
   case atStart=>exact⟨s.size - 9*k - 9,Of,by omega,Ob (by omega),by rw[Qc];rfl⟩
   obtain⟨j,b7,e4,rfl,rfl⟩:=hrel
   by_cases e6:j<s.size - 9*k
   ·have Y:j<(s).size:=by rw[Lib.size_eq,K.o,HZ.o];omega
    have e5:j<s.size:=by omega
    have e7:=Po dl HG.o (s.size - 9*k - 9) j (by omega);have e2:=Cs (s) (by rw[K.o];exact HG.o) j Y;have HS:Hid (Gb dl (s.size - 9*k - 9) (j+1)=Gb dl (s.size - 9*k - 9) j*10+((s)[j].toNat - 48)):=Xi (s) dl K.o (s.size - 9*k - 9) j b7 Y
    go_wp2
    go_round
    case rel=>exact⟨j+1,by omega,by omega,by go_num,by rw[HS.o];exact Ob (by omega)⟩
    simp[intOf];omega
   have Z:j=s.size - 9*k:=by omega
   have U:Hid (Gb dl (s.size - 9*k - 9) j=chunk dl k):=by
    unfold Hid
    rw[Z];unfold Gb chunk;rw[HZ.o]
   have e3:=Gc dl k HG.o;rw[U.o];clear Z U
   go_wp2_with (at_builtin;refine wpList_append_own _ rfl _ _ 121 rfl (w.heap.size+1) 154 i0 (.int .u32 0) 1 4 underlying121 a8 d3 d4 d5 rfl (by decide) _ _ _ rfl (h.alloc _) ⟨wr.heap.size,0,none⟩ 1 1 [.int .u32 (chunk dl k:Nat)] rfl rfl (cell_one_new _ _ _) ?pac2 ?pac3 ?pac4 ?pac5 ?_)
   case pac2=>first|rfl|(intro u hu;simp at hu;subst hu;rfl)
   case pac3=>unfold maxLen;omega
   case pac4=>omega
   case pac5=>have:=M.size;have:=G.o;simp;omega
   intro v' O I d _;have b4:Below (w.heap.size+1) W0 O:=(M.alloc (by have:=M.size;have:=G.o;omega) _).grown d (by have:=M.size;have:=G.o;simp;omega) (fun q hq=>(h.lt q hq).1);clear d h M
   go_wp2
   go_roundw
   case rel=>exact⟨k+1,by omega,Ob (by omega),by rw[Zd,Zc];exact I,b4⟩
   simp[intOf];omega
  go_wp2
  go_loop [7,8] (fun t i=>∃ j:Nat,0<=j/\j<=s.size - 9*k/\i=.int .i64 j/\t=.int .u32 (Gb dl (0) j:Nat)) (fun _ i=>s.size - 9*k - (intOf i).toNat)
  case atStart=>exact⟨0,Of,by omega,Ob (by omega),by rw[Qc];rfl⟩
  obtain⟨j,b7,e4,rfl,rfl⟩:=hrel
  by_cases e6:j<s.size - 9*k
  ·have Y:j<(s).size:=by rw[Lib.size_eq,K.o,HZ.o];omega
   have e5:j<s.size:=by omega
   have e7:=Po dl HG.o (0) j (by omega);have e2:=Cs (s) (by rw[K.o];exact HG.o) j Y;have HS:Hid (Gb dl (0) (j+1)=Gb dl (0) j*10+((s)[j].toNat - 48)):=Xi (s) dl K.o (0) j b7 Y
   go_wp2
   go_round
   case rel=>exact⟨j+1,by omega,by omega,by go_num,by rw[HS.o];exact Ob (by omega)⟩
   simp[intOf];omega
  have Z:j=s.size - 9*k:=by omega
  have U:Hid (Gb dl (0) j=chunk dl k):=by
   unfold Hid
   rw[Z];unfold Gb chunk;rw[HZ.o];rw[show s.size - 9*k - 9=0 by omega]
  have e3:=Gc dl k HG.o;rw[U.o];clear Z U
  go_wp2_with (at_builtin;refine wpList_append_own _ rfl _ _ 121 rfl (w.heap.size+1) 154 i0 (.int .u32 0) 1 4 underlying121 a8 d3 d4 d5 rfl (by decide) _ _ _ rfl (h.alloc _) ⟨wr.heap.size,0,none⟩ 1 1 [.int .u32 (chunk dl k:Nat)] rfl rfl (cell_one_new _ _ _) ?pbc2 ?pbc3 ?pbc4 ?pbc5 ?_)
  case pbc2=>first|rfl|(intro u hu;simp at hu;subst hu;rfl)
  case pbc3=>unfold maxLen;omega
  case pbc4=>omega
  case pbc5=>have:=M.size;have:=G.o;simp;omega
  intro v' O I d _;have b4:Below (w.heap.size+1) W0 O:=(M.alloc (by have:=M.size;have:=G.o;omega) _).grown d (by have:=M.size;have:=G.o;simp;omega) (fun q hq=>(h.lt q hq).1);clear d h M
  go_wp2
  go_roundw
  case rel=>exact⟨k+1,by omega,Ob (by omega),by rw[Zd,Zc];exact I,b4⟩
  simp[intOf];omega
 have d0:k=Qn (s.size):=by unfold Qn;omega
 have hL:U1 (w.heap.size+1) wr u4 (Et dl):=by
  unfold Et;rw[HZ.o,<-d0];refine Ig (e:=154) ?_ (fun x hx=>?_)
  ·simpa[Function.comp_def] using h
  rw[Zm] at hx;obtain⟨i,_,rfl⟩:=hx;exact Gc dl i HG.o
 have HL:=Hd hL;clear hL h d0
 go_wp2_with fail
 refine (Np _ _ _ _ _ HL.o).mono ?_;rintro e O ⟨z,rfl,hcut,b6⟩;have hZ:=(hcut _ _ HL.o).bl b6;have E:Below (w.heap.size+1) W0 O:=M.trans (b6.mono (by have:=M.size;have:=G.o;omega));have d9:O.cell? ⟨w.heap.size,0,none⟩=some (.int .i64 0):=by
  rw[E.cell (p:=⟨w.heap.size,0,none⟩) (Yi _),<-A.o,Jp _ _ _ _ rfl];rfl
 have e0:O.cell? ⟨w.heap.size,1,none⟩=some (.bool false):=by
  rw[E.cell (p:=⟨w.heap.size,1,none⟩) (Yi _),<-A.o,Jp _ _ _ _ rfl];rfl
 have e1:O.cell? ⟨w.heap.size,2,none⟩=some (.slice none 0 0):=by
  rw[E.cell (p:=⟨w.heap.size,2,none⟩) (Yi _),<-A.o,Jp _ _ _ _ rfl];rfl
 have g1:O.frozen? ⟨w.heap.size,0,none⟩=false:=by
  rw[E.frozen (p:=⟨w.heap.size,0,none⟩) (Yi _),<-A.o,J7 _ _ _ _ rfl]
 have g2:O.frozen? ⟨w.heap.size,1,none⟩=false:=by
  rw[E.frozen (p:=⟨w.heap.size,1,none⟩) (Yi _),<-A.o,J7 _ _ _ _ rfl]
 have g3:O.frozen? ⟨w.heap.size,2,none⟩=false:=by
  rw[E.frozen (p:=⟨w.heap.size,2,none⟩) (Yi _),<-A.o,J7 _ _ _ _ rfl]
 have a7:Up w O:=by
  have h0:=Oy w (.cells #[.int .i64 0,.bool false,.slice none 0 0] 123);rw[A.o] at h0;exact h0.trans (E.mono (Y2 _))
 have HB:=Hd a7;have d7:=Hd hZ;obtain⟨z0,zn,za,zl,zc,e9⟩:=hZ.shape;subst e9;clear hcut b6 E M a7 hZ
 go_wp2
 refine Jj ?_ rfl ⟨_,rfl,(((d7.o.setCell _ _ (Yi _)).setCell _ _ (Yi _)).setCell _ _ (Yi _)).mono (Y2 _),((HB.o.setCell Of _).setCell Of _).setCell Of _⟩;simp[results,results109,go_sem,d9,e0,e1]
theorem YH (s:ByteArray)(w:World)(hi:isIntB s=true)(hn:isNeg s=true) :
 Calls prog 109 #[.string s] w fun e w'=>∃ z,e=.returned z/\Nz w.heap.size w' z true (Oe (Et (s.extract 1 s.size).data.toList))/\Up w w':=by
 obtain⟨J,c6,c8⟩:=Ry s hi;rw[Cv s hn] at J c6 c8;obtain⟨dl,V⟩:=O1 ((s.extract 1 s.size).data.toList);have K:=Hd V;have HZ:Hid (dl.length=(s.size - 1)):=by unfold Hid;rw[<-V,<-Lib.size_eq];exact Rs s
 rw[Lib.size_eq,V,HZ.o] at c6 c8;rw[V] at J ⊢;have HG:=Hd J;have g4:0<s.size:=by omega
 have hm:((s[0].toNat:Int)==45)=true:=by have:=(Qi s hn).2;simp;omega
 obtain⟨i0,a8,d3,d4,d5⟩:=info_parts info_u32;obtain⟨W0,b5⟩:=O1 (w.alloc (.cells #[.int .i64 0,.bool false,.slice none 0 0] 123));have A:=Hd b5;have d1:W0.heap.size=w.heap.size+1:=by rw[<-b5];simp
 have G:=Hd d1;clear hi J d1 b5 hn V
 go_in
 go_wp2
 rw[A.o]
 go_loopw [4,5] (fun v e wr=>∃ k:Nat,9*k<=(s.size - 1)+8/\e=.int .i64 (((s.size - 1):Nat) - 9*k) /\
  wr.ownsRow (w.heap.size+1) 154 1 v k ((List.range k).map (fun i=>Value.int .u32 (chunk dl i:Nat)))/\Below (w.heap.size+1) W0 wr)
  (fun _ e _=>(intOf e).toNat)
 case atStart=>exact⟨0,by omega,Ob (by omega),Vv _ _ _ _,Jh _ _⟩
 obtain⟨k,hk,rfl,h,M⟩:=hrel
 by_cases g3:9*k<(s.size - 1)
 ·by_cases h9:9*k+9<=(s.size - 1)
  ·
   go_wp2
   go_loop [7,8] (fun t i=>∃ j:Nat,(s.size - 1) - 9*k - 9<=j/\j<=(s.size - 1) - 9*k/\i=.int .i64 j/\t=.int .u32 (Gb dl ((s.size - 1) - 9*k - 9) j:Nat)) (fun _ i=>(s.size - 1) - 9*k - (intOf i).toNat)
   case atStart=>exact⟨(s.size - 1) - 9*k - 9,Of,by omega,Ob (by omega),by rw[Qc];rfl⟩
   obtain⟨j,b7,e4,rfl,rfl⟩:=hrel
   by_cases e6:j<(s.size - 1) - 9*k
   ·have Y:j<(s.extract 1 s.size).size:=by rw[Lib.size_eq,K.o,HZ.o];omega
    have e5:j<(s.size - 1):=by omega
    have e7:=Po dl HG.o ((s.size - 1) - 9*k - 9) j (by omega);have e2:=Cs (s.extract 1 s.size) (by rw[K.o];exact HG.o) j Y;have HS:Hid (Gb dl ((s.size - 1) - 9*k - 9) (j+1)=Gb dl ((s.size - 1) - 9*k - 9) j*10+((s.extract 1 s.size)[j].toNat - 48)):=Xi (s.extract 1 s.size) dl K.o ((s.size - 1) - 9*k - 9) j b7 Y
    go_wp2
    go_round
    case rel=>exact⟨j+1,by omega,by omega,by go_num,by rw[HS.o];exact Ob (by omega)⟩
    simp[intOf];omega
   have Z:j=(s.size - 1) - 9*k:=by omega
   have U:Hid (Gb dl ((s.size - 1) - 9*k - 9) j=chunk dl k):=by
    unfold Hid
    rw[Z];unfold Gb chunk;rw[HZ.o]
   have e3:=Gc dl k HG.o;rw[U.o];clear Z U
   go_wp2_with (at_builtin;refine wpList_append_own _ rfl _ _ 121 rfl (w.heap.size+1) 154 i0 (.int .u32 0) 1 4 underlying121 a8 d3 d4 d5 rfl (by decide) _ _ _ rfl (h.alloc _) ⟨wr.heap.size,0,none⟩ 1 1 [.int .u32 (chunk dl k:Nat)] rfl rfl (cell_one_new _ _ _) ?nac2 ?nac3 ?nac4 ?nac5 ?_)
   case nac2=>first|rfl|(intro u hu;simp at hu;subst hu;rfl)
   case nac3=>unfold maxLen;omega
   case nac4=>omega
   case nac5=>have:=M.size;have:=G.o;simp;omega
   intro v' O I d _;have b4:Below (w.heap.size+1) W0 O:=(M.alloc (by have:=M.size;have:=G.o;omega) _).grown d (by have:=M.size;have:=G.o;simp;omega) (fun q hq=>(h.lt q hq).1);clear d h M
   go_wp2
   go_roundw
   case rel=>exact⟨k+1,by omega,Ob (by omega),by rw[Zd,Zc];exact I,b4⟩
   simp[intOf];omega
  go_wp2
  go_loop [7,8] (fun t i=>∃ j:Nat,0<=j/\j<=(s.size - 1) - 9*k/\i=.int .i64 j/\t=.int .u32 (Gb dl (0) j:Nat)) (fun _ i=>(s.size - 1) - 9*k - (intOf i).toNat)
  case atStart=>exact⟨0,Of,by omega,Ob (by omega),by rw[Qc];rfl⟩
  obtain⟨j,b7,e4,rfl,rfl⟩:=hrel
  by_cases e6:j<(s.size - 1) - 9*k
  ·have Y:j<(s.extract 1 s.size).size:=by rw[Lib.size_eq,K.o,HZ.o];omega
   have e5:j<(s.size - 1):=by omega
   have e7:=Po dl HG.o (0) j (by omega);have e2:=Cs (s.extract 1 s.size) (by rw[K.o];exact HG.o) j Y;have HS:Hid (Gb dl (0) (j+1)=Gb dl (0) j*10+((s.extract 1 s.size)[j].toNat - 48)):=Xi (s.extract 1 s.size) dl K.o (0) j b7 Y
   go_wp2
   go_round
   case rel=>exact⟨j+1,by omega,by omega,by go_num,by rw[HS.o];exact Ob (by omega)⟩
   simp[intOf];omega
  have Z:j=(s.size - 1) - 9*k:=by omega
  have U:Hid (Gb dl (0) j=chunk dl k):=by
   unfold Hid
   rw[Z];unfold Gb chunk;rw[HZ.o];rw[show (s.size - 1) - 9*k - 9=0 by omega]
  have e3:=Gc dl k HG.o;rw[U.o];clear Z U
  go_wp2_with (at_builtin;refine wpList_append_own _ rfl _ _ 121 rfl (w.heap.size+1) 154 i0 (.int .u32 0) 1 4 underlying121 a8 d3 d4 d5 rfl (by decide) _ _ _ rfl (h.alloc _) ⟨wr.heap.size,0,none⟩ 1 1 [.int .u32 (chunk dl k:Nat)] rfl rfl (cell_one_new _ _ _) ?nbc2 ?nbc3 ?nbc4 ?nbc5 ?_)
  case nbc2=>first|rfl|(intro u hu;simp at hu;subst hu;rfl)
  case nbc3=>unfold maxLen;omega
  case nbc4=>omega
  case nbc5=>have:=M.size;have:=G.o;simp;omega
  intro v' O I d _;have b4:Below (w.heap.size+1) W0 O:=(M.alloc (by have:=M.size;have:=G.o;omega) _).grown d (by have:=M.size;have:=G.o;simp;omega) (fun q hq=>(h.lt q hq).1);clear d h M
  go_wp2
  go_roundw
  case rel=>exact⟨k+1,by omega,Ob (by omega),by rw[Zd,Zc];exact I,b4⟩
  simp[intOf];omega
 have d0:k=Qn ((s.size - 1)):=by unfold Qn;omega
 have hL:U1 (w.heap.size+1) wr u4 (Et dl):=by
  unfold Et;rw[HZ.o,<-d0];refine Ig (e:=154) ?_ (fun x hx=>?_)
  ·simpa[Function.comp_def] using h
  rw[Zm] at hx;obtain⟨i,_,rfl⟩:=hx;exact Gc dl i HG.o
 have HL:=Hd hL;clear hL h d0
 go_wp2_with fail
 refine (Np _ _ _ _ _ HL.o).mono ?_;rintro e O ⟨z,rfl,hcut,b6⟩;have hZ:=(hcut _ _ HL.o).bl b6;have E:Below (w.heap.size+1) W0 O:=M.trans (b6.mono (by have:=M.size;have:=G.o;omega));have d9:O.cell? ⟨w.heap.size,0,none⟩=some (.int .i64 0):=by
  rw[E.cell (p:=⟨w.heap.size,0,none⟩) (Yi _),<-A.o,Jp _ _ _ _ rfl];rfl
 have e0:O.cell? ⟨w.heap.size,1,none⟩=some (.bool false):=by
  rw[E.cell (p:=⟨w.heap.size,1,none⟩) (Yi _),<-A.o,Jp _ _ _ _ rfl];rfl
 have e1:O.cell? ⟨w.heap.size,2,none⟩=some (.slice none 0 0):=by
  rw[E.cell (p:=⟨w.heap.size,2,none⟩) (Yi _),<-A.o,Jp _ _ _ _ rfl];rfl
 have g0:O.frozen? ⟨w.heap.size,0,none⟩=false:=by
  rw[E.frozen (p:=⟨w.heap.size,0,none⟩) (Yi _),<-A.o,J7 _ _ _ _ rfl]
 have g1:O.frozen? ⟨w.heap.size,1,none⟩=false:=by
  rw[E.frozen (p:=⟨w.heap.size,1,none⟩) (Yi _),<-A.o,J7 _ _ _ _ rfl]
 have g2:O.frozen? ⟨w.heap.size,2,none⟩=false:=by
  rw[E.frozen (p:=⟨w.heap.size,2,none⟩) (Yi _),<-A.o,J7 _ _ _ _ rfl]
 have a7:Up w O:=by
  have h0:=Oy w (.cells #[.int .i64 0,.bool false,.slice none 0 0] 123);rw[A.o] at h0;exact h0.trans (E.mono (Y2 _))
 have HB:=Hd a7;have d7:=Hd hZ;obtain⟨z0,zn,za,zl,zc,e8⟩:=hZ.shape;subst e8;clear hcut b6 E M a7 hZ
 go_wp2
 refine Jj ?_ rfl ⟨_,rfl,(((d7.o.setCell _ _ (Yi _)).setCell _ _ (Yi _)).setCell _ _ (Yi _)).mono (Y2 _),((HB.o.setCell Of _).setCell Of _).setCell Of _⟩;simp[results,results109,go_sem,d9,e0,e1]
theorem H6 (s:ByteArray)(w:World)(hi:isIntB s=true) :
 Calls prog 109 #[.string s] w fun e w'=>∃ z,e=.returned z/\Nz w.heap.size w' z (isNeg s) (Oe (Et (dgs s).data.toList))/\Up w w':=by
 cases hn:isNeg s
 ·rw[Cu s hn];exact YI s w hi hn
 rw[Cv s hn];exact YH s w hi hn
end Go.Proofs.YtipgjenolpofpaaGreatDoor.Q
