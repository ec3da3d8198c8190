import Derived.Test.YtdmdmgfjpomdbaaGreatDoorP00
import Derived.Test.YtdmdmgfjpomdbaaGreatDoorP01
import Derived.Deep.QuietTactic
import Derived.BigQuiet
import Derived.WalkSmall
import Derived.Maps.AppendAt
import Derived.OneCell
set_option maxRecDepth 100000
set_option maxHeartbeats 2000000
namespace Go.Proofs.YtdmdmgfjpomdbaaGreatDoor.Q
open ChangeShapes WideShapes ChangeAt RowKit Proofs.Tryz
variable {B R cap:Nat}{a:Option Addr}{l t:List Nat}{neg:Bool}{w w':World}{z:Value}
def Er (a b:List Nat):Nat->Int
 | 0=>0
 | k+1=>if a.getD k 0<b.getD k 0 then -1 else if b.getD k 0<a.getD k 0 then 1 else Er a b k
def Ny (a b:List Nat):Int:=if a.length<b.length then -1 else if b.length<a.length then 1 else Er a b a.length
theorem Kz.cells {n:Nat}(h:Kz B w (.slice a n cap) l):n=l.length/\l.length<=cap/\cap<=maxLen/\okL l /\
 ∀ i,i<l.length->∃ b off,a=some ⟨b,off,none⟩/\b<w.heap.size/\w.cell? ⟨b,off+i,none⟩=some (.int .u32 (l.getD i 0:Nat)):=by
 obtain⟨I,A,E,hl,d,j,G⟩:=h;simp only[Value.slice.injEq] at E;obtain⟨rfl,rfl,rfl⟩:=E;refine⟨rfl,hl,d,j,fun i hi=>?_⟩
 rcases G with rfl|⟨b,off,rfl,_,hb,hc⟩
 ·simp at hi
 exact⟨b,off,rfl,hb,hc i hi⟩
theorem E7 (B:Nat)(va vb:Value)(a b:List Nat)(w:World)(ha:Kz B w va a)(hb:Kz B w vb b) :
 Calls prog 215 #[va,vb] w fun e w'=>e=.returned (.int .i64 (Ny a b))/\Up w w':=by
 obtain⟨pa,ca,rfl,_⟩:=id ha;obtain⟨pb,cb,rfl,_⟩:=id hb;obtain⟨_,b8,O,J,h⟩:=ha.cells;obtain⟨_,b9,hb2,K,j⟩:=hb.cells;unfold maxLen at O hb2;have HA:=Hd h;have HB:=Hd j;clear h j ha hb J K
 by_cases G:a.length=b.length
 ·have z:((a.length:Int) != b.length)=false:=by rw[bne_eq_false_iff_eq];omega
  have A:Hid (Ny a b=Er a b a.length):=by show Ny a b=_;unfold Ny;rw[if_neg (by omega),if_neg (by omega)]
  have HL:=Hd G;clear G
  go_in
  go_wp2
  go_loopw [5] (fun i wr=>∃ k:Nat,k<=a.length/\i=.int .i64 (k - 1)/\Er a b a.length=Er a b k/\Up w wr) (fun i _=>(intOf i+1).toNat)
  case atStart=>exact⟨a.length,leR,rfl,rfl,Je _ _⟩
  obtain⟨k,hk,rfl,hp,hB⟩:=hrel;have M:=Hd hp;have d:=Hd hB;clear hp hB
  cases k with
  | zero=>
    go_wp2
    go_ret
    exact⟨Eo (by rw[A.o,M.o];rfl),d.o⟩
  | succ k=>
    obtain⟨ba,oa,rfl,U,h⟩:=HA.o k (by omega);obtain⟨bb,ob,rfl,V,j⟩:=HB.o k (by have:=HL.o;omega);rw[<-d.o.cell (p:=⟨ba,oa+k,none⟩) U] at h;rw[<-d.o.cell (p:=⟨bb,ob+k,none⟩) V] at j;obtain⟨x,Y⟩:=Oa (a.getD k 0);obtain⟨y,Z⟩:=Oa (b.getD k 0);have E:Hid (Er a b (k+1)=if x<y then -1 else if y<x then 1 else Er a b k):=by rw[<-Y,<-Z];rfl
    rw[Y] at h;rw[Z] at j;have c6:k<b.length:=by have:=HL.o;omega
    clear Y Z
    by_cases G:x<y
    ·have I:Hid (Er a b (k+1) = -1):=E.o.trans (if_pos G);clear E
     go_wp2
     go_quiet (fail)
     go_wp2
     go_ret
     exact⟨Eo (by rw[A.o,M.o,I.o]),below_drewN d.o _⟩
    by_cases h2:y<x
    ·have I:Hid (Er a b (k+1)=1):=E.o.trans ((if_neg G).trans (if_pos h2));clear E
     go_wp2
     go_quiet (fail)
     go_wp2
     go_quiet (fail)
     go_wp2
     go_ret
     exact⟨Eo (by rw[A.o,M.o,I.o]),below_drewN (below_drewN d.o _) _⟩
    have I:Hid (Er a b (k+1)=Er a b k):=E.o.trans ((if_neg G).trans (if_neg h2));clear E
    go_wp2
    go_quiet (fail)
    go_wp2
    go_quiet (fail)
    go_wp2
    go_roundw
    case rel=>exact⟨k,by omega,Ot (by omega),M.o.trans I.o,below_drewN d.o _⟩
    simp[intOf]
 have z:((a.length:Int) != b.length)=true:=by rw[bne_iff_ne];omega
 by_cases h2:a.length<b.length
 ·have A:Hid (Ny a b = -1):=if_pos h2
  go_in
  go_wp2
  go_ret
  exact⟨Eo A.o.symm,Je _ _⟩
 have A:Hid (Ny a b=1):=(if_neg h2).trans (if_pos (by omega))
 go_in
 go_wp2
 go_ret
 exact⟨Eo A.o.symm,Je _ _⟩
theorem Gh (B:Nat)(va vb:Value)(a b:List Nat)(w:World)(ha:Kz B w va a)(hb:Kz B w vb b) :
 Calls prog 169 #[va,vb] w fun e w'=>e=.returned (.int .i64 (Ny a b))/\Up w w':=by
 obtain⟨pa,ca,rfl,_⟩:=id ha;obtain⟨pb,cb,rfl,_⟩:=id hb;obtain⟨_,b8,O,J,h⟩:=ha.cells;obtain⟨_,b9,hb2,K,j⟩:=hb.cells;unfold maxLen at O hb2;have HA:=Hd h;have HB:=Hd j;clear h j ha hb J K
 by_cases G:a.length=b.length
 ·have z:((a.length:Int) != b.length)=false:=by rw[bne_eq_false_iff_eq];omega
  have A:Hid (Ny a b=Er a b a.length):=by show Ny a b=_;unfold Ny;rw[if_neg (by omega),if_neg (by omega)]
  have HL:=Hd G;clear G
  go_in
  go_wp2
  go_loopw [5] (fun i wr=>∃ k:Nat,k<=a.length/\i=.int .i64 (k - 1)/\Er a b a.length=Er a b k/\Up w wr) (fun i _=>(intOf i+1).toNat)
  case atStart=>exact⟨a.length,leR,rfl,rfl,Je _ _⟩
  obtain⟨k,hk,rfl,hp,hB⟩:=hrel;have M:=Hd hp;have d:=Hd hB;clear hp hB
  cases k with
  | zero=>
    go_wp2
    go_ret
    exact⟨Eo (by rw[A.o,M.o];rfl),d.o⟩
  | succ k=>
    obtain⟨ba,oa,rfl,U,h⟩:=HA.o k (by omega);obtain⟨bb,ob,rfl,V,j⟩:=HB.o k (by have:=HL.o;omega);rw[<-d.o.cell (p:=⟨ba,oa+k,none⟩) U] at h;rw[<-d.o.cell (p:=⟨bb,ob+k,none⟩) V] at j;obtain⟨x,Y⟩:=Oa (a.getD k 0);obtain⟨y,Z⟩:=Oa (b.getD k 0);have E:Hid (Er a b (k+1)=if x<y then -1 else if y<x then 1 else Er a b k):=by rw[<-Y,<-Z];rfl
    rw[Y] at h;rw[Z] at j;have c6:k<b.length:=by have:=HL.o;omega
    clear Y Z
    by_cases G:x<y
    ·have I:Hid (Er a b (k+1) = -1):=E.o.trans (if_pos G);clear E
     go_wp2
     go_quiet (fail)
     go_wp2
     go_ret
     exact⟨Eo (by rw[A.o,M.o,I.o]),below_drewN d.o _⟩
    by_cases h2:y<x
    ·have I:Hid (Er a b (k+1)=1):=E.o.trans ((if_neg G).trans (if_pos h2));clear E
     go_wp2
     go_quiet (fail)
     go_wp2
     go_quiet (fail)
     go_wp2
     go_ret
     exact⟨Eo (by rw[A.o,M.o,I.o]),below_drewN (below_drewN d.o _) _⟩
    have I:Hid (Er a b (k+1)=Er a b k):=E.o.trans ((if_neg G).trans (if_neg h2));clear E
    go_wp2
    go_quiet (fail)
    go_wp2
    go_quiet (fail)
    go_wp2
    go_roundw
    case rel=>exact⟨k,by omega,Ot (by omega),M.o.trans I.o,below_drewN d.o _⟩
    simp[intOf]
 have z:((a.length:Int) != b.length)=true:=by rw[bne_iff_ne];omega
 by_cases h2:a.length<b.length
 ·have A:Hid (Ny a b = -1):=if_pos h2
  go_in
  go_wp2
  go_ret
  exact⟨Eo A.o.symm,Je _ _⟩
 have A:Hid (Ny a b=1):=(if_neg h2).trans (if_pos (by omega))
 go_in
 go_wp2
 go_ret
 exact⟨Eo A.o.symm,Je _ _⟩
def sg (neg:Bool)(n:Nat):Int:=if neg then -(n:Int) else n
def Gy (B:Nat)(w:World)(z:Value)(neg:Bool)(t:List Nat):Prop:=
 okL t/\isTrim t/\((2<t.length/\∃ v,z=.agg #[.int .i64 0,.bool neg,v]/\Kz B w v t) ∨
 (t.length<=2/\z=.agg #[.int .i64 (sg neg (val t)),.bool false,.slice none 0 0]))
theorem Gy.bl (h:Gy B w z neg t)(hb:Up w w'):Gy B w' z neg t:=by
 obtain⟨d,h2,h3⟩:=h;refine⟨d,h2,?_⟩
 rcases h3 with⟨h3,v,rfl,j⟩|h3
 ·exact .inl ⟨h3,v,rfl,j.bl hb⟩
 exact .inr h3
def Eb (l:List Nat)(i:Nat):Nat:=val (l.drop i)
theorem Xo (l:List Nat)(i:Nat)(h:i<l.length):Eb l i=Eb l (i+1)*1000000000+l.getD i 0:=by
 unfold Eb;rw[Vx h];simp only[val,Ji,Jd h,Us];omega
theorem Cx (l:List Nat):Eb l l.length=0:=by unfold Eb;rw[List.drop_length];rfl
theorem Bp (l:List Nat)(hok:okL l)(i:Nat)(h:l.length<=i+2):Eb l i<1000000000000000000:=by
 unfold Eb;have d:okL (l.drop i):=fun x hx=>hok x (Z6 hx);have j:(l.drop i).length<=2:=by rw[Zf];omega
 match hl:l.drop i,j with
 | [],_=>simp[val]
 | [a],_=>have:=d a (by rw[hl];simp);simp[val];omega
 | [a,b],_=>have:=d a (by rw[hl];simp);have:=d b (by rw[hl];simp);simp[val];omega
def AB (neg:Bool)(a:Option Addr)(cap:Nat)(t:List Nat):Value:=
 if 2<t.length then .agg #[.int .i64 0,.bool neg,.slice a t.length cap] else .agg #[.int .i64 (sg neg (val t)),.bool false,.slice none 0 0]
theorem NQ (h:2<t.length):AB neg a cap t=.agg #[.int .i64 0,.bool neg,.slice a t.length cap]:=if_pos h
theorem D6 (h:¬ 2<t.length):AB neg a cap t=.agg #[.int .i64 (sg neg (val t)),.bool false,.slice none 0 0]:=if_neg h
theorem UD (neg:Bool)(b off cap:Nat)(l:List Nat)(w:World)(hl:l.length<=cap)(hcap:cap<=maxLen)(hok:okL l)(hb:b<w.heap.size)
 (hc:∀ i,i<l.length->w.cell? ⟨b,off+i,none⟩=some (.int .u32 (l.getD i 0:Nat))) :
 Calls prog 126 #[.bool neg,.slice (some ⟨b,off,none⟩) l.length cap] w fun e w'=>
  e=.returned (AB neg (some ⟨b,off,none⟩) cap (Og l))/\Up w w':=by
 unfold maxLen at hcap;have HC:Hid (∀ o,∀ i,i<l.length->(w.alloc o).cell? ⟨b,off+i,none⟩=some (.int .u32 (l.getD i 0:Nat))):=fun o i hi=>by rw[Jy _ _ _ hb];exact hc i hi
 clear hc
 go_in
 go_wp2
 go_loop [5] (fun n=>∃ k:Nat,k<=l.length/\n=.int .i64 k/\Og (l.take k)=Og l) (fun n=>(intOf n).toNat)
 case atStart=>exact⟨l.length,leR,rfl,by rw[Yk]⟩
 obtain⟨k,hk,rfl,hp⟩:=hrel;have U:=Hd hp;clear hp
 cases k with
 | zero=>
   have K:Hid (Og l=[]):=by rw[<-U.o];rfl
   cases neg
   all_goals
    go_wp2
    refine wp_loop_rounds 1 ?_;rw[rounds_succ]
    go_wp2
    refine Jg (v:=.agg #[.int .i64 0,.bool false,.slice none 0 0]) ?_ rfl ⟨?_,Oz _ _⟩
    ·simp[results,results126,go_sem]
    rw[K.o,D6 (by simp)];simp[sg,val]
 | succ m=>
   obtain⟨x,hx⟩:=Oa (l.getD m 0);have d:=fun o=>HC.o o m (by omega);simp only[hx] at d;have HX:=Hd hx;clear hx
   by_cases I:x=0
   ·have hz:((x:Int)==0)=true:=by rw[Yf];omega
    have K:Hid (Og (l.take m)=Og l):=by rw[<-Ej l m (by omega) (by rw[HX.o,I])];exact U.o
    clear I
    go_wp2
    go_round
    case rel=>exact⟨m,by omega,Ot (by omega),K.o⟩
    simp[intOf]
   have hz:((x:Int)==0)=false:=by rw[Jb];omega
   have HT:Hid (Og l=l.take (m+1)):=U.o.symm.trans (Nv l m (by omega) (by rw[HX.o];exact I));have G:Hid ((Og l).length=m+1):=by rw[HT.o,J4];exact Zo (by omega)
   clear I
   by_cases h2:2<m+1
   ·go_wp2
    refine Jg (v:=.agg #[.int .i64 0,.bool neg,.slice (some ⟨b,off,none⟩) (m+1) cap]) ?_ rfl ⟨?_,Oz _ _⟩
    ·simp[results,results126,go_sem]
    rw[NQ (by rw[G.o];exact h2),G.o]
   have h:okL (Og l):=trimL_ok l hok;have M:Hid (∀ i,i<m+1->l.getD i 0=(Og l).getD i 0):=fun i hi=>(Qk l i (by rw[G.o];exact hi)).symm;obtain⟨t,E⟩:=Oa (Og l);rw[E] at h;have Y:=Hd E;have O:Hid (∀ i,i<m+1->l.getD i 0=t.getD i 0):=by rw[E] at M;exact M
   have A:Hid (t.length=m+1):=by rw[<-E];exact G.o
   clear M E hok
   cases neg
   all_goals
    go_wp2
    go_loop [6,7] (fun v i=>∃ j:Nat,j<=m+1/\i=.int .i64 (j - 1)/\v=.int .i64 (Eb t j:Nat)) (fun _ i=>(intOf i+1).toNat)
    case atStart=>exact⟨m+1,leR,Ot (by omega),by rw[<-A.o,Cx];rfl⟩
    obtain⟨j,hj,rfl,rfl⟩:=hrel
    cases j with
    | zero=>
      have hv:=Bp t h 0 (by rw[A.o];omega);have HV:Hid (Eb t 0=val t):=rfl
      go_wp2
      refine Jg ?_ rfl ⟨rfl,Oz _ _⟩;rw[Y.o,D6 (by rw[A.o];exact h2),<-HV.o];simp[results,results126,go_sem,sg]
    | succ i=>
      have hv:=Bp t h i (by rw[A.o];omega);have V:Hid (Eb t i=Eb t (i+1)*1000000000+t.getD i 0):=Xo t i (by rw[A.o];omega);obtain⟨y,J⟩:=Oa (t.getD i 0);obtain⟨q,Z⟩:=Oa (Eb t (i+1));have d:=fun o=>HC.o o i (by omega);simp only[O.o i (by omega),J] at d;have b8:y<1000000000:=by
       rw[<-J,Ji,Jd (by rw[A.o];omega)];exact h _ (Jo _)
      rw[J,Z] at V;rw[Z];rw[V.o] at hv;clear J Z
      go_wp2
      go_round
      case rel=>exact⟨i,by omega,Ot (by omega),by rw[V.o];exact Ot (by omega)⟩
      simp[intOf]
theorem YY (neg:Bool)(a:Option Addr)(cap:Nat)(w:World) :
 Calls prog 126 #[.bool neg,.slice a 0 cap] w fun e w'=>e=.returned (.agg #[.int .i64 0,.bool false,.slice none 0 0])/\Up w w':=by
 cases neg
 all_goals
  go_in
  go_wp2
  refine wp_loop_rounds 1 ?_;rw[rounds_succ]
  go_wp2
  refine wp_loop_rounds 1 ?_;rw[rounds_succ]
  go_wp2
  refine Jg (v:=.agg #[.int .i64 0,.bool false,.slice none 0 0]) ?_ rfl ⟨rfl,Oz _ _⟩;simp[results,results126,go_sem]
theorem Gi (B:Nat)(neg:Bool)(v:Value)(l:List Nat)(w:World)(h:Kz B w v l) :
 Calls prog 126 #[.bool neg,v] w fun e w'=>∃ z,e=.returned z/\(∀ B W,Kz B W v l->Gy B W z neg (Og l))/\Up w w':=by
 obtain⟨a,cap,rfl,hl,j,d,E⟩:=h
 rcases E with rfl|⟨b,A,rfl,_,hb,hc⟩
 ·refine (YY neg a cap w).mono ?_;rintro e w' ⟨rfl,hb⟩;refine⟨_,rfl,fun B W h=>⟨d,trimL_trim _,.inr ⟨by simp[Cn],?_⟩⟩,hb⟩;simp[Cn,sg,val]
 refine (UD neg b A cap l w hl j d hb hc).mono ?_;rintro e w' ⟨rfl,hb⟩;refine⟨_,rfl,fun B W h=>⟨trimL_ok l d,trimL_trim _,?_⟩,hb⟩
 by_cases h2:2<(Og l).length
 ·exact .inl ⟨h2,_,NQ h2,Kz.cut B W h⟩
 exact .inr ⟨by omega,D6 h2⟩
theorem Fe (t:List Nat)(h:t.length<=2)(hok:okL t)(htr:isTrim t) :
 t=[]∨(∃ a,t=[a]/\0<a/\a<1000000000)∨∃ a b,t=[a,b]/\a<1000000000/\0<b/\b<1000000000:=by
 match t,h with
 | [],_=>exact .inl rfl
 | [a],_=>
   have d:=hok a (by simp);have h2:=htr (by simp);simp at h2;exact .inr (.inl ⟨a,rfl,by omega,d⟩)
 | [a,b],_=>
   have d:=hok a (by simp);have h3:=hok b (by simp);have h2:=htr (by simp);simp at h2;exact .inr (.inr ⟨a,b,rfl,d,by omega,h3⟩)
theorem Fv (neg:Bool)(t:List Nat)(h2:t.length<=2)(hok:okL t)(htr:isTrim t):Ky neg t=decide (sg neg (val t)<0):=by
 rcases Fe t h2 hok htr with rfl|⟨a,rfl,h3,h4⟩|⟨a,b,rfl,h3,h4,h5⟩
 ·cases neg<;>simp[Ky,sg,val]
 ·cases neg<;>simp[Ky,sg,val]<;>omega
 cases neg<;>simp[Ky,sg,val]<;>omega
theorem NI {x:Int}(B e a g:Nat)(ha:a<1000000000)(hx:x=a)(hg:w.heap.size=g)(hB:B<=g):Kz B (w.alloc (.cells #[.int .u32 x] e)) (.slice (some ⟨g,0,none⟩) 1 1) [a]:=by
 subst hx;subst hg;exact⟨_,1,rfl,by simp,by unfold maxLen;omega,fun x hx=>by simp at hx;omega,.inr ⟨w.heap.size,0,rfl,hB,by simp,fun i hi=>by
  match i,hi with
  | 0,_=>rw[Jn _ _ _ _ rfl];rfl⟩⟩
theorem FB {x y:Int}(B e a b g:Nat)(ha:a<1000000000)(hb:b<1000000000)(hx:x=a)(hy:y=b)(hg:w.heap.size=g)(hB:B<=g):Kz B (w.alloc (.cells #[.int .u32 x,.int .u32 y] e)) (.slice (some ⟨g,0,none⟩) 2 2) [a,b]:=by
 subst hx;subst hy;subst hg;exact⟨_,2,rfl,by simp,by unfold maxLen;omega,fun x hx=>by simp at hx;omega,.inr ⟨w.heap.size,0,rfl,hB,by simp,fun i hi=>by
  match i,hi with
  | 0,_=>rw[Jn _ _ _ _ rfl];rfl
  | 1,_=>rw[Jn _ _ _ _ rfl];rfl⟩⟩
theorem El (B:Nat)(z:Value)(neg:Bool)(t:List Nat)(w:World)(h:Gy B w z neg t)(hB:B<=w.heap.size) :
 Calls prog 127 #[z] w fun e w'=>∃ v,e=.returned v/\Kz B w' v t/\Up w w':=by
 obtain⟨A,G,h⟩:=h
 rcases h with⟨h2,v,rfl,I⟩|⟨h2,rfl⟩
 ·have K:=Hd I;obtain⟨a,cap,rfl,hl,j,_,_⟩:=I;have V:0<t.length:=by omega
  unfold maxLen at j
  go_in
  go_wp2
  go_ret
  exact⟨_,rfl,K.o.bl (Oz _ _),Oz _ _⟩
 rcases Fe t h2 A G with rfl|⟨a,rfl,h3,h4⟩|⟨a,b,rfl,h3,h4,h5⟩
 ·cases neg
  all_goals
   simp only[sg,val]
   go_in
   go_wp2
   go_ret
   exact⟨_,rfl,⟨none,0,rfl,by simp,by unfold maxLen;omega,A,.inl rfl⟩,Oz _ _⟩
 ·obtain⟨x,d⟩:∃ x:Int,(a:Int)=x:=⟨_,rfl⟩;have x1:0<x:=by omega
  have U:x<1000000000:=by omega
  have O:(x==0)=false:=by rw[Jb];omega
  have ev:(val [a]:Int)=x:=by simp[val,d]
  have M:=Hd d;unfold sg;rw[ev];clear d ev
  cases neg
  all_goals
   simp only[if_true,if_false,Zb]
   go_in
   go_wp2
   go_ret
   exact⟨_,rfl,NI B _ a _ h4 M.o.symm (by simp) (by omega),(Oz _ _).alloc (by simp) _⟩
 obtain⟨x,d⟩:∃ x:Int,(a:Int)+1000000000*b=x:=⟨_,rfl⟩;have ev:(val [a,b]:Int)=x:=by simp[val,d]
 have x1:1000000000<=x:=by omega
 have U:x<1000000000000000000:=by omega
 have J:Hid (x % 1000000000=a):=by unfold Hid;omega
 have E:Hid (x / 1000000000=b):=by unfold Hid;omega
 have O:(x==0)=false:=by rw[Jb];omega
 unfold sg;rw[ev];clear d ev
 cases neg
 all_goals
  simp only[if_true,if_false,Zb]
  go_in
  go_wp2
  go_ret
  exact⟨_,rfl,FB B _ a b _ h3 h5 J.o E.o (by simp) (by omega),(Oz _ _).alloc (by simp) _⟩
open RowKit Proofs.Tryz
def Tv (x y:Nat):Int:=if x<y then -1 else if y<x then 1 else 0
def LG (x y:Int):Int:=if x<y then -1 else if y<x then 1 else 0
theorem Pp (a b:List Nat):val (a++b)=val a+1000000000 ^ a.length*val b:=by
 induction a with
 | nil=>simp[val]
 | cons x a ih=>
   simp only[Yx,val,ih,Yq,J7];rw[Yh,Y2 (1000000000 ^ a.length) 1000000000,Yw];omega
theorem G6 (a:List Nat)(h:okL a):val a<1000000000 ^ a.length:=by
 induction a with
 | nil=>simp[val]
 | cons x a ih=>
   have d:=h x (by simp);have h2:=ih (fun y hy=>h y (by simp[hy]));simp only[val,Yq,J7];omega
theorem I9 (a:List Nat)(x:Nat):val (a++[x])=val a+1000000000 ^ a.length*x:=by rw[Pp];simp[val]
theorem Ql (a:List Nat)(htr:isTrim a)(hne:a≠[]):1000000000 ^ (a.length - 1)<=val a:=by
 have h:=htr hne;rw[<-Zl hne];rw[I9];simp only[Yn,Yq,Zn,List.length_dropLast];have:a.length - 1+(0+1) - 1=a.length - 1:=by omega
 rw[this];have h2:1000000000 ^ (a.length - 1)*1<=1000000000 ^ (a.length - 1)*a.getLast hne:=Yb _ (Ys h);omega
theorem Ga (a:List Nat)(htr:isTrim a)(hne:a≠[]):0<val a:=
 Jq (Nat.pow_pos (by decide)) (Ql a htr hne)
theorem XQ (P A A' x y:Nat)(hA:A<P)(hA':A'<P):Tv (A+P*x) (A'+P*y)=if x<y then -1 else if y<x then 1 else Tv A A':=by
 unfold Tv
 by_cases d:x<y
 ·have:P*x+P<=P*y:=by rw[<-Nat.mul_succ];exact Yb _ d
  rw[if_pos d,if_pos (by omega)]
 rw[if_neg d]
 by_cases h2:y<x
 ·have:P*y+P<=P*x:=by rw[<-Nat.mul_succ];exact Yb _ h2
  rw[if_pos h2,if_neg (by omega),if_pos (by omega)]
 have:x=y:=by omega
 subst this;rw[if_neg h2]
 by_cases h3:A<A'
 ·rw[if_pos h3,if_pos (by omega)]
 rw[if_neg h3,if_neg (by omega)]
 by_cases h4:A'<A
 ·rw[if_pos h4,if_pos (by omega)]
 rw[if_neg h4,if_neg (by omega)]
theorem Mr (a:List Nat)(h:okL a)(k:Nat):okL (a.take k):=fun x hx=>h x (Yy hx)
theorem VU (a b:List Nat)(ha:okL a)(hb:okL b)(k:Nat)(h1:k<=a.length)(h2:k<=b.length):Er a b k=Tv (val (a.take k)) (val (b.take k)):=by
 induction k with
 | zero=>simp[Er,Tv,val]
 | succ k ih=>
   have la:(a.take k).length=k:=by rw[J4];omega
   have lb:(b.take k).length=k:=by rw[J4];omega
   have va:=G6 _ (Mr a ha k);have d:=G6 _ (Mr b hb k);rw[la] at va;rw[lb] at d;have h:a.getD k 0=a[k]:=by rw[Ji,Jd (by omega)];rfl
   have j:b.getD k 0=b[k]:=by rw[Ji,Jd (by omega)];rfl
   rw[Ye (by omega),Ye (by omega),I9,I9,la,lb,XQ _ _ _ _ _ va d,<-ih (by omega) (by omega)];simp only[Er,h,j]
theorem Hn (a b:List Nat)(ha:okL a)(hb:okL b)(ta:isTrim a)(tb:isTrim b):Ny a b=Tv (val a) (val b):=by
 have d:∀ x y:List Nat,okL x->isTrim y->x.length<y.length->val x<val y:=fun x y hx ty hl=>by
  have h:=G6 x hx;have h2:=Ql y ty (by intro e;rw[e] at hl;simp at hl);have h3:1000000000 ^ x.length<=1000000000 ^ (y.length - 1):=Y0 (by decide) (by omega);omega
 unfold Ny
 by_cases h:a.length<b.length
 ·rw[if_pos h];unfold Tv;rw[if_pos (d a b ha tb h)]
 rw[if_neg h]
 by_cases h2:b.length<a.length
 ·have:=d b a hb ta h2;rw[if_pos h2];unfold Tv;rw[if_neg (by omega),if_pos this]
 rw[if_neg h2,VU a b ha hb a.length leR (by omega),Yk,show a.length=b.length by omega,Yk]
def VV (na nb:Bool)(a b:List Nat):Int:=if na=nb then (if na then Ny b a else Ny a b) else if na then -1 else 1
theorem RC (na nb:Bool)(a b:List Nat)(ha:okL a)(hb:okL b)(ta:isTrim a)(tb:isTrim b):VV (Ky na a) (Ky nb b) a b=LG (sg na (val a)) (sg nb (val b)):=by
 have d:a=[]/\val a=0∨0<a.length/\0<val a:=by
  by_cases h:a=[]
  ·exact .inl ⟨h,by rw[h];rfl⟩
  exact .inr ⟨Zj.2 h,Ga a ta h⟩
 have j:b=[]/\val b=0∨0<b.length/\0<val b:=by
  by_cases h:b=[]
  ·exact .inl ⟨h,by rw[h];rfl⟩
  exact .inr ⟨Zj.2 h,Ga b tb h⟩
 unfold VV;rw[Hn a b ha hb ta tb,Hn b a hb ha tb ta];unfold Tv LG Ky sg
 rcases d with⟨rfl,va⟩|⟨la,va⟩<;>rcases j with⟨rfl,A⟩|⟨lb,A⟩<;>cases na<;>cases nb<;>simp_all<;>(repeat' split)<;>omega
abbrev Gg (l:List Nat):List Value:=l.map (fun x=>Value.int .u32 (x:Nat))
def Hp (w:World)(R:Nat)(l:List Nat):Prop:=w.heap[R]? = some (.cells (Gg l).toArray 149 (0,0))
theorem Hp.lt (h:Hp w R l):R<w.heap.size:=(Jv.1 h).1
theorem Hp.cell (h:Hp w R l)(i:Nat)(hi:i<l.length):w.cell? ⟨R,i,none⟩=some (.int .u32 (l.getD i 0:Nat)):=by
 simp[World.cell?,show w.heap[R]? = _ from h,List.getElem?_eq_getElem hi,List.getD_eq_getElem?_getD]
theorem Hp.frozen (h:Hp w R l)(i:Nat):w.frozen? ⟨R,i,none⟩=false:=by
 simp[World.frozen?,show w.heap[R]? = _ from h]
theorem Hp.set (h:Hp w R l)(i x:Nat):Hp (w.setCell ⟨R,i,none⟩ (.int .u32 (x:Nat))) R (l.set i x):=by
 obtain⟨d,j⟩:=Jv.1 h
 show (w.heap.modify R _)[R]? = _
 rw[Vv (by rw[Z9];exact d),Vw,j];simp[Gg,List.map_set]
theorem Hp.kept (h:Hp w R l)(hb:Up w w'):Hp w' R l:=(hb.block R h.lt).trans h
theorem Hp.drew (h:Hp w R l):Hp w.drew R l:=h
theorem Kj {base g n:Nat}(h:w.ownsRow base 149 1 (.slice (some ⟨g,0,none⟩) n n) n (Gg l)):Hp w g l:=by
 rcases h.2 with⟨e,_⟩|⟨A,cap,j,e,_,hb,_,_,hc,d⟩
 ·cases e
 simp only[Value.slice.injEq,Option.some.injEq,Addr.mk.injEq,and_true,true_and] at e;obtain⟨rfl,rfl⟩:=e;rw[Z8] at hc d;rw[Jl (by rw[Vr];omega)] at d;unfold Hp;rw[hb,<-d]
theorem Hp.isL (h:Hp w R l)(hB:B<=R)(hok:okL l)(hc:l.length<=cap)(hm:cap<=maxLen):Kz B w (.slice (some ⟨R,0,none⟩) l.length cap) l:=
 ⟨_,cap,rfl,hc,hm,hok,.inr ⟨R,0,rfl,hB,h.lt,fun i hi=>by rw[Y8];exact h.cell i hi⟩⟩
theorem Ep (n:Nat):(madeCells (Value.int .u32 0).cells (n*1)).toList=Gg (List.replicate n 0):=by
 rw[Z8]
 show (madeCells #[.int .u32 0] n).toList=_
 rw[toList_madeCells_one];simp[Gg]
theorem O2 (l:List Nat)(i x:Nat)(hi:i<l.length):val ((l.set i x).take (i+1))=val (l.take i)+1000000000 ^ i*x:=by
 have e:(l.set i x).take (i+1)=l.take i++[x]:=by
  rw[Ye (by simpa using hi),List.getElem_set_self]
  congr 1
  rw[List.take_set_of_le (Nat.le_refl i)]
 rw[e,I9,J4,Zo (by omega)]
theorem Oe (l:List Nat)(i:Nat):val (l.take (i+1))=val (l.take i)+1000000000 ^ i*l.getD i 0:=by
 by_cases d:i<l.length
 ·rw[Ye d,I9,J4,Zo (by omega),Ji,Jd d];rfl
 rw[Jl (by omega),Jl (by omega),Ji,Ym (by omega)];simp
theorem Kn (l:List Nat)(h:okL l)(i x:Nat)(hx:x<1000000000):okL (l.set i x):=fun y hy=>by
 rcases List.mem_or_eq_of_mem_set hy with d|d
 ·exact h y d
 omega
theorem info_u32:(prog.info? 149).map (fun i=>(i.zero,i.size,i.bytes))=some (some (.int .u32 0),1,4):=by kernel_rfl
theorem Ms (s:ByteArray)(w:World)(hs:s.size<=maxLen)(hi:isIntB s=false) :
 Calls prog 131 #[.string s] w fun e w'=>e=.returned (.tuple #[.agg #[.bool false,.slice none 0 0],.bool false])/\Up w w':=by
 have d:=Hd hi;clear hi
 go_in
 go_wp2_with (go_at_call 147;refine (Lm _ _ hs).mono ?_;rintro e w' ⟨rfl,rfl⟩;rw[d.o])
 refine Jg (v:=.tuple #[.agg #[.bool false,.slice none 0 0],.bool false]) ?_ rfl ⟨rfl,Oz _ _⟩;simp[results,results131,go_sem]
theorem Pe (s:ByteArray)(h:isIntB s=true):(∀ c∈(dgs s).data.toList,dig c)/\0<(dgs s).size/\(dgs s).size<=2500:=by
 unfold isIntB at h;simp only[J3,Yi] at h;obtain⟨⟨⟨d,h2⟩,h3⟩,_⟩:=h;refine⟨fun c hc=>?_,d,h2⟩;rw[Jt] at h3;have:=h3 c hc
 simpa[isDig,dig] using this
theorem UK (s:ByteArray):decide ((dgs s).size<s.size)=isNeg s:=by
 cases h:isNeg s with
 | true=>
   obtain⟨d,_⟩:=Rf s h;rw[Fl s h,P2];simp;omega
 | false=>rw[Fm s h];simp
theorem Ah (d:ByteArray)(k:Nat):num (d.extract (d.size - 9*k - 9) (d.size - 9*k)).data.toList=chunk d.data.toList k:=by
 unfold chunk;rw[Lib.extract_data,<-Lib.size_eq]
 congr 1
 rw[Uq]
theorem cutInteger_any (s:ByteArray)(w:World)(hs:s.size<=maxLen)(hi:isIntB s=true) :
 Calls prog 148 #[.string s] w fun e w'=>∃ v,e=.returned (.agg #[.bool (Ky (isNeg s) (Og (Nn (dgs s).data.toList))),v]) /\
  Kz w.heap.size w' v (Og (Nn (dgs s).data.toList))/\Up w w':=by
 obtain⟨O,d5,d6⟩:=Pe s hi;obtain⟨d,hd⟩:=Oa (dgs s);rw[hd] at O d5 d6 ⊢;have HD:=Hd hd;have HG:=Hd O;obtain⟨i0,U,b3,b4,b5⟩:=info_parts info_u32;clear hi hd O
 go_in
 go_wp2_with (first
  | (go_at_call 146;refine (I8 _ _ hs).mono ?_;rintro e w' ⟨rfl,rfl⟩;rw[HD.o])
  | (at_make;refine wpList_make_own _ rfl _ _ 117 rfl (w.heap.size+1) 149 i0 (.int .u32 0) 1 underlying117 U b3 b4 .i64 .i64 _ (d.size / 9+1) rfl rfl ?m1 ?m2 ?m3 ?m4 ?_))
 case m1=>omega
 case m2=>rw[b5];omega
 case m3=>unfold maxLen;omega
 case m4=>simp
 intro wm j G;obtain⟨W0,Z⟩:=Oa (w.alloc (.cells #[.bool false,.slice none 0 0] 155));have M:=Hd Z;rw[Z] at G;have c6:W0.heap.size=w.heap.size+1:=by rw[<-Z];simp
 have b8:Below (w.heap.size+1) W0 wm:=(Je _ _).grown G (by omega) (fun k h=>by cases h);have E:=Hd c6;clear G Z c6
 go_wp2
 go_loopw [4,5] (fun v e wr=>∃ k:Nat,9*k<=d.size+8/\e=.int .i64 (d.size - 9*k) /\
  wr.ownsRow (w.heap.size+1) 149 1 v k ((List.range k).map (fun i=>Value.int .u32 (chunk d.data.toList i:Nat)))/\Below (w.heap.size+1) W0 wr)
  (fun _ e _=>(intOf e).toNat)
 case atStart=>exact⟨0,by omega,by simp,j,b8⟩
 clear j b8;obtain⟨k,hk,rfl,j,J⟩:=hrel
 by_cases f8:9*k<d.size
 ·have e6:=He d.data.toList k HG.o;have e9:k<=d.size:=by omega
  go_wp2_with fail
  ·rw[show d.extract ((d.size:Int) - 9*k - 9).toNat (d.size - 9*k)=d.extract (d.size - 9*k - 9) (d.size - 9*k) by rw[show ((d.size:Int) - 9*k - 9).toNat=d.size - 9*k - 9 by omega]];refine (Dn _ _ ?ph9 ?phdg).mono ?_
   case ph9=>rw[Yo];omega
   case phdg=>
    intro c hc;rw[Lib.extract_data] at hc;exact HG.o c (Z6 (Yy hc))
   rintro e w' ⟨rfl,rfl⟩;rw[Ah]
   go_wp2_with (at_builtin;refine wpList_append_own _ rfl _ _ 117 rfl (w.heap.size+1) 149 i0 (.int .u32 0) 1 4 underlying117 U b3 b4 b5 rfl (by decide) _ _ _ rfl (j.alloc _) ⟨w'.heap.size,0,none⟩ 1 1 [.int .u32 (chunk d.data.toList k:Nat)] rfl rfl (cell_one_new _ _ _) ?pc2 ?pc3 ?pc4 ?pc5 ?_)
   case pc2=>intro u hu;simp at hu;subst hu;rfl
   case pc3=>unfold maxLen;omega
   case pc4=>omega
   case pc5=>have:=J.size;have:=E.o;simp;omega
   intro v' Y I A _;have a7:Below (w.heap.size+1) W0 Y:=(J.alloc (by have:=J.size;have:=E.o;omega) _).grown A (by have:=J.size;have:=E.o;simp;omega) (fun q hq=>(j.lt q hq).1);clear A j J
   go_wp2
   go_roundw
   case rel=>exact⟨k+1,by omega,Ot (by omega),by rw[Zg,Yr];exact I,a7⟩
   simp[intOf];omega
  rw[show d.extract 0 (d.size - 9*k)=d.extract (d.size - 9*k - 9) (d.size - 9*k) by rw[show d.size - 9*k - 9=0 by omega]];refine (Dn _ _ ?qh9 ?qhdg).mono ?_
  case qh9=>rw[Yo];omega
  case qhdg=>
   intro c hc;rw[Lib.extract_data] at hc;exact HG.o c (Z6 (Yy hc))
  rintro e w' ⟨rfl,rfl⟩;rw[Ah]
  go_wp2_with (at_builtin;refine wpList_append_own _ rfl _ _ 117 rfl (w.heap.size+1) 149 i0 (.int .u32 0) 1 4 underlying117 U b3 b4 b5 rfl (by decide) _ _ _ rfl (j.alloc _) ⟨w'.heap.size,0,none⟩ 1 1 [.int .u32 (chunk d.data.toList k:Nat)] rfl rfl (cell_one_new _ _ _) ?qc2 ?qc3 ?qc4 ?qc5 ?_)
  case qc2=>intro u hu;simp at hu;subst hu;rfl
  case qc3=>unfold maxLen;omega
  case qc4=>omega
  case qc5=>have:=J.size;have:=E.o;simp;omega
  intro v' Y I A _;have a7:Below (w.heap.size+1) W0 Y:=(J.alloc (by have:=J.size;have:=E.o;omega) _).grown A (by have:=J.size;have:=E.o;simp;omega) (fun q hq=>(j.lt q hq).1);clear A j J
  go_wp2
  go_roundw
  case rel=>exact⟨k+1,by omega,Ot (by omega),by rw[Zg,Yr];exact I,a7⟩
  simp[intOf];omega
 have b9:k=Rr d.size:=by unfold Rr;omega
 have hL:Kz (w.heap.size+1) wr u4 (Nn d.data.toList):=by
  unfold Nn;rw[<-Lib.size_eq,<-b9];refine Xu (e:=149) ?_ (fun x hx=>?_)
  ·simpa[Function.comp_def] using j
  rw[Zh] at hx;obtain⟨i,_,rfl⟩:=hx;exact He d.data.toList i HG.o
 have HL:=Hd hL;clear hL j b9
 go_wp2_with fail
 refine (K1 _ _ _ _ _ HL.o).mono ?_;rintro e Y ⟨v',rfl,hcut,a8⟩;have HC:Hid (Kz (w.heap.size+1) Y v' (Og (Nn d.data.toList))):=(hcut _ _ HL.o).bl a8;have K:Below (w.heap.size+1) W0 Y:=J.trans (a8.mono (by have:=J.size;have:=E.o;omega));have d2:Y.cell? ⟨w.heap.size,0,none⟩=some (.bool false):=by
  rw[K.cell (p:=⟨w.heap.size,0,none⟩) (Yl _),<-M.o,Jn _ _ _ _ rfl];rfl
 have d3:Y.cell? ⟨w.heap.size,1,none⟩=some (.slice none 0 0):=by
  rw[K.cell (p:=⟨w.heap.size,1,none⟩) (Yl _),<-M.o,Jn _ _ _ _ rfl];rfl
 have e7:Y.frozen? ⟨w.heap.size,0,none⟩=false:=by
  rw[K.frozen (p:=⟨w.heap.size,0,none⟩) (Yl _),<-M.o,Ya _ _ _ _ rfl]
 have e8:Y.frozen? ⟨w.heap.size,1,none⟩=false:=by
  rw[K.frozen (p:=⟨w.heap.size,1,none⟩) (Yl _),<-M.o,Ya _ _ _ _ rfl]
 have V:Up w Y:=by
  have h0:=Oz w (.cells #[.bool false,.slice none 0 0] 155);rw[M.o] at h0;exact h0.trans (K.mono (Y4 _))
 have HB:=Hd V;obtain⟨a',b7,d7,_⟩:=hcut _ _ HL.o;subst d7;clear hcut a8 K J V
 go_wp2
 refine Jg (v:=.agg #[.bool (Ky (decide (d.size<s.size)) (Og (Nn d.data.toList))),.slice a' (Og (Nn d.data.toList)).length b7]) ?_ rfl
  ⟨_,by rw[<-UK s,HD.o],((HC.o.setCell _ _ (Yl _)).setCell _ _ (Yl _)).mono (Y4 _),(HB.o.setCell leR _).setCell leR _⟩
 simp[results,results148,go_sem,d2,d3]
theorem Fr (s:ByteArray)(w:World)(hs:s.size<=maxLen)(hi:isIntB s=true) :
 Calls prog 131 #[.string s] w fun e w'=>∃ v,e=.returned (.tuple #[.agg #[.bool (Ky (isNeg s) (Og (Nn (dgs s).data.toList))),v],.bool true]) /\
  Kz w.heap.size w' v (Og (Nn (dgs s).data.toList))/\Up w w':=by
 have d:=Hd hi;clear hi
 go_in
 go_wp2_with (go_at_call 147;refine (Lm _ _ hs).mono ?_;rintro e w' ⟨rfl,J⟩;subst w';rw[d.o])
 have I:Hid (∀ W,Below (w.alloc (.cells #[.bool false,.slice none 0 0] 155)).heap.size (w.alloc (.cells #[.bool false,.slice none 0 0] 155)) W->(W.cell? ⟨w.heap.size,0,none⟩=some (.bool false)/\W.cell? ⟨w.heap.size,1,none⟩=some (.slice none 0 0))/\(W.frozen? ⟨w.heap.size,0,none⟩=false/\W.frozen? ⟨w.heap.size,1,none⟩=false)/\Up w W):=fun W hW=>by
  have hl:w.heap.size<(w.alloc (.cells #[.bool false,.slice none 0 0] 155)).heap.size:=by simp
  refine⟨⟨?_,?_⟩,⟨?_,?_⟩,(Oz _ _).trans (hW.mono (U5 hl))⟩
  ·rw[hW.cell (p:=⟨w.heap.size,0,none⟩) hl,Jn _ _ _ _ rfl];rfl
  ·rw[hW.cell (p:=⟨w.heap.size,1,none⟩) hl,Jn _ _ _ _ rfl];rfl
  ·rw[hW.frozen (p:=⟨w.heap.size,0,none⟩) hl,Ya _ _ _ _ rfl]
  rw[hW.frozen (p:=⟨w.heap.size,1,none⟩) hl,Ya _ _ _ _ rfl]
 refine (cutInteger_any s _ hs d.o).mono ?_;rintro e A ⟨v,rfl,j,hb⟩;obtain⟨⟨c0,c1⟩,⟨f0,f1⟩,h⟩:=I.o A hb;have G:Hid (Kz (w.heap.size+1) A v (Og (Nn (dgs s).data.toList))):=j.mono (by simp);have E:=Hd h;obtain⟨p,k,rfl,_⟩:=j;clear hb h
 go_wp2
 refine Jg (v:=.tuple #[.agg #[.bool (Ky (isNeg s) (Og (Nn (dgs s).data.toList))),.slice p (Og (Nn (dgs s).data.toList)).length k],.bool true]) ?_ rfl
  ⟨_,rfl,((G.o.setCell _ _ (Yl _)).setCell _ _ (Yl _)).mono (Y4 _),(E.o.setCell leR _).setCell leR _⟩
 simp[results,results131,go_sem,c0,c1]
theorem O4 (l:List Nat):val (Og l)=val l:=by
 induction hn:l.length generalizing l with
 | zero=>rw[Jw hn];rfl
 | succ n ih=>
   have d:l≠[]:=by intro h;rw[h] at hn;simp at hn
   rw[<-Zl d]
   by_cases j:l.getLast d=0
   ·rw[j,G3,I9,ih _ (by simp[hn])];omega
   rw[Gp _ _ j]
theorem C6 (x:Nat)(l:List Nat)(h:isTrim (x::l)):isTrim l:=by
 intro d;have:=h (by simp)
 rwa [List.getLast_cons d] at this
theorem val_inj (a b:List Nat)(ha:okL a)(hb:okL b)(ta:isTrim a)(tb:isTrim b)(h:val a=val b):a=b:=by
 induction a generalizing b with
 | nil=>
   by_cases d:b=[]
   ·rw[d]
   have:=Ga b tb d;rw[<-h] at this;simp[val] at this
 | cons x a ih=>
   cases b with
   | nil=>
     have:=Ga (x::a) ta (by simp);rw[h] at this;simp[val] at this
   | cons y b=>
     have A:=ha x (by simp);have h2:=hb y (by simp);simp only[val] at h;have j:x=y:=by omega
     have e2:val a=val b:=by omega
     rw[j,ih b (fun z hz=>ha z (by simp[hz])) (fun z hz=>hb z (by simp[hz])) (C6 x a ta) (C6 y b tb) e2]
def wl (n k:Nat):List Nat:=(List.range k).map (fun i=>n / 1000000000 ^ i % 1000000000)
theorem Tw (n k:Nat):wl n (k+1)=wl n k++[n / 1000000000 ^ k % 1000000000]:=by simp[wl,List.range_succ]
theorem Cr (n k:Nat):(wl n k).length=k:=by simp[wl]
theorem AX (n k:Nat):okL (wl n k):=by
 intro x d;unfold wl at d;rw[Zh] at d;obtain⟨i,_,rfl⟩:=d;exact Z5 _ (by decide)
theorem BH (n k:Nat):val (wl n k)+1000000000 ^ k*(n / 1000000000 ^ k)=n:=by
 induction k with
 | zero=>simp[wl,val]
 | succ k ih=>
   rw[Tw,I9,Cr,J7,<-Vc];have d:=Uj (n / 1000000000 ^ k) 1000000000;have h2:1000000000 ^ k*(n / 1000000000 ^ k)=1000000000 ^ k*(1000000000*(n / 1000000000 ^ k / 1000000000)+n / 1000000000 ^ k % 1000000000):=by rw[d]
   rw[Yh,<-Yw] at h2;omega
def Bh (neg:Bool)(l:List Nat):ByteArray:=if l.length=0 then strB [48] else Bg neg l
theorem CX (B:Nat)(neg:Bool)(v:Value)(l:List Nat)(w:World)(hI:Kz B w v l)(hlen:l.length<=600)(hLT:LT w) :
 Calls prog 183 #[.agg #[.bool neg,v]] w fun e w'=>e=.returned (.string (Bh neg l))/\Up w w':=by
 by_cases h:l.length=0
 ·obtain⟨a,cap,rfl,_⟩:=hI;rw[h];refine (QC neg a cap w).mono ?_;rintro e w' ⟨rfl,hb⟩;exact⟨by unfold Bh;rw[if_pos h];rfl,hb⟩
 refine (CQ B neg v l w hI (by omega) hlen hLT).mono ?_;rintro e w' ⟨rfl,hb⟩;exact⟨by unfold Bh;rw[if_neg h],hb⟩
theorem LT.bl (h:LT w)(hb:Up w w'):LT w':=fun j hj=>(hb.cell (p:=⟨8,j,none⟩) (We h)).trans (h j hj)
def Hx (d:List UInt8)(a b:Nat):Nat:=num ((d.take b).drop a)
theorem Rt (d:List UInt8)(a:Nat):Hx d a a=0:=by
 unfold Hx;rw[Zr (List.length_take_le _ _)];rfl
theorem XF (d:ByteArray)(a j:Nat)(h1:a<=j)(h2:j<d.size):Hx d.data.toList a (j+1)=Hx d.data.toList a j*10+(d[j].toNat - 48):=by
 unfold Hx;rw[H6 d j h2,List.drop_append_of_le_length (by rw[J4,<-Lib.size_eq];omega),Dk]
theorem Qr (d:ByteArray)(dl:List UInt8)(hd:d.data.toList=dl)(a j:Nat)(h1:a<=j)(h2:j<d.size):Hx dl a (j+1)=Hx dl a j*10+(d[j].toNat - 48):=by
 subst hd;exact XF d a j h1 h2
theorem De (d:List UInt8)(h:∀ c∈d,dig c)(a j:Nat)(hj:j<a+9):Hx d a j<100000000:=by
 unfold Hx;have A:=KV ((d.take j).drop a) (fun c hc=>h c (Yy (Z6 hc)));have h2:((d.take j).drop a).length<=8:=by rw[Zf,J4];omega
 have h3:10 ^ ((d.take j).drop a).length<=10 ^ 8:=Y0 (by omega) h2;have:(10:Nat) ^ 8=100000000:=by decide
 omega
theorem Gy.setCell (h:Gy B w z neg t)(p:Addr)(u:Value)(hp:p.block<B):Gy B (w.setCell p u) z neg t:=by
 obtain⟨d,h2,h3⟩:=h;refine⟨d,h2,?_⟩
 rcases h3 with⟨h3,v,rfl,j⟩|h3
 ·exact .inl ⟨h3,v,rfl,j.setCell p u hp⟩
 exact .inr h3
theorem Gy.mono {B':Nat}(h:Gy B w z neg t)(hb:B'<=B):Gy B' w z neg t:=by
 obtain⟨d,h2,h3⟩:=h;refine⟨d,h2,?_⟩
 rcases h3 with⟨h3,v,rfl,j⟩|h3
 ·exact .inl ⟨h3,v,rfl,j.mono hb⟩
 exact .inr h3
theorem Gy.shape (h:Gy B w z neg t):∃ (z0:Int) (zn:Bool) (za:Option Addr) (zl zc:Nat),z=.agg #[.int .i64 z0,.bool zn,.slice za zl zc]:=by
 obtain⟨d,h2,h3⟩:=h
 rcases h3 with⟨h3,v,rfl,a,cap,rfl,_⟩|⟨_,rfl⟩
 ·exact⟨_,_,_,_,_,rfl⟩
 exact⟨_,_,_,_,_,rfl⟩
theorem UF (s:ByteArray)(w:World)(hi:isIntB s=true)(hn:isNeg s=false) :
 Calls prog 107 #[.string s] w fun e w'=>∃ z,e=.returned z/\Gy w.heap.size w' z false (Og (Nn (s).data.toList))/\Up w w':=by
 obtain⟨J,c6,c8⟩:=Pe s hi;rw[Fm s hn] at J c6 c8;obtain⟨dl,V⟩:=Oa ((s).data.toList);have K:=Hd V;have HZ:Hid (dl.length=s.size):=by unfold Hid;rw[<-V,<-Lib.size_eq]
 rw[Lib.size_eq,V,HZ.o] at c6 c8;rw[V] at J ⊢;have HG:=Hd J;have e9:0<s.size:=by omega
 have hm:((s[0].toNat:Int)==45)=false:=by have:=OF s hn e9;simp;omega
 obtain⟨i0,a8,d3,d4,d5⟩:=info_parts info_u32;obtain⟨W0,b5⟩:=Oa (w.alloc (.cells #[.int .i64 0,.bool false,.slice none 0 0] 119));have A:=Hd b5;have d1:W0.heap.size=w.heap.size+1:=by rw[<-b5];simp
 have G:=Hd d1;clear hi J d1 b5 hn V
 go_in
 go_wp2
 rw[A.o]
 go_loopw [4,5] (fun v e wr=>∃ k:Nat,9*k<=s.size+8/\e=.int .i64 ((s.size:Nat) - 9*k) /\
  wr.ownsRow (w.heap.size+1) 149 1 v k ((List.range k).map (fun i=>Value.int .u32 (chunk dl i:Nat)))/\Below (w.heap.size+1) W0 wr)
  (fun _ e _=>(intOf e).toNat)
 case atStart=>exact⟨0,by omega,Ot (by omega),V7 _ _ _ _,Je _ _⟩
 obtain⟨k,hk,rfl,h,M⟩:=hrel
 by_cases g6:9*k<s.size
 ·by_cases h9:9*k+9<=s.size
  ·
   go_wp2
   go_loop [7,8] (fun t i=>∃ j:Nat,s.size - 9*k - 9<=j/\j<=s.size - 9*k/\i=.int .i64 j/\t=.int .u32 (Hx dl (s.size - 9*k - 9) j:Nat)) (fun _ i=>s.size - 9*k - (intOf i).toNat)
   case atStart=>exact⟨s.size - 9*k - 9,leR,by omega,Ot (by omega),by rw[Rt];rfl⟩
   obtain⟨j,b7,e5,rfl,rfl⟩:=hrel
   by_cases e7:j<s.size - 9*k
   ·have Y:j<(s).size:=by rw[Lib.size_eq,K.o,HZ.o];omega
    have e6:j<s.size:=by omega
    have e8:=De dl HG.o (s.size - 9*k - 9) j (by omega);have e3:=Lu (s) (by rw[K.o];exact HG.o) j Y;have HS:Hid (Hx dl (s.size - 9*k - 9) (j+1)=Hx dl (s.size - 9*k - 9) j*10+((s)[j].toNat - 48)):=Qr (s) dl K.o (s.size - 9*k - 9) j b7 Y
    go_wp2
    go_round
    case rel=>exact⟨j+1,by omega,by omega,by go_num,by rw[HS.o];exact Ot (by omega)⟩
    simp[intOf];omega
   have Z:j=s.size - 9*k:=by omega
   have U:Hid (Hx dl (s.size - 9*k - 9) j=chunk dl k):=by
    unfold Hid
    rw[Z];unfold Hx chunk;rw[HZ.o]
   have e4:=He dl k HG.o;rw[U.o];clear Z U
   go_wp2_with (at_builtin;refine wpList_append_own _ rfl _ _ 117 rfl (w.heap.size+1) 149 i0 (.int .u32 0) 1 4 underlying117 a8 d3 d4 d5 rfl (by decide) _ _ _ rfl (h.alloc _) ⟨wr.heap.size,0,none⟩ 1 1 [.int .u32 (chunk dl k:Nat)] rfl rfl (cell_one_new _ _ _) ?pac2 ?pac3 ?pac4 ?pac5 ?_)
   case pac2=>first|rfl|(intro u hu;simp at hu;subst hu;rfl)
   case pac3=>unfold maxLen;omega
   case pac4=>omega
   case pac5=>have:=M.size;have:=G.o;simp;omega
   intro v' O I d _;have b4:Below (w.heap.size+1) W0 O:=(M.alloc (by have:=M.size;have:=G.o;omega) _).grown d (by have:=M.size;have:=G.o;simp;omega) (fun q hq=>(h.lt q hq).1);clear d h M
   go_wp2
   go_roundw
   case rel=>exact⟨k+1,by omega,Ot (by omega),by rw[Zg,Yr];exact I,b4⟩
   simp[intOf];omega
  go_wp2
  go_loop [7,8] (fun t i=>∃ j:Nat,0<=j/\j<=s.size - 9*k/\i=.int .i64 j/\t=.int .u32 (Hx dl (0) j:Nat)) (fun _ i=>s.size - 9*k - (intOf i).toNat)
  case atStart=>exact⟨0,leR,by omega,Ot (by omega),by rw[Rt];rfl⟩
  obtain⟨j,b7,e5,rfl,rfl⟩:=hrel
  by_cases e7:j<s.size - 9*k
  ·have Y:j<(s).size:=by rw[Lib.size_eq,K.o,HZ.o];omega
   have e6:j<s.size:=by omega
   have e8:=De dl HG.o (0) j (by omega);have e3:=Lu (s) (by rw[K.o];exact HG.o) j Y;have HS:Hid (Hx dl (0) (j+1)=Hx dl (0) j*10+((s)[j].toNat - 48)):=Qr (s) dl K.o (0) j b7 Y
   go_wp2
   go_round
   case rel=>exact⟨j+1,by omega,by omega,by go_num,by rw[HS.o];exact Ot (by omega)⟩
   simp[intOf];omega
  have Z:j=s.size - 9*k:=by omega
  have U:Hid (Hx dl (0) j=chunk dl k):=by
   unfold Hid
   rw[Z];unfold Hx chunk;rw[HZ.o];rw[show s.size - 9*k - 9=0 by omega]
  have e4:=He dl k HG.o;rw[U.o];clear Z U
  go_wp2_with (at_builtin;refine wpList_append_own _ rfl _ _ 117 rfl (w.heap.size+1) 149 i0 (.int .u32 0) 1 4 underlying117 a8 d3 d4 d5 rfl (by decide) _ _ _ rfl (h.alloc _) ⟨wr.heap.size,0,none⟩ 1 1 [.int .u32 (chunk dl k:Nat)] rfl rfl (cell_one_new _ _ _) ?pbc2 ?pbc3 ?pbc4 ?pbc5 ?_)
  case pbc2=>first|rfl|(intro u hu;simp at hu;subst hu;rfl)
  case pbc3=>unfold maxLen;omega
  case pbc4=>omega
  case pbc5=>have:=M.size;have:=G.o;simp;omega
  intro v' O I d _;have b4:Below (w.heap.size+1) W0 O:=(M.alloc (by have:=M.size;have:=G.o;omega) _).grown d (by have:=M.size;have:=G.o;simp;omega) (fun q hq=>(h.lt q hq).1);clear d h M
  go_wp2
  go_roundw
  case rel=>exact⟨k+1,by omega,Ot (by omega),by rw[Zg,Yr];exact I,b4⟩
  simp[intOf];omega
 have d0:k=Rr (s.size):=by unfold Rr;omega
 have hL:Kz (w.heap.size+1) wr u4 (Nn dl):=by
  unfold Nn;rw[HZ.o,<-d0];refine Xu (e:=149) ?_ (fun x hx=>?_)
  ·simpa[Function.comp_def] using h
  rw[Zh] at hx;obtain⟨i,_,rfl⟩:=hx;exact He dl i HG.o
 have HL:=Hd hL;clear hL h d0
 go_wp2_with fail
 refine (Gi _ _ _ _ _ HL.o).mono ?_;rintro e O ⟨z,rfl,hcut,b6⟩;have hZ:=(hcut _ _ HL.o).bl b6;have E:Below (w.heap.size+1) W0 O:=M.trans (b6.mono (by have:=M.size;have:=G.o;omega));have d9:O.cell? ⟨w.heap.size,0,none⟩=some (.int .i64 0):=by
  rw[E.cell (p:=⟨w.heap.size,0,none⟩) (Yl _),<-A.o,Jn _ _ _ _ rfl];rfl
 have e0:O.cell? ⟨w.heap.size,1,none⟩=some (.bool false):=by
  rw[E.cell (p:=⟨w.heap.size,1,none⟩) (Yl _),<-A.o,Jn _ _ _ _ rfl];rfl
 have e1:O.cell? ⟨w.heap.size,2,none⟩=some (.slice none 0 0):=by
  rw[E.cell (p:=⟨w.heap.size,2,none⟩) (Yl _),<-A.o,Jn _ _ _ _ rfl];rfl
 have g3:O.frozen? ⟨w.heap.size,0,none⟩=false:=by
  rw[E.frozen (p:=⟨w.heap.size,0,none⟩) (Yl _),<-A.o,Ya _ _ _ _ rfl]
 have g4:O.frozen? ⟨w.heap.size,1,none⟩=false:=by
  rw[E.frozen (p:=⟨w.heap.size,1,none⟩) (Yl _),<-A.o,Ya _ _ _ _ rfl]
 have g5:O.frozen? ⟨w.heap.size,2,none⟩=false:=by
  rw[E.frozen (p:=⟨w.heap.size,2,none⟩) (Yl _),<-A.o,Ya _ _ _ _ rfl]
 have a7:Up w O:=by
  have h0:=Oz w (.cells #[.int .i64 0,.bool false,.slice none 0 0] 119);rw[A.o] at h0;exact h0.trans (E.mono (Y4 _))
 have HB:=Hd a7;have d7:=Hd hZ;obtain⟨z0,zn,za,zl,zc,f8⟩:=hZ.shape;subst f8;clear hcut b6 E M a7 hZ
 go_wp2
 refine Jg ?_ rfl ⟨_,rfl,(((d7.o.setCell _ _ (Yl _)).setCell _ _ (Yl _)).setCell _ _ (Yl _)).mono (Y4 _),((HB.o.setCell leR _).setCell leR _).setCell leR _⟩;simp[results,results107,go_sem,d9,e0,e1]
theorem UC (s:ByteArray)(w:World)(hi:isIntB s=true)(hn:isNeg s=true) :
 Calls prog 107 #[.string s] w fun e w'=>∃ z,e=.returned z/\Gy w.heap.size w' z true (Og (Nn (s.extract 1 s.size).data.toList))/\Up w w':=by
 obtain⟨J,c6,c8⟩:=Pe s hi;rw[Fl s hn] at J c6 c8;obtain⟨dl,V⟩:=Oa ((s.extract 1 s.size).data.toList);have K:=Hd V;have HZ:Hid (dl.length=(s.size - 1)):=by unfold Hid;rw[<-V,<-Lib.size_eq];exact P2 s
 rw[Lib.size_eq,V,HZ.o] at c6 c8;rw[V] at J ⊢;have HG:=Hd J;have g6:0<s.size:=by omega
 have hm:((s[0].toNat:Int)==45)=true:=by have:=(Rf s hn).2;simp;omega
 obtain⟨i0,a8,d3,d4,d5⟩:=info_parts info_u32;obtain⟨W0,b5⟩:=Oa (w.alloc (.cells #[.int .i64 0,.bool false,.slice none 0 0] 119));have A:=Hd b5;have d1:W0.heap.size=w.heap.size+1:=by rw[<-b5];simp
 have G:=Hd d1;clear hi J d1 b5 hn V
 go_in
 go_wp2
 rw[A.o]
 go_loopw [4,5] (fun v e wr=>∃ k:Nat,9*k<=(s.size - 1)+8/\e=.int .i64 (((s.size - 1):Nat) - 9*k) /\
  wr.ownsRow (w.heap.size+1) 149 1 v k ((List.range k).map (fun i=>Value.int .u32 (chunk dl i:Nat)))/\Below (w.heap.size+1) W0 wr)
  (fun _ e _=>(intOf e).toNat)
 case atStart=>exact⟨0,by omega,Ot (by omega),V7 _ _ _ _,Je _ _⟩
 obtain⟨k,hk,rfl,h,M⟩:=hrel
 by_cases g5:9*k<(s.size - 1)
 ·by_cases h9:9*k+9<=(s.size - 1)
  ·
   go_wp2
   go_loop [7,8] (fun t i=>∃ j:Nat,(s.size - 1) - 9*k - 9<=j/\j<=(s.size - 1) - 9*k/\i=.int .i64 j/\t=.int .u32 (Hx dl ((s.size - 1) - 9*k - 9) j:Nat)) (fun _ i=>(s.size - 1) - 9*k - (intOf i).toNat)
   case atStart=>exact⟨(s.size - 1) - 9*k - 9,leR,by omega,Ot (by omega),by rw[Rt];rfl⟩
   obtain⟨j,b7,e5,rfl,rfl⟩:=hrel
   by_cases e7:j<(s.size - 1) - 9*k
   ·have Y:j<(s.extract 1 s.size).size:=by rw[Lib.size_eq,K.o,HZ.o];omega
    have e6:j<(s.size - 1):=by omega
    have e8:=De dl HG.o ((s.size - 1) - 9*k - 9) j (by omega);have e3:=Lu (s.extract 1 s.size) (by rw[K.o];exact HG.o) j Y;have HS:Hid (Hx dl ((s.size - 1) - 9*k - 9) (j+1)=Hx dl ((s.size - 1) - 9*k - 9) j*10+((s.extract 1 s.size)[j].toNat - 48)):=Qr (s.extract 1 s.size) dl K.o ((s.size - 1) - 9*k - 9) j b7 Y
    go_wp2
    go_round
    case rel=>exact⟨j+1,by omega,by omega,by go_num,by rw[HS.o];exact Ot (by omega)⟩
    simp[intOf];omega
   have Z:j=(s.size - 1) - 9*k:=by omega
   have U:Hid (Hx dl ((s.size - 1) - 9*k - 9) j=chunk dl k):=by
    unfold Hid
    rw[Z];unfold Hx chunk;rw[HZ.o]
   have e4:=He dl k HG.o;rw[U.o];clear Z U
   go_wp2_with (at_builtin;refine wpList_append_own _ rfl _ _ 117 rfl (w.heap.size+1) 149 i0 (.int .u32 0) 1 4 underlying117 a8 d3 d4 d5 rfl (by decide) _ _ _ rfl (h.alloc _) ⟨wr.heap.size,0,none⟩ 1 1 [.int .u32 (chunk dl k:Nat)] rfl rfl (cell_one_new _ _ _) ?nac2 ?nac3 ?nac4 ?nac5 ?_)
   case nac2=>first|rfl|(intro u hu;simp at hu;subst hu;rfl)
   case nac3=>unfold maxLen;omega
   case nac4=>omega
   case nac5=>have:=M.size;have:=G.o;simp;omega
   intro v' O I d _;have b4:Below (w.heap.size+1) W0 O:=(M.alloc (by have:=M.size;have:=G.o;omega) _).grown d (by have:=M.size;have:=G.o;simp;omega) (fun q hq=>(h.lt q hq).1);clear d h M
   go_wp2
   go_roundw
   case rel=>exact⟨k+1,by omega,Ot (by omega),by rw[Zg,Yr];exact I,b4⟩
   simp[intOf];omega
  go_wp2
  go_loop [7,8] (fun t i=>∃ j:Nat,0<=j/\j<=(s.size - 1) - 9*k/\i=.int .i64 j/\t=.int .u32 (Hx dl (0) j:Nat)) (fun _ i=>(s.size - 1) - 9*k - (intOf i).toNat)
  case atStart=>exact⟨0,leR,by omega,Ot (by omega),by rw[Rt];rfl⟩
  obtain⟨j,b7,e5,rfl,rfl⟩:=hrel
  by_cases e7:j<(s.size - 1) - 9*k
  ·have Y:j<(s.extract 1 s.size).size:=by rw[Lib.size_eq,K.o,HZ.o];omega
   have e6:j<(s.size - 1):=by omega
   have e8:=De dl HG.o (0) j (by omega);have e3:=Lu (s.extract 1 s.size) (by rw[K.o];exact HG.o) j Y;have HS:Hid (Hx dl (0) (j+1)=Hx dl (0) j*10+((s.extract 1 s.size)[j].toNat - 48)):=Qr (s.extract 1 s.size) dl K.o (0) j b7 Y
   go_wp2
   go_round
   case rel=>exact⟨j+1,by omega,by omega,by go_num,by rw[HS.o];exact Ot (by omega)⟩
   simp[intOf];omega
  have Z:j=(s.size - 1) - 9*k:=by omega
  have U:Hid (Hx dl (0) j=chunk dl k):=by
   unfold Hid
   rw[Z];unfold Hx chunk;rw[HZ.o];rw[show (s.size - 1) - 9*k - 9=0 by omega]
  have e4:=He dl k HG.o;rw[U.o];clear Z U
  go_wp2_with (at_builtin;refine wpList_append_own _ rfl _ _ 117 rfl (w.heap.size+1) 149 i0 (.int .u32 0) 1 4 underlying117 a8 d3 d4 d5 rfl (by decide) _ _ _ rfl (h.alloc _) ⟨wr.heap.size,0,none⟩ 1 1 [.int .u32 (chunk dl k:Nat)] rfl rfl (cell_one_new _ _ _) ?nbc2 ?nbc3 ?nbc4 ?nbc5 ?_)
  case nbc2=>first|rfl|(intro u hu;simp at hu;subst hu;rfl)
  case nbc3=>unfold maxLen;omega
  case nbc4=>omega
  case nbc5=>have:=M.size;have:=G.o;simp;omega
  intro v' O I d _;have b4:Below (w.heap.size+1) W0 O:=(M.alloc (by have:=M.size;have:=G.o;omega) _).grown d (by have:=M.size;have:=G.o;simp;omega) (fun q hq=>(h.lt q hq).1);clear d h M
  go_wp2
  go_roundw
  case rel=>exact⟨k+1,by omega,Ot (by omega),by rw[Zg,Yr];exact I,b4⟩
  simp[intOf];omega
 have d0:k=Rr ((s.size - 1)):=by unfold Rr;omega
 have hL:Kz (w.heap.size+1) wr u4 (Nn dl):=by
  unfold Nn;rw[HZ.o,<-d0];refine Xu (e:=149) ?_ (fun x hx=>?_)
  ·simpa[Function.comp_def] using h
  rw[Zh] at hx;obtain⟨i,_,rfl⟩:=hx;exact He dl i HG.o
 have HL:=Hd hL;clear hL h d0
 go_wp2_with fail
 refine (Gi _ _ _ _ _ HL.o).mono ?_;rintro e O ⟨z,rfl,hcut,b6⟩;have hZ:=(hcut _ _ HL.o).bl b6;have E:Below (w.heap.size+1) W0 O:=M.trans (b6.mono (by have:=M.size;have:=G.o;omega));have d9:O.cell? ⟨w.heap.size,0,none⟩=some (.int .i64 0):=by
  rw[E.cell (p:=⟨w.heap.size,0,none⟩) (Yl _),<-A.o,Jn _ _ _ _ rfl];rfl
 have e0:O.cell? ⟨w.heap.size,1,none⟩=some (.bool false):=by
  rw[E.cell (p:=⟨w.heap.size,1,none⟩) (Yl _),<-A.o,Jn _ _ _ _ rfl];rfl
 have e1:O.cell? ⟨w.heap.size,2,none⟩=some (.slice none 0 0):=by
  rw[E.cell (p:=⟨w.heap.size,2,none⟩) (Yl _),<-A.o,Jn _ _ _ _ rfl];rfl
 have g2:O.frozen? ⟨w.heap.size,0,none⟩=false:=by
  rw[E.frozen (p:=⟨w.heap.size,0,none⟩) (Yl _),<-A.o,Ya _ _ _ _ rfl]
 have g3:O.frozen? ⟨w.heap.size,1,none⟩=false:=by
  rw[E.frozen (p:=⟨w.heap.size,1,none⟩) (Yl _),<-A.o,Ya _ _ _ _ rfl]
 have g4:O.frozen? ⟨w.heap.size,2,none⟩=false:=by
  rw[E.frozen (p:=⟨w.heap.size,2,none⟩) (Yl _),<-A.o,Ya _ _ _ _ rfl]
 have a7:Up w O:=by
  have h0:=Oz w (.cells #[.int .i64 0,.bool false,.slice none 0 0] 119);rw[A.o] at h0;exact h0.trans (E.mono (Y4 _))
 have HB:=Hd a7;have d7:=Hd hZ;obtain⟨z0,zn,za,zl,zc,e9⟩:=hZ.shape;subst e9;clear hcut b6 E M a7 hZ
 go_wp2
 refine Jg ?_ rfl ⟨_,rfl,(((d7.o.setCell _ _ (Yl _)).setCell _ _ (Yl _)).setCell _ _ (Yl _)).mono (Y4 _),((HB.o.setCell leR _).setCell leR _).setCell leR _⟩;simp[results,results107,go_sem,d9,e0,e1]
theorem I0 (s:ByteArray)(w:World)(hi:isIntB s=true) :
 Calls prog 107 #[.string s] w fun e w'=>∃ z,e=.returned z/\Gy w.heap.size w' z (isNeg s) (Og (Nn (dgs s).data.toList))/\Up w w':=by
 cases hn:isNeg s
 ·rw[Fm s hn];exact UF s w hi hn
 rw[Fl s hn];exact UC s w hi hn
end Go.Proofs.YtdmdmgfjpomdbaaGreatDoor.Q
