import Derived.Test.YtipgjenolpofpaaGreatDoorP01
import Derived.Deep.QuietTactic
import Derived.BigQuiet
import Derived.WalkSmall
import Derived.OneCell
set_option maxRecDepth 100000
set_option maxHeartbeats 2000000
namespace Go.Proofs.YtipgjenolpofpaaGreatDoor.Q
open Go.ChangeShapes Go.WideShapes Go.ChangeAt Go.RowKit Go.Proofs.Tryz
def K7 (a b:List Nat):Nat->Int
 | 0=>0
 | k+1=>if a.getD k 0<b.getD k 0 then -1 else if b.getD k 0<a.getD k 0 then 1 else K7 a b k
def El (a b:List Nat):Int:=if a.length<b.length then -1 else if b.length<a.length then 1 else K7 a b a.length
theorem U1.cells {B:Nat}{w:World}{a:Option Addr}{cap n:Nat}{l:List Nat}(h:U1 B w (.slice a n cap) l):n=l.length/\l.length<=cap/\cap<=maxLen/\okL l /\
 ∀ i,i<l.length->∃ b off,a=some ⟨b,off,none⟩/\b<w.heap.size/\w.cell? ⟨b,off+i,none⟩=some (.int .u32 (l.getD i 0:Nat)):=by
 obtain⟨I,A,E,hl,d,j,G⟩:=h;simp only[Value.slice.injEq] at E;obtain⟨rfl,rfl,rfl⟩:=E;refine⟨rfl,hl,d,j,fun i hi=>?_⟩
 rcases G with rfl|⟨b,off,rfl,_,hb,hc⟩
 ·simp at hi
 exact⟨b,off,rfl,hb,hc i hi⟩
theorem Ed (B:Nat)(va vb:Value)(a b:List Nat)(w:World)(ha:U1 B w va a)(hb:U1 B w vb b) :
 Calls prog 224 #[va,vb] w fun e w'=>e=.returned (.int .i64 (El a b))/\Up w w':=by
 obtain⟨pa,ca,rfl,_⟩:=id ha;obtain⟨pb,cb,rfl,_⟩:=id hb;obtain⟨_,b9,V,M,j⟩:=ha.cells;obtain⟨_,d2,Y,J,h⟩:=hb.cells;unfold maxLen at V Y;have HA:=Hd j;have HB:=Hd h;clear j h ha hb M J
 by_cases G:a.length=b.length
 ·have z:((a.length:Int) != b.length)=false:=by rw[bne_eq_false_iff_eq];omega
  have A:Hid (El a b=K7 a b a.length):=by show El a b=_;unfold El;rw[if_neg (by omega),if_neg (by omega)]
  have HL:=Hd G;clear G
  go_enter func224,ntmps224
  go_wp2
  go_loopw [5] (fun i wr=>∃ k:Nat,k<=a.length/\i=.int .i64 (k - 1)/\K7 a b a.length=K7 a b k/\Up w wr) (fun i _=>(intOf i+1).toNat)
  case atStart=>exact⟨a.length,Of,rfl,rfl,Jh _ _⟩
  case round=>
   obtain⟨k,hk,rfl,hp,hB⟩:=hrel;have O:=Hd hp;have d:=Hd hB;clear hp hB
   cases k with
   | zero=>
     go_wp2
     go_ret
     exact⟨K5 (by rw[A.o,O.o];rfl),d.o⟩
   | succ k=>
     obtain⟨ba,oa,rfl,a8,j⟩:=HA.o k (by omega);obtain⟨bb,ob,rfl,Z,h⟩:=HB.o k (by have:=HL.o;omega);rw[<-d.o.cell (p:=⟨ba,oa+k,none⟩) a8] at j;rw[<-d.o.cell (p:=⟨bb,ob+k,none⟩) Z] at h;obtain⟨x,U⟩:=O1 (a.getD k 0);obtain⟨y,hy⟩:=O1 (b.getD k 0);have E:Hid (K7 a b (k+1)=if x<y then -1 else if y<x then 1 else K7 a b k):=by rw[<-U,<-hy];rfl
     rw[U] at j;rw[hy] at h;have b8:k<b.length:=by have:=HL.o;omega
     clear U hy
     by_cases G:x<y
     ·have K:Hid (K7 a b (k+1) = -1):=E.o.trans (if_pos G);clear E
      go_wp2
      go_quiet (fail)
      go_wp2
      go_ret
      exact⟨K5 (by rw[A.o,O.o,K.o]),below_drewN d.o _⟩
     ·by_cases I:y<x
      ·have K:Hid (K7 a b (k+1)=1):=E.o.trans ((if_neg G).trans (if_pos I));clear E
       go_wp2
       go_quiet (fail)
       go_wp2
       go_quiet (fail)
       go_wp2
       go_ret
       exact⟨K5 (by rw[A.o,O.o,K.o]),below_drewN (below_drewN d.o _) _⟩
      ·have K:Hid (K7 a b (k+1)=K7 a b k):=E.o.trans ((if_neg G).trans (if_neg I));clear E
       go_wp2
       go_quiet (fail)
       go_wp2
       go_quiet (fail)
       go_wp2
       go_roundw
       case rel=>exact⟨k,by omega,Ob (by omega),O.o.trans K.o,below_drewN d.o _⟩
       case measure=>simp[intOf]
 have z:((a.length:Int) != b.length)=true:=by rw[bne_iff_ne];omega
 by_cases I:a.length<b.length
 ·have A:Hid (El a b = -1):=if_pos I
  go_enter func224,ntmps224
  go_wp2
  go_ret
  exact⟨K5 A.o.symm,Jh _ _⟩
 have A:Hid (El a b=1):=(if_neg I).trans (if_pos (by omega))
 go_enter func224,ntmps224
 go_wp2
 go_ret
 exact⟨K5 A.o.symm,Jh _ _⟩
theorem Nf (B:Nat)(va vb:Value)(a b:List Nat)(w:World)(ha:U1 B w va a)(hb:U1 B w vb b) :
 Calls prog 164 #[va,vb] w fun e w'=>e=.returned (.int .i64 (El a b))/\Up w w':=by
 obtain⟨pa,ca,rfl,_⟩:=id ha;obtain⟨pb,cb,rfl,_⟩:=id hb;obtain⟨_,b9,V,M,j⟩:=ha.cells;obtain⟨_,d2,Y,J,h⟩:=hb.cells;unfold maxLen at V Y;have HA:=Hd j;have HB:=Hd h;clear j h ha hb M J
 by_cases G:a.length=b.length
 ·have z:((a.length:Int) != b.length)=false:=by rw[bne_eq_false_iff_eq];omega
  have A:Hid (El a b=K7 a b a.length):=by show El a b=_;unfold El;rw[if_neg (by omega),if_neg (by omega)]
  have HL:=Hd G;clear G
  go_enter func164,ntmps164
  go_wp2
  go_loopw [5] (fun i wr=>∃ k:Nat,k<=a.length/\i=.int .i64 (k - 1)/\K7 a b a.length=K7 a b k/\Up w wr) (fun i _=>(intOf i+1).toNat)
  case atStart=>exact⟨a.length,Of,rfl,rfl,Jh _ _⟩
  case round=>
   obtain⟨k,hk,rfl,hp,hB⟩:=hrel;have O:=Hd hp;have d:=Hd hB;clear hp hB
   cases k with
   | zero=>
     go_wp2
     go_ret
     exact⟨K5 (by rw[A.o,O.o];rfl),d.o⟩
   | succ k=>
     obtain⟨ba,oa,rfl,a8,j⟩:=HA.o k (by omega);obtain⟨bb,ob,rfl,Z,h⟩:=HB.o k (by have:=HL.o;omega);rw[<-d.o.cell (p:=⟨ba,oa+k,none⟩) a8] at j;rw[<-d.o.cell (p:=⟨bb,ob+k,none⟩) Z] at h;obtain⟨x,U⟩:=O1 (a.getD k 0);obtain⟨y,hy⟩:=O1 (b.getD k 0);have E:Hid (K7 a b (k+1)=if x<y then -1 else if y<x then 1 else K7 a b k):=by rw[<-U,<-hy];rfl
     rw[U] at j;rw[hy] at h;have b8:k<b.length:=by have:=HL.o;omega
     clear U hy
     by_cases G:x<y
     ·have K:Hid (K7 a b (k+1) = -1):=E.o.trans (if_pos G);clear E
      go_wp2
      go_quiet (fail)
      go_wp2
      go_ret
      exact⟨K5 (by rw[A.o,O.o,K.o]),below_drewN d.o _⟩
     ·by_cases I:y<x
      ·have K:Hid (K7 a b (k+1)=1):=E.o.trans ((if_neg G).trans (if_pos I));clear E
       go_wp2
       go_quiet (fail)
       go_wp2
       go_quiet (fail)
       go_wp2
       go_ret
       exact⟨K5 (by rw[A.o,O.o,K.o]),below_drewN (below_drewN d.o _) _⟩
      ·have K:Hid (K7 a b (k+1)=K7 a b k):=E.o.trans ((if_neg G).trans (if_neg I));clear E
       go_wp2
       go_quiet (fail)
       go_wp2
       go_quiet (fail)
       go_wp2
       go_roundw
       case rel=>exact⟨k,by omega,Ob (by omega),O.o.trans K.o,below_drewN d.o _⟩
       case measure=>simp[intOf]
 have z:((a.length:Int) != b.length)=true:=by rw[bne_iff_ne];omega
 by_cases I:a.length<b.length
 ·have A:Hid (El a b = -1):=if_pos I
  go_enter func164,ntmps164
  go_wp2
  go_ret
  exact⟨K5 A.o.symm,Jh _ _⟩
 have A:Hid (El a b=1):=(if_neg I).trans (if_pos (by omega))
 go_enter func164,ntmps164
 go_wp2
 go_ret
 exact⟨K5 A.o.symm,Jh _ _⟩
def sg (neg:Bool)(n:Nat):Int:=if neg then -(n:Int) else n
def Nu (B:Nat)(w:World)(z:Value)(neg:Bool)(t:List Nat):Prop:=
 okL t/\isTrim t/\((2<t.length/\∃ v,z=.agg #[.int .i64 0,.bool neg,v]/\U1 B w v t) ∨
 (t.length<=2/\z=.agg #[.int .i64 (sg neg (val t)),.bool false,.slice none 0 0]))
theorem Nu.below {B:Nat}{w w':World}{z:Value}{neg:Bool}{t:List Nat}(h:Nu B w z neg t)(hb:Up w w'):Nu B w' z neg t:=by
 obtain⟨d,A,h3⟩:=h;refine⟨d,A,?_⟩
 rcases h3 with⟨h3,v,rfl,j⟩|h3
 ·exact .inl ⟨h3,v,rfl,j.below hb⟩
 exact .inr h3
def Ek (l:List Nat)(i:Nat):Nat:=val (l.drop i)
theorem H8 (l:List Nat)(i:Nat)(h:i<l.length):Ek l i=Ek l (i+1)*1000000000+l.getD i 0:=by
 unfold Ek;rw[Vk h];simp only[val,Jk,Jf h,Um];omega
theorem De (l:List Nat):Ek l l.length=0:=by unfold Ek;rw[List.drop_length];rfl
theorem F3 (l:List Nat)(hok:okL l)(i:Nat)(h:l.length<=i+2):Ek l i<1000000000000000000:=by
 unfold Ek;have d:okL (l.drop i):=fun x hx=>hok x (Zy hx);have j:(l.drop i).length<=2:=by rw[Zb];omega
 match hl:l.drop i,j with
 | [],_=>simp[val]
 | [a],_=>have:=d a (by rw[hl];simp);simp[val];omega
 | [a,b],_=>have:=d a (by rw[hl];simp);have:=d b (by rw[hl];simp);simp[val];omega
def FW (neg:Bool)(a:Option Addr)(cap:Nat)(t:List Nat):Value:=
 if 2<t.length then .agg #[.int .i64 0,.bool neg,.slice a t.length cap] else .agg #[.int .i64 (sg neg (val t)),.bool false,.slice none 0 0]
theorem UV {neg:Bool}{a:Option Addr}{cap:Nat}{t:List Nat}(h:2<t.length):FW neg a cap t=.agg #[.int .i64 0,.bool neg,.slice a t.length cap]:=if_pos h
theorem Dy {neg:Bool}{a:Option Addr}{cap:Nat}{t:List Nat}(h:¬ 2<t.length):FW neg a cap t=.agg #[.int .i64 (sg neg (val t)),.bool false,.slice none 0 0]:=if_neg h
theorem VH (neg:Bool)(b off cap:Nat)(l:List Nat)(w:World)(hl:l.length<=cap)(hcap:cap<=maxLen)(hok:okL l)(hb:b<w.heap.size)
 (hc:∀ i,i<l.length->w.cell? ⟨b,off+i,none⟩=some (.int .u32 (l.getD i 0:Nat))) :
 Calls prog 126 #[.bool neg,.slice (some ⟨b,off,none⟩) l.length cap] w fun e w'=>
  e=.returned (FW neg (some ⟨b,off,none⟩) cap (Oe l))/\Up w w':=by
 unfold maxLen at hcap;have HC:Hid (∀ o,∀ i,i<l.length->(w.alloc o).cell? ⟨b,off+i,none⟩=some (.int .u32 (l.getD i 0:Nat))):=fun o i hi=>by rw[Jt _ _ _ hb];exact hc i hi
 clear hc
 go_enter func126,ntmps126
 go_wp2
 go_loop [5] (fun n=>∃ k:Nat,k<=l.length/\n=.int .i64 k/\Oe (l.take k)=Oe l) (fun n=>(intOf n).toNat)
 case atStart=>exact⟨l.length,Of,rfl,by rw[Yl]⟩
 case round=>
  obtain⟨k,hk,rfl,hp⟩:=hrel;have Z:=Hd hp;clear hp
  cases k with
  | zero=>
    have HE:Hid (Oe l=[]):=by rw[<-Z.o];rfl
    cases neg
    all_goals
     go_wp2
     refine wp_loop_rounds 1 ?_;rw[rounds_succ]
     go_wp2
     refine Jj (v:=.agg #[.int .i64 0,.bool false,.slice none 0 0]) ?_ rfl ⟨?_,Oy _ _⟩
     ·simp[results,results126,go_sem]
     ·rw[HE.o,Dy (by simp)];simp[sg,val]
  | succ m=>
    obtain⟨x,K⟩:=O1 (l.getD m 0);have d:=fun o=>HC.o o m (by omega);simp only[K] at d;have HX:=Hd K;clear K
    by_cases I:x=0
    ·have hz:((x:Int)==0)=true:=by rw[Yc];omega
     have HE:Hid (Oe (l.take m)=Oe l):=by rw[<-Eh l m (by omega) (by rw[HX.o,I])];exact Z.o
     clear I
     go_wp2
     go_round
     case rel=>exact⟨m,by omega,Ob (by omega),HE.o⟩
     case measure=>simp[intOf]
    ·have hz:((x:Int)==0)=false:=by rw[Jc];omega
     have HT:Hid (Oe l=l.take (m+1)):=Z.o.symm.trans (Eb l m (by omega) (by rw[HX.o];exact I));have G:Hid ((Oe l).length=m+1):=by rw[HT.o,J3];exact Zi (by omega)
     clear I
     by_cases h2:2<m+1
     ·go_wp2
      refine Jj (v:=.agg #[.int .i64 0,.bool neg,.slice (some ⟨b,off,none⟩) (m+1) cap]) ?_ rfl ⟨?_,Oy _ _⟩
      ·simp[results,results126,go_sem]
      ·rw[UV (by rw[G.o];exact h2),G.o]
     ·have h:okL (Oe l):=trimL_ok l hok;have Y:Hid (∀ i,i<m+1->l.getD i 0=(Oe l).getD i 0):=fun i hi=>(Xy l i (by rw[G.o];exact hi)).symm;obtain⟨t,E⟩:=O1 (Oe l);rw[E] at h;have M:=Hd E;have V:Hid (∀ i,i<m+1->l.getD i 0=t.getD i 0):=by rw[E] at Y;exact Y
      have A:Hid (t.length=m+1):=by rw[<-E];exact G.o
      clear Y E hok
      cases neg
      all_goals
       go_wp2
       go_loop [6,7] (fun v i=>∃ j:Nat,j<=m+1/\i=.int .i64 (j - 1)/\v=.int .i64 (Ek t j:Nat)) (fun _ i=>(intOf i+1).toNat)
       case atStart=>exact⟨m+1,Of,Ob (by omega),by rw[<-A.o,De];rfl⟩
       case round=>
        obtain⟨j,hj,rfl,rfl⟩:=hrel
        cases j with
        | zero=>
          have hv:=F3 t h 0 (by rw[A.o];omega);have HV:Hid (Ek t 0=val t):=rfl
          go_wp2
          refine Jj ?_ rfl ⟨rfl,Oy _ _⟩;rw[M.o,Dy (by rw[A.o];exact h2),<-HV.o];simp[results,results126,go_sem,sg]
        | succ i=>
          have hv:=F3 t h i (by rw[A.o];omega);have O:Hid (Ek t i=Ek t (i+1)*1000000000+t.getD i 0):=H8 t i (by rw[A.o];omega);obtain⟨y,J⟩:=O1 (t.getD i 0);obtain⟨q,U⟩:=O1 (Ek t (i+1));have d:=fun o=>HC.o o i (by omega);simp only[V.o i (by omega),J] at d;have c6:y<1000000000:=by
           rw[<-J,Jk,Jf (by rw[A.o];omega)];exact h _ (Jw _)
          rw[J,U] at O;rw[U];rw[O.o] at hv;clear J U
          go_wp2
          go_round
          case rel=>exact⟨i,by omega,Ob (by omega),by rw[O.o];exact Ob (by omega)⟩
          case measure=>simp[intOf]
theorem T4 (neg:Bool)(a:Option Addr)(cap:Nat)(w:World) :
 Calls prog 126 #[.bool neg,.slice a 0 cap] w fun e w'=>e=.returned (.agg #[.int .i64 0,.bool false,.slice none 0 0])/\Up w w':=by
 cases neg
 all_goals
  go_enter func126,ntmps126
  go_wp2
  refine wp_loop_rounds 1 ?_;rw[rounds_succ]
  go_wp2
  refine wp_loop_rounds 1 ?_;rw[rounds_succ]
  go_wp2
  refine Jj (v:=.agg #[.int .i64 0,.bool false,.slice none 0 0]) ?_ rfl ⟨rfl,Oy _ _⟩;simp[results,results126,go_sem]
theorem Nc (B:Nat)(neg:Bool)(v:Value)(l:List Nat)(w:World)(h:U1 B w v l) :
 Calls prog 126 #[.bool neg,v] w fun e w'=>∃ z,e=.returned z/\(∀ B W,U1 B W v l->Nu B W z neg (Oe l))/\Up w w':=by
 obtain⟨a,cap,rfl,hl,j,d,G⟩:=h
 rcases G with rfl|⟨b,A,rfl,_,hb,hc⟩
 ·refine (T4 neg a cap w).mono ?_;rintro e w' ⟨rfl,hb⟩;refine⟨_,rfl,fun B W h=>⟨d,trimL_trim _,.inr ⟨by simp[P2],?_⟩⟩,hb⟩;simp[P2,sg,val]
 refine (VH neg b A cap l w hl j d hb hc).mono ?_;rintro e w' ⟨rfl,hb⟩;refine⟨_,rfl,fun B W h=>⟨trimL_ok l d,trimL_trim _,?_⟩,hb⟩
 by_cases E:2<(Oe l).length
 ·exact .inl ⟨E,_,UV E,U1.cut B W h⟩
 exact .inr ⟨by omega,Dy E⟩
theorem Dx (t:List Nat)(h:t.length<=2)(hok:okL t)(htr:isTrim t) :
 t=[]∨(∃ a,t=[a]/\0<a/\a<1000000000)∨∃ a b,t=[a,b]/\a<1000000000/\0<b/\b<1000000000:=by
 match t,h with
 | [],_=>exact .inl rfl
 | [a],_=>
   have d:=hok a (by simp);have j:=htr (by simp);simp at j;exact .inr (.inl ⟨a,rfl,by omega,d⟩)
 | [a,b],_=>
   have d:=hok a (by simp);have h3:=hok b (by simp);have j:=htr (by simp);simp at j;exact .inr (.inr ⟨a,b,rfl,d,by omega,h3⟩)
theorem Ds (neg:Bool)(t:List Nat)(h2:t.length<=2)(hok:okL t)(htr:isTrim t):U0 neg t=decide (sg neg (val t)<0):=by
 rcases Dx t h2 hok htr with rfl|⟨a,rfl,h3,h4⟩|⟨a,b,rfl,h3,h4,h5⟩
 ·cases neg<;>simp[U0,sg,val]
 ·cases neg<;>simp[U0,sg,val]<;>omega
 cases neg<;>simp[U0,sg,val]<;>omega
theorem UY {w:World}{x:Int}(B e a g:Nat)(ha:a<1000000000)(hx:x=a)(hg:w.heap.size=g)(hB:B<=g):U1 B (w.alloc (.cells #[.int .u32 x] e)) (.slice (some ⟨g,0,none⟩) 1 1) [a]:=by
 subst hx;subst hg;exact⟨_,1,rfl,by simp,by unfold maxLen;omega,fun x hx=>by simp at hx;omega,.inr ⟨w.heap.size,0,rfl,hB,by simp,fun i hi=>by
  match i,hi with
  | 0,_=>rw[Jp _ _ _ _ rfl];rfl⟩⟩
theorem PL {w:World}{x y:Int}(B e a b g:Nat)(ha:a<1000000000)(hb:b<1000000000)(hx:x=a)(hy:y=b)(hg:w.heap.size=g)(hB:B<=g):U1 B (w.alloc (.cells #[.int .u32 x,.int .u32 y] e)) (.slice (some ⟨g,0,none⟩) 2 2) [a,b]:=by
 subst hx;subst hy;subst hg;exact⟨_,2,rfl,by simp,by unfold maxLen;omega,fun x hx=>by simp at hx;omega,.inr ⟨w.heap.size,0,rfl,hB,by simp,fun i hi=>by
  match i,hi with
  | 0,_=>rw[Jp _ _ _ _ rfl];rfl
  | 1,_=>rw[Jp _ _ _ _ rfl];rfl⟩⟩
theorem Ev (B:Nat)(z:Value)(neg:Bool)(t:List Nat)(w:World)(h:Nu B w z neg t)(hB:B<=w.heap.size) :
 Calls prog 127 #[z] w fun e w'=>∃ v,e=.returned v/\U1 B w' v t/\Up w w':=by
 obtain⟨A,E,h⟩:=h
 rcases h with⟨I,v,rfl,J⟩|⟨I,rfl⟩
 ·have M:=Hd J;obtain⟨a,cap,rfl,hl,j,_,_⟩:=J;have Z:0<t.length:=by omega
  unfold maxLen at j
  go_enter func127,ntmps127
  go_wp2
  go_ret
  exact⟨_,rfl,M.o.below (Oy _ _),Oy _ _⟩
 rcases Dx t I A E with rfl|⟨a,rfl,h3,h4⟩|⟨a,b,rfl,h3,h4,h5⟩
 ·cases neg
  all_goals
   simp only[sg,val]
   go_enter func127,ntmps127
   go_wp2
   go_ret
   exact⟨_,rfl,⟨none,0,rfl,by simp,by unfold maxLen;omega,A,.inl rfl⟩,Oy _ _⟩
 ·obtain⟨x,d⟩:∃ x:Int,(a:Int)=x:=⟨_,rfl⟩;have V:0<x:=by omega
  have K:x<1000000000:=by omega
  have Y:(x==0)=false:=by rw[Jc];omega
  have ev:(val [a]:Int)=x:=by simp[val,d]
  have O:=Hd d;unfold sg;rw[ev];clear d ev
  cases neg
  all_goals
   simp only[if_true,if_false,Y8]
   go_enter func127,ntmps127
   go_wp2
   go_ret
   exact⟨_,rfl,UY B _ a _ h4 O.o.symm (by simp) (by omega),(Oy _ _).alloc (by simp) _⟩
 obtain⟨x,d⟩:∃ x:Int,(a:Int)+1000000000*b=x:=⟨_,rfl⟩;have ev:(val [a,b]:Int)=x:=by simp[val,d]
 have V:1000000000<=x:=by omega
 have K:x<1000000000000000000:=by omega
 have U:Hid (x % 1000000000=a):=by unfold Hid;omega
 have G:Hid (x / 1000000000=b):=by unfold Hid;omega
 have Y:(x==0)=false:=by rw[Jc];omega
 unfold sg;rw[ev];clear d ev
 cases neg
 all_goals
  simp only[if_true,if_false,Y8]
  go_enter func127,ntmps127
  go_wp2
  go_ret
  exact⟨_,rfl,PL B _ a b _ h3 h5 U.o G.o (by simp) (by omega),(Oy _ _).alloc (by simp) _⟩
open Go.RowKit Go.Proofs.Tryz
/-! Limbs and the numbers that they stand for. -/
def Bd (x y:Nat):Int:=if x<y then -1 else if y<x then 1 else 0
def RC (x y:Int):Int:=if x<y then -1 else if y<x then 1 else 0
theorem Rk (a b:List Nat):val (a++b)=val a+1000000000 ^ a.length*val b:=by
 induction a with
 | nil=>simp[val]
 | cons x a ih=>
   simp only[Yv,val,ih,Yo,J5];rw[Yf,Yy (1000000000 ^ a.length) 1000000000,Yt];omega
theorem Gu (a:List Nat)(h:okL a):val a<1000000000 ^ a.length:=by
 induction a with
 | nil=>simp[val]
 | cons x a ih=>
   have d:=h x (by simp);have j:=ih (fun y hy=>h y (by simp[hy]));simp only[val,Yo,J5];omega
theorem Hw (a:List Nat)(x:Nat):val (a++[x])=val a+1000000000 ^ a.length*x:=by rw[Rk];simp[val]
theorem Xe (a:List Nat)(htr:isTrim a)(hne:a≠[]):1000000000 ^ (a.length - 1)<=val a:=by
 have h:=htr hne;rw[<-Zg hne];rw[Hw];simp only[Y7,Yo,Zh,List.length_dropLast];have:a.length - 1+(0+1) - 1=a.length - 1:=by omega
 rw[this];have d:1000000000 ^ (a.length - 1)*1<=1000000000 ^ (a.length - 1)*a.getLast hne:=J8 _ (Yp h);omega
theorem Nj (a:List Nat)(htr:isTrim a)(hne:a≠[]):0<val a:=
 Jz (Nat.pow_pos (by decide)) (Xe a htr hne)
theorem GE (P A A' x y:Nat)(hA:A<P)(hA':A'<P):Bd (A+P*x) (A'+P*y)=if x<y then -1 else if y<x then 1 else Bd A A':=by
 unfold Bd
 by_cases d:x<y
 ·have:P*x+P<=P*y:=by rw[<-Nat.mul_succ];exact J8 _ d
  rw[if_pos d,if_pos (by omega)]
 rw[if_neg d]
 by_cases h:y<x
 ·have:P*y+P<=P*x:=by rw[<-Nat.mul_succ];exact J8 _ h
  rw[if_pos h,if_neg (by omega),if_pos (by omega)]
 have:x=y:=by omega
 subst this;rw[if_neg h]
 by_cases h3:A<A'
 ·rw[if_pos h3,if_pos (by omega)]
 rw[if_neg h3,if_neg (by omega)]
 by_cases h4:A'<A
 ·rw[if_pos h4,if_pos (by omega)]
 rw[if_neg h4,if_neg (by omega)]
theorem Ct (a:List Nat)(h:okL a)(k:Nat):okL (a.take k):=fun x hx=>h x (Yw hx)
theorem OC (a b:List Nat)(ha:okL a)(hb:okL b)(k:Nat)(h1:k<=a.length)(h2:k<=b.length):K7 a b k=Bd (val (a.take k)) (val (b.take k)):=by
 induction k with
 | zero=>simp[K7,Bd,val]
 | succ k ih=>
   have la:(a.take k).length=k:=by rw[J3];omega
   have lb:(b.take k).length=k:=by rw[J3];omega
   have h:=Gu _ (Ct a ha k);have d:=Gu _ (Ct b hb k);rw[la] at h;rw[lb] at d;have A:a.getD k 0=a[k]:=by rw[Jk,Jf (by omega)];rfl
   have j:b.getD k 0=b[k]:=by rw[Jk,Jf (by omega)];rfl
   rw[Ye (by omega),Ye (by omega),Hw,Hw,la,lb,GE _ _ _ _ _ h d,<-ih (by omega) (by omega)];simp only[K7,A,j]
theorem Ga (a b:List Nat)(ha:okL a)(hb:okL b)(ta:isTrim a)(tb:isTrim b):El a b=Bd (val a) (val b):=by
 have d:∀ x y:List Nat,okL x->isTrim y->x.length<y.length->val x<val y:=fun x y hx ty hl=>by
  have j:=Gu x hx;have h:=Xe y ty (by intro e;rw[e] at hl;simp at hl);have h3:1000000000 ^ x.length<=1000000000 ^ (y.length - 1):=Yu (by decide) (by omega);omega
 unfold El
 by_cases j:a.length<b.length
 ·rw[if_pos j];unfold Bd;rw[if_pos (d a b ha tb j)]
 rw[if_neg j]
 by_cases h:b.length<a.length
 ·have:=d b a hb ta h;rw[if_pos h];unfold Bd;rw[if_neg (by omega),if_pos this]
 rw[if_neg h,OC a b ha hb a.length Of (by omega),Yl,show a.length=b.length by omega,Yl]
def YZ (na nb:Bool)(a b:List Nat):Int:=if na=nb then (if na then El b a else El a b) else if na then -1 else 1
theorem IS (na nb:Bool)(a b:List Nat)(ha:okL a)(hb:okL b)(ta:isTrim a)(tb:isTrim b):YZ (U0 na a) (U0 nb b) a b=RC (sg na (val a)) (sg nb (val b)):=by
 have E:a=[]/\val a=0∨0<a.length/\0<val a:=by
  by_cases h:a=[]
  ·exact .inl ⟨h,by rw[h];rfl⟩
  exact .inr ⟨Zf.2 h,Nj a ta h⟩
 have A:b=[]/\val b=0∨0<b.length/\0<val b:=by
  by_cases h:b=[]
  ·exact .inl ⟨h,by rw[h];rfl⟩
  exact .inr ⟨Zf.2 h,Nj b tb h⟩
 unfold YZ;rw[Ga a b ha hb ta tb,Ga b a hb ha tb ta];unfold Bd RC U0 sg
 rcases E with⟨rfl,j⟩|⟨la,j⟩<;>rcases A with⟨rfl,d⟩|⟨lb,d⟩<;>cases na<;>cases nb<;>simp_all<;>(repeat' split)<;>omega
abbrev Nb (l:List Nat):List Value:=l.map (fun x=>Value.int .u32 (x:Nat))
def Gw (w:World)(R:Nat)(l:List Nat):Prop:=w.heap[R]? = some (.cells (Nb l).toArray 154 (0,0))
theorem Gw.lt {w:World}{R:Nat}{l:List Nat}(h:Gw w R l):R<w.heap.size:=(J2.1 h).1
theorem Gw.cell {w:World}{R:Nat}{l:List Nat}(h:Gw w R l)(i:Nat)(hi:i<l.length):w.cell? ⟨R,i,none⟩=some (.int .u32 (l.getD i 0:Nat)):=by
 simp[World.cell?,show w.heap[R]? = _ from h,List.getElem?_eq_getElem hi,List.getD_eq_getElem?_getD]
theorem Gw.frozen {w:World}{R:Nat}{l:List Nat}(h:Gw w R l)(i:Nat):w.frozen? ⟨R,i,none⟩=false:=by
 simp[World.frozen?,show w.heap[R]? = _ from h]
theorem Gw.set {w:World}{R:Nat}{l:List Nat}(h:Gw w R l)(i x:Nat):Gw (w.setCell ⟨R,i,none⟩ (.int .u32 (x:Nat))) R (l.set i x):=by
 obtain⟨d,j⟩:=J2.1 h
 show (w.heap.modify R _)[R]? = _
 rw[Vl (by rw[Z1];exact d),Vm,j];simp[Nb,List.map_set]
theorem Gw.kept {w w':World}{R:Nat}{l:List Nat}(h:Gw w R l)(hb:Up w w'):Gw w' R l:=(hb.block R h.lt).trans h
theorem Gw.drew {w:World}{R:Nat}{l:List Nat}(h:Gw w R l):Gw w.drew R l:=h
theorem Kp {w:World}{base g n:Nat}{l:List Nat}(h:w.ownsRow base 154 1 (.slice (some ⟨g,0,none⟩) n n) n (Nb l)):Gw w g l:=by
 rcases h.2 with⟨e,_⟩|⟨A,cap,j,e,_,hb,_,_,hc,d⟩
 ·cases e
 simp only[Value.slice.injEq,Option.some.injEq,Addr.mk.injEq,and_true,true_and] at e;obtain⟨rfl,rfl⟩:=e;rw[Zz] at hc d;rw[Jn (by rw[Vh];omega)] at d;unfold Gw;rw[hb,<-d]
theorem Gw.isL {w:World}{R B cap:Nat}{l:List Nat}(h:Gw w R l)(hB:B<=R)(hok:okL l)(hc:l.length<=cap)(hm:cap<=maxLen):U1 B w (.slice (some ⟨R,0,none⟩) l.length cap) l:=
 ⟨_,cap,rfl,hc,hm,hok,.inr ⟨R,0,rfl,hB,h.lt,fun i hi=>by rw[Y3];exact h.cell i hi⟩⟩
theorem K8 (n:Nat):(madeCells (Value.int .u32 0).cells (n*1)).toList=Nb (List.replicate n 0):=by
 rw[Zz]
 show (madeCells #[.int .u32 0] n).toList=_
 rw[toList_madeCells_one];simp[Nb]
theorem O2 (l:List Nat)(i x:Nat)(hi:i<l.length):val ((l.set i x).take (i+1))=val (l.take i)+1000000000 ^ i*x:=by
 have e:(l.set i x).take (i+1)=l.take i++[x]:=by
  rw[Ye (by simpa using hi),List.getElem_set_self]
  congr 1
  rw[List.take_set_of_le (Nat.le_refl i)]
 rw[e,Hw,J3,Zi (by omega)]
theorem Ok (l:List Nat)(i:Nat):val (l.take (i+1))=val (l.take i)+1000000000 ^ i*l.getD i 0:=by
 by_cases d:i<l.length
 ·rw[Ye d,Hw,J3,Zi (by omega),Jk,Jf d];rfl
 rw[Jn (by omega),Jn (by omega),Jk,Yj (by omega)];simp
theorem U4 (l:List Nat)(h:okL l)(i x:Nat)(hx:x<1000000000):okL (l.set i x):=fun y hy=>by
 rcases List.mem_or_eq_of_mem_set hy with d|d
 ·exact h y d
 ·omega
theorem info_u32:(prog.info? 154).map (fun i=>(i.zero,i.size,i.bytes))=some (some (.int .u32 0),1,4):=by kernel_rfl
theorem Fg (s:ByteArray)(w:World)(hs:s.size<=maxLen)(hi:isIntB s=false) :
 Calls prog 139 #[.string s] w fun e w'=>e=.returned (.tuple #[.agg #[.bool false,.slice none 0 0],.bool false])/\Up w w':=by
 have d:=Hd hi;clear hi
 go_enter func139,ntmps139
 go_wp2_with (go_at_call 155;refine (Fk _ _ hs).mono ?_;rintro e w' ⟨rfl,rfl⟩;rw[d.o])
 refine Jj (v:=.tuple #[.agg #[.bool false,.slice none 0 0],.bool false]) ?_ rfl ⟨rfl,Oy _ _⟩;simp[results,results139,go_sem]
theorem Re (s:ByteArray)(h:isIntB s=true):(∀ c∈(dgs s).data.toList,dig c)/\0<(dgs s).size/\(dgs s).size<=2500:=by
 unfold isIntB at h;simp only[J4,Yg] at h;obtain⟨⟨⟨d,j⟩,h3⟩,_⟩:=h;refine⟨fun c hc=>?_,d,j⟩;rw[Ju] at h3;have:=h3 c hc
 simpa[isDig,dig] using this
theorem YR (s:ByteArray):decide ((dgs s).size<s.size)=isNeg s:=by
 cases h:isNeg s with
 | true=>
   obtain⟨d,_⟩:=Qf s h;rw[Cu s h,Ph];simp;omega
 | false=>rw[Cv s h];simp
theorem My (d:ByteArray)(k:Nat):num (d.extract (d.size - 9*k - 9) (d.size - 9*k)).data.toList=chunk d.data.toList k:=by
 unfold chunk;rw[Lib.extract_data,<-Lib.size_eq]
 congr 1
 rw[Uk]
theorem D8 (s:ByteArray)(w:World)(hs:s.size<=maxLen)(hi:isIntB s=true) :
 Calls prog 139 #[.string s] w fun e w'=>∃ v,e=.returned (.tuple #[.agg #[.bool (U0 (isNeg s) (Oe (Et (dgs s).data.toList))),v],.bool true]) /\
  U1 w.heap.size w' v (Oe (Et (dgs s).data.toList))/\Up w w':=by
 obtain⟨Y,d6,d5⟩:=Re s hi;have HI:=Hd hi;obtain⟨d,hd⟩:=O1 (dgs s);rw[hd] at Y d6 d5 ⊢;have HD:=Hd hd;have HG:=Hd Y;obtain⟨i0,O,a8,b3,a7⟩:=info_parts info_u32;clear hi hd Y
 go_enter func139,ntmps139
 go_wp2_with (first
  | (go_at_call 155;refine (Fk _ _ hs).mono ?_;rintro e w' ⟨rfl,rfl⟩;rw[HI.o])
  | (go_at_call 154;refine (Iv _ _ hs).mono ?_;rintro e w' ⟨rfl,rfl⟩;rw[HD.o])
  | (at_make;refine wpList_make_own _ rfl _ _ 121 rfl (w.heap.size+1) 154 i0 (.int .u32 0) 1 underlying121 O a8 b3 .i64 .i64 _ (d.size / 9+1) rfl rfl ?m1 ?m2 ?m3 ?m4 ?_))
 case m1=>omega
 case m2=>rw[a7];omega
 case m3=>unfold maxLen;omega
 case m4=>simp
 intro wm j I;obtain⟨W0,Z⟩:=O1 (w.alloc (.cells #[.bool false,.slice none 0 0] 162));have V:=Hd Z;rw[Z] at I;have b9:W0.heap.size=w.heap.size+1:=by rw[<-Z];simp
 have c6:Below (w.heap.size+1) W0 wm:=(Jh _ _).grown I (by omega) (fun k h=>by cases h);have E:=Hd b9;clear I Z b9
 go_wp2
 go_loopw [5,6] (fun v e wr=>∃ k:Nat,9*k<=d.size+8/\e=.int .i64 (d.size - 9*k) /\
  wr.ownsRow (w.heap.size+1) 154 1 v k ((List.range k).map (fun i=>Value.int .u32 (chunk d.data.toList i:Nat)))/\Below (w.heap.size+1) W0 wr)
  (fun _ e _=>(intOf e).toNat)
 case atStart=>exact⟨0,by omega,by simp,j,c6⟩
 case round=>
  clear j c6;obtain⟨k,hk,rfl,j,K⟩:=hrel
  by_cases e5:9*k<d.size
  ·have e4:=Gl d.data.toList k HG.o;have e7:k<=d.size:=by omega
   go_wp2_with fail
   ·rw[show d.extract ((d.size:Int) - 9*k - 9).toNat (d.size - 9*k)=d.extract (d.size - 9*k - 9) (d.size - 9*k) by rw[show ((d.size:Int) - 9*k - 9).toNat=d.size - 9*k - 9 by omega]];refine (R9 _ _ ?ph9 ?phdg).mono ?_
    case ph9=>rw[Yn];omega
    case phdg=>
     intro c hc;rw[Lib.extract_data] at hc;exact HG.o c (Zy (Yw hc))
    rintro e w' ⟨rfl,rfl⟩;rw[My]
    go_wp2_with (at_builtin;refine wpList_append_own _ rfl _ _ 121 rfl (w.heap.size+1) 154 i0 (.int .u32 0) 1 4 underlying121 O a8 b3 a7 rfl (by decide) _ _ _ rfl (j.alloc _) ⟨w'.heap.size,0,none⟩ 1 1 [.int .u32 (chunk d.data.toList k:Nat)] rfl rfl (cell_one_new _ _ _) ?pc2 ?pc3 ?pc4 ?pc5 ?_)
    case pc2=>intro u hu;simp at hu;subst hu;rfl
    case pc3=>unfold maxLen;omega
    case pc4=>omega
    case pc5=>have:=K.size;have:=E.o;simp;omega
    intro v' M G A _;have b4:Below (w.heap.size+1) W0 M:=(K.alloc (by have:=K.size;have:=E.o;omega) _).grown A (by have:=K.size;have:=E.o;simp;omega) (fun q hq=>(j.lt q hq).1);clear A j K
    go_wp2
    go_roundw
    case rel=>exact⟨k+1,by omega,Ob (by omega),by rw[Zc,Zd];exact G,b4⟩
    case measure=>simp[intOf];omega
   ·rw[show d.extract 0 (d.size - 9*k)=d.extract (d.size - 9*k - 9) (d.size - 9*k) by rw[show d.size - 9*k - 9=0 by omega]];refine (R9 _ _ ?qh9 ?qhdg).mono ?_
    case qh9=>rw[Yn];omega
    case qhdg=>
     intro c hc;rw[Lib.extract_data] at hc;exact HG.o c (Zy (Yw hc))
    rintro e w' ⟨rfl,rfl⟩;rw[My]
    go_wp2_with (at_builtin;refine wpList_append_own _ rfl _ _ 121 rfl (w.heap.size+1) 154 i0 (.int .u32 0) 1 4 underlying121 O a8 b3 a7 rfl (by decide) _ _ _ rfl (j.alloc _) ⟨w'.heap.size,0,none⟩ 1 1 [.int .u32 (chunk d.data.toList k:Nat)] rfl rfl (cell_one_new _ _ _) ?qc2 ?qc3 ?qc4 ?qc5 ?_)
    case qc2=>intro u hu;simp at hu;subst hu;rfl
    case qc3=>unfold maxLen;omega
    case qc4=>omega
    case qc5=>have:=K.size;have:=E.o;simp;omega
    intro v' M G A _;have b4:Below (w.heap.size+1) W0 M:=(K.alloc (by have:=K.size;have:=E.o;omega) _).grown A (by have:=K.size;have:=E.o;simp;omega) (fun q hq=>(j.lt q hq).1);clear A j K
    go_wp2
    go_roundw
    case rel=>exact⟨k+1,by omega,Ob (by omega),by rw[Zc,Zd];exact G,b4⟩
    case measure=>simp[intOf];omega
  ·have b8:k=Qh d.size:=by unfold Qh;omega
   have hL:U1 (w.heap.size+1) wr u5 (Et d.data.toList):=by
    unfold Et;rw[<-Lib.size_eq,<-b8];refine Iq (e:=154) ?_ (fun x hx=>?_)
    ·simpa[Function.comp_def] using j
    ·rw[Zm] at hx;obtain⟨i,_,rfl⟩:=hx;exact Gl d.data.toList i HG.o
   have HL:=Hd hL;clear hL j b8
   go_wp2_with fail
   refine (Kc _ _ _ _ _ HL.o).mono ?_;rintro e M ⟨v',rfl,hcut,b5⟩;have HC:Hid (U1 (w.heap.size+1) M v' (Oe (Et d.data.toList))):=(hcut _ _ HL.o).below b5;have J:Below (w.heap.size+1) W0 M:=K.trans (b5.mono (by have:=K.size;have:=E.o;omega));have d7:M.cell? ⟨w.heap.size,0,none⟩=some (.bool false):=by
    rw[J.cell (p:=⟨w.heap.size,0,none⟩) (Yi _),<-V.o,Jp _ _ _ _ rfl];rfl
   have d2:M.cell? ⟨w.heap.size,1,none⟩=some (.slice none 0 0):=by
    rw[J.cell (p:=⟨w.heap.size,1,none⟩) (Yi _),<-V.o,Jp _ _ _ _ rfl];rfl
   have f8:M.frozen? ⟨w.heap.size,0,none⟩=false:=by
    rw[J.frozen (p:=⟨w.heap.size,0,none⟩) (Yi _),<-V.o,J7 _ _ _ _ rfl]
   have e6:M.frozen? ⟨w.heap.size,1,none⟩=false:=by
    rw[J.frozen (p:=⟨w.heap.size,1,none⟩) (Yi _),<-V.o,J7 _ _ _ _ rfl]
   have U:Up w M:=by
    have h0:=Oy w (.cells #[.bool false,.slice none 0 0] 162);rw[V.o] at h0;exact h0.trans (J.mono (Y1 _))
   have HB:=Hd U;obtain⟨a',b7,d4,_⟩:=hcut _ _ HL.o;subst d4;clear hcut b5 J K U
   go_wp2
   refine Jj (v:=.tuple #[.agg #[.bool (U0 (decide (d.size<s.size)) (Oe (Et d.data.toList))),.slice a' (Oe (Et d.data.toList)).length b7],.bool true]) ?_ rfl
    ⟨_,by rw[<-YR s,HD.o],((HC.o.setCell _ _ (Yi _)).setCell _ _ (Yi _)).mono (Y1 _),(HB.o.setCell Of _).setCell Of _⟩
   simp[results,results139,go_sem,d7,d2]
theorem O3 (l:List Nat):val (Oe l)=val l:=by
 induction hn:l.length generalizing l with
 | zero=>rw[Jv hn];rfl
 | succ n ih=>
   have d:l≠[]:=by intro h;rw[h] at hn;simp at hn
   rw[<-Zg d]
   by_cases j:l.getLast d=0
   ·rw[j,N8,Hw,ih _ (by simp[hn])];omega
   ·rw[Nx _ _ j]
theorem Dr (x:Nat)(l:List Nat)(h:isTrim (x::l)):isTrim l:=by
 intro d;have:=h (by simp)
 rwa [List.getLast_cons d] at this
theorem val_inj (a b:List Nat)(ha:okL a)(hb:okL b)(ta:isTrim a)(tb:isTrim b)(h:val a=val b):a=b:=by
 induction a generalizing b with
 | nil=>
   by_cases d:b=[]
   ·rw[d]
   ·have:=Nj b tb d;rw[<-h] at this;simp[val] at this
 | cons x a ih=>
   cases b with
   | nil=>
     have:=Nj (x::a) ta (by simp);rw[h] at this;simp[val] at this
   | cons y b=>
     have E:=ha x (by simp);have G:=hb y (by simp);simp only[val] at h;have j:x=y:=by omega
     have A:val a=val b:=by omega
     rw[j,ih b (fun z hz=>ha z (by simp[hz])) (fun z hz=>hb z (by simp[hz])) (Dr x a ta) (Dr y b tb) A]
def wl (n k:Nat):List Nat:=(List.range k).map (fun i=>n / 1000000000 ^ i % 1000000000)
theorem Ak (n k:Nat):wl n (k+1)=wl n k++[n / 1000000000 ^ k % 1000000000]:=by simp[wl,List.range_succ]
theorem P7 (n k:Nat):(wl n k).length=k:=by simp[wl]
theorem FY (n k:Nat):okL (wl n k):=by
 intro x d;unfold wl at d;rw[Zm] at d;obtain⟨i,_,rfl⟩:=d;exact Zx _ (by decide)
theorem CQ (n k:Nat):val (wl n k)+1000000000 ^ k*(n / 1000000000 ^ k)=n:=by
 induction k with
 | zero=>simp[wl,val]
 | succ k ih=>
   rw[Ak,Hw,P7,J5,<-Z3];have d:=Uc (n / 1000000000 ^ k) 1000000000;have h:1000000000 ^ k*(n / 1000000000 ^ k)=1000000000 ^ k*(1000000000*(n / 1000000000 ^ k / 1000000000)+n / 1000000000 ^ k % 1000000000):=by rw[d]
   rw[Yf,<-Yt] at h;omega
def F5 (neg:Bool)(l:List Nat):ByteArray:=if l.length=0 then strB [48] else C4 neg l
theorem XQ (B:Nat)(neg:Bool)(v:Value)(l:List Nat)(w:World)(hI:U1 B w v l)(hlen:l.length<=600)(hLT:LT w) :
 Calls prog 191 #[.agg #[.bool neg,v]] w fun e w'=>e=.returned (.string (F5 neg l))/\Up w w':=by
 by_cases h:l.length=0
 ·obtain⟨a,cap,rfl,_⟩:=hI;rw[h];refine (EJ neg a cap w).mono ?_;rintro e w' ⟨rfl,hb⟩;exact⟨by unfold F5;rw[if_pos h];rfl,hb⟩
 refine (IN B neg v l w hI (by omega) hlen hLT).mono ?_;rintro e w' ⟨rfl,hb⟩;exact⟨by unfold F5;rw[if_neg h],hb⟩
theorem LT.below {w w':World}(h:LT w)(hb:Up w w'):LT w':=fun j hj=>(hb.cell (p:=⟨4,j,none⟩) (S7 h)).trans (h j hj)
def Gf (d:List UInt8)(a b:Nat):Nat:=num ((d.take b).drop a)
theorem Qc (d:List UInt8)(a:Nat):Gf d a a=0:=by
 unfold Gf;rw[Zj (List.length_take_le _ _)];rfl
theorem KC (d:ByteArray)(a j:Nat)(h1:a<=j)(h2:j<d.size):Gf d.data.toList a (j+1)=Gf d.data.toList a j*10+(d[j].toNat - 48):=by
 unfold Gf;rw[G1 d j h2,List.drop_append_of_le_length (by rw[J3,<-Lib.size_eq];omega),Ra]
theorem Xn (d:ByteArray)(dl:List UInt8)(hd:d.data.toList=dl)(a j:Nat)(h1:a<=j)(h2:j<d.size):Gf dl a (j+1)=Gf dl a j*10+(d[j].toNat - 48):=by
 subst hd;exact KC d a j h1 h2
theorem Py (d:List UInt8)(h:∀ c∈d,dig c)(a j:Nat)(hj:j<a+9):Gf d a j<100000000:=by
 unfold Gf;have E:=YD ((d.take j).drop a) (fun c hc=>h c (Yw (Zy hc)));have A:((d.take j).drop a).length<=8:=by rw[Zb,J3];omega
 have h3:10 ^ ((d.take j).drop a).length<=10 ^ 8:=Yu (by omega) A;have:(10:Nat) ^ 8=100000000:=by decide
 omega
theorem Nu.setCell {B:Nat}{w:World}{z:Value}{neg:Bool}{t:List Nat}(h:Nu B w z neg t)(p:Addr)(u:Value)(hp:p.block<B):Nu B (w.setCell p u) z neg t:=by
 obtain⟨d,A,h3⟩:=h;refine⟨d,A,?_⟩
 rcases h3 with⟨h3,v,rfl,j⟩|h3
 ·exact .inl ⟨h3,v,rfl,j.setCell p u hp⟩
 exact .inr h3
theorem Nu.mono {B B':Nat}{w:World}{z:Value}{neg:Bool}{t:List Nat}(h:Nu B w z neg t)(hb:B'<=B):Nu B' w z neg t:=by
 obtain⟨d,A,h3⟩:=h;refine⟨d,A,?_⟩
 rcases h3 with⟨h3,v,rfl,j⟩|h3
 ·exact .inl ⟨h3,v,rfl,j.mono hb⟩
 exact .inr h3
theorem Nu.shape {B:Nat}{w:World}{z:Value}{neg:Bool}{t:List Nat}(h:Nu B w z neg t):∃ (z0:Int) (zn:Bool) (za:Option Addr) (zl zc:Nat),z=.agg #[.int .i64 z0,.bool zn,.slice za zl zc]:=by
 obtain⟨d,j,h3⟩:=h
 rcases h3 with⟨h3,v,rfl,a,cap,rfl,_⟩|⟨_,rfl⟩
 ·exact⟨_,_,_,_,_,rfl⟩
 exact⟨_,_,_,_,_,rfl⟩
theorem ZR (s:ByteArray)(w:World)(hi:isIntB s=true)(hn:isNeg s=false) :
 Calls prog 109 #[.string s] w fun e w'=>∃ z,e=.returned z/\Nu w.heap.size w' z false (Oe (Et (s).data.toList))/\Up w w':=by
 obtain⟨J,d2,d1⟩:=Re s hi;rw[Cv s hn] at J d2 d1;obtain⟨dl,Z⟩:=O1 ((s).data.toList);have M:=Hd Z;have HZ:Hid (dl.length=s.size):=by unfold Hid;rw[<-Z,<-Lib.size_eq]
 rw[Lib.size_eq,Z,HZ.o] at d2 d1;rw[Z] at J ⊢;have HG:=Hd J;have e5:0<s.size:=by omega
 have hm:((s[0].toNat:Int)==45)=false:=by have:=Tb s hn e5;simp;omega
 obtain⟨i0,a8,c8,d0,b9⟩:=info_parts info_u32;obtain⟨W0,b3⟩:=O1 (w.alloc (.cells #[.int .i64 0,.bool false,.slice none 0 0] 123));have E:=Hd b3;have d4:W0.heap.size=w.heap.size+1:=by rw[<-b3];simp
 have G:=Hd d4;clear hi J d4 b3 hn Z
 go_enter func109,ntmps109
 go_wp2
 rw[E.o]
 go_loopw [4,5] (fun v e wr=>∃ k:Nat,9*k<=s.size+8/\e=.int .i64 ((s.size:Nat) - 9*k) /\
  wr.ownsRow (w.heap.size+1) 154 1 v k ((List.range k).map (fun i=>Value.int .u32 (chunk dl i:Nat)))/\Below (w.heap.size+1) W0 wr)
  (fun _ e _=>(intOf e).toNat)
 case atStart=>exact⟨0,by omega,Ob (by omega),Vr _ _ _ _,Jh _ _⟩
 case round=>
  obtain⟨k,hk,rfl,h,K⟩:=hrel
  by_cases g2:9*k<s.size
  ·by_cases h9:9*k+9<=s.size
   ·
    go_wp2_with fail
    go_loop [7,8] (fun t i=>∃ j:Nat,s.size - 9*k - 9<=j/\j<=s.size - 9*k/\i=.int .i64 j/\t=.int .u32 (Gf dl (s.size - 9*k - 9) j:Nat)) (fun _ i=>s.size - 9*k - (intOf i).toNat)
    case atStart=>exact⟨s.size - 9*k - 9,Of,by omega,Ob (by omega),by rw[Qc];rfl⟩
    case round=>
     obtain⟨j,b4,e6,rfl,rfl⟩:=hrel
     by_cases e1:j<s.size - 9*k
     ·have a7:j<(s).size:=by rw[Lib.size_eq,M.o,HZ.o];omega
      have d9:j<s.size:=by omega
      have e9:=Py dl HG.o (s.size - 9*k - 9) j (by omega);have e8:=Fw (s) (by rw[M.o];exact HG.o) j a7;have HS:Hid (Gf dl (s.size - 9*k - 9) (j+1)=Gf dl (s.size - 9*k - 9) j*10+((s)[j].toNat - 48)):=Xn (s) dl M.o (s.size - 9*k - 9) j b4 a7
      go_wp2
      go_round
      case rel=>exact⟨j+1,by omega,by omega,by go_num,by rw[HS.o];exact Ob (by omega)⟩
      case measure=>simp[intOf];omega
     ·have U:j=s.size - 9*k:=by omega
      have V:Hid (Gf dl (s.size - 9*k - 9) j=chunk dl k):=by
       unfold Hid
       rw[U];unfold Gf chunk;rw[HZ.o]
      have d8:=Gl dl k HG.o;rw[V.o];clear U V
      go_wp2_with (at_builtin;refine wpList_append_own _ rfl _ _ 121 rfl (w.heap.size+1) 154 i0 (.int .u32 0) 1 4 underlying121 a8 c8 d0 b9 rfl (by decide) _ _ _ rfl (h.alloc _) ⟨wr.heap.size,0,none⟩ 1 1 [.int .u32 (chunk dl k:Nat)] rfl rfl (cell_one_new _ _ _) ?pac2 ?pac3 ?pac4 ?pac5 ?_)
      case pac2=>first|rfl|(intro u hu;simp at hu;subst hu;rfl)
      case pac3=>unfold maxLen;omega
      case pac4=>omega
      case pac5=>have:=K.size;have:=G.o;simp;omega
      intro v' O I d _;have b6:Below (w.heap.size+1) W0 O:=(K.alloc (by have:=K.size;have:=G.o;omega) _).grown d (by have:=K.size;have:=G.o;simp;omega) (fun q hq=>(h.lt q hq).1);clear d h K
      go_wp2
      go_roundw
      case rel=>exact⟨k+1,by omega,Ob (by omega),by rw[Zc,Zd];exact I,b6⟩
      case measure=>simp[intOf];omega
   ·
    go_wp2_with fail
    go_loop [7,8] (fun t i=>∃ j:Nat,0<=j/\j<=s.size - 9*k/\i=.int .i64 j/\t=.int .u32 (Gf dl (0) j:Nat)) (fun _ i=>s.size - 9*k - (intOf i).toNat)
    case atStart=>exact⟨0,Of,by omega,Ob (by omega),by rw[Qc];rfl⟩
    case round=>
     obtain⟨j,b4,e6,rfl,rfl⟩:=hrel
     by_cases e1:j<s.size - 9*k
     ·have a7:j<(s).size:=by rw[Lib.size_eq,M.o,HZ.o];omega
      have d9:j<s.size:=by omega
      have e9:=Py dl HG.o (0) j (by omega);have e8:=Fw (s) (by rw[M.o];exact HG.o) j a7;have HS:Hid (Gf dl (0) (j+1)=Gf dl (0) j*10+((s)[j].toNat - 48)):=Xn (s) dl M.o (0) j b4 a7
      go_wp2
      go_round
      case rel=>exact⟨j+1,by omega,by omega,by go_num,by rw[HS.o];exact Ob (by omega)⟩
      case measure=>simp[intOf];omega
     ·have U:j=s.size - 9*k:=by omega
      have V:Hid (Gf dl (0) j=chunk dl k):=by
       unfold Hid
       rw[U];unfold Gf chunk;rw[HZ.o];rw[show s.size - 9*k - 9=0 by omega]
      have d8:=Gl dl k HG.o;rw[V.o];clear U V
      go_wp2_with (at_builtin;refine wpList_append_own _ rfl _ _ 121 rfl (w.heap.size+1) 154 i0 (.int .u32 0) 1 4 underlying121 a8 c8 d0 b9 rfl (by decide) _ _ _ rfl (h.alloc _) ⟨wr.heap.size,0,none⟩ 1 1 [.int .u32 (chunk dl k:Nat)] rfl rfl (cell_one_new _ _ _) ?pbc2 ?pbc3 ?pbc4 ?pbc5 ?_)
      case pbc2=>first|rfl|(intro u hu;simp at hu;subst hu;rfl)
      case pbc3=>unfold maxLen;omega
      case pbc4=>omega
      case pbc5=>have:=K.size;have:=G.o;simp;omega
      intro v' O I d _;have b6:Below (w.heap.size+1) W0 O:=(K.alloc (by have:=K.size;have:=G.o;omega) _).grown d (by have:=K.size;have:=G.o;simp;omega) (fun q hq=>(h.lt q hq).1);clear d h K
      go_wp2
      go_roundw
      case rel=>exact⟨k+1,by omega,Ob (by omega),by rw[Zc,Zd];exact I,b6⟩
      case measure=>simp[intOf];omega
  ·have d3:k=Qh (s.size):=by unfold Qh;omega
   have hL:U1 (w.heap.size+1) wr u4 (Et dl):=by
    unfold Et;rw[HZ.o,<-d3];refine Iq (e:=154) ?_ (fun x hx=>?_)
    ·simpa[Function.comp_def] using h
    ·rw[Zm] at hx;obtain⟨i,_,rfl⟩:=hx;exact Gl dl i HG.o
   have HL:=Hd hL;clear hL h d3
   go_wp2_with fail
   refine (Nc _ _ _ _ _ HL.o).mono ?_;rintro e O ⟨z,rfl,hcut,b7⟩;have hZ:=(hcut _ _ HL.o).below b7;have A:Below (w.heap.size+1) W0 O:=K.trans (b7.mono (by have:=K.size;have:=G.o;omega));have e7:O.cell? ⟨w.heap.size,0,none⟩=some (.int .i64 0):=by
    rw[A.cell (p:=⟨w.heap.size,0,none⟩) (Yi _),<-E.o,Jp _ _ _ _ rfl];rfl
   have d6:O.cell? ⟨w.heap.size,1,none⟩=some (.bool false):=by
    rw[A.cell (p:=⟨w.heap.size,1,none⟩) (Yi _),<-E.o,Jp _ _ _ _ rfl];rfl
   have e0:O.cell? ⟨w.heap.size,2,none⟩=some (.slice none 0 0):=by
    rw[A.cell (p:=⟨w.heap.size,2,none⟩) (Yi _),<-E.o,Jp _ _ _ _ rfl];rfl
   have g5:O.frozen? ⟨w.heap.size,0,none⟩=false:=by
    rw[A.frozen (p:=⟨w.heap.size,0,none⟩) (Yi _),<-E.o,J7 _ _ _ _ rfl]
   have g3:O.frozen? ⟨w.heap.size,1,none⟩=false:=by
    rw[A.frozen (p:=⟨w.heap.size,1,none⟩) (Yi _),<-E.o,J7 _ _ _ _ rfl]
   have g0:O.frozen? ⟨w.heap.size,2,none⟩=false:=by
    rw[A.frozen (p:=⟨w.heap.size,2,none⟩) (Yi _),<-E.o,J7 _ _ _ _ rfl]
   have Y:Up w O:=by
    have h0:=Oy w (.cells #[.int .i64 0,.bool false,.slice none 0 0] 123);rw[E.o] at h0;exact h0.trans (A.mono (Y1 _))
   have HB:=Hd Y;have e2:=Hd hZ;obtain⟨z0,zn,za,zl,zc,e4⟩:=hZ.shape;subst e4;clear hcut b7 A K Y hZ
   go_wp2
   refine Jj ?_ rfl ⟨_,rfl,(((e2.o.setCell _ _ (Yi _)).setCell _ _ (Yi _)).setCell _ _ (Yi _)).mono (Y1 _),((HB.o.setCell Of _).setCell Of _).setCell Of _⟩;simp[results,results109,go_sem,e7,d6,e0]
theorem YS (s:ByteArray)(w:World)(hi:isIntB s=true)(hn:isNeg s=true) :
 Calls prog 109 #[.string s] w fun e w'=>∃ z,e=.returned z/\Nu w.heap.size w' z true (Oe (Et (s.extract 1 s.size).data.toList))/\Up w w':=by
 obtain⟨J,d2,d1⟩:=Re s hi;rw[Cu s hn] at J d2 d1;obtain⟨dl,Z⟩:=O1 ((s.extract 1 s.size).data.toList);have M:=Hd Z;have HZ:Hid (dl.length=(s.size - 1)):=by unfold Hid;rw[<-Z,<-Lib.size_eq];exact Ph s
 rw[Lib.size_eq,Z,HZ.o] at d2 d1;rw[Z] at J ⊢;have HG:=Hd J;have g4:0<s.size:=by omega
 have hm:((s[0].toNat:Int)==45)=true:=by have:=(Qf s hn).2;simp;omega
 obtain⟨i0,a8,c8,d0,b9⟩:=info_parts info_u32;obtain⟨W0,b3⟩:=O1 (w.alloc (.cells #[.int .i64 0,.bool false,.slice none 0 0] 123));have E:=Hd b3;have d4:W0.heap.size=w.heap.size+1:=by rw[<-b3];simp
 have G:=Hd d4;clear hi J d4 b3 hn Z
 go_enter func109,ntmps109
 go_wp2
 rw[E.o]
 go_loopw [4,5] (fun v e wr=>∃ k:Nat,9*k<=(s.size - 1)+8/\e=.int .i64 (((s.size - 1):Nat) - 9*k) /\
  wr.ownsRow (w.heap.size+1) 154 1 v k ((List.range k).map (fun i=>Value.int .u32 (chunk dl i:Nat)))/\Below (w.heap.size+1) W0 wr)
  (fun _ e _=>(intOf e).toNat)
 case atStart=>exact⟨0,by omega,Ob (by omega),Vr _ _ _ _,Jh _ _⟩
 case round=>
  obtain⟨k,hk,rfl,h,K⟩:=hrel
  by_cases g1:9*k<(s.size - 1)
  ·by_cases h9:9*k+9<=(s.size - 1)
   ·
    go_wp2_with fail
    go_loop [7,8] (fun t i=>∃ j:Nat,(s.size - 1) - 9*k - 9<=j/\j<=(s.size - 1) - 9*k/\i=.int .i64 j/\t=.int .u32 (Gf dl ((s.size - 1) - 9*k - 9) j:Nat)) (fun _ i=>(s.size - 1) - 9*k - (intOf i).toNat)
    case atStart=>exact⟨(s.size - 1) - 9*k - 9,Of,by omega,Ob (by omega),by rw[Qc];rfl⟩
    case round=>
     obtain⟨j,b4,e5,rfl,rfl⟩:=hrel
     by_cases e1:j<(s.size - 1) - 9*k
     ·have a7:j<(s.extract 1 s.size).size:=by rw[Lib.size_eq,M.o,HZ.o];omega
      have d9:j<(s.size - 1):=by omega
      have e8:=Py dl HG.o ((s.size - 1) - 9*k - 9) j (by omega);have e7:=Fw (s.extract 1 s.size) (by rw[M.o];exact HG.o) j a7;have HS:Hid (Gf dl ((s.size - 1) - 9*k - 9) (j+1)=Gf dl ((s.size - 1) - 9*k - 9) j*10+((s.extract 1 s.size)[j].toNat - 48)):=Xn (s.extract 1 s.size) dl M.o ((s.size - 1) - 9*k - 9) j b4 a7
      go_wp2
      go_round
      case rel=>exact⟨j+1,by omega,by omega,by go_num,by rw[HS.o];exact Ob (by omega)⟩
      case measure=>simp[intOf];omega
     ·have U:j=(s.size - 1) - 9*k:=by omega
      have V:Hid (Gf dl ((s.size - 1) - 9*k - 9) j=chunk dl k):=by
       unfold Hid
       rw[U];unfold Gf chunk;rw[HZ.o]
      have d8:=Gl dl k HG.o;rw[V.o];clear U V
      go_wp2_with (at_builtin;refine wpList_append_own _ rfl _ _ 121 rfl (w.heap.size+1) 154 i0 (.int .u32 0) 1 4 underlying121 a8 c8 d0 b9 rfl (by decide) _ _ _ rfl (h.alloc _) ⟨wr.heap.size,0,none⟩ 1 1 [.int .u32 (chunk dl k:Nat)] rfl rfl (cell_one_new _ _ _) ?nac2 ?nac3 ?nac4 ?nac5 ?_)
      case nac2=>first|rfl|(intro u hu;simp at hu;subst hu;rfl)
      case nac3=>unfold maxLen;omega
      case nac4=>omega
      case nac5=>have:=K.size;have:=G.o;simp;omega
      intro v' O I d _;have b6:Below (w.heap.size+1) W0 O:=(K.alloc (by have:=K.size;have:=G.o;omega) _).grown d (by have:=K.size;have:=G.o;simp;omega) (fun q hq=>(h.lt q hq).1);clear d h K
      go_wp2
      go_roundw
      case rel=>exact⟨k+1,by omega,Ob (by omega),by rw[Zc,Zd];exact I,b6⟩
      case measure=>simp[intOf];omega
   ·
    go_wp2_with fail
    go_loop [7,8] (fun t i=>∃ j:Nat,0<=j/\j<=(s.size - 1) - 9*k/\i=.int .i64 j/\t=.int .u32 (Gf dl (0) j:Nat)) (fun _ i=>(s.size - 1) - 9*k - (intOf i).toNat)
    case atStart=>exact⟨0,Of,by omega,Ob (by omega),by rw[Qc];rfl⟩
    case round=>
     obtain⟨j,b4,e5,rfl,rfl⟩:=hrel
     by_cases e1:j<(s.size - 1) - 9*k
     ·have a7:j<(s.extract 1 s.size).size:=by rw[Lib.size_eq,M.o,HZ.o];omega
      have d9:j<(s.size - 1):=by omega
      have e8:=Py dl HG.o (0) j (by omega);have e7:=Fw (s.extract 1 s.size) (by rw[M.o];exact HG.o) j a7;have HS:Hid (Gf dl (0) (j+1)=Gf dl (0) j*10+((s.extract 1 s.size)[j].toNat - 48)):=Xn (s.extract 1 s.size) dl M.o (0) j b4 a7
      go_wp2
      go_round
      case rel=>exact⟨j+1,by omega,by omega,by go_num,by rw[HS.o];exact Ob (by omega)⟩
      case measure=>simp[intOf];omega
     ·have U:j=(s.size - 1) - 9*k:=by omega
      have V:Hid (Gf dl (0) j=chunk dl k):=by
       unfold Hid
       rw[U];unfold Gf chunk;rw[HZ.o];rw[show (s.size - 1) - 9*k - 9=0 by omega]
      have d8:=Gl dl k HG.o;rw[V.o];clear U V
      go_wp2_with (at_builtin;refine wpList_append_own _ rfl _ _ 121 rfl (w.heap.size+1) 154 i0 (.int .u32 0) 1 4 underlying121 a8 c8 d0 b9 rfl (by decide) _ _ _ rfl (h.alloc _) ⟨wr.heap.size,0,none⟩ 1 1 [.int .u32 (chunk dl k:Nat)] rfl rfl (cell_one_new _ _ _) ?nbc2 ?nbc3 ?nbc4 ?nbc5 ?_)
      case nbc2=>first|rfl|(intro u hu;simp at hu;subst hu;rfl)
      case nbc3=>unfold maxLen;omega
      case nbc4=>omega
      case nbc5=>have:=K.size;have:=G.o;simp;omega
      intro v' O I d _;have b6:Below (w.heap.size+1) W0 O:=(K.alloc (by have:=K.size;have:=G.o;omega) _).grown d (by have:=K.size;have:=G.o;simp;omega) (fun q hq=>(h.lt q hq).1);clear d h K
      go_wp2
      go_roundw
      case rel=>exact⟨k+1,by omega,Ob (by omega),by rw[Zc,Zd];exact I,b6⟩
      case measure=>simp[intOf];omega
  ·have d3:k=Qh ((s.size - 1)):=by unfold Qh;omega
   have hL:U1 (w.heap.size+1) wr u4 (Et dl):=by
    unfold Et;rw[HZ.o,<-d3];refine Iq (e:=154) ?_ (fun x hx=>?_)
    ·simpa[Function.comp_def] using h
    ·rw[Zm] at hx;obtain⟨i,_,rfl⟩:=hx;exact Gl dl i HG.o
   have HL:=Hd hL;clear hL h d3
   go_wp2_with fail
   refine (Nc _ _ _ _ _ HL.o).mono ?_;rintro e O ⟨z,rfl,hcut,b7⟩;have hZ:=(hcut _ _ HL.o).below b7;have A:Below (w.heap.size+1) W0 O:=K.trans (b7.mono (by have:=K.size;have:=G.o;omega));have e6:O.cell? ⟨w.heap.size,0,none⟩=some (.int .i64 0):=by
    rw[A.cell (p:=⟨w.heap.size,0,none⟩) (Yi _),<-E.o,Jp _ _ _ _ rfl];rfl
   have d6:O.cell? ⟨w.heap.size,1,none⟩=some (.bool false):=by
    rw[A.cell (p:=⟨w.heap.size,1,none⟩) (Yi _),<-E.o,Jp _ _ _ _ rfl];rfl
   have e0:O.cell? ⟨w.heap.size,2,none⟩=some (.slice none 0 0):=by
    rw[A.cell (p:=⟨w.heap.size,2,none⟩) (Yi _),<-E.o,Jp _ _ _ _ rfl];rfl
   have g5:O.frozen? ⟨w.heap.size,0,none⟩=false:=by
    rw[A.frozen (p:=⟨w.heap.size,0,none⟩) (Yi _),<-E.o,J7 _ _ _ _ rfl]
   have g2:O.frozen? ⟨w.heap.size,1,none⟩=false:=by
    rw[A.frozen (p:=⟨w.heap.size,1,none⟩) (Yi _),<-E.o,J7 _ _ _ _ rfl]
   have f9:O.frozen? ⟨w.heap.size,2,none⟩=false:=by
    rw[A.frozen (p:=⟨w.heap.size,2,none⟩) (Yi _),<-E.o,J7 _ _ _ _ rfl]
   have Y:Up w O:=by
    have h0:=Oy w (.cells #[.int .i64 0,.bool false,.slice none 0 0] 123);rw[E.o] at h0;exact h0.trans (A.mono (Y1 _))
   have HB:=Hd Y;have e2:=Hd hZ;obtain⟨z0,zn,za,zl,zc,e4⟩:=hZ.shape;subst e4;clear hcut b7 A K Y hZ
   go_wp2
   refine Jj ?_ rfl ⟨_,rfl,(((e2.o.setCell _ _ (Yi _)).setCell _ _ (Yi _)).setCell _ _ (Yi _)).mono (Y1 _),((HB.o.setCell Of _).setCell Of _).setCell Of _⟩;simp[results,results109,go_sem,e6,d6,e0]
theorem Iz (s:ByteArray)(w:World)(hi:isIntB s=true) :
 Calls prog 109 #[.string s] w fun e w'=>∃ z,e=.returned z/\Nu w.heap.size w' z (isNeg s) (Oe (Et (dgs s).data.toList))/\Up w w':=by
 cases hn:isNeg s
 ·rw[Cv s hn];exact ZR s w hi hn
 rw[Cu s hn];exact YS s w hi hn
end Go.Proofs.YtipgjenolpofpaaGreatDoor.Q
