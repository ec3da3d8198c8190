import Derived.Test.YtfkagjelljnpdaaGreatDoorP35
import Derived.Test.YtfkagjelljnpdaaGreatDoorP25
import Derived.Test.YtfkagjelljnpdaaGreatDoorP34
set_option linter.all false
namespace Go.Proofs.YtfkagjelljnpdaaGreatDoor
open ChangeShapes WideShapes ChangeAt RowKit
variable {F:List Fn}{H:List Nat}{S:List (List UInt8)}{T:List Tm}{eb hb mb sb ub:Nat}{op:Int}{vt:Value}{w:World}
theorem Mo(h:Ek S Ep F T=true):Ww T:=by
 unfold Ek at h;rw[Jw]at h;have E:∀i j,i<j->j<T.length->tmAt T (i:Nat)=tmAt T (j:Nat)->False:=fun i j hij hj e=>by
  have q:=Jx.1 h.2 j (Yg.2 hj);rw[Jg hj]at q;rw[Jw,J1]at q;have O:tmAt T (i:Nat)=T[i]:=by unfold tmAt;rw[Y7,Jg (by omega)];rfl
  have R:tmAt T (j:Nat)=T[j]:=by unfold tmAt;rw[Y7,Jg hj];rfl
  rw[O,R]at e;have G:=q.2;unfold Ed at G
  cases K:(T.take j).findIdx? (fun u=>Nl u T[j])with
  | some k=>rw[K]at G;simp at G;omega
  | none=>
    have J:=Zl.1 K T[i] (by
     have:i<(T.take j).length:=by rw[J7];omega
     have V:(T.take j)[i]=T[i]:=Z9;rw[<-V];exact Jj this)
    rw[e,Ut.2 rfl]at J;cases J
 intro i j Y hj e
 rcases Nat.lt_trichotomy i j with q|q|q
 ·exact(E i j q hj e).elim
 ·exact q
 exact(E j i q Y e.symm).elim
theorem XA(h:Ek S Ep F T=true)(ho:op=1∨op=2){i j:Nat}(hi:i<T.length)(hj:j<T.length)(e1:(tmAt T (i:Nat)).op=op)(e2:(tmAt T (j:Nat)).op=op):i=j:=by
 obtain⟨-,O⟩:=Sm h;have q:∀i,i<T.length->(tmAt T (i:Nat)).op=op->tmAt T (i:Nat)=⟨op,Ok,[],0,0,[]⟩:=fun i hi e=>by
  have E:=O i hi;unfold Us at E;simp only[Jw]at E;have J:=E.1.1;unfold Ul at J;simp only[Jw,J1]at J;obtain⟨⟨⟨⟨-,R⟩,V⟩,Y⟩,h6⟩:=J;have K:=E.2;unfold E4 at K;rw[if_pos (by rw[e];exact ho),J1]at K;have Z:(tmAt T (i:Nat)).kids=[]:=by
   refine Jt ?_;have G:=R.2;rw[e]at G;unfold Xl at G
   rcases ho with rfl|rfl<;>simp at G<;>simp[G]
  refine VP e K ?_ ?_ ?_ Z
  ·rcases V with h|h|h|h
   ·exact h
   all_goals (rw[e]at h;omega)
  ·rcases Y with h|h|h|h
   ·exact h
   all_goals (rw[e]at h;omega)
  rcases h6 with h|h
  ·exact h
  all_goals (rw[e]at h;omega)
 exact Mo h i j hi hj ((q i hi e1).trans (q j hj e2).symm)
theorem Wr(T:List Tm)(op:Int):∀k,(Lm T op k = -1/\∀i,i<k->(tmAt T (i:Nat)).op≠op)∨∃i:Nat,i<k/\Lm T op k=(i:Int)/\(tmAt T (i:Nat)).op=op
 | 0=>.inl ⟨rfl,fun i hi=>absurd hi (Jz _)⟩
 | k+1=>by
   unfold Lm
   split
   ·rename_i e;exact .inr ⟨k,by omega,rfl,e⟩
   rename_i e
   rcases Wr T op k with⟨j,h⟩|⟨i,j,h,q⟩
   ·exact .inl ⟨j,fun i hi=>by
     by_cases g:i=k
     ·subst g;exact e
     exact h i (by omega)⟩
   exact .inr ⟨i,by omega,h,q⟩
theorem XD{i:Nat}(hi:i<T.length)(e:(tmAt T (i:Nat)).op=op)(hu:∀j,j<T.length->(tmAt T (j:Nat)).op=op->j=i):Kf T op=(i:Int):=by
 have at':∀j (h:j<T.length),T[j]=tmAt T (j:Nat):=fun j h=>by unfold tmAt;rw[Y7,Jg h];rfl
 unfold Kf L7
 cases E:T.findIdx? (fun t=>decide (t.op=op))with
 | none=>
   have:=Zl.1 E T[i] (Jj hi);rw[at' i hi]at this;simp[e]at this
 | some j=>
   obtain⟨G,q,_⟩:=J9.1 E;rw[J1,at' j G]at q;rw[hu j G q]
theorem Wq(h:Ek S Ep F T=true)(ho:op=1∨op=2):Lm T op T.length=Kf T op:=by
 rcases Wr T op T.length with⟨q,E⟩|⟨i,q,E,J⟩
 ·rw[q];unfold Kf L7
  cases K:T.findIdx? (fun t=>decide (t.op=op))with
  | none=>rfl
  | some j=>
    obtain⟨hj,G,_⟩:=J9.1 K;rw[J1]at G;have at':T[j]=tmAt T (j:Nat):=by unfold tmAt;rw[Y7,Jg hj];rfl
    rw[at']at G;exact absurd G (E j hj)
 rw[E,XD q J (fun j hj e=>XA h ho hj q e J)]
def BZ(T:List Tm)(vt:Value)(hb ub mb sb:Nat):St:={ vt:=vt,t0:=Lm T 2 T.length,t1:=Lm T 1 T.length,vH:=.slice (some ⟨hb,0,none⟩) T.length T.length,vU:=.slice (some ⟨ub,0,none⟩) T.length T.length,vM:=.slice (some ⟨mb,0,none⟩) T.length T.length,vI:=.slice none 0 0,gv:=0,sb:=sb,vS:=.slice none 0 0,cl:=false,vC:=.slice none 0 0,vN:=.slice none 0 0,nI:=0,xI:=[],nS:=0,sg:=fun _=>none,aS:=[],nC:=0,xC:=[],nN:=0,xN:=[] }
def VS(T:List Tm)(vt:Value)(hb ub mb sb:Nat)(ms:List Me)(A2:Array Value):Sx:={ s:=BZ T vt hb ub mb sb,ms:=ms,vu:=A2.toList,U:=fun _=>[],I:=fun i=>[i],P:=fun _=>[] }
theorem NL.hp{wr:World}{A2:Array Value}{gm:Nat}{L:List Nat}{ms:List Me}{Hs:List Tm}(h:NL w T.length vt T A2 eb hb ub mb sb gm T.length wr L ms Hs)(hA:A2=madeCells (Value.slice none 0 0).cells T.length)(hT:TermsAt w vt T)(hn:T.length<=3000)(hk:TmK T):Hp wr w.heap.size eb mb hb ub T L (VS T vt hb ub mb sb ms A2):=by
 have K:A2.toList=List.replicate T.length (.slice none 0 0):=by rw[hA,show(Value.slice none 0 0).cells=#[Value.slice none 0 0]from rfl,toList_madeCells_one]
 have R:∀k,valA A2.toList k=.slice none 0 0:=fun k=>by
  unfold valA;rw[K]
  by_cases e:k<T.length
  ·simp[List.getD,e]
  simp[List.getD,e]
 have J:∀i,(meA ms i).ap=.slice none 0 0:=fun i=>by
  by_cases e:i<T.length
  ·exact(h.me i e).2.2.1
  unfold meA;rw[J6,Zw (by have:=h.ml;omega)];rfl
 have O:∀i,T.length<=i->(meA ms i).ids=.slice none 0 0:=fun i hi=>by
  unfold meA;rw[J6,Zw (by have:=h.ml;omega)];rfl
 have G:∀y g,obs hb A2.toList ms y=some g->(y=(0,0)/\g=hb)∨∃i,i<T.length/\y=(2,i)/\(meA ms i).ids=.slice (some ⟨g,0,none⟩) 1 1/\g<wr.heap.size:=fun y g hy=>by
  obtain⟨a,b⟩:=y;unfold obs at hy;simp only at hy
  split at hy
  ·rename_i e
   split at hy
   ·rename_i e2;cases hy;exact .inl ⟨by rw[e,e2],rfl⟩
   cases hy
  split at hy
  ·rw[R]at hy;cases hy
  split at hy
  ·rename_i e
   by_cases e2:b<T.length
   ·obtain⟨_,_,_,g',q,_,E⟩:=h.me b e2;rw[q]at hy;have Z:g'=g:=Option.some.inj hy;subst Z;exact .inr ⟨b,e2,by rw[e],q,E.bx.lt⟩
   rw[O b (by omega)]at hy;cases hy
  split at hy
  ·rw[J]at hy;cases hy
  cases hy
 have Y:=h.ge;refine⟨⟨h.box,Y.1,K5 _ _ _ _,?_,Y.2.2.2.2.1,K5 _ _ _ _,K5 _ _ _ _,K5 _ _ _ _⟩,⟨⟨w,leR,hT,h.low⟩,rfl,h.hd,h.hl,fun i hi=>?_,rfl,h.mem,h.ml,h.low.size,hn,hk⟩,Y.2.2.2.1,rfl,?_,Y.2.2.1,by rw[show(VS T vt hb ub mb sb ms A2).vu=A2.toList from rfl,K];simp,fun k hk'=>?_,fun i hi=>?_,fun i hi=>?_,fun y z g hy hz=>?_,fun y g hy=>?_⟩
 ·exact Ue.new h.sg
 ·have h1:=h.hx i hi;unfold Kd at h1;have h2:=(J9.1 h1).1;have:=h.hh;omega
 ·show wr.heap[ub]? = _
  rw[h.us];simp[VS]
 ·show H3 wr _ (valA A2.toList k) []
  rw[R];exact K5 _ _ _ _
 ·show H3 wr _ (meA ms i).ids [i]
  obtain⟨_,_,_,g,q,E,Z⟩:=h.me i hi;rw[q];exact⟨rfl,.inr ⟨g,1,#[.int .i64 (i:Nat)],rfl,E,Z,leR,by unfold maxLen;omega,rfl,rfl⟩⟩
 ·show Bk wr _ mb (meA ms i).ap []
  rw[J];exact K5 _ _ _ _
 ·rcases G y g hy with⟨V,e2⟩|⟨i,hi,V,e2,_⟩
  ·rcases G z g hz with⟨q,_⟩|⟨j,hj,q,E,_⟩
   ·rw[V,q]
   exact absurd (show(meA ms j).ids.ownBlock=some hb by rw[E,<-e2];rfl) (h.nhb j hj)
  rcases G z g hz with⟨_,E⟩|⟨j,hj,q,E,_⟩
  ·exact absurd (show(meA ms i).ids.ownBlock=some hb by rw[e2,<-E];rfl) (h.nhb i hi)
  rw[V,q,h.inj i j hi hj (e2.trans E.symm)]
 rcases G y g hy with⟨_,e2⟩|⟨i,hi,V,e2,q⟩
 ·rw[e2];exact h.hd.bx.lt
 exact q
theorem NL.hdOk{wr:World}{A2:Array Value}{gm:Nat}{L:List Nat}{ms:List Me}{Hs:List Tm}(h:NL w T.length vt T A2 eb hb ub mb sb gm T.length wr L ms Hs)(hn:T.length<=3000):HdOk T L:=by
 have lt:∀i,i<T.length->labA L i<Hs.length:=fun i hi=>by
  have q:=h.hx i hi;unfold Kd at q;exact(J9.1 q).1
 refine⟨h.hl,fun i hi=>by have:=lt i hi;have:=h.hh;omega,fun i j hi hj=>⟨fun e=>?_,fun e=>?_⟩⟩
 ·have q:=h.hx i hi;have E:=h.hx j hj;unfold Kd at q E;obtain⟨K,a2,_⟩:=J9.1 q;obtain⟨O,G,_⟩:=J9.1 E;have c1:=Ut.1 a2;have c2:=Ut.1 G;have c3:R3 (tmAt T (i:Nat))=R3 (tmAt T (j:Nat)):=by
   rw[<-c1,<-c2]
   congr 1
  unfold R3 at c3;simp only[Tm.mk.injEq,and_true]at c3;exact c3
 have J:R3 (tmAt T (i:Nat))=R3 (tmAt T (j:Nat)):=by unfold R3;rw[e.1,e.2.1,e.2.2.1,e.2.2.2.1,e.2.2.2.2]
 have q:=h.hx i hi;rw[J,h.hx j hj]at q;exact(Option.some.inj q).symm
structure EnS(T:List Tm)(H:List Nat)(x0 x:Sx)(k:Nat):Prop where
 em:x.ms=x0.ms
 eI:x.I=x0.I
 eP:x.P=x0.P
 sgE:∀key u,x.s.sg key=some u->u<k/\U5 (tmAt T (u:Nat)).op=false/\key=Gx T H (List.range T.length) u
 sgI:∀t,t<k->U5 (tmAt T (t:Nat)).op=false->x.s.sg (Gx T H (List.range T.length) t)=some t
 use:∀t,t<k->U5 (tmAt T (t:Nat)).op=false->∀i,i<(tmAt T (t:Nat)).kids.length->t∈x.U (O9 (tmAt T (t:Nat)) i)
 uno:∀j,∀t∈x.U j,t<k/\U5 (tmAt T (t:Nat)).op=false
 ulen:∀j,(x.U j).length<=50*k
 nI:x.s.nI=0
 gv:x.s.gv=0
 nS:x.s.nS<=k
 nN:x.s.nN<=k
 nC:x.s.nC=0
 t0:x.s.t0=x0.s.t0
 t1:x.s.t1=x0.s.t1
theorem EnS.zero{ms:List Me}{A2:Array Value}:EnS T H (VS T vt hb ub mb sb ms A2) (VS T vt hb ub mb sb ms A2) 0:=
 ⟨rfl,rfl,rfl,fun _ _ h=>(by cases h),fun _ h=>absurd h (Jz _),fun _ h=>absurd h (Jz _),fun _ _ h=>absurd h Yi,fun _=>Jp _,rfl,rfl,leR,leR,rfl,rfl,rfl⟩
theorem Mj(hH:HdOk T H)(hT:TmK T)(hU:Ww T)(hn:T.length<=3000){t u:Nat}(ht:t<T.length)(hu:u<T.length)(e:Gx T H (List.range T.length) t=Gx T H (List.range T.length) u):t=u:=by
 have G:ROk T.length (List.range T.length):=⟨by simp,fun i hi=>by rw[Ua hi];exact hi,fun i hi=>by rw[Ua hi,Ua hi]⟩;have q:=Db (Ff G hH hT hn ht leR) (Ff G hH hT hn hu leR) e;unfold sigL at q;rw[List.cons.injEq]at q;obtain⟨J,E⟩:=q;have j:=(hH.same t u ht hu).1 J;have hl:(tmAt T (t:Nat)).kids.length=(tmAt T (u:Nat)).kids.length:=by simpa using congrArg List.length E
 refine hU t u ht hu (VP j.1 j.2.1 j.2.2.1 j.2.2.2.1 j.2.2.2.2 (Vi hl fun i h1 h2=>?_));have h:=congrArg (fun l=>labA l i) E;rw[O1 (by simpa using h1),O1 (by simpa using h2)]at h;simp only[Yh,List.getElem_range]at h;rw[Ua (Kr hT ht h1),Ua (Kr hT hu h2)]at h;have K:=(hT.kids t ht _ (Jj h1)).1;have O:=(hT.kids u hu _ (Jj h2)).1;unfold O9 at h;rw[J6,J6,Jg h1,Jg h2]at h;simp only[Option.getD_some]at h;omega
theorem EnS.next{B:Nat}{x0 x:Sx}{k:Nat}{w':World}(h:EnS T H x0 x k)(hH:HdOk T H)(hT:TmK T)(hU:Ww T)(hn:T.length<=3000)(hk:k<T.length)(hE:PQ B eb mb hb ub T H (List.range T.length) x [] k w w'):∃x',Hp w' B eb mb hb ub T H x'/\It mb x'.s []/\EnS T H x0 x' (k+1)/\Ch B NoX (some 31::Ug) w w':=by
 obtain⟨q,b1,R,W',c,kk,Y,G,h3,J,⟨g1,g2,g3,g4,V,g6,g7⟩,h5,h6⟩:=hE;have E:∀j,∀t∈R j,t∈x.U j∨t=k:=G.only
 rcases h5 with⟨lg,rfl,rfl,rfl⟩|⟨lg,rfl,st⟩
 ·refine⟨_,Y,J,⟨h.em,h.eI,h.eP,fun key u e=>?_,fun t ht hl=>?_,fun t ht hl=>?_,fun j t ht=>?_,fun j=>?_,h.nI,h.gv,?_,?_,h.nC,h.t0,h.t1⟩,h6⟩
  ·have:=h.sgE key u e;exact⟨by omega,this.2⟩
  ·by_cases e:t=k
   ·subst e;rw[lg]at hl;cases hl
   exact h.sgI t (by omega) hl
  ·by_cases e:t=k
   ·subst e;rw[lg]at hl;cases hl
   exact h.use t (by omega) hl
  ·have:=h.uno j t ht;exact⟨by omega,this.2⟩
  ·have:=h.ulen j;show(x.U j).length<=_;omega
  ·have:=h.nS;show x.s.nS<=_;omega
  have:=h.nN;show x.s.nN<=_;omega
 have O:x.s.sg (Gx T H (List.range T.length) k)=none/\q.sg=(fun key=>if key=Gx T H (List.range T.length) k then some k else x.s.sg key)/\W'=[]:=by
  rcases st with⟨u,e,_,_⟩|st
  ·obtain⟨a1,a2,a3⟩:=h.sgE _ u e;have:=Mj hH hT hU hn hk (by omega) a3;omega
  exact st
 obtain⟨z1,z2,rfl⟩:=O;have K:q.nI=0:=by
  obtain⟨pre,y1,y2,y3⟩:=J;have:=h.gv;rw[y2,Vo,<-y3,V,this]
 refine⟨_,Y,J,⟨h.em,h.eI,h.eP,fun key u e=>?_,fun t ht hl=>?_,fun t ht hl=>?_,fun j t ht=>?_,fun j=>?_,K,V.trans h.gv,?_,?_,?_,?_,?_⟩,h6⟩
 ·replace e:q.sg key=some u:=e
  rw[z2]at e;simp only at e
  split at e
  ·rename_i ek;cases e;exact⟨by omega,lg,ek⟩
  have:=h.sgE key u e;exact⟨by omega,this.2⟩
 ·show q.sg _=_
  rw[z2];simp only
  by_cases e:t=k
  ·subst e;rw[if_pos rfl]
  rw[if_neg (fun e2=>e (Mj hH hT hU hn (by omega) hk e2))];exact h.sgI t (by omega) hl
 ·intro i Z
  by_cases e:t=k
  ·subst e;exact G.got i Z
  exact G.mono _ _ (h.use t (by omega) hl i Z)
 ·rcases E j t ht with ht|rfl
  ·have:=h.uno j t ht;exact⟨by omega,this.2⟩
  exact⟨by omega,lg⟩
 ·have:=h.ulen j;have:=G.len j;show(R j).length<=_;omega
 ·have:=h.nS;show q.nS<=_;omega
 ·have:=h.nN;show q.nN<=_;omega
 ·have:=h.nC;show q.nC=_;omega
 ·exact g6.trans h.t0
 exact g7.trans h.t1
end Go.Proofs.YtfkagjelljnpdaaGreatDoor
namespace Go.Proofs.YtfkagjelljnpdaaGreatDoor
open ChangeShapes WideShapes ChangeAt RowKit Proofs.Tryz
variable {H:List Nat}{T:List Tm}{hb mb ub:Nat}
def FC:Nat:=1350000003000
theorem EnS.lg{ms:List Me}{vt:Value}{sb:Nat}{A2:Array Value}{x:Sx}{Bq:Nat->Nat->Prop}(h:EnS T H (VS T vt hb ub mb sb ms A2) x T.length)(hl:ms.length=T.length)(hm:∀i,i<T.length->(meA ms i).up=none/\(meA ms i).least=i)(hH:HdOk T H)(hT:TmK T)(hU:Ww T)(hn:T.length<=3000) :
 Stat T H x.U/\Lg T H Bq x (List.range T.length) (fun _=>0) [] (fun _ _=>False) 0/\Cn T.length x (List.range T.length) FC 6000:=by
 have em:x.ms=ms:=h.em;have C:=Ky.cong T (madeL T T.length) Bq;have hr:=RY T.length (List.range T.length);refine⟨⟨hH,hT,hU,hn,h.use,fun k _ t ht=>?_,fun k _=>?_⟩,⟨⟨by rw[em,hl];simp,fun i hi=>?_⟩,fun r hr _=>?_,fun r hr _=>?_,⟨fun i j hi hj e=>?_,fun p hp=>absurd hp Yi,fun key u e=>?_⟩,fun t ht hlg=>⟨t,h.sgI t ht hlg,Rj.refl _ _ _ _⟩,fun a b hab=>hab.elim,fun i hi _=>?_⟩,⟨?_,?_,?_,?_⟩⟩
 ·exact h.uno k t ht
 ·have:=h.ulen k;omega
 ·rw[em,hl]at hi;have e:=(hm i hi).1;have J:x.ms[i]'(by rw[em,hl];exact hi)=meA ms i:=by rw[<-E7 (by rw[em,hl];exact hi),em]
  rw[<-J]at e;exact .inl ⟨e,Ua hi⟩
 ·have e:x.I r=[r]:=by rw[h.eI];rfl
  rw[e];refine⟨fun y=>?_,by simp⟩;rw[J5];constructor
  ·rintro rfl;exact⟨hr,Ua hr⟩
  rintro⟨O,G⟩;rw[Ua O]at G;exact G
 ·show(meA x.ms r).least<_/\labA _ (meA x.ms r).least=r/\∀y,y<_->labA _ y=r->(meA x.ms r).least<=y
  rw[em,(hm r hr).2];refine⟨hr,Ua hr,fun y hy e=>?_⟩;rw[Ua hy]at e;omega
 ·rw[Ua hi,Ua hj]at e;rw[e];exact C.1 _
 ·obtain⟨E,a2,a3⟩:=h.sgE key u e;refine⟨E,a2,(List.range (tmAt T (u:Nat)).kids.length).map (fun i=>labA (List.range T.length) (O9 (tmAt T (u:Nat)) i)),a3,by simp,fun i hi=>?_⟩;have q:i<(tmAt T (u:Nat)).kids.length:=by simpa using hi
  have K:labA ((List.range (tmAt T (u:Nat)).kids.length).map (fun i=>labA (List.range T.length) (O9 (tmAt T (u:Nat)) i))) i=O9 (tmAt T (u:Nat)) i:=by rw[O1 hi];simp[Ua (Kr hT E q)]
  rw[K];exact⟨Kr hT E q,C.1 _⟩
 ·have e:x.P i=[]:=by rw[h.eP];rfl
  rw[e];exact⟨Jp _,fun y hy=>absurd hy Yi⟩
 ·have:=h.nI;unfold FC;omega
 ·have:=h.nS;unfold FC;omega
 ·have:=h.nN;unfold FC;omega
 have:=h.nC;omega
structure AdS(B eb mb hb ub:Nat)(T:List Tm)(H:List Nat)(Fs:List (Int×Bool))(x0:Sx)(j:Nat)(x:Sx)(R:List Nat)(D:Nat->Nat)(wr:World):Prop where
 hp:Hp wr B eb mb hb ub T H x
 lg:Lg T H (G5 T Fs) x R D [] (Ny T Fs j) (2*j)
 it:It mb x.s []
 cn:Cn T.length x R FC (6000+3*j)
 nI:x.s.nI=0
 eU:x.U=x0.U
 t0:x.s.t0=x0.s.t0
 t1:x.s.t1=x0.s.t1
theorem AdS.add{B eb:Nat}{Fs:List (Int×Bool)}{x0:Sx}{j:Nat}{x:Sx}{R:List Nat}{D:Nat->Nat}{w:World}(h:AdS B eb mb hb ub T H Fs x0 j x R D w)(hS:Stat T H x0.U)(hE:LE T)(h0:x0.s.t0=Kf T 2)(h1:x0.s.t1=Kf T 1)(hF:Nn T Fs)(hj:j<Fs.length) :
 Calls prog 13 #[.pointer (some ⟨eb,0,none⟩),.agg #[.int .i64 Fs[j].1,.bool Fs[j].2]] w fun e w'=>e=.returned (.tuple #[])/\(∃x' R' D',AdS B eb mb hb ub T H Fs x0 (j+1) x' R' D' w')/\Ch B NoX Ug w w':=by
 obtain⟨V,O,-⟩:=hF.2 _ (Jj hj);have hl:=hF.1;obtain⟨t,E⟩:∃t:Nat,Fs[j].1=(t:Int):=⟨Fs[j].1.toNat,by omega⟩;have q:Fs[j]=((t:Int),Fs[j].2):=by rw[<-E]
 rw[E]at O ⊢;have Z:=RY T.length R;have hn:=hS.n3;have Y:FC=1350000003000:=rfl;refine(PR (Bq:=G5 T Fs) t Fs[j].2 h.hp (by rw[h.eU];exact hS) hE h.lg h.it h.cn (by have:=h.nI;omega) (by omega) (by omega) (by omega) (by omega) (h.t0.trans h0) (h.t1.trans h1) (fun a b hab=>⟨_,Jj hj,by rw[q];exact hab⟩)).mono ?_;rintro e w' ⟨rfl,x',R',D',G,a2,a3,a4,a5,a6,J,K,a9⟩;refine⟨rfl,⟨x',R',D',G,a2.imp (fun u v huv=>?_),a3,a4,a5,a6.trans h.eU,J.trans h.t0,K.trans h.t1⟩,a9⟩;have:=Ny.one hj huv;rw[q]at this;exact this
theorem XR{Fs:List (Int×Bool)}(hT:TmK T)(hE:LE T)(hF:Nn T Fs)(hv:∀op,0<=Kf T op->(Kf T op).toNat<T.length){a b:Nat}(h:G5 T Fs a b):a<T.length/\b<T.length:=by
 obtain⟨f,G,hp⟩:=h;obtain⟨J,K,-⟩:=hF.2 f G
 rcases hp with⟨_,E,rfl,rfl⟩|⟨_,h,rfl,rfl⟩|⟨_,h,rfl,rfl⟩
 ·have e:((f.1.toNat:Nat):Int)=f.1:=by omega
  have O:=hE f.1.toNat (by omega) (by rw[e];exact E);have j:=Kr hT (x:=f.1.toNat) (i:=0) (by omega) (by omega);have q:=Kr hT (x:=f.1.toNat) (i:=1) (by omega) (by omega);rw[e]at j q;exact⟨j,q⟩
 ·exact⟨by omega,hv _ h⟩
 exact⟨by omega,hv _ h⟩
theorem AdS.least{B eb:Nat}{Fs:List (Int×Bool)}{x0:Sx}{x:Sx}{R:List Nat}{D:Nat->Nat}{w:World}(h:AdS B eb mb hb ub T H Fs x0 Fs.length x R D w)(hS:Stat T H x0.U)(hE:LE T)(hF:Nn T Fs):Eg T (madeL T T.length) (G5 T Fs) ((List.range T.length).map (fun i=>(meA x.ms (labA R i)).least)):=by
 have q:=h.lg.fo.rok;rw[h.hp.sta.ml]at q;refine YS h.lg.snd q hS.hd hS.tk h.lg.lek (fun t ht=>?_) (fun i j hb=>?_) (by simp) (fun i hi=>?_)
 ·refine h.lg.sig t (Xf ht) ?_;have:=(List.mem_filter.1 ht).2;unfold Ri at this;rw[Jw]at this
  simpa using this.2
 ·obtain⟨E,G⟩:=XR hS.tk hE hF (fun _ h=>by obtain⟨y,e,J⟩:=Xx h;omega) hb;exact⟨E,G,h.lg.fct i j (Ny.all hb)⟩
 rw[O1 (by simpa using hi)];simp
end Go.Proofs.YtfkagjelljnpdaaGreatDoor
namespace Go.Proofs.YtfkagjelljnpdaaGreatDoor
open ChangeShapes WideShapes ChangeAt RowKit
def UX(X:List Value)(k:Nat):List Value:=X.take k++List.replicate (X.length - k) (.int .i64 0)
theorem QE{X:List Value}{k:Nat}(h:k<X.length):(UX X k).set k X[k]=UX X (k+1):=by
 unfold UX;rw[Z5 _ _ (by simp;omega),Vb,Jg h];have e:k - (X.take k).length=0:=by simp;omega
 rw[e];obtain⟨m,hm⟩:∃m,X.length - k=m+1:=⟨X.length - k - 1,by omega⟩;rw[hm,show X.length - (k+1)=m by omega,Vv];simp only[Je,Option.toList_some,Ys,List.singleton_append]
theorem DF(X:List Value):UX X X.length=X:=by simp[UX]
end Go.Proofs.YtfkagjelljnpdaaGreatDoor
