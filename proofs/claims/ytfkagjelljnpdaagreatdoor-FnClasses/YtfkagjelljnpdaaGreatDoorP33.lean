import Derived.Test.YtfkagjelljnpdaaGreatDoorP31
set_option linter.all false
namespace Go.Proofs.YtfkagjelljnpdaaGreatDoor
open ChangeShapes WideShapes ChangeAt RowKit Proofs.Tryz
variable {B mb:Nat}{H R:List Nat}{T:List Tm}{w:World}
theorem Gm.kid{v:Value}(h:Gm w B v T){t bt ct ck nk:Nat}{pk:Option Addr}(ht:t<T.length)(e:v=.slice (some ⟨bt,0,none⟩) T.length ct)(k5:w.cell? ⟨bt,t*6+5,none⟩=some (.slice pk nk ck))(hT:TmK T):nk=(tmAt T (t:Nat)).kids.length/\∀i,i<nk->∃bk,pk=some ⟨bk,0,none⟩/\bk<B/\w.cell? ⟨bk,i,none⟩=some (.int .i64 ((O9 (tmAt T (t:Nat)) i:Nat):Int))/\O9 (tmAt T (t:Nat)) i<T.length:=by
 obtain⟨w0,g0,R,E⟩:=h;obtain⟨J,O,Z,K,j,hb2,_,_,_,_,_,V,Y⟩:=Uo R ht;rw[e]at j;simp only[Value.slice.injEq,Option.some.injEq,Addr.mk.injEq,and_true,true_and]at j;obtain⟨rfl,rfl⟩:=j;have q:=(E.cell (p:=⟨bt,t*6+5,none⟩) hb2).trans V;rw[k5]at q;simp only[Option.some.injEq,Value.slice.injEq]at q;obtain⟨rfl,rfl,rfl⟩:=q;refine⟨rfl,fun i hi=>?_⟩;obtain⟨bk,G,a2,a3,a4⟩:=Hl Y (hT.kids t ht) hi;exact⟨bk,G,by omega,(E.cell (p:=⟨bk,i,none⟩) a2).trans a3,a4⟩
def Sx.put(x:Sx)(v:Value)(mb i j:Nat):Sx:={ x with s:=x.s.putI v mb i j }
theorem L6{eb hb ub:Nat}{x:Sx}{W:List (Nat×Nat)}(h:Hp w B eb mb hb ub T H x)(hI:It mb x.s W)(i j:Nat)(hi:i<T.length)(hj:j<T.length)(hn:x.s.nI<=5000000000000) :
 Calls prog 32 #[.pointer (some ⟨eb,0,none⟩),.int .i64 (i:Nat),.int .i64 (j:Nat)] w fun e w'=>e=.returned (.tuple #[])/\∃v',Hp w' B eb mb hb ub T H (x.put v' mb i j)/\It mb (x.put v' mb i j).s (W++[(i,j)])/\Ch B NoX [some 59,some 84] w w':=by
 refine(Dw (B:=B) (mb:=mb) (m:=T.length) (cM:=T.length) i j w h.dyn.box (by show some x.s.vM=_;rw[h.sta.vM]) (rfl:x.s.bx[6]? = some x.s.vI) h.dyn.itm h.dyn.low hn hi hj).mono ?_;rintro e w' ⟨rfl,v',E,G,q,J⟩;exact⟨rfl,v',h.ch q ⟨G,h.dyn.low,E,h.dyn.map.ch q (by decide),h.dyn.mlo,own_ch h.dyn.sig q (by decide),own_ch h.dyn.chg q (by decide),own_ch h.dyn.ent q (by decide)⟩ ⟨rfl,rfl,rfl,rfl⟩ (by decide) (by decide) (by decide) (by decide),hI.put rfl rfl rfl,q⟩
theorem QO{pre W:List (Nat×Nat)}{p:Nat×Nat}:(FD mb (pre++p::W))[pre.length*2]? = some (mp mb p.1)/\(FD mb (pre++p::W))[pre.length*2+1]? = some (mp mb p.2):=by
 induction pre with
 | nil=>exact⟨rfl,rfl⟩
 | cons q r ih=>
   have e:FD mb ((q::r)++p::W)=mp mb q.1::mp mb q.2::FD mb (r++p::W):=rfl;have h:(q::r).length*2=r.length*2+1+1:=by simp only[Yo];omega
   rw[e,h];exact ih
def Sx.took(x:Sx):Sx:={ x with s:={ x.s with gv:=x.s.gv+1 } }
def IM(B eb mb hb ub:Nat)(T:List Tm)(H:List Nat)(x:Sx)(W:List (Nat×Nat))(w:World)(e:Ending)(w':World):Prop:=
 (W=[]/\e=.returned (.tuple #[.agg #[.pointer none,.pointer none],.bool false])/\∃s',Hp w' B eb mb hb ub T H { x with s:=s' }/\It mb s' []/\s'.nI=0/\s'.sg=x.s.sg/\s'.nS=x.s.nS/\s'.nN=x.s.nN/\s'.nC=x.s.nC/\s'.t0=x.s.t0/\s'.t1=x.s.t1/\s'.vI.ownBlock=x.s.vI.ownBlock/\Ch B NoX [some 59] w w')∨(∃p W',W=p::W'/\e=.returned (.tuple #[.agg #[mp mb p.1,mp mb p.2],.bool true])/\Hp w' B eb mb hb ub T H x.took/\It mb x.took.s W'/\Ch B NoX [some 59] w w')
theorem US{eb hb ub:Nat}{x:Sx}{W:List (Nat×Nat)}(h:Hp w B eb mb hb ub T H x)(hI:It mb x.s W)(hn:x.s.nI<=5000000000000) :
 Calls prog 34 #[.pointer (some ⟨eb,6,none⟩)] w (IM B eb mb hb ub T H x W w):=by
 obtain⟨pre,G,K,J⟩:=hI;obtain⟨O,cI,eI⟩:∃p c,x.s.vI=.slice p x.s.nI c:=by
  rcases Kx h.dyn.itm with⟨e,_⟩|⟨g,c,e⟩
  ·exact⟨_,_,e⟩
  exact⟨_,_,e⟩
 have E:=h.dyn.itm;rw[eI]at E;have hl:(pre++W).length=pre.length+W.length:=Jq;refine(RF (gv:=x.s.gv) w h.dyn.box (by show some x.s.vI=_;rw[eI]) (rfl:x.s.bx[7]? = some (.int .i64 (x.s.gv:Nat))) E h.dyn.low (by omega) hn (fun a b ha hb=>?_)).mono ?_
 ·cases W with
  | nil=>
    rw[G,J]at ha;have:(FD mb (pre++[])).length=pre.length*2:=by
     rw[<-G,h.dyn.itm.1,K];simp
    rw[Zw (by omega)]at ha;cases ha
  | cons p W=>
    have:=QO (mb:=mb) (pre:=pre) (W:=W) (p:=p);rw[G,J]at ha hb;rw[this.1]at ha;rw[this.2]at hb
    cases ha;cases hb
    exact⟨⟨_,rfl⟩,_,rfl⟩
 rintro e w' (⟨Y,rfl,hb,j⟩|⟨V,⟨a,b,ha,q,rfl⟩,hb,j⟩)
 ·have R:W=[]:=Jt (by omega);subst R;refine .inl ⟨rfl,rfl,{ x.s with vI:=.slice O 0 cI,gv:=0,nI:=0,xI:=[] },h.ch j ⟨hb,h.dyn.low,own_ch (own_none E) j (by decide),h.dyn.map.ch j (by decide),h.dyn.mlo,own_ch h.dyn.sig j (by decide),own_ch h.dyn.chg j (by decide),own_ch h.dyn.ent j (by decide)⟩ ⟨rfl,rfl,rfl,rfl⟩ (by decide) (by decide) (by decide) (by decide),⟨[],rfl,rfl,rfl⟩,rfl,rfl,rfl,rfl,rfl,rfl,rfl,by rw[eI];cases O<;>rfl,j⟩
 cases W with
 | nil=>rw[Vo]at K;omega
 | cons p W=>
   have:=QO (mb:=mb) (pre:=pre) (W:=W) (p:=p);rw[G,J]at ha q;rw[this.1]at ha;rw[this.2]at q
   cases ha;cases q
   refine .inr ⟨p,W,rfl,rfl,h.ch j ⟨hb,h.dyn.low,own_ch h.dyn.itm j (by decide),h.dyn.map.ch j (by decide),h.dyn.mlo,own_ch h.dyn.sig j (by decide),own_ch h.dyn.chg j (by decide),own_ch h.dyn.ent j (by decide)⟩ ⟨rfl,rfl,rfl,rfl⟩ (by decide) (by decide) (by decide) (by decide),⟨pre++[p],?_,?_,?_⟩,j⟩
   ·show x.s.xI=_;rw[G,Ys];rfl
   ·show x.s.nI=_;rw[K,Ys];rfl
   show x.s.gv+1=_;rw[J];simp
theorem Lg.same{Bq:Nat->Nat->Prop}{x x':Sx}{D:Nat->Nat}{W:List (Nat×Nat)}{Q:Nat->Nat->Prop}{f f':Nat}(h:Lg T H Bq x R D W Q f)(hl:x'.ms.length=x.ms.length)(hm:∀k,(meA x'.ms k).up=(meA x.ms k).up/\(meA x'.ms k).least=(meA x.ms k).least)(e1:x'.s.sg=x.s.sg)(e2:x'.I=x.I)(hP:∀k,(x'.P k).length+f<=(x.P k).length+f'/\∀y∈x'.P k,y∈x.P k∨y<T.length)(hf:f<=f'):Lg T H Bq x' R D W Q f':=by
 refine⟨h.fo.same hl (fun i=>(hm i).1),by rw[e2];exact h.idk,?_,by rw[e1];exact h.snd,fun t h1 h2=>by rw[e1];exact h.sig t h1 h2,h.fct,fun i hi e=>?_⟩
 ·have:(fun i=>(meA x'.ms i).least)=fun i=>(meA x.ms i).least:=funext fun i=>(hm i).2;rw[this];exact h.lek
 obtain⟨j,a2⟩:=h.apl i hi e;have h1:=hP i;have h2:=(h.idk.len hi e).1;rw[e2];refine⟨?_,fun y hy=>(h1.2 y hy).elim (a2 y) id⟩;obtain⟨d,rfl⟩:∃d,f'=f+d:=⟨f' - f,by omega⟩;rw[Nat.add_mul];have:d<=d*(x.I i).length:=Nat.le_mul_of_pos_right _ h2;omega
theorem Lg.put{Bq:Nat->Nat->Prop}{x:Sx}{D:Nat->Nat}{W:List (Nat×Nat)}{Q:Nat->Nat->Prop}{f:Nat}(h:Lg T H Bq x R D W Q f){a b:Nat}(ha:a<T.length)(hb:b<T.length)(hc:Ky T (madeL T T.length) Bq a b):Lg T H Bq x R D (W++[(a,b)]) (fun u v=>Q u v∨(u=a/\v=b)) f:=by
 refine⟨h.fo,h.idk,h.lek,h.snd.put ha hb hc,fun t h1 h2=>?_,?_,h.apl⟩
 ·obtain⟨u,e,q⟩:=h.sig t h1 h2;exact⟨u,e,q.more (fun p hp=>Va _ hp)⟩
 rintro u v (j|⟨rfl,rfl⟩)
 ·exact(h.fct u v j).more (fun p hp=>Va _ hp)
 exact .wait (by simp)
theorem Lg.imp{Bq:Nat->Nat->Prop}{x:Sx}{D:Nat->Nat}{W:List (Nat×Nat)}{Q Q':Nat->Nat->Prop}{f:Nat}(h:Lg T H Bq x R D W Q f)(hq:∀u v,Q' u v->Q u v):Lg T H Bq x R D W Q' f:=⟨h.fo,h.idk,h.lek,h.snd,h.sig,fun a b hab=>h.fct a b (hq a b hab),h.apl⟩
end Go.Proofs.YtfkagjelljnpdaaGreatDoor
