import Derived.Test.YtfkagjelljnpdaaGreatDoorP43
import Derived.Test.YtfkagjelljnpdaaGreatDoorP28
set_option linter.all false
set_option maxRecDepth 100000
set_option maxHeartbeats 16000000
namespace Go.Proofs.YtfkagjelljnpdaaGreatDoor
open ChangeShapes WideShapes ChangeAt RowKit Proofs.Tryz
variable {B N b g i k m mb q:Nat}{F:List Fn}{L M:List Nat}{S:List (List UInt8)}{T:List Tm}{uf us ut v vf vs vt:Value}{w w' w0:World}
structure ButQ(q:Nat)(w w':World):Prop where
 size:w.heap.size<=w'.heap.size
 block:∀b,b<w.heap.size->b≠q->w'.heap[b]? = w.heap[b]?
def Aa(w:World)(q:Nat):Prop:=∀o u,w.cell? ⟨q,o,none⟩=some u->∃p n c,u=.slice p n c
theorem Aa.of{p1 p2 p3:Option Addr}{n1 n2 n3 c1 c2 c3:Nat}(h:Bx w q [.slice p1 n1 c1,.slice p2 n2 c2,.slice p3 n3 c3]):Aa w q:=fun o u hu=>by
 rw[h.cell]at hu
 have hm:=Zb hu
 simp only[Ym,Yi,or_false]at hm
 rcases hm with rfl|rfl|rfl<;>exact⟨_,_,_,rfl⟩
theorem Lt{o:Nat}{u:Value}(hq:Aa w q)(h:ButQ q w w')(hc:w.cell? ⟨b,o,none⟩=some u)(hu:∀p n c,u≠.slice p n c):b≠q/\w'.cell? ⟨b,o,none⟩=some u:=by
 have hb:b≠q:=fun e=>by
  subst e;obtain⟨p,n,c,e⟩:=hq o u hc;exact hu _ _ _ e
 exact⟨hb,(Zc (h.block b (J3 _ _ hc) hb)).trans hc⟩
theorem O4.but{L:List (List UInt8)}(hq:Aa w q)(h:ButQ q w w')(hs:O4 w v L):O4 w' v L:=by
 obtain⟨p,c,rfl,j,E,G⟩:=hs;refine⟨p,c,rfl,j,E,G.imp id ?_⟩;rintro⟨b,e,hl,J⟩;exact⟨b,e,Jn hl h.size,fun i hi=>(Lt hq h (J i hi) (fun _ _ _=>nofun)).2⟩
theorem IntsAt.but{L:List Int}(hq:Aa w q)(h:ButQ q w w')(hs:IntsAt w v L):IntsAt w' v L:=by
 obtain⟨p,c,rfl,j,E,G⟩:=hs;refine⟨p,c,rfl,j,E,G.imp id ?_⟩;rintro⟨b,e,hl,J⟩;exact⟨b,e,Jn hl h.size,fun i hi=>(Lt hq h (J i hi) (fun _ _ _=>nofun)).2⟩
theorem FactsAt.but{L:List (Int×Bool)}(hq:Aa w q)(h:ButQ q w w')(hs:FactsAt w v L):FactsAt w' v L:=by
 obtain⟨p,c,rfl,E,G,J⟩:=hs;refine⟨p,c,rfl,E,G,J.imp id ?_⟩;rintro⟨b,e,hl,j⟩;exact⟨b,e,Jn hl h.size,fun i hi=>⟨(Lt hq h (j i hi).1 (fun _ _ _=>nofun)).2,(Lt hq h (j i hi).2 (fun _ _ _=>nofun)).2⟩⟩
theorem BankAt.but(hq:Aa w q)(h:ButQ q w w')(hs:BankAt w us uf ut S F T):BankAt w' us uf ut S F T:=by
 have j:∀ {b o:Nat} {u:Value},w.cell? ⟨b,o,none⟩=some u->b≠q->w'.cell? ⟨b,o,none⟩=some u:=fun hc hb=>(Zc (h.block _ (J3 _ _ hc) hb)).trans hc;refine⟨hs.s.but hq h,?_,?_⟩
 ·obtain⟨p,c,rfl,G,J,K⟩:=hs.f;refine⟨p,c,rfl,G,J,K.imp id ?_⟩;rintro⟨b,e,hl,hc⟩;refine⟨b,e,Jn hl h.size,fun i hi=>?_⟩;obtain⟨O,⟨va,R,ha⟩,k2⟩:=hc i hi;obtain⟨hb,E⟩:=Lt hq h O (fun _ _ _=>nofun);exact⟨E,⟨va,j R hb,ha.but hq h⟩,j k2 hb⟩
 obtain⟨p,c,rfl,G,J,K⟩:=hs.t;refine⟨p,c,rfl,G,J,K.imp id ?_⟩;rintro⟨b,e,hl,hc⟩;refine⟨b,e,Jn hl h.size,fun i hi=>?_⟩;obtain⟨O,R,k2,k3,k4,va,k5,ha⟩:=hc i hi;obtain⟨hb,E⟩:=Lt hq h O (fun _ _ _=>nofun);exact⟨E,j R hb,j k2 hb,j k3 hb,j k4 hb,va,j k5 hb,ha.but hq h⟩
theorem XV(q:Nat)(w:World)(a b c:Value):ButQ q w (((w.setCell ⟨q,0,none⟩ a).setCell ⟨q,1,none⟩ b).setCell ⟨q,2,none⟩ c):=
 ⟨by simp[World.setCell],fun i _ hi=>by rw[Jh _ ⟨q,2,none⟩ _ _ hi,Jh _ ⟨q,1,none⟩ _ _ hi,Jh _ ⟨q,0,none⟩ _ _ hi]⟩
theorem BkP.but(hq:Aa w q)(h:ButQ q w w')(hs:BkP w us uf ut S F T):BkP w' us uf ut S F T:=⟨hs.at'.but hq h,hs.z,hs.ns,hs.sh⟩
def Ly(w:World)(e:Ending)(w':World):Prop:=∃(us uf ut v:Value) (S:List (List UInt8)) (F:List Fn) (T:List Tm) (L:List (Int×Bool)),e=.returned (.tuple #[.agg #[us,uf,ut],v])/\BkP w' us uf ut S F T/\FactsAt w' v L/\L.length<=1000/\Up w w'
theorem Ly.fin{W:World}{L:List (Int×Bool)}(hq:Aa W w.heap.size)(hb:BkP W us uf ut S F T)(hf:FactsAt W v L)(hl:L.length<=1000)(h:Up w W) :
 Ly w (.returned (.tuple #[.agg #[us,uf,ut],v])) (((W.setCell ⟨w.heap.size,0,none⟩ us).setCell ⟨w.heap.size,1,none⟩ uf).setCell ⟨w.heap.size,2,none⟩ ut):=
 ⟨us,uf,ut,v,S,F,T,L,rfl,hb.but hq (XV _ _ _ _ _),hf.but hq (XV _ _ _ _ _),hl,YT h leR⟩
theorem LBk.shoF(h:LBk g N B mb w0 w vs vf vt S F T k m):∀g c,vf=.slice (some ⟨g,0,none⟩) F.length c->∀i (hi:i<F.length) va,w.cell? ⟨g,i*3+1,none⟩=some va->Ac va F[i].args.length:=by
 obtain⟨X,rfl,E,G⟩:=h.f;rintro g c rfl i hi va q;have j:i<X.length:=by simpa using hi
 have hx:=(Xq E j).2.1;rw[q]at hx;cases hx;rw[Yh];exact(G _ (Jj j) w h.d).2
theorem LBk.shoT(h:LBk g N B mb w0 w vs vf vt S F T k m):∀g c,vt=.slice (some ⟨g,0,none⟩) T.length c->∀i (hi:i<T.length) va,w.cell? ⟨g,i*6+5,none⟩=some va->Ac va T[i].kids.length:=by
 obtain⟨X,rfl,E,G⟩:=h.t;rintro g c rfl i hi va q;have j:i<X.length:=by simpa using hi
 have hx:=(PZ E j).2.2.2.2.2;rw[q]at hx;cases hx;rw[Yh];exact(G _ (Jj j) w h.d).2
theorem LBk.bank(h:LBk g N B mb w0 w vs vf vt S F T k m)(hm:m<=60000):BkP w vs vf vt S F T:=⟨⟨(h.s w h.d).1,h.funs,h.terms⟩,(BU h.db hm).1,(BU h.db hm).2,(h.s w h.d).2⟩
theorem VY(a:Option Addr)(n cap:Nat)(w:World)(h:n<=maxLen) :
 Calls prog 20 #[.slice a n cap,.int .i64 6,.int .i64 30] w fun e w'=>∃r:Nat,e=.returned (.int .i64 (r:Nat))/\r<=30/\w'=w:=by
 unfold maxLen at h
 by_cases j:30<n / 6
 ·have z:decide ((30:Int)<(n:Int) / 6)=true:=dT (by omega)
  go_in
  go_wp2
  go_ret
  exact⟨30,rfl,by omega,rfl⟩
 have z:decide ((30:Int)<(n:Int) / 6)=false:=dF (by omega)
 go_in
 go_wp2
 go_ret
 refine⟨n / 6,?_,by omega,rfl⟩
 congr 2
theorem Ad{ops:Array Oper}{rest:List Oper}{o:Oper}{a:Act}{Q:Exit->Act->World->Prop}{W:World}{x:Int×Bool}{base n:Nat}{v:Value}{xs:List Value}(hgd:o.guard=none)(s y:Operand)
 (ho:o.op=.call { callee:=.builtin .append,args:=#[s,y],argTypes:=#[28,28] }) (hs:a.eval s=v) (hown:W.ownsRow base 36 2 v n xs)
 (H:Nat) (hx:a.eval y=.slice (some ⟨H,0,none⟩) 1 1) (hH:W.heap.size=H) (hn:n<=1000000000) (hbase:base<=W.heap.size)
 (h:∀q cap W',W'.ownsRow base 36 2 (.slice (some ⟨q,0,none⟩) (n+1) cap) (n+1) (xs++N3 x)->(W.alloc (.cells (N3 x).toArray 36)).grownBy W' v.ownBlock->wpList prog ops Q rest (a.put o.dst (.slice (some ⟨q,0,none⟩) (n+1) cap)) W') :
 wpList prog ops Q (o::rest) a (W.alloc (.cells (N3 x).toArray 36)):=by
 subst hH;obtain⟨i0,j,E,G,J⟩:=Mz;refine wpList_append_lies _ hgd s y 28 ho base 36 i0 _ 2 16 underlying28 j E G J rfl (by decide) v n xs hs (hown.alloc _) ⟨W.heap.size,0,none⟩ 1 1 (N3 x) hx rfl
  (World.news_of_block (t:=36) (fr:=(0,0)) Js) (fun u hu=>by simp only[N3,Ym,Yi,or_false]at hu;rcases hu with rfl|rfl<;>rfl) (by decide) (by unfold maxLen;omega) (by omega) (by simp;omega) _ rfl ?_
 intro q cap W' K O _ _;exact h q cap W' K O
theorem BkP.up(hs:BkP w us uf ut S F T)(h:Up w w'):BkP w' us uf ut S F T:=⟨hs.at'.bl h,hs.z,hs.ns,hs.sh⟩
def MF:List Fn:=[⟨[97],[],[85]⟩,⟨[104],[[85]],[66,111,111,108]⟩]
def ML:List Tm:=[⟨11,[85],[97],0,0,[]⟩,⟨11,[66,111,111,108],[104],0,0,[0]⟩]
def FZ(w:World):World:=(((((w.alloc (.cells #[.string ⟨#[85]⟩] 9)).alloc (.cells #[.string ⟨#[85]⟩] 9)).alloc (.cells #[.string ⟨#[97]⟩,.slice none 0 0,.string ⟨#[85]⟩,.string ⟨#[104]⟩,.slice (some ⟨w.heap.size+1,0,none⟩) 1 1,.string ⟨#[66,111,111,108]⟩] 75)).alloc (.cells #[.slice (some ⟨w.heap.size,0,none⟩) 1 1,.slice (some ⟨w.heap.size+1+1,0,none⟩) 2 2,.slice (some ⟨w.heap.size+1+1+1+1+1,0,none⟩) 2 2] 27)).alloc (.cells #[.int .i64 0] 3)).alloc (.cells #[.int .i64 11,.string ⟨#[85]⟩,.string ⟨#[97]⟩,.int .i64 0,.int .i64 0,.slice none 0 0,.int .i64 11,.string ⟨#[66,111,111,108]⟩,.string ⟨#[104]⟩,.int .i64 0,.int .i64 0,.slice (some ⟨w.heap.size+1+1+1+1,0,none⟩) 1 1] 38)
theorem Ei{W:World}{o:Obj}(h:w.alloc o=W):W.heap[w.heap.size]? = some o/\W.heap.size=w.heap.size+1/\Up w W:=by
 subst h;exact⟨Js,Ju _ _,Oy _ _⟩
theorem RN(w:World):(∀W,(∀b,w.heap.size<=b->b<(FZ w).heap.size->W.heap[b]? = (FZ w).heap[b]?)->BkP W (.slice (some ⟨w.heap.size,0,none⟩) 1 1) (.slice (some ⟨w.heap.size+1+1,0,none⟩) 2 2) (.slice (some ⟨w.heap.size+1+1+1+1+1,0,none⟩) 2 2) [[85]] MF ML)/\Bx (FZ w) (w.heap.size+1+1+1) [.slice (some ⟨w.heap.size,0,none⟩) 1 1,.slice (some ⟨w.heap.size+1+1,0,none⟩) 2 2,.slice (some ⟨w.heap.size+1+1+1+1+1,0,none⟩) 2 2]/\Up w (FZ w):=by
 obtain⟨s,hs⟩:=O2 w.heap.size;obtain⟨X,q⟩:=O2 (FZ w);rw[q];unfold FZ at q;obtain⟨W1,h1⟩:∃W,w.alloc (.cells #[.string ⟨#[85]⟩] 9)=W:=⟨_,rfl⟩;rw[h1]at q;obtain⟨W2,h2⟩:∃W,W1.alloc (.cells #[.string ⟨#[85]⟩] 9)=W:=⟨_,rfl⟩;rw[h2]at q;obtain⟨W3,h3⟩:∃W,W2.alloc (.cells #[.string ⟨#[97]⟩,.slice none 0 0,.string ⟨#[85]⟩,.string ⟨#[104]⟩,.slice (some ⟨w.heap.size+1,0,none⟩) 1 1,.string ⟨#[66,111,111,108]⟩] 75)=W:=⟨_,rfl⟩;rw[h3]at q;obtain⟨W4,h4⟩:∃W,W3.alloc (.cells #[.slice (some ⟨w.heap.size,0,none⟩) 1 1,.slice (some ⟨w.heap.size+1+1,0,none⟩) 2 2,.slice (some ⟨w.heap.size+1+1+1+1+1,0,none⟩) 2 2] 27)=W:=⟨_,rfl⟩;rw[h4]at q;obtain⟨W5,h5⟩:∃W,W4.alloc (.cells #[.int .i64 0] 3)=W:=⟨_,rfl⟩;rw[h5]at q;obtain⟨a1,s1,b1⟩:=Ei h1;obtain⟨a2,s2,b2⟩:=Ei h2;obtain⟨a3,s3,b3⟩:=Ei h3;obtain⟨a4,s4,b4⟩:=Ei h4;obtain⟨a5,s5,b5⟩:=Ei h5;obtain⟨a6,s6,b6⟩:=Ei q;rw[hs]at a1 s1 a3 a4 a6 ⊢;rw[s1]at a2 s2;rw[s2]at a3 s3;rw[s3]at a4 s4;rw[s4]at a5 s5;rw[s5]at a6 s6;have K:=b5.trans (b6.mono (by omega));have J:=b4.trans (K.mono (by omega));have G:=b3.trans (J.mono (by omega));have E:=b2.trans (G.mono (by omega));have Z:=b1.trans (E.mono (by omega));have R:Bx X s [.string (Oo [85])]:=⟨_,(E.block _ (by omega)).trans a1⟩;have V:Bx X (s+1) [.string (Oo [85])]:=⟨_,(G.block _ (by omega)).trans a2⟩;have j:Bx X (s+1+1) [.string (Oo [97]),.slice none 0 0,.string (Oo [85]),.string (Oo [104]),.slice (some ⟨s+1,0,none⟩) 1 1,.string (Oo [66,111,111,108])]:=⟨_,(J.block _ (by omega)).trans a3⟩;have x4:Bx X (s+1+1+1) [.slice (some ⟨s,0,none⟩) 1 1,.slice (some ⟨s+1+1,0,none⟩) 2 2,.slice (some ⟨s+1+1+1+1+1,0,none⟩) 2 2]:=⟨_,(K.block _ (by omega)).trans a4⟩;have Y:Bx X (s+1+1+1+1) [.int .i64 0]:=⟨_,(b6.block _ (by omega)).trans a5⟩;have h:Bx X (s+1+1+1+1+1) [.int .i64 11,.string (Oo [85]),.string (Oo [97]),.int .i64 0,.int .i64 0,.slice none 0 0,.int .i64 11,.string (Oo [66,111,111,108]),.string (Oo [104]),.int .i64 0,.int .i64 0,.slice (some ⟨s+1+1+1+1,0,none⟩) 1 1]:=⟨_,a6⟩;refine⟨fun W hW=>?_,x4,Z⟩;have O:∀ {b:Nat} {l:List Value},s<=b->Bx X b l->Bx W b l:=fun hb hx=>by
  have a8:=hx.lt;obtain⟨t,hx⟩:=hx;exact⟨t,(hW _ hb a8).trans hx⟩
 replace R:=O (by omega) R
 replace V:=O (by omega) V
 replace j:=O (by omega) j
 replace Y:=O (by omega) Y
 replace h:=O (by omega) h
 have hz:=Fb (S:=[[85]]) (F:=MF) (T:=ML) (by decide) (by decide) (by decide) (fun f hf=>by
  simp only[MF,Ym,Yi,or_false]at hf
  rcases hf with rfl|rfl<;>exact⟨by decide,by decide,by decide⟩) (by decide) (fun t ht=>by
  simp only[ML,Ym,Yi,or_false]at ht
  rcases ht with rfl|rfl<;>exact⟨by decide,by decide,by decide,by decide,by decide,by decide,by simp[Er]⟩)
 have m1:1<=maxLen:=by unfold maxLen;decide
 have m2:2<=maxLen:=by unfold maxLen;decide
 have u1:O4 W (.slice (some ⟨s,0,none⟩) 1 1) [[85]]:=⟨_,_,rfl,leR,m1,.inr ⟨s,rfl,R.lt,fun i hi=>by
  obtain rfl:i=0:=by simp at hi;omega
  exact R.cell 0⟩⟩
 have u2:O4 W (.slice (some ⟨s+1,0,none⟩) 1 1) [[85]]:=⟨_,_,rfl,leR,m1,.inr ⟨s+1,rfl,V.lt,fun i hi=>by
  obtain rfl:i=0:=by simp at hi;omega
  exact V.cell 0⟩⟩
 have u5:IntsAt W (.slice (some ⟨s+1+1+1+1,0,none⟩) 1 1) [0]:=⟨_,_,rfl,leR,m1,.inr ⟨_,rfl,Y.lt,fun i hi=>by
  obtain rfl:i=0:=by simp at hi;omega
  exact Y.cell 0⟩⟩
 refine⟨⟨u1,⟨_,_,rfl,leR,m2,.inr ⟨_,rfl,j.lt,fun i hi=>?_⟩⟩,⟨_,_,rfl,leR,m2,.inr ⟨_,rfl,h.lt,fun i hi=>?_⟩⟩⟩,hz.1,hz.2,.inr ⟨_,_,rfl⟩⟩
 ·rcases(by simp[MF]at hi;omega:i=0∨i=1)with rfl|rfl
  ·exact⟨j.cell 0,⟨_,j.cell 1,(Kv W).1⟩,j.cell 2⟩
  exact⟨j.cell 3,⟨_,j.cell 4,u2⟩,j.cell 5⟩
 rcases(by simp[ML]at hi;omega:i=0∨i=1)with rfl|rfl
 ·exact⟨h.cell 0,h.cell 1,h.cell 2,h.cell 3,h.cell 4,_,h.cell 5,(Ie W).1⟩
 exact⟨h.cell 6,h.cell 7,h.cell 8,h.cell 9,h.cell 10,_,h.cell 11,u5⟩
theorem Bv{x y:Int×Bool}(h:Bx w q [.int .i64 x.1,.bool x.2,.int .i64 y.1,.bool y.2]):FactsAt w (.slice (some ⟨q,0,none⟩) 2 2) [x,y]:=
 ⟨_,_,rfl,leR,by unfold maxLen;decide,.inr ⟨q,rfl,h.lt,fun i hi=>by
  rcases(by simp at hi;omega:i=0∨i=1)with rfl|rfl
  ·exact⟨h.cell 0,h.cell 1⟩
  exact⟨h.cell 2,h.cell 3⟩⟩⟩
theorem XU{l:List Value}(h:Bx w b l)(hb:ButQ q w w')(hne:b≠q):Bx w' b l:=by
 have j:=h.lt;obtain⟨t,h⟩:=h;exact⟨t,(hb.block b j hne).trans h⟩
theorem ButQ.bar(h:Q.Bar g w w'):ButQ g w w':=⟨h.size,fun b hb hg=>h.block b hb hg⟩
def Rr:List Int:=[3,3,7,1,4]
theorem DJ:∀r,(h:r<Rr.length)->Rr[r]=1∨Rr[r]=3∨Rr[r]=4∨Rr[r]=7:=by decide
theorem XQ(a:Option Addr)(n cap:Nat)(w:World)(hc:Q.Gd w a n cap):Calls prog 9 #[.slice a n cap] w (Ly w):=by
 obtain⟨W0,e7⟩:∃W,(w.alloc (.cells #[.slice none 0 0,.slice none 0 0,.slice none 0 0] 27)).alloc (.cells #[.slice a n cap,.int .i64 0,.int .u64 0] 65)=W:=⟨_,rfl⟩;have f5:Q.Ux (w.heap.size+1) (w.heap.size+2) W0 0:=by
  rw[<-e7];have:=Q.PJ (hc.bl (Oy w (.cells #[.slice none 0 0,.slice none 0 0,.slice none 0 0] 27))) 65;rw[Ju]at this;exact this
 have s4:Bx W0 w.heap.size [.slice none 0 0,.slice none 0 0,.slice none 0 0]:=by rw[<-e7];exact(Oq w _ _).alloc _
 have q3:Up w W0:=by rw[<-e7];exact(Oy _ _).trans ((Oy _ _).mono (by simp))
 have r3:n<=maxLen:=Jm hc.1 hc.2.1;obtain⟨g,hg⟩:=O2 (w.heap.size+1);obtain⟨N,hN⟩:=O2 (w.heap.size+2);rw[hg,hN]at f5;have j8:Hid (w.heap.size+1=g/\w.heap.size+2=N):=⟨hg,hN⟩;have u2:=Hd r3;have u9:=Hd e7;have d4:=Hd f5;have l3:=Hd s4;have o5:=Hd q3;have HG:=Hd hg;clear f5 s4 q3 e7 hc hN r3 hg
 go_in
 go_upto_region 2 with fail
 rw[u9.o]
 try rw[HG.o]
 go_upto_region 3 with fail
 generalize m7:World.alloc W0 _=W1;have h7:Up W0 W1:=by rw[<-m7];exact Oy _ _
 have r4:Tb W1 W0.heap.size 3 (Uq Rr):=by rw[<-m7];exact Js
 have o7:=Hd (d4.o.bl (h7.mono d4.o.2.1));have p5:=Hd (l3.o.bl l3.o.lt h7);have j5:=o5.up h7;have p0:=Hd r4;clear h7 r4 m7 l3 o5;have Y:Hid (W0.heap.size≠g/\w.heap.size≠g):=⟨by have:=d4.o.1;have:=d4.o.2.1;omega,by have:=j8.o;omega⟩;clear d4
 go_wp2_with fail
 refine(Q.Oj g N 0 5 _ o7.o (by omega) (by decide) (by decide)).mono ?_;rintro e w2 ⟨r2,k2,rfl,r5,T7,q4,hb2⟩;have o8:=Hd q4;have d9:=Hd (Nw p5.o hb2 Y.o.2);have g5:Hid (Up w w2):=j5.o.trans (hb2.bl (by have:=j8.o;omega) j5.o.size);obtain⟨p,hp,y7⟩:∃p:Int,(p=1∨p=3∨p=4∨p=7)/\w2.cell? ⟨W0.heap.size,r2,none⟩=some (.int .i64 p):=by
  refine⟨Rr[r2]'(by simpa[Rr]using r5),DJ r2 _,?_⟩;rw[(N8 p0.o hb2 Y.o.1).bx.cell];unfold Uq;rw[Yt,Jg (by simpa[Rr]using r5)];rfl
 have HP:=Hd hp;clear q4 hb2 hp p5 j5 o7 p0
 go_wp2_with fail
 refine(IW g N k2 p w2 o8.o (by omega) HP.o).mono ?_;rintro e w3 ⟨mb,vs,vf,vt,S,F,T,k3,rfl,p8,x9,T9,n4⟩;have a1:w.heap.size<=g/\w.heap.size<g:=by have:=j8.o;omega
 have l4:Hid (Bx w3 w.heap.size [.slice none 0 0,.slice none 0 0,.slice none 0 0]):=by
  obtain⟨t,h⟩:=d9.o;exact⟨t,(n4.block _ d9.o.lt Y.o.2 (.inl d9.o.lt)).trans h⟩
 have j6:Hid (Up w w3):=g5.o.trans (n4.bl a1.1 g5.o.size g5.o.size);have o9:=Hd p8;have j1:Hid (w.heap.size<w2.heap.size):=d9.o.lt;clear p8 n4 y7 g5 o8 d9
 go_wp2_with fail
 refine(VY a n cap w3 u2.o).mono ?_;rintro e w4 ⟨c,rfl,hc,hw⟩;subst w4;obtain⟨nn,W3,W2⟩:∃nn:Nat,4+(c:Int)=(nn:Int)/\nn<=34:=⟨4+c,by push_cast;rfl,by omega⟩
 go_wp2_with fail
 refine(Bp nn o9.o x9 (by omega) (by omega) (by omega)).mono ?_;rintro e w4 ⟨rfl,k4,W4,T4,T2,U1,Z,n5⟩;have g8:Hid (Bx w4 w.heap.size [.slice none 0 0,.slice none 0 0,.slice none 0 0]):=by
  obtain⟨t,h⟩:=l4.o;exact⟨t,(n5.block _ l4.o.lt Y.o.2 (.inl j1.o)).trans h⟩
 have O:Hid (Up w w4):=j6.o.trans (n5.bl a1.1 (Zj j1.o) j6.o.size);obtain⟨ps,cs,rfl,-,-,-⟩:=(Z.s w4 Z.d).1;obtain⟨pf,cf,rfl,-,-,-⟩:=Z.funs;obtain⟨n8,l7,rfl,-,-,-⟩:=Z.terms;obtain⟨c0,c1,c2,c3⟩:=Z.cells;have T5:T4.length<=700:=by have:=Z.db.lt;omega
 have a7:=Hd Z;have d7:Hid (200+12*nn<=60000):=by unfold Hid;omega
 clear Z n5 l4 j6 o9
 go_upto_region 7 with fail
 obtain⟨W5,h4⟩:∃W,w4.alloc (.cells #[.slice ps S.length cs,.slice pf F.length cf,.slice n8 T4.length l7] 27)=W:=⟨_,rfl⟩;have m8:Up w4 W5:=by rw[<-h4];exact Oy _ _
 have n7:Bx W5 w4.heap.size [.slice ps S.length cs,.slice pf F.length cf,.slice n8 T4.length l7]:=by rw[<-h4];exact Oq _ _ _
 rw[h4];have l5:=Hd n7;have g6:=Hd (a7.o.next m8);have t7:=Hd m8;obtain⟨d0,d1,d2⟩:=n7.c3;obtain⟨mo,V2,y6⟩:∃mo:Nat,3+(nn:Int) / 2=(mo:Int)/\mo<=100:=⟨3+nn / 2,by push_cast;rfl,by omega⟩;clear h4 m8 n7 c0 c1 c2 c3
 go_wp2_with fail
 refine(XP g N k4 mo _ _ _ T4 W5 g6.o.cur (by omega) y6 (by omega) g6.o.termsBar ⟨_,_,_,rfl⟩ ⟨_,_,_,rfl⟩).mono ?_;rintro e w6 ⟨vF,L,k6,rfl,T1,x7,m5,U2,q5,e9⟩;obtain⟨pF,cF,rfl⟩:=V6 m5;have j9:=Hd (g6.o.up e9 q5);have n6:w4.heap.size≠g:=by have:=a7.o.cur.1;have:=a7.o.cur.2.1;omega
 have k0:=Hd n6;have p6:=Hd (Nw l5.o e9 n6);have b2:=Hd m5;have r6:=e9.size;have o6:Hid (Q.Bar g w4 w6):=(Q.Bar.of t7.o).trans e9;have g7:Hid (w4.heap.size<W5.heap.size):=l5.o.lt;clear q5 e9 m5 d0 d1 d2 g6 l5 n6 x7
 go_wp2_with fail
 refine(Q.Oj g N k6 14 _ j9.o.cur (by omega) (by decide) (by decide)).mono ?_;rintro e w7 ⟨r7,k7,rfl,i6,V1,q6,b5⟩;have E:=Hd (j9.o.up b5 q6);have g9:=Hd (Nw p6.o b5 k0.o);have T6:g<W5.heap.size:=by have:=a7.o.cur.1;have:=a7.o.cur.2.1;have:=g7.o;omega
 have G:=Hd (own_other' b2.o (fun q hq=>b5.block q (b2.o.lt q hq).2 (by have:=Oe b2.o q hq;omega)));have c6:Hid (Q.Bar g w4 w7):=o6.o.trans b5;have a8:=Hd (Nw g8.o c6.o Y.o.2);obtain⟨d0,d1,d2⟩:=g9.o.c3;obtain⟨z0,z1,z2⟩:=g9.o.f3;have u8:Hid (W5.heap.size<=w7.heap.size):=Jm r6 b5.size;clear q6 b5 j9 p6 b2 o6 r6;have q8:k7<=100000000:=by omega
 by_cases q0:r7=0
 focus
  have y0:((r7:Int)==0)=true:=by rw[J2];omega
  clear i6 q0
  go_wp2_with fail
  refine(RX g N k7 _ _ _ S F T4 (200+12*nn) w7 E.o.cur q8 (E.o.bank d7.o).at' E.o.db d7.o (by omega) (E.o.bank d7.o).sh E.o.shoF E.o.shoT).mono ?_;rintro e w8 ⟨us,uf,ut,S',F',T',k8,rfl,q9,e6,b6,j⟩;obtain⟨p1,e1,rfl,-,-,-⟩:=e6.at'.s;obtain⟨p2,e2,rfl,-,-,-⟩:=e6.at'.f;obtain⟨p3,e3,rfl,-,-,-⟩:=e6.at'.t;have b7:=Nw g9.o j k0.o;have f9:=Nw a8.o j Y.o.2;have j4:=own_other' G.o (fun q hq=>j.block q (G.o.lt q hq).2 (by have:=Oe G.o q hq;omega));obtain⟨w9,g3⟩:∃W,((w8.setCell ⟨w4.heap.size,0,none⟩ (.slice p1 S'.length e1)).setCell ⟨w4.heap.size,1,none⟩ (.slice p2 F'.length e2)).setCell ⟨w4.heap.size,2,none⟩ (.slice p3 T'.length e3)=W:=⟨_,rfl⟩;have h9:ButQ w4.heap.size w8 w9:=by rw[<-g3];exact XV _ _ _ _ _
  have k1:=Hd (e6.but (Aa.of b7) h9);have j7:=Hd ((D1 j4).but (Aa.of b7) h9);have s5:Bx w9 w4.heap.size [.slice p1 S'.length e1,.slice p2 F'.length e2,.slice p3 T'.length e3]:=by rw[<-g3];exact((b7.set 0 _).set 1 _).set 2 _
  have i7:Bx w9 w.heap.size [.slice none 0 0,.slice none 0 0,.slice none 0 0]:=by
   have y5:=f9.lt;obtain⟨t,h⟩:=f9;exact⟨t,(h9.block _ y5 (by have:=O.o.size;have:=g8.o.lt;omega)).trans h⟩
  have c8:Hid (Up w w9):=by
   have h1:Below w.heap.size w4 w8:=(c6.o.trans j).bl a1.1 O.o.size;rw[<-g3];exact(O.o.trans h1).trans (YT (Ji _ _) (by have:=g8.o.lt;omega))
  have v8:=Hd g3;have d8:=Hd i7;obtain⟨g0,g1,g2⟩:=b7.c3;obtain⟨f0,f1,f2⟩:=b7.f3;obtain⟨n0,n1,n2⟩:=s5.c3;obtain⟨m0,m1,m2⟩:=i7.c3;obtain⟨l0,l1,l2⟩:=i7.f3;have d5:Hid (L.length<=1000):=by unfold Hid;omega
  clear b7 f9 j4 h9 s5 i7 g3 j b6 e6 d0 d1 d2 z0 z1 z2
  go_upto_region 17 with fail
  rw[v8.o];clear g0 g1 g2 f0 f1 f2
  go_wp2_with fail
  refine Jl ?_ rfl (Ly.fin (Aa.of d8.o) k1.o j7.o d5.o c8.o);simp[results,results9,go_sem,m0,m1,m2]
 have y0:((r7:Int)==0)=false:=by rw[Jc];omega
 by_cases q1:r7=1
 focus
  have y1:((r7:Int)==1)=true:=by rw[J2];omega
  clear i6 q0 q1;obtain⟨tl,y8,s3⟩:∃tl:Nat,(T4.length:Int)+2=(tl:Int)/\(0<tl/\tl<=702):=⟨T4.length+2,by push_cast;rfl,by omega⟩
  go_wp2_with fail
  refine(Q.Oj g N k7 tl _ E.o.cur (by omega) s3.1 (by omega)).mono ?_;rintro e w8 ⟨r8,k8,rfl,f9,q9,b6,j⟩;have j0:=Hd (own_other' G.o (fun q hq=>j.block q (G.o.lt q hq).2 (by have:=Oe G.o q hq;omega)));have b0:=Hd (Nw g9.o j k0.o);have R:Hid (Q.Bar g w4 w8):=c6.o.trans j;have H4:r8<=702:=by omega
  have x6:L.length<=1000000000:=by omega
  have y3:W5.heap.size<=w8.heap.size:=Jm u8.o j.size;have u0:=Hd b6;clear b6 j d0 d1 d2 z0 z1 z2 y8
  go_wp2_with (at_builtin;refine Ad (x:=((r8:Int) - 1,false)) (base:=W5.heap.size) (n:=L.length) (xs:=L.flatMap N3) rfl _ _ rfl rfl j0.o _ rfl rfl x6 y3 ?_)
  intro q cq w9 ho hg;have h5:=Oy w8 (.cells (N3 ((r8:Int) - 1,false)).toArray 36);have hk:∀b,b<w8.heap.size->b<W5.heap.size->w9.heap[b]? = w8.heap[b]? := fun b h1 h2=>(hg.block b (by have:=h5.size;omega) (fun e=>by have:=Oe j0.o b e.symm;omega)).trans (h5.block b h1);have l8:Below W5.heap.size w8 w9:=⟨hg.os,hg.tape,hg.output,Jm h5.size hg.size,fun b hb=>hk b (by omega) hb⟩;have h8:Q.Bar g w4 w9:=Xn R.o l8 (Zj g7.o);have q7:=u0.o.bl (l8.mono (by have:=a7.o.cur.2.1;have:=g7.o;omega));have k1:=Hd ((a7.o.up h8 q7).bank d7.o);have d8:=Hd (Nw g8.o h8 Y.o.2);have x2:Hid (Bx w9 w4.heap.size [.slice ps S.length cs,.slice pf F.length cf,.slice n8 T4.length l7]):=by
   have h:=b0.o.lt;obtain⟨t,h2⟩:=b0.o;exact⟨t,(hk _ h g7.o).trans h2⟩
  have j7:Hid (FactsAt w9 (.slice (some ⟨q,0,none⟩) (L.length+1) cq) (L++[((r8:Int) - 1,false)])):=by
   have h:w9.ownsRow W5.heap.size 36 2 (.slice (some ⟨q,0,none⟩) (L.length+1) cq) (L++[((r8:Int) - 1,false)]).length ((L++[((r8:Int) - 1,false)]).flatMap N3):=by
    rw[Jq,Ze,Yx]
    simpa using ho
   exact D1 h
  have d5:Hid ((L++[((r8:Int) - 1,false)]).length<=1000):=by unfold Hid;simp;omega
  have c8:Hid (Up w w9):=O.o.trans (h8.bl a1.1 O.o.size);obtain⟨d0,d1,d2⟩:=x2.o.c3;obtain⟨m0,m1,m2⟩:=d8.o.c3;obtain⟨l0,l1,l2⟩:=d8.o.f3;clear ho hg h5 hk l8 h8 q7
  go_wp2_with fail
  refine Jl ?_ rfl (Ly.fin (Aa.of d8.o) k1.o j7.o d5.o c8.o);simp[results,results9,go_sem,m0,m1,m2]
 have y1:((r7:Int)==1)=false:=by rw[Jc];omega
 by_cases q2:r7=2
 focus
  have y2:((r7:Int)==2)=true:=by rw[J2];omega
  clear i6 q0 q1 q2
  go_upto_region 16 with fail
  obtain⟨wz,i8⟩:∃W,FZ w7=W:=⟨_,rfl⟩;obtain⟨h3,e8,e5⟩:=RN w7;rw[i8]at h3 e8 e5;unfold FZ at i8;rw[i8];obtain⟨J,r9⟩:∃s,w7.heap.size=s:=⟨_,rfl⟩;have b3:w.heap.size<w7.heap.size:=a8.o.lt;have i1:g<w7.heap.size:=Jn E.o.cur.1 E.o.cur.2.1;have u1:Hid (Q.Ux g N wz.drew k7):=E.o.cur.bl (e5.mono E.o.cur.2.1).drew;have u6:=Hd (a8.o.bl a8.o.lt e5);have d3:Hid (Up w wz):=(O.o.trans (c6.o.bl a1.1 O.o.size)).trans (e5.mono (Zj b3));rw[r9]at h3 e8 b3 i1 ⊢;have p4:=Hd h3;have A2:=Hd i1;have x4:=Hd e8;have d6:Hid (w.heap.size<J/\g<J):=⟨b3,i1⟩;obtain⟨n0,n1,n2⟩:=e8.c3;clear h3 e8 e5 i8 r9 b3 i1 d0 d1 d2 z0 z1 z2;refine Ph 9 rfl (S:=fun W=>W.cell? ⟨J+1+1+1,0,none⟩=some (.slice (some ⟨J,0,none⟩) 1 1)/\W.cell? ⟨J+1+1+1,1,none⟩=some (.slice (some ⟨J+1+1,0,none⟩) 2 2)/\W.cell? ⟨J+1+1+1,2,none⟩=some (.slice (some ⟨J+1+1+1+1+1,0,none⟩) 2 2)) (by kernel_rfl) (⟨n0,n1,n2⟩) (fun hHeld=>?_)
  iterate 3 (refine tkf 8 79 (v:=?_) rfl rfl (by kernel_rfl) (fun _ _ _ h=>h) (.inl ⟨by rfl,?_⟩) (by assumption) ?_;rotate_left;(intro w V;obtain⟨s0,s1,s2⟩:=V;go_simp;(try with_reducible rfl));try simp only[Act.put,Ja,Je,Jf])
  refine wpAnyH_ready (rs:=[3]) (by kernel_rfl) (by simp) ?_;refine AllReadyH.cons rfl (fun K hK=>?_) AllReadyH.nil
  go_simp
  go_at_call 19
  refine(Q.Oj g N k7 2 _ u1.o (by omega) (by decide) (by decide)).mono ?_;rintro e w8 ⟨r8,k8,rfl,f9,q9,b6,j⟩;have R:Hid (Q.Bar g wz w8):=⟨j.os,j.tape,j.output,j.size,j.block⟩;have b0:=Hd (Nw x4.o R.o (by have:=d6.o;omega));have b4:=Hd (Nw u6.o R.o Y.o.2);clear b6 j
  go_wp2_with fail
  refine hK.out _ _ (b0.o.c3) (fun hHeld3=>?_);clear hK K
  try simp only[Act.put,Ja,Je,Jf]
  refine tk 4 75 (v:=?_) rfl rfl (by kernel_rfl) (fun _ _ _ h=>h) (.inl ⟨by rfl,?_⟩) (by assumption) ?_;rotate_left;(intro w V;(try dsimp only at V);go_simp;(try with_reducible rfl));try simp only[Act.put,Ja,Je,Jf];refine tk 5 76 (v:=?_) rfl rfl (by kernel_rfl) (fun _ _ _ h=>h) (.inl ⟨by rfl,?_⟩) (by assumption) ?_;rotate_left;(intro w V;(try dsimp only at V);go_simp;(try with_reducible rfl));try simp only[Act.put,Ja,Je,Jf];obtain⟨m0,m1,m2⟩:=b4.o.c3;obtain⟨l0,l1,l2⟩:=b4.o.f3;refine wpAnyH_ready (rs:=[6,7]) (by kernel_rfl) (by simp) ?_;refine AllReadyH.cons rfl (fun K hK=>?_) (AllReadyH.cons rfl (fun K hK=>?_) AllReadyH.nil)
  ·go_simp
   obtain⟨wf,b1⟩:∃W,w8.alloc (.cells #[.int .i64 1,.bool true,.int .i64 1,.bool ((r8:Int)==0)] 36)=W:=⟨_,rfl⟩;obtain⟨af,-,bf⟩:=Ei b1;rw[b1];have h0:=Hd (b0.o.bl b0.o.lt bf);have k9:=Hd (b4.o.bl b4.o.lt bf);have u5:=Hd ((p4.o w8 (fun b h1 h2=>R.o.block b h2 (by have:=d6.o;omega))).up bf);have t6:=Hd (Bv (x:=(1,true)) (y:=(1,(r8:Int)==0)) ⟨_,af⟩);have t8:Hid (Up w wf):=d3.o.trans ((R.o.bl a1.1 d3.o.size).trans (bf.mono (Jm d3.o.size R.o.size)));refine hK.out _ _ h0.o.c3 (fun hHeld6=>?_);clear hK K b1 af bf m0 m1 m2 l0 l1 l2
   try simp only[Act.put,Ja,Je,Jf]
   obtain⟨m0,m1,m2⟩:=k9.o.c3;obtain⟨l0,l1,l2⟩:=k9.o.f3;have x3:=Hd (XU h0.o (XV w.heap.size wf (.slice (some ⟨J,0,none⟩) 1 1) (.slice (some ⟨J+1+1,0,none⟩) 2 2) (.slice (some ⟨J+1+1+1+1+1,0,none⟩) 2 2)) (by have:=d6.o;omega));refine wpAnyH_ready (rs:=[7]) (by kernel_rfl) (by simp) ?_;refine AllReadyH.cons rfl (fun K hK=>?_) AllReadyH.nil
   go_simp
   refine hK.out _ _ (x3.o.c3) (fun hHeld7=>?_);clear hK K
   try simp only[Act.put,Ja,Je,Jf]
   refine tk 8 3 (v:=?_) rfl rfl (by kernel_rfl) (fun _ _ _ h=>h) (.inl ⟨by rfl,?_⟩) (by assumption) ?_;rotate_left;(intro w V;(try dsimp only at V);go_simp;(try with_reducible rfl));try simp only[Act.put,Ja,Je,Jf];refine wpAnyH_done (by kernel_rfl) ?_ _;clear hHeld hHeld3 hHeld6 hHeld7
   go_wp2_with fail
   refine Jl ?_ rfl (Ly.fin (Aa.of k9.o) u5.o t6.o (by simp) t8.o);simp[results,results9,go_sem,m0,m1,m2]
  go_simp
  obtain⟨ws,g4⟩:∃W,((w8.setCell ⟨w.heap.size,0,none⟩ (.slice (some ⟨J,0,none⟩) 1 1)).setCell ⟨w.heap.size,1,none⟩ (.slice (some ⟨J+1+1,0,none⟩) 2 2)).setCell ⟨w.heap.size,2,none⟩ (.slice (some ⟨J+1+1+1+1+1,0,none⟩) 2 2)=W:=⟨_,rfl⟩;have m9:ButQ w.heap.size w8 ws:=by rw[<-g4];exact XV _ _ _ _ _
  have l6:=Hd (XU b0.o m9 (by have:=d6.o;omega));have l9:Up w ws:=by rw[<-g4];exact YT (d3.o.trans (R.o.bl a1.1 d3.o.size)) leR
  have m6:Bx ws w.heap.size [.slice (some ⟨J,0,none⟩) 1 1,.slice (some ⟨J+1+1,0,none⟩) 2 2,.slice (some ⟨J+1+1+1+1+1,0,none⟩) 2 2]:=by rw[<-g4];exact((b4.o.set 0 _).set 1 _).set 2 _
  have p9:=(p4.o w8 (fun b h1 h2=>R.o.block b h2 (by have:=d6.o;omega))).but (Aa.of b4.o) m9;rw[g4];refine hK.out _ _ l6.o.c3 (fun hHeld7=>?_);clear hK K g4 m0 m1 m2 l0 l1 l2
  try simp only[Act.put,Ja,Je,Jf]
  obtain⟨wf,b1⟩:∃W,ws.alloc (.cells #[.int .i64 1,.bool true,.int .i64 1,.bool ((r8:Int)==0)] 36)=W:=⟨_,rfl⟩;obtain⟨af,-,bf⟩:=Ei b1;have HE:Hid (Ly w (.returned (.tuple #[.agg #[.slice (some ⟨J,0,none⟩) 1 1,.slice (some ⟨J+1+1,0,none⟩) 2 2,.slice (some ⟨J+1+1+1+1+1,0,none⟩) 2 2],.slice (some ⟨ws.heap.size,0,none⟩) 2 2])) wf):=⟨_,_,_,_,_,_,_,_,rfl,p9.up bf,Bv (x:=(1,true)) (y:=(1,(r8:Int)==0)) ⟨_,af⟩,by simp,l9.trans (bf.mono l9.size)⟩;have h0:=Hd (l6.o.bl l6.o.lt bf);obtain⟨m0,m1,m2⟩:=(m6.bl m6.lt bf).c3;have x1:=Hd b1;clear m9 l9 m6 p9 af bf b1;refine wpAnyH_ready (rs:=[6]) (by kernel_rfl) (by simp) ?_;refine AllReadyH.cons rfl (fun K hK=>?_) AllReadyH.nil
  go_simp
  rw[x1.o];refine hK.out _ _ (h0.o.c3) (fun hHeld6=>?_);clear hK K
  try simp only[Act.put,Ja,Je,Jf]
  refine tk 8 3 (v:=?_) rfl rfl (by kernel_rfl) (fun _ _ _ h=>h) (.inl ⟨by rfl,?_⟩) (by assumption) ?_;rotate_left;(intro w V;(try dsimp only at V);go_simp;(try with_reducible rfl));try simp only[Act.put,Ja,Je,Jf];refine wpAnyH_done (by kernel_rfl) ?_ _;clear hHeld hHeld3 hHeld6 hHeld7
  go_wp2_with fail
  refine Jl ?_ rfl HE.o;simp[results,results9,go_sem,m0,m1,m2]
 have y2:((r7:Int)==2)=false:=by rw[Jc];omega
 clear i6 q0 q1 q2;obtain⟨m0,m1,m2⟩:=a8.o.c3;obtain⟨l0,l1,l2⟩:=a8.o.f3;have d5:Hid (L.length<=1000):=by unfold Hid;omega
 have c8:Hid (Up w w7):=O.o.trans (c6.o.bl a1.1 O.o.size)
 go_wp2_with fail
 refine Jl ?_ rfl (Ly.fin (Aa.of a8.o) (E.o.bank d7.o) (D1 G.o) d5.o c8.o);simp[results,results9,go_sem,m0,m1,m2]
theorem Ky.mono{B B':Nat->Nat->Prop}(h:∀i j,B i j->B' i j){j:Nat}(hc:Ky T M B i j):Ky T M B' i j:=
 fun R hR=>hc R ⟨hR.1,hR.2.1,hR.2.2.1,fun i j hb=>hR.2.2.2.1 _ _ (h i j hb),hR.2.2.2.2⟩
theorem Eg.one{B:Nat->Nat->Prop}(h:Eg T M B L){j:Nat}(hi:i<T.length)(hj:j<T.length)(hc:Ky T M B i j):labA L i=labA L j:=by
 have C:=Ky.cong T M B;obtain⟨q,a2,a3⟩:=h.2 i hi;obtain⟨E,G,J⟩:=h.2 j hj;have K:=a3 _ E (C.2.2.1 _ _ _ hc G);have O:=J _ q (C.2.2.1 _ _ _ (C.2.1 _ _ hc) a2);omega
theorem Eg.le{B:Nat->Nat->Prop}(h:Eg T M B L)(hi:i<T.length):labA L i<=i:=(h.2 i hi).2.2 i hi ((Ky.cong T M B).1 i)
theorem Eg.idem{B:Nat->Nat->Prop}(h:Eg T M B L)(hi:i<T.length):labA L (labA L i)=labA L i:=
 (h.one hi (h.2 i hi).1 (h.2 i hi).2.1).symm
theorem G5.take{Fs:List (Int×Bool)}{a:Nat}(h:G5 T (Fs.take k) a b):G5 T Fs a b:=by
 obtain⟨f,j,hp⟩:=h;exact⟨f,Yp j,hp⟩
theorem Eg.few{Fs:List (Int×Bool)}{L':List Nat}(h:Eg T M (G5 T Fs) L)(h':Eg T M (G5 T (Fs.take k)) L')(hi:i<T.length):labA L (labA L' i)=labA L i:=
 (h.one hi (h'.2 i hi).1 ((h'.2 i hi).2.1.mono fun _ _=>G5.take)).symm
theorem Nn.take{Fs:List (Int×Bool)}(h:Nn T Fs)(k:Nat):Nn T (Fs.take k):=
 ⟨by have:=h.1;simp;omega,fun f hf=>h.2 f (Yp hf)⟩
theorem FactsAt.take{p:Option Addr}{n c:Nat}{Fs:List (Int×Bool)}(h:FactsAt w (.slice p n c) Fs)(hk:k<=Fs.length):FactsAt w (.slice p k c) (Fs.take k):=by
 obtain⟨q,d,e,K,E,G⟩:=h;simp only[Value.slice.injEq]at e;obtain⟨rfl,-,rfl⟩:=e;have e:(Fs.take k).length=k:=by simp;omega
 refine⟨p,c,by rw[e],by omega,E,?_⟩
 rcases G with rfl|⟨b,j,hb,J⟩
 ·exact .inl (by simp)
 refine .inr ⟨b,j,hb,fun i hi=>?_⟩;rw[Z9];exact J i (by omega)
theorem Sd(a:Option Addr)(n cap:Nat)(w:World)(hc:Q.Gd w a n cap):Calls prog 4 #[.slice a n cap] w (Ly w):=by
 obtain⟨R,h⟩:∃W,w.alloc (.cells #[.slice none 0 0,.slice none 0 0,.slice none 0 0] 27)=W:=⟨_,rfl⟩;obtain⟨a0,s0,K⟩:=Ei h;have O:=Hd (XQ a n cap R (hc.bl K));have q:Hid (Bx R w.heap.size [.slice none 0 0,.slice none 0 0,.slice none 0 0]):=⟨_,a0⟩;have j:=Hd K;have J:=Hd h;clear hc h a0 s0 K
 go_in
 go_upto_region 1 with fail
 rw[J.o]
 go_wp2_with fail
 refine O.o.mono ?_;rintro e w1 ⟨us,uf,ut,v,S,F,T,L,rfl,E,V,Y,hb⟩;have HP:=Hd E;have HF:=Hd V;have HL:=Hd Y;have G:=Hd (q.o.bl q.o.lt hb);have Z:=Hd (j.o.trans (hb.mono j.o.size));obtain⟨p1,c1,rfl,-,-,-⟩:=E.at'.s;obtain⟨p2,c2,rfl,-,-,-⟩:=E.at'.f;obtain⟨p3,c3,rfl,-,-,-⟩:=E.at'.t;obtain⟨p4,c4,rfl,-,-,-⟩:=V;obtain⟨m0,m1,m2⟩:=G.o.c3;obtain⟨l0,l1,l2⟩:=G.o.f3;clear E Y hb O
 go_wp2_with fail
 refine Jl ?_ rfl (Ly.fin (Aa.of G.o) HP.o HF.o HL.o Z.o);simp[results,results4,go_sem,m0,m1,m2]
theorem VM(g g' n:Nat)(L:List Nat)(w:World)(hl:L.length=n)(hn:n<=1048576)(h:Bx w g (labV L))(h':Bx w g' (labV L)) :
 Calls prog 6 #[.slice (some ⟨g,0,none⟩) n n,.slice (some ⟨g',0,none⟩) n n] w fun e w'=>e=.returned (.bool true)/\Up w w':=by
 have G:=Hd h;have J:=Hd h';have K:=Hd hl;have z0:=U4 (show(n:Int)=(n:Int)from rfl);clear h h' hl
 go_in
 go_wp2
 go_loopw [5,13] (fun _ iv wr=>∃(i:Nat),i<=n/\iv=.int .i64 (i:Nat)/\Up w wr) (fun _ iv _=>n - (intOf iv).toNat)
 case atStart=>exact⟨0,Jp _,rfl,Ji _ _⟩
 rename World=>wr
 obtain⟨i,R,rfl,q⟩:=hrel;have j:=Hd q
 by_cases E:i<n
 ·have O:decide ((i:Int)<(n:Int))=true:=Jb (by omega);have z2:decide (i<n)=true:=Jb E;have r1:=(G.o.bl G.o.lt q).cell i;have r2:=(J.o.bl J.o.lt q).cell i;rw[Ks (by have:=K.o;omega)]at r1 r2;have z3:=U4 (show((labA L i:Nat):Int)=((labA L i:Nat):Int)from rfl);generalize labA L i=x at r1 r2 z3;clear q
  go_wp2
  go_quiet (fail)
  go_wp2
  go_roundw
  case rel=>exact⟨i+1,by omega,by go_num,⟨j.o.os,j.o.tape,j.o.output,j.o.size,j.o.block⟩⟩
  simp[intOf];omega
 have O:decide ((i:Int)<(n:Int))=false:=Jd (by omega);have z2:decide (i<n)=false:=Jd E;clear q
 go_wp2
 go_ret
 exact⟨rfl,j.o⟩
theorem IX(w:World):Calls prog 6 #[.slice none 0 0,.slice none 0 0] w fun e w'=>e=.returned (.bool true)/\Up w w':=by
 go_in
 go_wp2
 go_loopw [5,13] (fun _ iv wr=>iv=.int .i64 0/\wr=w) (fun _ _ _=>0)
 case atStart=>exact⟨rfl,rfl⟩
 obtain⟨rfl,rfl⟩:=hrel
 go_wp2
 go_ret
 exact⟨rfl,Ji _ _⟩
theorem II(a:Option Addr)(n cap:Nat)(w:World)(hc:Q.Gd w a n cap) :
 Calls prog 8 #[.slice a n cap,.int .i64 0] w fun e w'=>(∃v:Nat,e=.returned (.int .i64 (v:Nat))/\v<256)/\Up w w':=by
 have j:n<=maxLen:=Jm hc.1 hc.2.1;unfold maxLen at j
 by_cases q:n=0
 ·subst q
  go_in
  go_wp2
  go_ret
  exact⟨⟨0,rfl,by decide⟩,Ji _ _⟩
 obtain⟨b,G,v,rfl,hb,E,h⟩:=hc.2.2 0 (by omega);have z0:((n:Int)==0)=false:=by rw[Jc];omega
 have J:0<n:=by omega
 have z2:¬ (n:Int)=0:=by omega
 rw[Nat.add_zero]at h;clear hc q
 go_in
 go_wp2
 go_ret
 exact⟨⟨v,rfl,E⟩,Ji _ _⟩
end Go.Proofs.YtfkagjelljnpdaaGreatDoor
