import Derived.Test.YtjjgilacnocigaaGreatDoorP07
import Derived.Laws.AppendOwnNone
set_option maxRecDepth 100000
set_option maxHeartbeats 8000000
namespace Go.Proofs.YtjjgilacnocigaaGreatDoor.Q
open ChangeShapes WideShapes ChangeAt RowKit
variable {Q R a b:List Nat}{W:World}{base g i:Nat}{v:Value}
def Nf (x y q r:Int):Prop:=x=q*y+r/\0<=r/\r<y.natAbs
theorem Dz (u b:List Nat)(hu:Oq u)(hb:Kx b)(h:val u<val b):u.length<=b.length:=by
 by_cases d:u=[]
 ·rw[d];exact J7 _
 have D:=Xs u hu d;have E:=G4 b hb;apply Vr;intro j;have h3:1000000000 ^ b.length<=1000000000 ^ (u.length - 1):=J3 (by decide) (by omega);omega
theorem Sr (t:Bool)(va vb Q U:Nat)(h:va=Q*vb+U)(hU:U<vb):Nf (sg false va) (sg t vb) (sg (false != t) Q) (sg false U):=by
 refine⟨?_,?_,?_⟩
 ·rw[h]
  cases t<;>simp[sg,Int.neg_mul_neg]
 ·simp[sg]
 cases t<;>simp[sg]<;>omega
theorem By (t:Bool)(va vb Q:Nat)(h:va=Q*vb+0)(hU:0<vb):Nf (sg true va) (sg t vb) (sg (true != t) Q) (sg false 0):=by
 refine⟨?_,?_,?_⟩
 ·rw[h]
  cases t<;>simp[sg,Int.neg_mul,Int.mul_neg]
 ·simp[sg]
 cases t<;>simp[sg]<;>omega
theorem C7 (t:Bool)(va vb Q U V:Nat)(h:va=Q*vb+U)(hV:V+U=vb)(hU:0<U):Nf (sg true va) (sg t vb) (sg (true != t) (Q+1)) (sg false V):=by
 refine⟨?_,?_,?_⟩
 ·rw[h,<-hV]
  cases t<;>simp[sg]<;>grind
 ·simp[sg]
 cases t<;>simp[sg]<;>omega
theorem Cn {x y q r q' r':Int}(h:Nf x y q r)(h':Nf x y q' r'):q=q'/\r=r':=by
 obtain⟨d,F,h3⟩:=h;obtain⟨E,k2,k3⟩:=h';have e:(q - q')*y=r' - r:=by
  have:=d.symm.trans E;rw[Int.sub_mul];omega
 have D:q - q'=0:=by
  apply Classical.byContradiction;intro j;have h4:(r' - r).natAbs<y.natAbs:=by omega
  rw[<-e,Oa] at h4;have h5:1*y.natAbs<=(q - q').natAbs*y.natAbs:=Yc _ (by omega);omega
 rw[D,Int.zero_mul] at e;exact⟨by omega,by omega⟩
def Kh (w:World)(g:Nat):Prop:=∀ i x,w.cell? ⟨g,i,none⟩≠some (.int .u32 x)
def K0 (g h:Nat)(w W:World):Prop:=w.heap.size<=W.heap.size/\∀ b,b≠g->b≠h->W.heap[b]? = w.heap[b]?
theorem K0.refl (g h:Nat)(w:World):K0 g h w w:=⟨O1,fun _ _ _=>rfl⟩
theorem K0.setCell {h:Nat}{w:World}(k:K0 g h w W)(p:Addr)(u:Value)(hp:p.block=g∨p.block=h):K0 g h w (W.setCell p u):=by
 refine⟨by simpa using k.1,fun b h1 h2=>Eq.trans ?_ (k.2 b h1 h2)⟩
 show (W.heap.modify p.block _)[b]? = _
 rw[U3,if_neg (by rcases hp with e|e<;>omega)]
theorem Kn.keeps {B:Nat}{w:World}{l:List Nat}{h:Nat}(hl:Kn B w v l)(n1:Kh w g)(n2:Kh w h)(k:K0 g h w W):Kn B W v l:=by
 obtain⟨a,cap,rfl,J,K,D,E⟩:=hl;refine⟨a,cap,rfl,J,K,D,?_⟩
 by_cases d:l=[]
 ·exact .inl d
 rcases E with E|⟨b,F,rfl,O,j,G⟩
 ·exact .inl E
 have T:0<l.length:=by
  apply Y0;intro e;exact d (Jo e)
 have c0:=G 0 T;have H:b≠g:=by rintro rfl;exact n1 _ _ c0
 have I:b≠h:=by rintro rfl;exact n2 _ _ c0
 refine .inr ⟨b,F,rfl,O,Js j k.1,fun i hi=>?_⟩;rw[<-G i hi];unfold World.cell?;rw[k.2 b H I]
structure BoxD (g:Nat)(W:World)(x:Bool)(pa:Option Addr)(la ca:Nat)(y:Bool)(pb:Option Addr)(lb cb:Nat):Prop where
 a0:W.cell? ⟨g,0,none⟩=some (.bool x)
 a1:W.cell? ⟨g,1,none⟩=some (.slice pa la ca)
 b0:W.cell? ⟨g+1,0,none⟩=some (.bool y)
 b1:W.cell? ⟨g+1,1,none⟩=some (.slice pb lb cb)
 r0:W.cell? ⟨g+2,0,none⟩=some (.bool false)
 r1:W.cell? ⟨g+2,1,none⟩=some (.slice none 0 0)
 t0:W.cell? ⟨g+3,0,none⟩=some (.bool false)
 t1:W.cell? ⟨g+3,1,none⟩=some (.slice none 0 0)
 f:∀ k,k<4->∀ i,W.frozen? ⟨g+k,i,none⟩=false
 z:∀ k,k<4->Kh W (g+k)
theorem BoxD.bl {W':World}{x:Bool}{pa:Option Addr}{la ca:Nat}{y:Bool}{pb:Option Addr}{lb cb:Nat}(h:BoxD g W x pa la ca y pb lb cb){N:Nat}(hN:g+4<=N)(hb:Below N W W'):BoxD g W' x pa la ca y pb lb cb:=by
 have q:∀ k,k<4->∀ i,W'.cell? ⟨g+k,i,none⟩=W.cell? ⟨g+k,i,none⟩:=fun k hk i=>hb.cell (p:=⟨g+k,i,none⟩) (by show g+k<N;omega);have f:∀ k,k<4->∀ i,W'.frozen? ⟨g+k,i,none⟩=W.frozen? ⟨g+k,i,none⟩:=fun k hk i=>hb.frozen (p:=⟨g+k,i,none⟩) (by show g+k<N;omega);exact⟨(q 0 (by omega) 0).trans h.a0,(q 0 (by omega) 1).trans h.a1,(q 1 (by omega) 0).trans h.b0,(q 1 (by omega) 1).trans h.b1,(q 2 (by omega) 0).trans h.r0,(q 2 (by omega) 1).trans h.r1,(q 3 (by omega) 0).trans h.t0,(q 3 (by omega) 1).trans h.t1,fun k hk i=>(f k hk i).trans (h.f k hk i),fun k hk i x e=>h.z k hk i x ((q k hk i).symm.trans e)⟩
theorem UF (w:World)(x:Bool)(pa:Option Addr)(la ca:Nat)(y:Bool)(pb:Option Addr)(lb cb:Nat)(ty:TypeId) :
 BoxD w.heap.size ((((w.alloc (.cells #[.bool x,.slice pa la ca] ty)).alloc (.cells #[.bool y,.slice pb lb cb] ty)).alloc (.cells #[.bool false,.slice none 0 0] ty)).alloc (.cells #[.bool false,.slice none 0 0] ty)) x pa la ca y pb lb cb:=by
 refine⟨?_,?_,?_,?_,?_,?_,?_,?_,?_,?_⟩
 case' _=>
  skip
 rotate_left
 case' _=>
  skip
 rotate_left
 ·rw[Jk _ _ _ (by simp<;>omega),Jk _ _ _ (by simp),Jg _ _ _ _ (by simp)];rfl
 ·rw[Jk _ _ _ (by simp<;>omega),Jk _ _ _ (by simp),Jg _ _ _ _ (by simp)];rfl
 ·rw[Jk _ _ _ (by simp),Jg _ _ _ _ (by simp)];rfl
 ·rw[Jk _ _ _ (by simp),Jg _ _ _ _ (by simp)];rfl
 ·rw[Jg _ _ _ _ (by simp)];rfl
 ·rw[Jg _ _ _ _ (by simp)];rfl
 ·intro k d i
  match k,d with
  | 0,_=>rw[Ys _ _ _ (by simp<;>omega),Ys _ _ _ (by simp<;>omega),Ys _ _ _ (by simp),Jv _ _ _ _ (by simp)]
  | 1,_=>rw[Ys _ _ _ (by simp<;>omega),Ys _ _ _ (by simp),Jv _ _ _ _ (by simp)]
  | 2,_=>rw[Ys _ _ _ (by simp),Jv _ _ _ _ (by simp)]
  | 3,_=>rw[Jv _ _ _ _ (by simp)]
 ·have key:∀ (p q:Value) (i:Nat) (x:Int),(∀ x,p≠.int .u32 x)->(∀ x,q≠.int .u32 x)->(#[p,q]:Array Value)[i]? ≠ some (.int .u32 x):=fun p q i x hp hq=>by
   match i with
   | 0=>simpa using hp x
   | 1=>simpa using hq x
   | i+2=>simp
  intro k d i x
  match k,d with
  | 0,_=>
    rw[Jk _ _ _ (by simp<;>omega),Jk _ _ _ (by simp<;>omega),Jk _ _ _ (by simp),Jg _ _ _ _ (by simp)];exact key _ _ i x (by simp) (by simp)
  | 1,_=>
    rw[Jk _ _ _ (by simp<;>omega),Jk _ _ _ (by simp<;>omega),Jg _ _ _ _ (by simp)];exact key _ _ i x (by simp) (by simp)
  | 2,_=>
    rw[Jk _ _ _ (by simp<;>omega),Jg _ _ _ _ (by simp)];exact key _ _ i x (by simp) (by simp)
  | 3,_=>
    rw[Jg _ _ _ _ (by simp)];exact key _ _ i x (by simp) (by simp)
 all_goals rw[Jk _ _ _ (by simp<;>omega),Jk _ _ _ (by simp<;>omega),Jk _ _ _ (by simp),Jg _ _ _ _ rfl];rfl
structure SD (a b R Q:List Nat)(j:Nat):Prop where
 le:j<=a.length
 qlen:Q.length=a.length
 qok:Kx Q
 low:∀ i,i<j->Q.getD i 0=0
 rok:Kx R
 rlen:R.length<=b.length
 eq:Ea a j=Ea Q j*val b+val R
 lt:val R<val b
theorem SD.window {x:Nat}(h:SD a b R Q (i+1))(hx:x<1000000000):val (x::R)<val b*1000000000:=Ti x (val R) (val b) hx h.lt
theorem JZ (Va Vq vb r x q r':Nat)(h:Va=Vq*vb+r)(hX:x+1000000000*r=q*vb+r'):Va*1000000000+x=(Vq*1000000000+q)*vb+r':=by
 have e:(Vq*1000000000+q)*vb+r'=Vq*vb*1000000000+(q*vb+r'):=by grind
 rw[e,<-hX,h]
 grind
theorem SD.put (h:SD a b R Q (i+1)){q:Nat}{R':List Nat}(hq:q<1000000000)(hX:val (a.getD i 0::R)=q*val b+val R')(hlt:val R'<val b)(hok:Kx R')(htr:Oq R')(hb:Kx b):SD a b R' (Q.set i q) i:=by
 have d:=h.le;refine⟨by omega,by simp[h.qlen],Kp Q h.qok i q hq,fun j hj=>?_,hok,Dz R' b htr hb hlt,?_,hlt⟩
 ·rw[Xx _ _ _ _ (by omega)];exact h.low j (by omega)
 rw[Xk a i (by omega),Fl Q i q (by have:=h.qlen;omega)];exact JZ _ _ _ _ _ q _ h.eq (by simpa[val] using hX)
theorem FL (Q:List Nat)(i:Nat)(h:Q.getD i 0=0):Q.set i 0=Q:=by
 by_cases d:i<Q.length
 ·have e:Q[i]=0:=by rw[Ji,Jl d] at h;exact h
  rw[<-e,List.set_getElem_self]
 exact List.set_eq_of_length_le (by omega)
theorem SD.cont (h:SD a b R Q (i+1))(hlt:val (Ov (a.getD i 0::R))<val b)(hx:a.getD i 0<1000000000)(hb:Kx b):SD a b (Ov (a.getD i 0::R)) Q i:=by
 have d:=h.put (q:=0) (R':=Ov (a.getD i 0::R)) (by omega) (by rw[O9,Ui,Y3]) hlt (Ed _ (fun y hy=>by
  rcases Yn.1 hy with e|e
  ·omega
  exact h.rok y e)) (O8 _) hb
 rw[FL Q i (h.low i (by omega))] at d;exact d
theorem FF (a b:List Nat)(ha:Kx a)(hb:Oq b)(hne:b≠[]):SD a b (a.drop (a.length+1 - b.length)) (List.replicate a.length 0) (a.length+1 - b.length):=by
 have D:0<b.length:=by
  apply Y0;intro e;exact hne (Jo e)
 refine⟨by omega,by simp,fun x hx=>by rw[Yu hx];omega,fun i hi=>?_,Rb a ha _,by simp;omega,?_,?_⟩
 ·simp[List.getD_eq_getElem?_getD,List.getElem?_replicate]
  split<;>rfl
 ·have e:Ea (List.replicate a.length 0) (a.length+1 - b.length)=0:=by unfold Ea;simp[N5]
  rw[e,Ui,Y3];rfl
 have d:=Gr (a.drop (a.length+1 - b.length)) (Rb a ha _) (b.length - 1) (by simp;omega);have j:=Xs b hb hne;omega
def G8 (vb X lo hi:Nat):Prop:=lo<=hi/\hi<=999999999/\lo*vb<=X/\X<(hi+1)*vb
theorem Pr (vb X:Nat)(h:X<vb*1000000000):G8 vb X 0 999999999:=⟨by omega,by omega,by rw[Ui];omega,by omega⟩
theorem Mi {vb X lo hi:Nat}(h:G8 vb X lo hi)(hlt:lo<hi)(hc:(lo+hi+1) / 2*vb<=X):G8 vb X ((lo+hi+1) / 2) hi:=⟨by omega,h.2.1,hc,h.2.2.2⟩
theorem Dd {vb X lo hi:Nat}(h:G8 vb X lo hi)(hlt:lo<hi)(hc:X<(lo+hi+1) / 2*vb):G8 vb X lo ((lo+hi+1) / 2 - 1):=by
 refine⟨by omega,by have:=h.2.1;omega,h.2.2.1,?_⟩;rw[show (lo+hi+1) / 2 - 1+1=(lo+hi+1) / 2 by omega];exact hc
def Is (base:Nat)(W:World)(v:Value)(R:List Nat):Prop:=
 Kx R/\((v=.slice none 0 0/\R=[])∨∃ g cap,v=.slice (some ⟨g,0,none⟩) R.length cap/\base<=g/\g<W.heap.size/\R.length<=cap/\cap<=maxLen/\∀ i,i<R.length->W.cell? ⟨g,i,none⟩=some (.int .u32 (R.getD i 0:Nat)))
theorem Is.isL (h:Is base W v R):Kn base W v R:=by
 obtain⟨d,⟨rfl,rfl⟩|⟨g,cap,rfl,j,E,hl,hm,D⟩⟩:=h
 ·exact⟨none,0,rfl,O1,(by unfold maxLen;omega),d,.inl rfl⟩
 exact⟨_,cap,rfl,hl,hm,d,.inr ⟨g,0,rfl,j,E,fun i hi=>by rw[Y3];exact D i hi⟩⟩
theorem Is.bl {W':World}(h:Is base W v R)(hb:Up W W'):Is base W' v R:=by
 obtain⟨d,h|⟨g,cap,D,E,j,h3,h4,F⟩⟩:=h
 ·exact⟨d,.inl h⟩
 exact⟨d,.inr ⟨g,cap,D,E,Js j hb.size,h3,h4,fun i hi=>(hb.cell (p:=⟨g,i,none⟩) j).trans (F i hi)⟩⟩
theorem Is.setCell (h:Is base W v R)(p:Addr)(u:Value)(hp:p.block<base):Is base (W.setCell p u) v R:=by
 obtain⟨d,h|⟨g,cap,j,D,F,h3,h4,E⟩⟩:=h
 ·exact⟨d,.inl h⟩
 refine⟨d,.inr ⟨g,cap,j,D,by simpa using F,h3,h4,fun i hi=>?_⟩⟩;rw[<-E i hi];exact Zg (J1 W p u g (by omega))
theorem Is.of_owns {e:Nat}(h:W.ownsRow base e 1 v R.length (Gy R))(hok:Kx R):Is base W v R:=by
 have j:=fun g hg=>h.cells (g:=g) hg;have D:=h.lt;obtain⟨_,h⟩:=h
 rcases h with⟨rfl,hn⟩|⟨g,cap,cur,rfl,F,E,hn,d,_,_⟩
 ·exact⟨hok,.inl ⟨rfl,Jo hn⟩⟩
 refine⟨hok,.inr ⟨g,cap,rfl,F,(D g rfl).2,hn,d,fun i hi=>?_⟩⟩;have:=j g rfl i (.int .u32 (R.getD i 0:Nat)) (by rw[Zh];simp[List.getD_eq_getElem?_getD,hi])
 by_cases i0:i=0
 ·subst i0;simpa[Addr.add] using this
 simpa[Addr.add,i0] using this
theorem Is.cut {cap:Nat}{N:List Nat}(hg:base<=g)(hlt:g<W.heap.size)(hm:cap<=maxLen)(hok:Kx N)(hl:N.length<=cap)(hc:∀ i,i<N.length->W.cell? ⟨g,i,none⟩=some (.int .u32 (N.getD i 0:Nat)))(k:Nat)(hk:k<=N.length)(he:Ov N=N.take k) :
 Is base W (.slice (some ⟨g,0,none⟩) k cap) (Ov N):=by
 have d:(Ov N).length=k:=by rw[he,Jm];omega
 refine⟨Ed N hok,.inr ⟨g,cap,by rw[d],hg,hlt,by omega,hm,fun i hi=>?_⟩⟩;rw[hc i (by omega),Qd N i hi]
end Go.Proofs.YtjjgilacnocigaaGreatDoor.Q
namespace Go.Proofs.YtjjgilacnocigaaGreatDoor.Q
open ChangeShapes WideShapes ChangeAt RowKit Proofs.Tryz
theorem ZW (w:World)(base e:Nat)(x:Value)(hb:base<=w.heap.size):(w.alloc (.cells #[x] e)).ownsRow base e 1 (.slice (some ⟨w.heap.size,0,none⟩) 1 1) 1 [x]:=by
 refine⟨rfl,.inr ⟨w.heap.size,1,#[x],rfl,hb,?_,O1,(by unfold maxLen;omega),rfl,rfl⟩⟩;exact heap_alloc_new w _
theorem Fh {W:World}{g off:Nat}{R:List Nat}(h:∀ i,i<R.length->W.cell? ⟨g,off+i,none⟩=some (.int .u32 (R.getD i 0:Nat))):∀ j u,(Gy R)[j]? = some u->W.cell? ((⟨g,off,none⟩:Addr).add j)=some u:=by
 intro j v D;simp only[Gy,Zh,Option.map_eq_some_iff] at D;obtain⟨x,E,rfl⟩:=D;obtain⟨d,F⟩:=Y8.1 E;rw[show (Addr.add ⟨g,off,none⟩ j)=⟨g,off+j,none⟩ by simp[Addr.add],h j d,Ji,E];rfl
theorem Ph (R:List Nat):∀ u∈Gy R,u.oneCell'=true:=by
 intro v d;simp only[Gy,Z5] at d;obtain⟨x,_,rfl⟩:=d;rfl
theorem Is.of_owns' {base e n:Nat}{W:World}{v:Value}{R:List Nat}(h:W.ownsRow base e 1 v n (Gy R))(hok:Kx R):Is base W v R:=by
 have hn:n=R.length:=by have:=h.1;simp at this;omega
 subst hn;exact Is.of_owns h hok
theorem OP (b:List Nat)(h:b≠[]):En [] b = -1:=by
 unfold En;have:0<b.length:=by
  apply Y0;intro e;exact h (Jo e)
 simp[this]
theorem FO (x y:Nat)(h:x<=y):S3 x y<=0:=by
 unfold S3
 split
 ·omega
 first|omega|(split<;>omega)
theorem CJ (x y:Nat)(h:y<x):0<S3 x y:=by
 unfold S3
 split
 ·omega
 first|omega|(split<;>omega)
theorem Pk (u b:List Nat)(hu:Oq u)(hb:Kx b)(h:val u<=val b):u.length<=b.length:=by
 by_cases d:u=[]
 ·rw[d];exact J7 _
 have D:=Xs u hu d;have E:=G4 b hb;apply Vr;intro j;have h3:1000000000 ^ b.length<=1000000000 ^ (u.length - 1):=J3 (by decide) (by omega);omega
theorem Rn {P:Program}{w:World}{ops:Array Oper}{rest:List Oper}{o:Oper}{a:Act}{Q:Exit->Act->World->Prop}(hgd:o.guard=none)(s x:Operand)(t:TypeId)
 (ho:o.op=.call { callee:=.builtin .append,args:=#[s,x],argTypes:=#[t,t] })
 (base b2:Nat) (e:TypeId) (i:TypeInfo) (z:Value) (bytes:Nat) (ht:P.underlying t=some (.slice e)) (hi:P.info? e=some i) (hz:i.zero=some z)
 (hsize:i.size=1) (hby:i.bytes=bytes) (hzs:z.cells.size=1)
 (v:Value) (n:Nat) (xs:List Value) (hs:a.eval s=v) (hown:w.ownsRow base e 1 v n xs)
 (rv:Value) (R:List Nat) (hx:a.eval x=rv) (hR:Is b2 w rv R)
 (h63:n+R.length<=maxLen) (hbytes:(n+R.length)*bytes<=140737488355328) (hbase:base<=w.heap.size)
 (h:∀ v' w',w'.ownsRow base e 1 v' (n+R.length) (xs++Gy R)->w.grownBy w' v.ownBlock->wpList P ops Q rest (a.put o.dst v') w'):wpList P ops Q (o::rest) a w:=by
 obtain⟨_,⟨rfl,rfl⟩|⟨g,cap,rfl,_,_,_,_,d⟩⟩:=hR
 ·exact wpList_append_own_none hgd s x t ho base e i 1 ht hi v n xs hs hown hx (h v w (by simpa[Gy] using hown) ⟨rfl,rfl,rfl,O1,fun _ _ _=>rfl⟩)
 exact wpList_append_own w hgd s x t ho base e i z 1 bytes ht hi hz hsize hby hzs (by omega) v n xs hs hown ⟨g,0,none⟩ R.length cap (Gy R) hx (by simp) (Fh (fun i hi=>by rw[Y3];exact d i hi)) (Ph R) h63 hbytes hbase (fun v' w' h1 h2 _=>h v' w' h1 h2)
theorem ZV (B ba oa ca:Nat)(vb:Value)(a b:List Nat)(w:World)(hBw:B<=w.heap.size)(hla:a.length<=100000)(ha:Kn B w (.slice (some ⟨ba,oa,none⟩) a.length ca) a)(hane:a≠[])(hb:Kn B w vb b)(hlb:b.length<=100000)(htb:Oq b)(hne:b≠[]) :
 Calls prog 151 #[.slice (some ⟨ba,oa,none⟩) a.length ca,vb] w fun e w'=>∃ v u Q U,e=.returned (.tuple #[v,u])/\(Kn w.heap.size w' v Q/\Kn w.heap.size w' u U)/\val a=val Q*val b+val U/\val U<val b/\Up w w':=by
 obtain⟨i0,a8,h7,h8,h9⟩:=info_parts info_u32;have HB:Hid (∀ W,Up w W->Kn B W vb b):=fun W hW=>hb.bl hW;obtain⟨pb,cb,rfl,_,_,v7,_⟩:=hb;obtain⟨_,D2,y2,p4,d3⟩:=ha.cells;have y3:0<a.length:=by
  apply Y0;intro e;exact hane (Jo e)
 have E1:0<b.length:=by
  apply Y0;intro e;exact hne (Jo e)
 have s1:ba<w.heap.size:=by
  obtain⟨b',i1,e,d8,_⟩:=d3 0 y3;simp only[Option.some.injEq,Addr.mk.injEq,and_true] at e;omega
 have HA:Hid (∀ i,i<a.length->w.cell? ⟨ba,oa+i,none⟩=some (.int .u32 (a.getD i 0:Nat))):=fun i hi=>by
  obtain⟨b',i1,e,_,hc⟩:=d3 i hi;simp only[Option.some.injEq,Addr.mk.injEq,and_true] at e;obtain⟨rfl,rfl⟩:=e;exact hc
 have l9:Hid (SD a b (a.drop (a.length+1 - b.length)) (List.replicate a.length 0) (a.length+1 - b.length)):=FF a b p4 htb hne;obtain⟨T,hT⟩:=O2 (a.length+1 - b.length);rw[hT] at l9;have p0:T<=a.length:=by omega
 have HT:Hid (T=a.length+1 - b.length):=hT.symm;unfold maxLen at y2;have H:Hid (Kx a/\Kx b/\Oq b/\b≠[]):=⟨p4,v7,htb,hne⟩;clear ha d3 hane htb hne;have D0:Hid (T=0∨T<=ca):=.inr (by omega);have o4:Hid (T=a.length+1 - b.length/\T<=a.length):=⟨HT.o,p0⟩;have s2:((a.length:Int) - (b.length:Int)+1<0/\T=0)∨((a.length:Int) - (b.length:Int)+1=(T:Int)/\T<ca)∨((a.length:Int) - (b.length:Int)+1=(T:Int)/\ca=T/\a.length=T):=by omega
 have g2:Hid (B<=w.heap.size+1):=by unfold Hid;omega
 have o3:=Hd hBw;have p3:Hid (∀ W,Up w W->∀ i,i<(a.drop T).length->W.cell? ⟨ba,oa+T+i,none⟩=some (.int .u32 ((a.drop T).getD i 0:Nat))):=fun W hW i hi=>by rw[hW.cell (p:=⟨ba,oa+T+i,none⟩) s1,U1,HA.o (T+i) (by simp at hi;omega),Iw]
 clear hT HT p0
 rcases s2 with⟨v8,p1⟩|⟨v8,p1⟩|⟨v8,p1,w0⟩
 ·have HE:=Hd p1;have z1:decide ((a.length:Int) - (b.length:Int)+1<0)=true:=dT (by omega)
  clear p1
  go_in
  go_wp2_with (at_make;refine wpList_make_full _ rfl _ _ 70 rfl w.heap.size 127 i0 (.int .u32 0) 1 underlying70 a8 h7 h8 .i64 .i64 _ _ a.length rfl rfl (by first|rfl|omega) (by first|rfl|omega) (by first|omega|(rw[h9];omega)) (by unfold maxLen;omega) O1 ?_)
  intro w1 F h6
  first|rw[Ee] at F|rw[K7] at F
  have d1:Kv w1 w.heap.size (List.replicate a.length 0):=(Kt F).tail;have g8:Up w w1:=(Jj _ _).grown h6 O1 (fun k h=>by cases h);have o6:=Hd d1;have g1:=Hd g8;have b8:Hid (w.heap.size<w1.heap.size):=d1.lt;clear F h6 d1 g8
  go_wp2_with (at_builtin;refine wpList_append_own _ rfl _ _ 70 rfl (w.heap.size+1) 127 i0 (.int .u32 0) 1 4 underlying70 a8 h7 h8 h9 rfl (by decide) _ 0 [] rfl (Vi _ _ _ _) ⟨ba,oa,none⟩ a.length ca (Gy (a.drop T)) rfl (by rw[HE.o];simp) (by have h:=Fh (p3.o _ g1.o);rw[HE.o] at h ⊢;exact h) (Ph _) (by unfold maxLen;omega) (by omega) (by have:=b8.o;omega) ?_)
  intro v2 w2 Z d4 _
  try rw[<-List.map_drop] at Z
  have D:=Z;have m6:Up w w2:=g1.o.grown d4 g1.o.size (fun k h=>by cases h);have l4:Hid (Is (w.heap.size+1) w2 v2 (a.drop T)):=Is.of_owns' (e:=127) (R:=a.drop T) D l9.o.rok;have r4:Hid (Kv w2 w.heap.size (List.replicate a.length 0)):=by
   obtain⟨tl,h⟩:=o6.o;exact⟨tl,(d4.block _ b8.o (by simp[Value.ownBlock])).trans h⟩
  have p7:=Hd m6;obtain⟨pr,lr,cr,t7⟩:∃ pr lr cr,v2=.slice pr lr cr:=by
   obtain⟨_,_,e,_⟩:=l4.o.isL;exact⟨_,_,_,e⟩
  subst t7;clear Z D d4 m6
  go_wp2
  go_loopw [7,9] (fun rv iv wr=>∃ (j:Nat) (R Q:List Nat),SD a b R Q j/\Is (w.heap.size+1) wr rv R/\iv=.int .i64 ((j:Int) - 1)/\Kv wr w.heap.size Q/\Up w wr) (fun _ iv _=>(intOf iv+1).toNat)
  case atStart=>exact⟨T,_,_,l9.o,l4.o,O5 (by have:=HE.o;omega),r4.o,p7.o⟩
  obtain⟨j,R,Q,k7,n3,rfl,hQ,hB⟩:=hrel;have d:=Hd k7;have g4:=Hd n3;have j4:=Hd hQ;have b4:=Hd hB;have y4:=k7.le;clear k7 n3 hQ hB
  cases j with
  | zero=>
    have HE:Hid (val a=val Q*val b+val R/\val R<val b):=by
     have e:=d.o.eq;unfold Ea at e;rw[Y9,Y9] at e;exact⟨e,d.o.lt⟩
    have r5:Hid (Kn w.heap.size wr (.slice (some ⟨w.heap.size,0,none⟩) a.length a.length) Q):=by
     have h:=j4.o.isL (B:=w.heap.size) (cap:=a.length) O1 d.o.qok (by have:=d.o.qlen;omega) (by unfold maxLen;omega);rw[d.o.qlen] at h;exact h
    go_wp2
    go_ret2
    exact⟨_,_,Q,R,rfl,⟨r5.o,g4.o.isL.mono (by omega)⟩,HE.o.1,HE.o.2,b4.o⟩
  | succ i=>
    have d3:=HA.o i (by omega);rw[<-b4.o.cell (p:=⟨ba,oa+i,none⟩) s1] at d3;have k9:=Kk a H.o.1 i (by omega);have I:Hid (val (Ov (a.getD i 0::R))<val b->SD a b (Ov (a.getD i 0::R)) Q i):=fun h=>d.o.cont h k9 H.o.2.1;have j2:Hid (∀ {q:Nat} {R':List Nat},q<1000000000->val (a.getD i 0::R)=q*val b+val R'->val R'<val b->Kx R'->Oq R'->SD a b R' (Q.set i q) i):=fun {q R'} h1 h2 h3 h4 h5=>d.o.put h1 h2 h3 h4 h5 H.o.2.1;have e7:Hid (val (a.getD i 0::R)<val b*1000000000):=d.o.window k9;obtain⟨x,hx⟩:=O2 (a.getD i 0);rw[hx] at d3 k9 I j2 e7;obtain⟨N,hN⟩:=O2 (x::R);have g9:Kx N:=by
     rw[<-hN];intro y hy
     rcases Yn.1 hy with e|e
     ·omega
     exact d.o.rok y e
    have y0:=d.o.rlen;have e2:Hid (N.length=R.length+1/\N.length<=100001):=by
     rw[<-hN];exact⟨by simp,by simp;omega⟩
    rw[hN] at I j2 e7;have HN:Hid (Kx N/\True/\val N<val b*1000000000):=⟨g9,trivial,e7.o⟩;have r3:Hid (Gy N=Value.int .u32 (x:Nat)::Gy R):=by rw[<-hN];rfl
    have G:Hid (w.heap.size<wr.heap.size):=j4.o.lt;clear hx hN g9 e7
    go_wp2_with (at_builtin;refine Rn rfl _ _ 70 rfl (w.heap.size+1) (w.heap.size+1) 127 i0 (.int .u32 0) 4 underlying70 a8 h7 h8 h9 rfl _ 1 [.int .u32 (x:Nat)] rfl (ZW wr _ _ _ (by have:=G.o;omega)) _ R rfl (g4.o.bl (Oo _ _)) (by unfold maxLen;omega) (by omega) (by have:=G.o;simp;omega) ?_)
    intro v3 w3 D d5;rw[<-r3.o] at D;have m7:Up w w3:=(b4.o.alloc b4.o.size _).grown d5 (by have:=b4.o.size;simp;omega) (fun k h=>by simp[Value.ownBlock] at h;have:=G.o;omega);have l6:Hid (Kv w3 w.heap.size Q):=by
     obtain⟨tl,h⟩:=j4.o;refine⟨tl,(d5.block _ (by have:=G.o;simp;omega) (by simp[Value.ownBlock];have:=G.o;omega)).trans ?_⟩;exact (heap_alloc_old wr _ G.o).trans h
    have a7:=Hd m7;obtain⟨_,⟨_,n5⟩|⟨g,cap,t8,s4,s5,s6,n2,k1⟩⟩:=Is.of_owns' (e:=127) D HN.o.1
    ·exfalso;have:=e2.o.1;rw[n5] at this;simp at this
    subst t8;have p8:=Hd k1;have g3:Hid (∀ k,k<=N.length->Ov N=N.take k->Is (w.heap.size+1) w3 (.slice (some ⟨g,0,none⟩) k cap) (Ov N)):=fun k hk he=>Is.cut s4 s5 n2 HN.o.1 s6 k1 k hk he;have x9:=e2.o.2;unfold maxLen at n2;clear D d5 m7 k1 d3
    go_wp2
    go_loop [11] (fun n=>∃ k:Nat,k<=N.length/\n=.int .i64 k/\Ov (N.take k)=Ov N) (fun n=>(intOf n).toNat)
    case atStart=>exact⟨N.length,O1,rfl,by rw[Zi]⟩
    obtain⟨k,hk,rfl,hp⟩:=hrel;have HP:=Hd hp;clear hp
    cases k with
    | zero=>
      have HE:Hid (Ov N=[]):=by rw[<-HP.o];rfl
      have c7:Hid (Is (w.heap.size+1) w3 (.slice (some ⟨g,0,none⟩) 0 cap) (Ov N)):=g3.o 0 (by omega) (by rw[<-HP.o];rfl);have e3:Hid (Kn B w3 (.slice (some ⟨g,0,none⟩) 0 cap) (Ov N)):=c7.o.isL.mono g2.o;have b6:Hid (En (Ov N) b = -1):=by rw[HE.o];exact OP b H.o.2.2.2
      have d0:Hid (SD a b (Ov N) Q i):=I.o (by rw[HE.o];exact Gp b H.o.2.2.1 H.o.2.2.2)
      go_wp2_with fail
      refine (Et B _ _ (Ov N) b _ e3.o (HB.o _ a7.o)).mono ?_;rintro e w4 ⟨rfl,J⟩;rw[b6.o];have E:Hid (Is (w.heap.size+1) w4 (.slice (some ⟨g,0,none⟩) 0 cap) (Ov N)/\Kv w4 w.heap.size Q/\Up w w4):=⟨c7.o.bl J,l6.o.kept J,a7.o.trans (J.mono a7.o.size)⟩;clear J
      go_wp2
      go_roundw
      case rel=>exact⟨i,Ov N,Q,d0.o,E.o.1,by go_num,E.o.2.1,E.o.2.2⟩
      simp[intOf]
    | succ m=>
      obtain⟨y,hy⟩:=O2 (N.getD m 0);have K:=p8.o m (by omega);rw[hy] at K;have HY:=Hd hy;clear hy
      by_cases h0:y=0
      ·have hz:((y:Int)==0)=true:=by rw[Jw];omega
       have HE:Hid (Ov (N.take m)=Ov N):=by rw[<-Ew N m (by omega) (by rw[HY.o,h0])];exact HP.o
       clear h0
       go_wp2
       go_round
       case rel=>exact⟨m,by omega,O5 (by omega),HE.o⟩
       simp[intOf]
      have hz:((y:Int)==0)=false:=by rw[Jd];omega
      have c7:Hid (Is (w.heap.size+1) w3 (.slice (some ⟨g,0,none⟩) (m+1) cap) (Ov N)):=g3.o (m+1) hk (HP.o.symm.trans (Nu N m (by omega) (by rw[HY.o];exact h0)));have e3:Hid (Kn B w3 (.slice (some ⟨g,0,none⟩) (m+1) cap) (Ov N)):=c7.o.isL.mono g2.o;have b9:Hid ((Ov N).length=m+1):=by obtain⟨_,_,e,_⟩:=e3.o;simp at e;exact e.2.1.symm
      clear h0;obtain⟨cm,j9⟩:=O2 (En (Ov N) b);have b6:=Hd j9;have s3 : -1<=cm/\cm<=1:=by rw[<-j9];exact Hs _ b
      obtain⟨w8,w9⟩:=s3;clear j9
      go_wp2_with fail
      refine (Et B _ _ (Ov N) b _ e3.o (HB.o _ a7.o)).mono ?_;rintro e w4 ⟨rfl,J⟩;rw[b6.o];have E:Hid (Is (w.heap.size+1) w4 (.slice (some ⟨g,0,none⟩) (m+1) cap) (Ov N)/\Kv w4 w.heap.size Q/\Up w w4):=⟨c7.o.bl J,l6.o.kept J,a7.o.trans (J.mono a7.o.size)⟩;clear J K
      by_cases d8:cm<0
      ·have d0:Hid (SD a b (Ov N) Q i):=I.o (Rx _ b (Ed N HN.o.1) H.o.2.1 (O8 N) H.o.2.2.1 (by rw[b6.o];exact d8))
       go_wp2
       go_roundw
       case rel=>exact⟨i,Ov N,Q,d0.o,E.o.1,by go_num,E.o.2.1,E.o.2.2⟩
       simp[intOf]
      have q8:Hid (val b<=val N/\b.length<=(Ov N).length):=by
       have h:=NJ (Ov N) b (Ed N HN.o.1) H.o.2.1 (O8 N) H.o.2.2.1 (by rw[b6.o];omega);rw[O9] at h;exact⟨h.2,h.1⟩
      have y7:0<=cm:=by omega
      clear d8
      go_wp2
      go_loopw [12,13] (fun lov hiv wq=>∃ lo hi:Nat,lov=.int .u64 (lo:Nat)/\hiv=.int .u64 (hi:Nat)/\G8 (val b) (val N) lo hi/\Up w4 wq) (fun lov hiv _=>(intOf hiv).toNat - (intOf lov).toNat)
      case atStart=>exact⟨0,999999999,rfl,rfl,Pr _ _ HN.o.2.2,Jj _ _⟩
      obtain⟨lo,hi,rfl,rfl,f7,n0⟩:=hrel;have b5:=Hd f7;have b3:=Hd n0;have y5:=f7.1;have y6:=f7.2.1;clear f7 n0;have i7:Hid (Up w wr):=E.o.2.2.trans (b3.o.mono E.o.2.2.size);have l7:Hid (Is (w.heap.size+1) wr (.slice (some ⟨g,0,none⟩) (m+1) cap) (Ov N)):=E.o.1.bl b3.o;have j3:Hid (Kv wr w.heap.size Q):=E.o.2.1.kept b3.o
      by_cases k5:lo<hi
      ·obtain⟨M,hM⟩:=O2 ((lo+hi+1) / 2);have x8:((lo:Int)+(hi:Int)+1) / 2=(M:Int):=by omega
       have HM:=Hd hM;have s0:M<1000000000:=by omega
       have x7:1<=M:=by omega
       clear hM
       go_wp2_with fail
       refine (Qj B _ b M _ (HB.o _ i7.o) hlb s0).mono ?_;rintro e w5 ⟨v5,L5,rfl,e9,n8,o0,s7,m9⟩;have q9:Hid (Kn B w5 v5 L5):=e9.mono (by have:=i7.o.size;have:=o3.o;omega);have j5:Hid (Oq L5/\val L5=val b*M/\Kx L5):=⟨n8,o0,by obtain⟨_,_,_,_,_,h,_⟩:=e9;exact h⟩;have i6:=Hd m9;obtain⟨p5,c5,e5,_⟩:=id e9;subst e5;clear e9 n8 o0 s7 m9
       go_wp2_with fail
       refine (Et B _ _ L5 (Ov N) _ q9.o ((l7.o.bl i6.o).isL.mono g2.o)).mono ?_;rintro e w6 ⟨rfl,d2⟩;have O:Hid (Up w4 w6):=b3.o.trans ((i6.o.trans (d2.mono i6.o.size)).mono b3.o.size);clear d2;have ho:=Gu L5 (Ov N) j5.o.2.2 (Ed N HN.o.1) j5.o.1 (O8 N);rw[O9,j5.o.2.1] at ho
       by_cases hc:M*val b<=val N
       ·have r6:Hid (G8 (val b) (val N) M hi):=by
         have h:=Mi b5.o k5 (by rw[HM.o];exact hc);rw[HM.o] at h;exact h
        obtain⟨cx,Y⟩:=O2 (En L5 (Ov N));have n1:cx<=0:=by rw[<-Y,ho];exact FO _ _ (by rw[Yy];exact hc)
        rw[Y];clear Y ho hc
        go_wp2
        go_roundw
        case rel=>exact⟨M,hi,rfl,rfl,r6.o,O.o⟩
        simp[intOf];have:=HM.o;omega
       have q6:Hid (G8 (val b) (val N) lo (M - 1)):=by
        have h:=Dd b5.o k5 (by rw[HM.o];omega);rw[HM.o] at h;exact h
       obtain⟨cx,Y⟩:=O2 (En L5 (Ov N));have n1:0<cx:=by rw[<-Y,ho];exact CJ _ _ (by rw[Yy];omega)
       rw[Y];clear Y ho hc
       go_wp2
       go_roundw
       case rel=>exact⟨lo,M - 1,rfl,O5 (by omega),q6.o,O.o⟩
       simp[intOf];have:=HM.o;omega
      obtain rfl:lo=hi:=by omega
      have i8:Hid (1<=lo/\lo*val b<=val N/\val N<(lo+1)*val b):=by
       refine⟨?_,b5.o.2.2.1,b5.o.2.2.2⟩;apply Y0;rintro rfl;have h1:=b5.o.2.2.2;have h2:=q8.o.1;omega
      have x0:=i8.o.1;have s9:=j3.o.cell i (by have:=d.o.qlen;have:=d.o.le;omega);have t6:=j3.o.frozen i;have V:Hid (Kv (wr.setCell ⟨w.heap.size,i,none⟩ (.int .u32 (lo:Nat))) w.heap.size (Q.set i lo)/\Is (w.heap.size+1) (wr.setCell ⟨w.heap.size,i,none⟩ (.int .u32 (lo:Nat))) (.slice (some ⟨g,0,none⟩) (m+1) cap) (Ov N)/\Up w (wr.setCell ⟨w.heap.size,i,none⟩ (.int .u32 (lo:Nat)))):=
       ⟨j3.o.set _ _ (by have:=d.o.qlen;have:=d.o.le;omega),l7.o.setCell _ _ (by show w.heap.size<w.heap.size+1;omega),i7.o.setCell O1 _⟩
      obtain⟨W5,j7⟩:=O2 (wr.setCell ⟨w.heap.size,i,none⟩ (.int .u32 (lo:Nat)));have r7:=Hd j7;rw[j7] at V;clear j7 k5
      go_wp2_with fail
      rw[r7.o];clear s9 t6;refine (Qj B _ b lo _ (HB.o _ V.o.2.2) hlb (by omega)).mono ?_;rintro e w6 ⟨v6,L6,rfl,f5,n9,o1,s8,d2⟩;have e1:Hid (Kn B w6 v6 L6/\Oq L6/\val L6=val b*lo/\Kx L6):=⟨f5.mono (by have:=V.o.2.2.size;have:=o3.o;omega),n9,o1,by obtain⟨_,_,_,_,_,h,_⟩:=f5;exact h⟩;have O:=Hd d2;obtain⟨p6,c6,e6,_⟩:=id f5;subst e6;clear f5 n9 o1 s8 d2
      go_wp2_with fail
      have d6:val L6<=val (Ov N):=by rw[e1.o.2.2.1,O9,Yy];exact i8.o.2.1
      have d7:=Br B (.slice (some ⟨g,0,none⟩) (m+1) cap) (.slice p6 L6.length c6) (Ov N) L6 w6 ((V.o.2.1.bl O.o).isL.mono g2.o) e1.o.1 (by have:=e2.o;have:=Kl N;omega) (Pk L6 (Ov N) e1.o.2.1 (Ed N HN.o.1) d6) d6;rw[b9.o] at d7;refine d7.mono ?_;clear d7 d6;rintro e w7 ⟨S,rfl,hS,k8,n4,j8⟩;have a6:Kx S:=by obtain⟨_,_,_,_,_,h,_⟩:=hS;exact h
      have HS:Hid (Kx S/\S.length=m+1/\val S+lo*val b=val N):=⟨a6,n4,by rw[e1.o.2.2.1,O9] at k8;rw[Yy lo];exact k8⟩;have hG:w.heap.size+1<=w6.heap.size:=by have:=V.o.1.lt;have:=O.o.size;omega
      have l3:Hid (∀ q,q<S.length->w7.cell? ⟨w6.heap.size,q,none⟩=some (.int .u32 (S.getD q 0:Nat))):=fun q hq=>by
       obtain⟨_,_,_,_,k0⟩:=hS.cells;obtain⟨b',i1,e,_,hc⟩:=k0 q hq;simp only[Option.some.injEq,Addr.mk.injEq,and_true] at e;obtain⟨rfl,rfl⟩:=e;rw[Y3] at hc;exact hc
      have l5:Hid (w6.heap.size<w7.heap.size):=by
       obtain⟨_,_,_,_,k0⟩:=hS.cells;obtain⟨b',i1,e,d8,hc⟩:=k0 0 (by omega);simp only[Option.some.injEq,Addr.mk.injEq,and_true] at e;obtain⟨rfl,rfl⟩:=e;exact d8
      have e4:Hid (Kv w7 w.heap.size (Q.set i lo)/\Up w w7):=⟨(V.o.1.kept O.o).kept j8,V.o.2.2.trans ((O.o.trans (j8.mono O.o.size)).mono V.o.2.2.size)⟩;have b7:Hid (∀ k,k<=S.length->Ov S=S.take k->Is (w.heap.size+1) w7 (.slice (some ⟨w6.heap.size,0,none⟩) k (m+1)) (Ov S)):=fun k hk he=>Is.cut hG l5.o (by unfold maxLen;have:=e2.o;have:=Kl N;have:=b9.o;omega) a6 (by omega) l3.o k hk he;have g5:Hid (SD a b (Ov S) (Q.set i lo) i):=by
       refine j2.o (by omega) ?_ ?_ (Ed S a6) (O8 S)
       ·rw[O9];have:=HS.o.2.2;omega
       rw[O9];have h1:=HS.o.2.2;have h2:=i8.o.2.2;rw[Zq,Z8] at h2;omega
      clear hS k8 n4 j8 a6 hG
      go_wp2
      go_loop [16] (fun n=>∃ k:Nat,k<=S.length/\n=.int .i64 k/\Ov (S.take k)=Ov S) (fun n=>(intOf n).toNat)
      case atStart=>exact⟨S.length,O1,O5 (by have:=HS.o.2.1;omega),by rw[Zi]⟩
      obtain⟨k,hk,rfl,hp⟩:=hrel;have j1:=Hd hp;have j6:=HS.o.2.1;clear hp
      cases k with
      | zero=>
        have c8:Hid (Is (w.heap.size+1) w7 (.slice (some ⟨w6.heap.size,0,none⟩) 0 (m+1)) (Ov S)):=b7.o 0 (by omega) (by rw[<-j1.o];rfl);clear j6
        go_wp2
        go_roundw
        case rel=>exact⟨i,Ov S,Q.set i lo,g5.o,c8.o,by go_num,e4.o.1,e4.o.2⟩
        simp[intOf]
      | succ p=>
        obtain⟨y,hy⟩:=O2 (S.getD p 0);have K:=l3.o p (by omega);rw[hy] at K;have m5:=Hd hy;have y8:p<m+1:=by omega
        clear hy
        by_cases h0:y=0
        ·have hz:((y:Int)==0)=true:=by rw[Jw];omega
         have q7:Hid (Ov (S.take p)=Ov S):=by rw[<-Ew S p (by omega) (by rw[m5.o,h0])];exact j1.o
         clear h0 j6
         go_wp2
         go_round
         case rel=>exact⟨p,by have:=HS.o.2.1;omega,O5 (by omega),q7.o⟩
         simp[intOf]
        have hz:((y:Int)==0)=false:=by rw[Jd];omega
        have c8:Hid (Is (w.heap.size+1) w7 (.slice (some ⟨w6.heap.size,0,none⟩) (p+1) (m+1)) (Ov S)):=b7.o (p+1) (by omega) (j1.o.symm.trans (Nu S p (by omega) (by rw[m5.o];exact h0)));clear h0 j6
        go_wp2
        go_roundw
        case rel=>exact⟨i,Ov S,Q.set i lo,g5.o,c8.o,by go_num,e4.o.1,e4.o.2⟩
        simp[intOf]
 case' _=>
  have z1:decide ((T:Int)<0)=false:=dF (by omega)
  have p9:=o4.o.2;have z2:decide (a.length<T)=false:=dF (by omega)
  have z3:decide ((a.length:Int)<(T:Int))=false:=dF (by omega)
  clear p9
  go_in
  go_wp2_with (at_make;refine wpList_make_full _ rfl _ _ 70 rfl w.heap.size 127 i0 (.int .u32 0) 1 underlying70 a8 h7 h8 .i64 .i64 _ _ a.length rfl rfl (by first|rfl|omega) (by first|rfl|omega) (by first|omega|(rw[h9];omega)) (by unfold maxLen;omega) O1 ?_)
  intro w1 F h6
  first|rw[Ee] at F|rw[K7] at F
  have d1:Kv w1 w.heap.size (List.replicate a.length 0):=(Kt F).tail;have g8:Up w w1:=(Jj _ _).grown h6 O1 (fun k h=>by cases h);have o6:=Hd d1;have g1:=Hd g8;have b8:Hid (w.heap.size<w1.heap.size):=d1.lt;clear F h6 d1 g8;have p0:=o4.o.2
  go_wp2_with (at_builtin;refine wpList_append_own _ rfl _ _ 70 rfl (w.heap.size+1) 127 i0 (.int .u32 0) 1 4 underlying70 a8 h7 h8 h9 rfl (by decide) _ 0 [] rfl (Vi _ _ _ _) ⟨ba,oa+T,none⟩ (a.length - T) (ca - T) (Gy (a.drop T)) rfl (by simp) (Fh (p3.o _ g1.o)) (Ph _) (by unfold maxLen;omega) (by omega) (by have:=b8.o;omega) ?_)
 rotate_left
 case' _=>
  have z1:decide ((T:Int)<0)=false:=dF (by omega)
  have x3:=Hd w0;have p9:=o4.o.2;have z2:decide (a.length<T)=false:=dF (by omega)
  have z3:decide ((a.length:Int)<(T:Int))=false:=dF (by omega)
  clear p9 w0
  go_in
  go_wp2_with (at_make;refine wpList_make_full _ rfl _ _ 70 rfl w.heap.size 127 i0 (.int .u32 0) 1 underlying70 a8 h7 h8 .i64 .i64 _ _ a.length rfl rfl (by first|rfl|omega) (by first|rfl|omega) (by first|omega|(rw[h9];omega)) (by unfold maxLen;omega) O1 ?_)
  intro w1 F h6
  first|rw[Ee] at F|rw[K7] at F
  have d1:Kv w1 w.heap.size (List.replicate a.length 0):=(Kt F).tail;have g8:Up w w1:=(Jj _ _).grown h6 O1 (fun k h=>by cases h);have o6:=Hd d1;have g1:=Hd g8;have b8:Hid (w.heap.size<w1.heap.size):=d1.lt;clear F h6 d1 g8;have p0:=o4.o.2
  go_wp2_with (at_builtin;refine wpList_append_own _ rfl _ _ 70 rfl (w.heap.size+1) 127 i0 (.int .u32 0) 1 4 underlying70 a8 h7 h8 h9 rfl (by decide) _ 0 [] rfl (Vi _ _ _ _) ⟨ba,oa,none⟩ (a.length - T) 0 (Gy (a.drop T)) rfl (by simp) (fun q u hq=>by have:=x3.o;rw[show a.drop T=[] from Z0 (by omega)] at hq;simp at hq) (Ph _) (by unfold maxLen;omega) (by omega) (by have:=b8.o;omega) ?_)
 rotate_left
 all_goals
  intro v2 w2 Z d4 _
  try rw[<-List.map_drop] at Z
  have D:=Z;have m6:Up w w2:=g1.o.grown d4 g1.o.size (fun k h=>by cases h);have l4:Hid (Is (w.heap.size+1) w2 v2 (a.drop T)):=Is.of_owns' (e:=127) (R:=a.drop T) D l9.o.rok;have r4:Hid (Kv w2 w.heap.size (List.replicate a.length 0)):=by
   obtain⟨tl,h⟩:=o6.o;exact⟨tl,(d4.block _ b8.o (by simp[Value.ownBlock])).trans h⟩
  have p7:=Hd m6;obtain⟨pr,lr,cr,t7⟩:∃ pr lr cr,v2=.slice pr lr cr:=by
   obtain⟨_,_,e,_⟩:=l4.o.isL;exact⟨_,_,_,e⟩
  subst t7;clear Z D d4 m6
  go_wp2
  go_loopw [7,9] (fun rv iv wr=>∃ (j:Nat) (R Q:List Nat),SD a b R Q j/\Is (w.heap.size+1) wr rv R/\iv=.int .i64 ((j:Int) - 1)/\Kv wr w.heap.size Q/\Up w wr) (fun _ iv _=>(intOf iv+1).toNat)
  case atStart=>exact⟨T,_,_,l9.o,l4.o,O5 (by omega),r4.o,p7.o⟩
  obtain⟨j,R,Q,k7,n3,rfl,hQ,hB⟩:=hrel;have d:=Hd k7;have g4:=Hd n3;have j4:=Hd hQ;have b4:=Hd hB;have y4:=k7.le;clear k7 n3 hQ hB
  cases j with
  | zero=>
    have HE:Hid (val a=val Q*val b+val R/\val R<val b):=by
     have e:=d.o.eq;unfold Ea at e;rw[Y9,Y9] at e;exact⟨e,d.o.lt⟩
    have r5:Hid (Kn w.heap.size wr (.slice (some ⟨w.heap.size,0,none⟩) a.length a.length) Q):=by
     have h:=j4.o.isL (B:=w.heap.size) (cap:=a.length) O1 d.o.qok (by have:=d.o.qlen;omega) (by unfold maxLen;omega);rw[d.o.qlen] at h;exact h
    go_wp2
    go_ret2
    exact⟨_,_,Q,R,rfl,⟨r5.o,g4.o.isL.mono (by omega)⟩,HE.o.1,HE.o.2,b4.o⟩
  | succ i=>
    have d3:=HA.o i (by omega);rw[<-b4.o.cell (p:=⟨ba,oa+i,none⟩) s1] at d3;have k9:=Kk a H.o.1 i (by omega);have I:Hid (val (Ov (a.getD i 0::R))<val b->SD a b (Ov (a.getD i 0::R)) Q i):=fun h=>d.o.cont h k9 H.o.2.1;have j2:Hid (∀ {q:Nat} {R':List Nat},q<1000000000->val (a.getD i 0::R)=q*val b+val R'->val R'<val b->Kx R'->Oq R'->SD a b R' (Q.set i q) i):=fun {q R'} h1 h2 h3 h4 h5=>d.o.put h1 h2 h3 h4 h5 H.o.2.1;have e7:Hid (val (a.getD i 0::R)<val b*1000000000):=d.o.window k9;obtain⟨x,hx⟩:=O2 (a.getD i 0);rw[hx] at d3 k9 I j2 e7;obtain⟨N,hN⟩:=O2 (x::R);have g9:Kx N:=by
     rw[<-hN];intro y hy
     rcases Yn.1 hy with e|e
     ·omega
     exact d.o.rok y e
    have y0:=d.o.rlen;have e2:Hid (N.length=R.length+1/\N.length<=100001):=by
     rw[<-hN];exact⟨by simp,by simp;omega⟩
    rw[hN] at I j2 e7;have HN:Hid (Kx N/\True/\val N<val b*1000000000):=⟨g9,trivial,e7.o⟩;have r3:Hid (Gy N=Value.int .u32 (x:Nat)::Gy R):=by rw[<-hN];rfl
    have G:Hid (w.heap.size<wr.heap.size):=j4.o.lt;clear hx hN g9 e7
    go_wp2_with (at_builtin;refine Rn rfl _ _ 70 rfl (w.heap.size+1) (w.heap.size+1) 127 i0 (.int .u32 0) 4 underlying70 a8 h7 h8 h9 rfl _ 1 [.int .u32 (x:Nat)] rfl (ZW wr _ _ _ (by have:=G.o;omega)) _ R rfl (g4.o.bl (Oo _ _)) (by unfold maxLen;omega) (by omega) (by have:=G.o;simp;omega) ?_)
    intro v3 w3 D d5;rw[<-r3.o] at D;have m7:Up w w3:=(b4.o.alloc b4.o.size _).grown d5 (by have:=b4.o.size;simp;omega) (fun k h=>by simp[Value.ownBlock] at h;have:=G.o;omega);have l6:Hid (Kv w3 w.heap.size Q):=by
     obtain⟨tl,h⟩:=j4.o;refine⟨tl,(d5.block _ (by have:=G.o;simp;omega) (by simp[Value.ownBlock];have:=G.o;omega)).trans ?_⟩;exact (heap_alloc_old wr _ G.o).trans h
    have a7:=Hd m7;obtain⟨_,⟨_,n5⟩|⟨g,cap,t8,s4,s5,s6,n2,k1⟩⟩:=Is.of_owns' (e:=127) D HN.o.1
    ·exfalso;have:=e2.o.1;rw[n5] at this;simp at this
    subst t8;have p8:=Hd k1;have g3:Hid (∀ k,k<=N.length->Ov N=N.take k->Is (w.heap.size+1) w3 (.slice (some ⟨g,0,none⟩) k cap) (Ov N)):=fun k hk he=>Is.cut s4 s5 n2 HN.o.1 s6 k1 k hk he;have x9:=e2.o.2;unfold maxLen at n2;clear D d5 m7 k1 d3
    go_wp2
    go_loop [11] (fun n=>∃ k:Nat,k<=N.length/\n=.int .i64 k/\Ov (N.take k)=Ov N) (fun n=>(intOf n).toNat)
    case atStart=>exact⟨N.length,O1,rfl,by rw[Zi]⟩
    obtain⟨k,hk,rfl,hp⟩:=hrel;have HP:=Hd hp;clear hp
    cases k with
    | zero=>
      have HE:Hid (Ov N=[]):=by rw[<-HP.o];rfl
      have c7:Hid (Is (w.heap.size+1) w3 (.slice (some ⟨g,0,none⟩) 0 cap) (Ov N)):=g3.o 0 (by omega) (by rw[<-HP.o];rfl);have e3:Hid (Kn B w3 (.slice (some ⟨g,0,none⟩) 0 cap) (Ov N)):=c7.o.isL.mono g2.o;have b6:Hid (En (Ov N) b = -1):=by rw[HE.o];exact OP b H.o.2.2.2
      have d0:Hid (SD a b (Ov N) Q i):=I.o (by rw[HE.o];exact Gp b H.o.2.2.1 H.o.2.2.2)
      go_wp2_with fail
      refine (Et B _ _ (Ov N) b _ e3.o (HB.o _ a7.o)).mono ?_;rintro e w4 ⟨rfl,J⟩;rw[b6.o];have E:Hid (Is (w.heap.size+1) w4 (.slice (some ⟨g,0,none⟩) 0 cap) (Ov N)/\Kv w4 w.heap.size Q/\Up w w4):=⟨c7.o.bl J,l6.o.kept J,a7.o.trans (J.mono a7.o.size)⟩;clear J
      go_wp2
      go_roundw
      case rel=>exact⟨i,Ov N,Q,d0.o,E.o.1,by go_num,E.o.2.1,E.o.2.2⟩
      simp[intOf]
    | succ m=>
      obtain⟨y,hy⟩:=O2 (N.getD m 0);have K:=p8.o m (by omega);rw[hy] at K;have HY:=Hd hy;clear hy
      by_cases h0:y=0
      ·have hz:((y:Int)==0)=true:=by rw[Jw];omega
       have HE:Hid (Ov (N.take m)=Ov N):=by rw[<-Ew N m (by omega) (by rw[HY.o,h0])];exact HP.o
       clear h0
       go_wp2
       go_round
       case rel=>exact⟨m,by omega,O5 (by omega),HE.o⟩
       simp[intOf]
      have hz:((y:Int)==0)=false:=by rw[Jd];omega
      have c7:Hid (Is (w.heap.size+1) w3 (.slice (some ⟨g,0,none⟩) (m+1) cap) (Ov N)):=g3.o (m+1) hk (HP.o.symm.trans (Nu N m (by omega) (by rw[HY.o];exact h0)));have e3:Hid (Kn B w3 (.slice (some ⟨g,0,none⟩) (m+1) cap) (Ov N)):=c7.o.isL.mono g2.o;have b9:Hid ((Ov N).length=m+1):=by obtain⟨_,_,e,_⟩:=e3.o;simp at e;exact e.2.1.symm
      clear h0;obtain⟨cm,j9⟩:=O2 (En (Ov N) b);have b6:=Hd j9;have s3 : -1<=cm/\cm<=1:=by rw[<-j9];exact Hs _ b
      obtain⟨w8,w9⟩:=s3;clear j9
      go_wp2_with fail
      refine (Et B _ _ (Ov N) b _ e3.o (HB.o _ a7.o)).mono ?_;rintro e w4 ⟨rfl,J⟩;rw[b6.o];have E:Hid (Is (w.heap.size+1) w4 (.slice (some ⟨g,0,none⟩) (m+1) cap) (Ov N)/\Kv w4 w.heap.size Q/\Up w w4):=⟨c7.o.bl J,l6.o.kept J,a7.o.trans (J.mono a7.o.size)⟩;clear J K
      by_cases d8:cm<0
      ·have d0:Hid (SD a b (Ov N) Q i):=I.o (Rx _ b (Ed N HN.o.1) H.o.2.1 (O8 N) H.o.2.2.1 (by rw[b6.o];exact d8))
       go_wp2
       go_roundw
       case rel=>exact⟨i,Ov N,Q,d0.o,E.o.1,by go_num,E.o.2.1,E.o.2.2⟩
       simp[intOf]
      have q8:Hid (val b<=val N/\b.length<=(Ov N).length):=by
       have h:=NJ (Ov N) b (Ed N HN.o.1) H.o.2.1 (O8 N) H.o.2.2.1 (by rw[b6.o];omega);rw[O9] at h;exact⟨h.2,h.1⟩
      have y7:0<=cm:=by omega
      clear d8
      go_wp2
      go_loopw [12,13] (fun lov hiv wq=>∃ lo hi:Nat,lov=.int .u64 (lo:Nat)/\hiv=.int .u64 (hi:Nat)/\G8 (val b) (val N) lo hi/\Up w4 wq) (fun lov hiv _=>(intOf hiv).toNat - (intOf lov).toNat)
      case atStart=>exact⟨0,999999999,rfl,rfl,Pr _ _ HN.o.2.2,Jj _ _⟩
      obtain⟨lo,hi,rfl,rfl,f7,n0⟩:=hrel;have b5:=Hd f7;have b3:=Hd n0;have y5:=f7.1;have y6:=f7.2.1;clear f7 n0;have i7:Hid (Up w wr):=E.o.2.2.trans (b3.o.mono E.o.2.2.size);have l7:Hid (Is (w.heap.size+1) wr (.slice (some ⟨g,0,none⟩) (m+1) cap) (Ov N)):=E.o.1.bl b3.o;have j3:Hid (Kv wr w.heap.size Q):=E.o.2.1.kept b3.o
      by_cases k5:lo<hi
      ·obtain⟨M,hM⟩:=O2 ((lo+hi+1) / 2);have x8:((lo:Int)+(hi:Int)+1) / 2=(M:Int):=by omega
       have HM:=Hd hM;have s0:M<1000000000:=by omega
       have x7:1<=M:=by omega
       clear hM
       go_wp2_with fail
       refine (Qj B _ b M _ (HB.o _ i7.o) hlb s0).mono ?_;rintro e w5 ⟨v5,L5,rfl,e9,n8,o0,s7,m9⟩;have q9:Hid (Kn B w5 v5 L5):=e9.mono (by have:=i7.o.size;have:=o3.o;omega);have j5:Hid (Oq L5/\val L5=val b*M/\Kx L5):=⟨n8,o0,by obtain⟨_,_,_,_,_,h,_⟩:=e9;exact h⟩;have i6:=Hd m9;obtain⟨p5,c5,e5,_⟩:=id e9;subst e5;clear e9 n8 o0 s7 m9
       go_wp2_with fail
       refine (Et B _ _ L5 (Ov N) _ q9.o ((l7.o.bl i6.o).isL.mono g2.o)).mono ?_;rintro e w6 ⟨rfl,d2⟩;have O:Hid (Up w4 w6):=b3.o.trans ((i6.o.trans (d2.mono i6.o.size)).mono b3.o.size);clear d2;have ho:=Gu L5 (Ov N) j5.o.2.2 (Ed N HN.o.1) j5.o.1 (O8 N);rw[O9,j5.o.2.1] at ho
       by_cases hc:M*val b<=val N
       ·have r6:Hid (G8 (val b) (val N) M hi):=by
         have h:=Mi b5.o k5 (by rw[HM.o];exact hc);rw[HM.o] at h;exact h
        obtain⟨cx,Y⟩:=O2 (En L5 (Ov N));have n1:cx<=0:=by rw[<-Y,ho];exact FO _ _ (by rw[Yy];exact hc)
        rw[Y];clear Y ho hc
        go_wp2
        go_roundw
        case rel=>exact⟨M,hi,rfl,rfl,r6.o,O.o⟩
        simp[intOf];have:=HM.o;omega
       have q6:Hid (G8 (val b) (val N) lo (M - 1)):=by
        have h:=Dd b5.o k5 (by rw[HM.o];omega);rw[HM.o] at h;exact h
       obtain⟨cx,Y⟩:=O2 (En L5 (Ov N));have n1:0<cx:=by rw[<-Y,ho];exact CJ _ _ (by rw[Yy];omega)
       rw[Y];clear Y ho hc
       go_wp2
       go_roundw
       case rel=>exact⟨lo,M - 1,rfl,O5 (by omega),q6.o,O.o⟩
       simp[intOf];have:=HM.o;omega
      obtain rfl:lo=hi:=by omega
      have i8:Hid (1<=lo/\lo*val b<=val N/\val N<(lo+1)*val b):=by
       refine⟨?_,b5.o.2.2.1,b5.o.2.2.2⟩;apply Y0;rintro rfl;have h1:=b5.o.2.2.2;have h2:=q8.o.1;omega
      have x0:=i8.o.1;have s9:=j3.o.cell i (by have:=d.o.qlen;have:=d.o.le;omega);have t6:=j3.o.frozen i;have V:Hid (Kv (wr.setCell ⟨w.heap.size,i,none⟩ (.int .u32 (lo:Nat))) w.heap.size (Q.set i lo)/\Is (w.heap.size+1) (wr.setCell ⟨w.heap.size,i,none⟩ (.int .u32 (lo:Nat))) (.slice (some ⟨g,0,none⟩) (m+1) cap) (Ov N)/\Up w (wr.setCell ⟨w.heap.size,i,none⟩ (.int .u32 (lo:Nat)))):=
       ⟨j3.o.set _ _ (by have:=d.o.qlen;have:=d.o.le;omega),l7.o.setCell _ _ (by show w.heap.size<w.heap.size+1;omega),i7.o.setCell O1 _⟩
      obtain⟨W5,j7⟩:=O2 (wr.setCell ⟨w.heap.size,i,none⟩ (.int .u32 (lo:Nat)));have r7:=Hd j7;rw[j7] at V;clear j7 k5
      go_wp2_with fail
      rw[r7.o];clear s9 t6;refine (Qj B _ b lo _ (HB.o _ V.o.2.2) hlb (by omega)).mono ?_;rintro e w6 ⟨v6,L6,rfl,f5,n9,o1,s8,d2⟩;have e1:Hid (Kn B w6 v6 L6/\Oq L6/\val L6=val b*lo/\Kx L6):=⟨f5.mono (by have:=V.o.2.2.size;have:=o3.o;omega),n9,o1,by obtain⟨_,_,_,_,_,h,_⟩:=f5;exact h⟩;have O:=Hd d2;obtain⟨p6,c6,e6,_⟩:=id f5;subst e6;clear f5 n9 o1 s8 d2
      go_wp2_with fail
      have d6:val L6<=val (Ov N):=by rw[e1.o.2.2.1,O9,Yy];exact i8.o.2.1
      have d7:=Br B (.slice (some ⟨g,0,none⟩) (m+1) cap) (.slice p6 L6.length c6) (Ov N) L6 w6 ((V.o.2.1.bl O.o).isL.mono g2.o) e1.o.1 (by have:=e2.o;have:=Kl N;omega) (Pk L6 (Ov N) e1.o.2.1 (Ed N HN.o.1) d6) d6;rw[b9.o] at d7;refine d7.mono ?_;clear d7 d6;rintro e w7 ⟨S,rfl,hS,k8,n4,j8⟩;have a6:Kx S:=by obtain⟨_,_,_,_,_,h,_⟩:=hS;exact h
      have HS:Hid (Kx S/\S.length=m+1/\val S+lo*val b=val N):=⟨a6,n4,by rw[e1.o.2.2.1,O9] at k8;rw[Yy lo];exact k8⟩;have hG:w.heap.size+1<=w6.heap.size:=by have:=V.o.1.lt;have:=O.o.size;omega
      have l3:Hid (∀ q,q<S.length->w7.cell? ⟨w6.heap.size,q,none⟩=some (.int .u32 (S.getD q 0:Nat))):=fun q hq=>by
       obtain⟨_,_,_,_,k0⟩:=hS.cells;obtain⟨b',i1,e,_,hc⟩:=k0 q hq;simp only[Option.some.injEq,Addr.mk.injEq,and_true] at e;obtain⟨rfl,rfl⟩:=e;rw[Y3] at hc;exact hc
      have l5:Hid (w6.heap.size<w7.heap.size):=by
       obtain⟨_,_,_,_,k0⟩:=hS.cells;obtain⟨b',i1,e,d8,hc⟩:=k0 0 (by omega);simp only[Option.some.injEq,Addr.mk.injEq,and_true] at e;obtain⟨rfl,rfl⟩:=e;exact d8
      have e4:Hid (Kv w7 w.heap.size (Q.set i lo)/\Up w w7):=⟨(V.o.1.kept O.o).kept j8,V.o.2.2.trans ((O.o.trans (j8.mono O.o.size)).mono V.o.2.2.size)⟩;have b7:Hid (∀ k,k<=S.length->Ov S=S.take k->Is (w.heap.size+1) w7 (.slice (some ⟨w6.heap.size,0,none⟩) k (m+1)) (Ov S)):=fun k hk he=>Is.cut hG l5.o (by unfold maxLen;have:=e2.o;have:=Kl N;have:=b9.o;omega) a6 (by omega) l3.o k hk he;have g5:Hid (SD a b (Ov S) (Q.set i lo) i):=by
       refine j2.o (by omega) ?_ ?_ (Ed S a6) (O8 S)
       ·rw[O9];have:=HS.o.2.2;omega
       rw[O9];have h1:=HS.o.2.2;have h2:=i8.o.2.2;rw[Zq,Z8] at h2;omega
      clear hS k8 n4 j8 a6 hG
      go_wp2
      go_loop [16] (fun n=>∃ k:Nat,k<=S.length/\n=.int .i64 k/\Ov (S.take k)=Ov S) (fun n=>(intOf n).toNat)
      case atStart=>exact⟨S.length,O1,O5 (by have:=HS.o.2.1;omega),by rw[Zi]⟩
      obtain⟨k,hk,rfl,hp⟩:=hrel;have j1:=Hd hp;have j6:=HS.o.2.1;clear hp
      cases k with
      | zero=>
        have c8:Hid (Is (w.heap.size+1) w7 (.slice (some ⟨w6.heap.size,0,none⟩) 0 (m+1)) (Ov S)):=b7.o 0 (by omega) (by rw[<-j1.o];rfl);clear j6
        go_wp2
        go_roundw
        case rel=>exact⟨i,Ov S,Q.set i lo,g5.o,c8.o,by go_num,e4.o.1,e4.o.2⟩
        simp[intOf]
      | succ p=>
        obtain⟨y,hy⟩:=O2 (S.getD p 0);have K:=l3.o p (by omega);rw[hy] at K;have m5:=Hd hy;have y8:p<m+1:=by omega
        clear hy
        by_cases h0:y=0
        ·have hz:((y:Int)==0)=true:=by rw[Jw];omega
         have q7:Hid (Ov (S.take p)=Ov S):=by rw[<-Ew S p (by omega) (by rw[m5.o,h0])];exact j1.o
         clear h0 j6
         go_wp2
         go_round
         case rel=>exact⟨p,by have:=HS.o.2.1;omega,O5 (by omega),q7.o⟩
         simp[intOf]
        have hz:((y:Int)==0)=false:=by rw[Jd];omega
        have c8:Hid (Is (w.heap.size+1) w7 (.slice (some ⟨w6.heap.size,0,none⟩) (p+1) (m+1)) (Ov S)):=b7.o (p+1) (by omega) (j1.o.symm.trans (Nu S p (by omega) (by rw[m5.o];exact h0)));clear h0 j6
        go_wp2
        go_roundw
        case rel=>exact⟨i,Ov S,Q.set i lo,g5.o,c8.o,by go_num,e4.o.1,e4.o.2⟩
        simp[intOf]
theorem ZK (B:Nat)(z:Value)(neg:Bool)(w:World)(h:Ej B w z neg []) :
 Calls prog 73 #[z] w fun e w'=>e=.returned (.slice none 0 0)/\Up w w':=by
 obtain⟨j,D,h⟩:=h
 rcases h with⟨d,_⟩|⟨_,rfl⟩
 ·simp at d
 cases neg
 all_goals
  simp only[sg,val]
  go_in
  go_wp2
  go_ret
  exact⟨rfl,Oo _ _⟩
theorem F7 (B:Nat)(z:Value)(neg:Bool)(t:List Nat)(w:World)(h:Ej B w z neg t)(hB:B<=w.heap.size) :
 Calls prog 73 #[z] w fun e w'=>∃ v,e=.returned v/\Kn B w' v t/\(t=[]->v=.slice none 0 0)/\Up w w':=by
 by_cases j:t=[]
 ·subst j;refine (ZK B z neg w h).mono ?_;rintro e w' ⟨rfl,d⟩;exact⟨_,rfl,⟨none,0,rfl,O1,(by unfold maxLen;omega),(fun x hx=>by cases hx),.inl rfl⟩,fun _=>rfl,d⟩
 refine (Kc B z neg t w h hB).mono ?_;rintro e w' ⟨v,rfl,D,d⟩;exact⟨v,rfl,D,fun h=>absurd h j,d⟩
theorem Sa (z0:Int)(zn:Bool)(za:Option Addr)(zl zc:Nat)(w:World) :
 Calls prog 148 #[.agg #[.int .i64 z0,.bool zn,.slice za zl zc]] w fun e w'=>e=.returned (.bool (((zl:Int)==0)&&(z0==0)))/\Up w w':=by
 by_cases h:zl=0
 ·subst h
  go_in
  go_wp2
  go_ret
  exact⟨by simp,Oo _ _⟩
 have z:((zl:Int)==0)=false:=by rw[Jd];omega
 go_in
 go_wp2
 go_ret
 exact⟨by simp[z],Oo _ _⟩
theorem KA (B:Nat)(vb:Value)(b:List Nat)(w:World)(hb:Kn B w vb b)(hlb:b.length<=100000)(htb:Oq b)(hne:b≠[]) :
 Calls prog 151 #[.slice none 0 0,vb] w fun e w'=>∃ v u Q U,e=.returned (.tuple #[v,u])/\(Kn w.heap.size w' v Q/\Kn w.heap.size w' u U)/\val []=val Q*val b+val U/\val U<val b/\Up w w':=by
 obtain⟨i0,E,H,I,J⟩:=info_parts info_u32;obtain⟨pb,cb,rfl,_,_,O,_⟩:=hb;have V:Hid (0<val b):=Gp b htb hne;have Y:0<b.length:=by
  apply Y0;intro e;exact hne (Jo e)
 by_cases h1:b.length=1
 all_goals
  go_in
  go_wp2_with (at_make;refine wpList_make_full _ rfl _ _ 70 rfl w.heap.size 127 i0 (.int .u32 0) 1 underlying70 E H I .i64 .i64 _ _ 0 rfl rfl (by first|rfl|omega) (by first|rfl|omega) (by first|omega|(rw[J];omega)) (by unfold maxLen;omega) O1 ?_)
  intro Z F D;have j:Up w Z:=(Jj _ _).grown D O1 (fun k h=>by cases h);have G:=Hd j;clear F D j
  go_wp2
  go_loopw [7,9] (fun rv iv wr=>rv=.slice none 0 0/\iv=.int .i64 (-1)/\Up w wr) (fun _ _ _=>0)
  case atStart=>exact⟨rfl,rfl,G.o⟩
  obtain⟨rfl,rfl,K⟩:=hrel;have T:=Hd K;clear K;have d:Hid (∀ W pp,Kn w.heap.size W (.slice pp 0 0) []):=fun W pp=>⟨pp,0,rfl,O1,(by unfold maxLen;omega),(fun x hx=>by cases hx),.inl rfl⟩
  go_wp2
  go_ret2
  exact⟨_,_,[],[],rfl,⟨d.o _ _,d.o _ _⟩,by simp[val],V.o,T.o⟩
theorem KM (B:Nat)(va vb:Value)(a b:List Nat)(w:World)(hBw:B<=w.heap.size)(hla:a.length<=100000)(ha:Kn B w va a)(hnil:a=[]->va=.slice none 0 0)(hb:Kn B w vb b)(hlb:b.length<=100000)(htb:Oq b)(hne:b≠[]) :
 Calls prog 151 #[va,vb] w fun e w'=>∃ v u Q U,e=.returned (.tuple #[v,u])/\(Kn w.heap.size w' v Q/\Kn w.heap.size w' u U)/\val a=val Q*val b+val U/\val U<val b/\Up w w':=by
 by_cases h:a=[]
 ·rw[hnil h,h];exact KA B vb b w hb hlb htb hne
 obtain⟨F,D,rfl,_,_,_,d⟩:=id ha
 rcases d with d|⟨j,E,rfl,_⟩
 ·exact absurd d h
 exact ZV B j E D vb a b w hBw hla ha h hb hlb htb hne
theorem Hc (B:Nat)(w:World)(x:Int)(h1 : -1000000000000000000<x)(h2:x<1000000000000000000):Nb B w (.agg #[.int .i64 x,.bool false,.slice none 0 0]) x:=by
 have d:sg (decide (x<0)) (val (LW x.natAbs))=x:=by
  rw[GC];unfold sg
  by_cases h:x<0<;>simp[h]<;>omega
 exact⟨decide (x<0),LW x.natAbs,⟨LC _ (by omega),UV _,.inr ⟨Wc _,by rw[d]⟩⟩,d⟩
theorem Xr (x:Int)(w:World)(h1 : -1000000000000000000<x)(h2:x<1000000000000000000) :
 Calls prog 150 #[.int .i64 x] w fun e w'=>e=.returned (.int .i64 (x.natAbs:Nat))/\w'=w:=by
 by_cases h:x<0
 ·have d:Hid ((x.natAbs:Int) = -x):=by unfold Hid;omega
  go_in
  go_wp2
  go_ret
  exact⟨Kw d.o.symm,rfl⟩
 have d:Hid ((x.natAbs:Int)=x):=by unfold Hid;omega
 go_in
 go_wp2
 go_ret
 exact⟨Kw d.o.symm,rfl⟩
theorem ZG (x y:Int)(w:World)(hx1 : -1000000000000000000<x)(hx2:x<1000000000000000000)(hy1 : -1000000000000000000<y)(hy2:y<1000000000000000000)(hs:x.natAbs=0∨x.natAbs≠0/\y.natAbs<=999999999999999999 / x.natAbs) :
 Calls prog 110 #[.agg #[.int .i64 x,.bool false,.slice none 0 0],.agg #[.int .i64 y,.bool false,.slice none 0 0]] w fun e w'=>∃ z,e=.returned z/\Nb w.heap.size w' z (x*y)/\Up w w':=by
 have H:Hid (-1000000000000000000<x*y/\x*y<1000000000000000000):=by
  have h:(x*y).natAbs<1000000000000000000:=by
   rw[Oa]
   rcases hs with h0|⟨h0,h⟩
   ·rw[h0,Ui];omega
   have h3:x.natAbs*y.natAbs<=x.natAbs*(999999999999999999 / x.natAbs):=Jz _ h;have h4:=Nat.mul_div_le 999999999999999999 x.natAbs;omega
  show -1000000000000000000<x*y/\x*y<1000000000000000000
  omega
 obtain⟨p1,p2⟩:=H.o;have D:Hid (-1000000000000000000<x/\x<1000000000000000000):=⟨hx1,hx2⟩;have E:Hid (-1000000000000000000<y/\y<1000000000000000000):=⟨hy1,hy2⟩;have HX:=Gv w x false none 0 0 y false none 0 0 72;obtain⟨j,d⟩:=O2 (((w.alloc (.cells #[.int .i64 x,.bool false,.slice none 0 0] 72)).alloc (.cells #[.int .i64 y,.bool false,.slice none 0 0] 72)).alloc (.cells #[.int .i64 0,.bool false,.slice none 0 0] 72));have I:=Hd d;have G:Hid (Up w j):=by rw[<-d];exact Ou (Ou (Oo _ _) _) _
 have F:j.heap.size=w.heap.size+3:=by rw[<-d];simp
 have a8:w.heap.size<j.heap.size:=by omega
 have b3:w.heap.size+1<j.heap.size:=by omega
 have b4:w.heap.size+2<j.heap.size:=by omega
 rw[d] at HX;have Z:=Hd F;obtain⟨a0,a1,a2,b0,b1,b2,r0,r1,r2,f0,f1,f2⟩:=HX;obtain⟨X,O⟩:∃ X:Int,(x.natAbs:Int)=X:=⟨_,rfl⟩;obtain⟨Y,T⟩:∃ Y:Int,(y.natAbs:Int)=Y:=⟨_,rfl⟩;have J:=Hd O;have K:=Hd T;have V:X=0∨0<X/\Y<=999999999999999999 / X:=by
  rcases hs with h|⟨h,h2⟩
  ·left;omega
  right
  refine⟨by omega,?_⟩;rw[Int.le_ediv_iff_mul_le (by omega)];have h3:=(Nat.le_div_iff_mul_le (by omega)).1 h2;have h4:((y.natAbs*x.natAbs:Nat):Int)=Y*X:=by rw[Z9,O,T]
  omega
 have b6:0<=X:=by omega
 have b7:X<1000000000000000000:=by omega
 have b8:0<=Y:=by omega
 have b9:Y<1000000000000000000:=by omega
 clear d F hs O T hx1 hx2 hy1 hy2
 go_in
 go_wp2_with fail
 rw[I.o];refine (O0 _ _ _ _ _ _).mono ?_;rintro e w' ⟨rfl,rfl⟩
 rcases V with hs|⟨hs,c6⟩
 case' _=>
  subst hs
 rotate_left
 case' _=>
  skip
 rotate_left
 all_goals
  go_wp2_with (first
   | (go_at_call 106;refine (O0 _ _ _ _ _ _).mono ?_;rintro e w' ⟨rfl,rfl⟩)
   | (go_at_call_of 150 (Value.int IntKind.i64 x);refine (Xr _ _ D.o.1 D.o.2).mono ?_;rintro e w' ⟨rfl,rfl⟩;rw[J.o])
   | (go_at_call_of 150 (Value.int IntKind.i64 y);refine (Xr _ _ E.o.1 E.o.2).mono ?_;rintro e w' ⟨rfl,rfl⟩;rw[K.o]))
  have U:=((G.o.setCell (p:=⟨w.heap.size+1+1,0,none⟩) (by simp;omega) (.int .i64 (x*y))).setCell (p:=⟨w.heap.size+1+1,1,none⟩) (by simp;omega) (.bool false)).setCell (p:=⟨w.heap.size+1+1,2,none⟩) (by simp;omega) (.slice none 0 0);refine Jh ?_ rfl ⟨_,rfl,Hc _ _ (x*y) H.o.1 H.o.2,(U.alloc (by have:=Z.o;simp;omega) _).alloc (by have:=Z.o;simp;omega) _⟩;have e:∀ i o1 o2,(((((j.setCell ⟨w.heap.size+1+1,0,none⟩ (.int .i64 (x*y))).setCell ⟨w.heap.size+1+1,1,none⟩ (.bool false)).setCell ⟨w.heap.size+1+1,2,none⟩ (.slice none 0 0)).alloc o1).alloc o2).cell? ⟨w.heap.size+1+1,i,none⟩=(((j.setCell ⟨w.heap.size+1+1,0,none⟩ (.int .i64 (x*y))).setCell ⟨w.heap.size+1+1,1,none⟩ (.bool false)).setCell ⟨w.heap.size+1+1,2,none⟩ (.slice none 0 0)).cell? ⟨w.heap.size+1+1,i,none⟩:=fun i o1 o2=>by rw[Jk _ _ _ (by simp;omega),Jk _ _ _ (by simp;omega)]
  simp[results,results110,go_sem,e,r0,r1,r2]
end Go.Proofs.YtjjgilacnocigaaGreatDoor.Q
