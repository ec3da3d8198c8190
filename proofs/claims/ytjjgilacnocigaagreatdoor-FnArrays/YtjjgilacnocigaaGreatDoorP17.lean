import Derived.Test.YtjjgilacnocigaaGreatDoorP15
set_option maxRecDepth 100000
set_option maxHeartbeats 1000000
namespace Go.Proofs.YtjjgilacnocigaaGreatDoor
open RowKit
variable {c:UInt8}{i r r' s v:ByteArray}{l:List UInt8}{n:Nat}{x y:Int}
structure SK where
 kind:Int
 width:Nat
def If (c:UInt8):Bool:=c==48||c==49
def bn (b:Nat)(l:List UInt8):Nat:=l.foldl (fun a c=>b*a+(c.toNat - 48)) 0
def bitsP (w:Nat)(l:List UInt8):Prop:=l.take 2=[35,98]/\l.length=w+2/\∀ c∈l.drop 2,If c=true
def C4 (l:List UInt8):Prop:=0<l.length/\l.length<=6/\(∀ c∈l,Q.Ey c=true)/\(l.head? = some 48->l.length=1)
def ownP (l:List UInt8):Prop:=l.head? = some 64/\C4 (l.drop 1)
def trueB:ByteArray:=⟨#[116,114,117,101]⟩
def falseB:ByteArray:=⟨#[102,97,108,115,101]⟩
def I7 (k:SK)(s:ByteArray):Prop:=
 if k.kind=1 then s=trueB∨s=falseB
 else if k.kind=2 then Q.Ow s=true
 else if k.kind=3 then Q.Hr s true
 else if k.kind=4 then bitsP k.width s.data.toList
 else if k.kind=5 then ownP s.data.toList
 else False
def Kg (k:SK)(s:ByteArray):Prop:=s.size<=2000/\I7 k s
def Gm (k:SK):Prop:=k.kind=2∨k.kind=4∨k.kind=5
def key (k:SK)(s:ByteArray):Int:=
 if k.kind=2 then Q.K9 s else if k.kind=4 then (bn 2 (s.data.toList.drop 2):Nat) else if k.kind=5 then (Q.N7 (s.data.toList.drop 1):Nat) else 0
theorem Kz {t:ByteArray}(h:s.data.toList=t.data.toList):s=t:=by
 apply ByteArray.ext;apply Array.ext';exact h
theorem Xb (b:Nat)(l r:List UInt8):bn b (l++r)=bn b l*b ^ r.length+bn b r:=by
 have H:∀ (r:List UInt8) (a:Nat),r.foldl (fun a c=>b*a+(c.toNat - 48)) a=a*b ^ r.length+bn b r:=by
  intro r
  induction r with
  | nil=>intro a;simp[bn]
  | cons c r ih=>
    intro a;have d:=ih (b*a+(c.toNat - 48));have j:=ih (b*0+(c.toNat - 48));unfold bn;rw[Vu,Vu,d,j,J8,Ju]
    grind
 unfold bn;rw[List.foldl_append,H];rfl
def Lq (b:Nat)(c:UInt8):Prop:=48<=c.toNat/\c.toNat<48+b
theorem I3 {b:Nat}:bn b [c]=c.toNat - 48:=by simp[bn]
theorem Pp {b:Nat}:∀ (l:List UInt8),(∀ c∈l,Lq b c)->bn b l<b ^ l.length
 | [],_=>by simp[bn]
 | c::l,h=>by
   have D:=Pp l (fun x hx=>h x (by simp[hx]))
   have d:=h c (by simp)
   rw[show c::l=[c]++l from rfl,Xb,Jq,Vk,Ol 1,Ju,I3]
   have j:=Yc (b ^ l.length) (show c.toNat - 48+1<=b by unfold Lq at d;omega)
   rw[Zq] at j
   rw[Yy (b ^ l.length) b]
   omega
theorem UD {b:Nat}:∀ {l r:List UInt8},(∀ c∈l,Lq b c)->(∀ c∈r,Lq b c)->l.length=r.length->bn b l=bn b r->l=r
 | [],[],_,_,_,_=>rfl
 | [],_::_,_,_,h,_=>by simp at h
 | _::_,[],_,_,h,_=>by simp at h
 | c::l,d::r,hl,hr,hn,h=>by
   rw[show c::l=[c]++l from rfl,show d::r=[d]++r from rfl,Xb,Xb,I3,I3] at h
   have D:l.length=r.length:=by simpa using hn
   have E:=Pp l (fun x hx=>hl x (by simp[hx]))
   have F:=Pp r (fun x hx=>hr x (by simp[hx]))
   have H:=hl c (by simp)
   have I:=hr d (by simp)
   unfold Lq at H I
   rw[D] at h E
   have e:c.toNat - 48=d.toNat - 48/\bn b l=bn b r:=by
    generalize b ^ r.length=P at h E F
    generalize c.toNat - 48=u at h ⊢
    generalize d.toNat - 48=v at h ⊢
    generalize bn b l=x at h E ⊢
    generalize bn b r=y at h F ⊢
    have:u=v:=by
     rcases Nat.lt_trichotomy u v with j|j|j
     ·have:=Yc P (show u+1<=v from j)
      rw[Zq] at this;omega
     ·exact j
     have:=Yc P (show v+1<=u from j)
     rw[Zq] at this;omega
    subst this
    exact⟨rfl,by omega⟩
   have G:c=d:=UInt8.toNat_inj.1 (by omega)
   rw[G,UD (fun x hx=>hl x (by simp[hx])) (fun x hx=>hr x (by simp[hx])) D e.2]
theorem WH {b:Nat}(h:∀ c∈l,Lq b c)(h0:∀ c,l.head? = some c->48<c.toNat)(hl:0<l.length):b ^ (l.length - 1)<=bn b l:=by
 match l,hl with
 | c::r,_=>
   have d:=h0 c rfl;rw[show c::r=[c]++r from rfl,Xb,I3];have j:=Yc (b ^ r.length) (show 1<=c.toNat - 48 by omega);simp only[Yf,Zv,J8,Vm];omega
theorem Xo (l:List UInt8):Q.N7 l=bn 10 l:=by
 unfold Q.N7 bn
 congr 1
 funext a c
 rw[Yy]
theorem dec6_dig (h:C4 l):∀ c∈l,Lq 10 c:=fun c hc=>by
 have:=h.2.2.1 c hc
 unfold Q.Ey at this
 have:=of_decide_eq_true this
 exact⟨this.1,by omega⟩
theorem OS {r:List UInt8}(hl:C4 l)(hr:C4 r)(h:l.length<r.length):Q.N7 l<Q.N7 r:=by
 rw[Xo,Xo];have d:=Pp l (dec6_dig hl);have j:=WH (dec6_dig hr) (fun c hc=>by
  have h3:=dec6_dig hr c (List.mem_of_mem_head? hc)
  by_cases h4:c.toNat=48
  ·have h5:c=48:=UInt8.toNat_inj.1 h4;subst h5;have:=hr.2.2.2 hc;have:=hl.1;omega
  unfold Lq at h3;omega) hr.1
 have h3:10 ^ l.length<=10 ^ (r.length - 1):=J3 (by decide) (by omega);omega
theorem OT {r:List UInt8}(hl:C4 l)(hr:C4 r)(h:Q.N7 l=Q.N7 r):l=r:=by
 have e:l.length=r.length:=by
  rcases Nat.lt_trichotomy l.length r.length with d|d|d
  ·have:=OS hl hr d;omega
  ·exact d
  have:=OS hr hl d;omega
 rw[Xo,Xo] at h;exact UD (dec6_dig hl) (dec6_dig hr) e h
theorem Gf (h:If c=true):Lq 2 c:=by
 unfold If at h;simp only[Ud,Jw] at h
 rcases h with rfl|rfl<;>exact⟨by decide,by decide⟩
theorem Qw {k:SK}{t:ByteArray}(hk:Gm k)(hs:Kg k s)(ht:Kg k t)(h:key k s=key k t):s=t:=by
 obtain⟨_,hs⟩:=hs;obtain⟨_,ht⟩:=ht;unfold I7 at hs ht;unfold key at h
 rcases hk with e|e|e
 ·simp only[e] at h hs ht;exact Q.H9 s t hs ht h
 ·simp only[e] at h hs ht
  replace h:bn 2 (s.data.toList.drop 2)=bn 2 (t.data.toList.drop 2):=Int.ofNat_inj.1 h
  obtain⟨a1,a2,a3⟩:bitsP k.width s.data.toList:=hs;obtain⟨b1,b2,d⟩:bitsP k.width t.data.toList:=ht;have:=UD (fun c hc=>Gf (a3 c hc)) (fun c hc=>Gf (d c hc)) (by rw[Jr,Jr,a2,b2]) h;refine Kz ?_;rw[<-J9 2 s.data.toList,<-J9 2 t.data.toList,a1,b1,this]
 simp only[e] at h hs ht
 replace h:Q.N7 (s.data.toList.drop 1)=Q.N7 (t.data.toList.drop 1):=Int.ofNat_inj.1 h
 obtain⟨a1,a2⟩:ownP s.data.toList:=hs;obtain⟨b1,b2⟩:ownP t.data.toList:=ht;have:=OT a2 b2 h;refine Kz ?_;have H:∀ l:List UInt8,l.head? = some 64->l=64::l.drop 1:=fun l hl=>by
  cases l with
  | nil=>simp at hl
  | cons c r=>simp at hl;subst hl;rfl
 rw[H _ a1,H _ b1,this]
theorem D3 {i:Nat}(h:Q.Nq s (some i)):s.data.toList=(Q.Il s (some i)).data.toList++47::(Q.Hp s (some i)).data.toList:=by
 have j:=h.1;obtain⟨hl,D⟩:=Y8.1 j;unfold Q.Il Q.Hp;simp only[Y6,Zf,Zs,Y9,Nat.sub_zero];have e:s.data.toList=s.data.toList.take i++s.data.toList.drop i:=(J9 i _).symm;rw[Yw hl,D] at e;have d:(s.data.toList.drop (i+1)).take (s.size - (i+1))=s.data.toList.drop (i+1):=Jf (by rw[Jr];exact O1);rw[d];exact e
theorem CE {x' y':Int}(hy:0<y)(hy':0<y')(g:Int.gcd x y=1)(g':Int.gcd x' y'=1)(h:x*y'=x'*y):x=x'/\y=y':=by
 have d:x.natAbs*y'.natAbs=x'.natAbs*y.natAbs:=by rw[<-Oa,<-Oa,h]
 have j:y∣y':=Int.natAbs_dvd_natAbs.1 (Nat.Coprime.dvd_of_dvd_mul_left (m:=x.natAbs) (Nat.Coprime.symm g) ⟨x'.natAbs,by rw[d,Yy]⟩);have D:y'∣y:=Int.natAbs_dvd_natAbs.1 (Nat.Coprime.dvd_of_dvd_mul_left (m:=x'.natAbs) (Nat.Coprime.symm g') ⟨x.natAbs,by rw[<-d,Yy]⟩);have e:y=y':=Int.le_antisymm (Int.le_of_dvd hy' j) (Int.le_of_dvd hy D);subst e;exact⟨U9 (by omega) h,rfl⟩
theorem VU {k:Option Nat}(h:Q.Qx s k x y):Int.gcd x y=1/\0<y:=by
 refine⟨?_,Q.FX h⟩
 cases k with
 | none=>obtain⟨_,_,rfl⟩:=h;exact Int.gcd_one_right ..
 | some i=>obtain⟨_,d,rfl,rfl⟩:=h;exact d.2.2.2.2
theorem BA {t:ByteArray}{k m:Option Nat}{x' y':Int}(hk:Q.Nq s k)(hm:Q.Nq t m)(hs:Q.Qx s k x y)(ht:Q.Qx t m x' y')(h:x*y'=x'*y):s=t:=by
 obtain⟨E,G⟩:=VU hs;obtain⟨F,H⟩:=VU ht;obtain⟨rfl,rfl⟩:=CE G H E F h;have one:∀ q:ByteArray,Q.Ow q=true->Q.K9 q=1->q=Q.Kq [49]:=fun q hq h1=>Q.H9 _ _ hq (by kernel_rfl) (h1.trans Q.Mo.symm)
 cases k with
 | none=>
   obtain⟨a1,a2,a3⟩:=hs
   cases m with
   | none=>obtain⟨b1,b2,d⟩:=ht;exact Q.H9 s t a1 b1 (a2.symm.trans b2)
   | some j=>obtain⟨b1,b2,d,D⟩:=ht;exact absurd (one _ b1.2 (D.symm.trans a3)) b2.2.2.1
 | some i=>
   obtain⟨a1,a2,a3,a4⟩:=hs
   cases m with
   | none=>obtain⟨b1,b2,d⟩:=ht;exact absurd (one _ a1.2 (a4.symm.trans d)) a2.2.2.1
   | some j=>
     obtain⟨b1,b2,d,D⟩:=ht;refine Kz ?_;rw[D3 hk,D3 hm,Q.H9 _ _ a1.1 b1.1 (a3.symm.trans d),Q.H9 _ _ a1.2 b1.2 (a4.symm.trans D)]
abbrev Kd:=ByteArray×ByteArray
def Ie (e:Kd):List UInt8:=59::(e.1.data.toList++61::e.2.data.toList)
def Hu (r:ByteArray)(L:List Kd):List UInt8:=r.data.toList++L.flatMap Ie
def E8 (r:ByteArray)(L:List Kd):List UInt8:=123::(Hu r L++[125])
def Xt (t:List UInt8)(r:ByteArray)(L:List Kd):Prop:=
 t=E8 r L/\(∀ c∈r.data.toList,c≠59)/\∀ e∈L,(∀ c∈e.1.data.toList,c≠59/\c≠61)/\∀ c∈e.2.data.toList,c≠59
theorem Hz {c:UInt8}:∀ {a b:List UInt8} {r s:List UInt8},(∀ x∈a,x≠c)->(∀ x∈b,x≠c)->a++c::r=b++c::s->a=b/\r=s
 | [],[],_,_,_,_,h=>⟨rfl,by simpa using h⟩
 | [],y::b,_,_,_,hb,h=>by simp at h;exact absurd h.1.symm (hb y (by simp))
 | x::a,[],_,_,ha,_,h=>by simp at h;exact absurd h.1 (ha x (by simp))
 | x::a,y::b,r,s,ha,hb,h=>by
   simp only[Yf,List.cons.injEq] at h
   obtain⟨d,j⟩:=Hz (fun z hz=>ha z (by simp[hz])) (fun z hz=>hb z (by simp[hz])) h.2
   exact⟨by rw[h.1,d],j⟩
theorem GH:∀ {L M:List Kd}{r q:ByteArray},(∀ c∈r.data.toList,c≠59)->(∀ c∈q.data.toList,c≠59)->(∀ e∈L,(∀ c∈e.1.data.toList,c≠59/\c≠61)/\∀ c∈e.2.data.toList,c≠59)->(∀ e∈M,(∀ c∈e.1.data.toList,c≠59/\c≠61)/\∀ c∈e.2.data.toList,c≠59)->Hu r L=Hu q M->r=q/\L=M
 | [],[],r,q,_,_,_,_,h=>⟨Kz (by simpa[Hu] using h),rfl⟩
 | [],e::M,r,q,hr,_,_,_,h=>by
   unfold Hu at h
   simp only[List.flatMap_nil,Z3,V6,Ie] at h
   exact absurd rfl (hr 59 (by rw[h];simp))
 | e::L,[],r,q,_,hq,_,_,h=>by
   unfold Hu at h
   simp only[List.flatMap_nil,Z3,V6,Ie] at h
   exact absurd rfl (hq 59 (by rw[<-h];simp))
 | e::L,f::M,r,q,hr,hq,hL,hM,h=>by
   unfold Hu at h
   simp only[V6,Ie,Yf] at h
   obtain⟨j,d⟩:=Hz hr hq h
   obtain⟨a1,a2⟩:=hL e (by simp)
   obtain⟨b1,b2⟩:=hM f (by simp)
   rw[Yo,Yo,Yf,Yf] at d
   obtain⟨D,E⟩:=Hz (fun x hx=>(a1 x hx).2) (fun x hx=>(b1 x hx).2) d
   obtain⟨F,G⟩:=GH (r:=e.2) (q:=f.2) a2 b2 (fun x hx=>hL x (by simp[hx])) (fun x hx=>hM x (by simp[hx])) E
   exact⟨Kz j,by rw[G,show e=f from Prod.ext (Kz D) F]⟩
theorem Xt.inj {t:List UInt8}{q:ByteArray}{L M:List Kd}(h:Xt t r L)(k:Xt t q M):r=q/\L=M:=by
 have e:=h.1.symm.trans k.1;unfold E8 at e;simp only[List.cons.injEq,true_and] at e;exact GH h.2.1 k.2.1 h.2.2 k.2.2 (List.append_cancel_right e)
def E7 (k:SK)(s:ByteArray):Prop:=k.kind=4/\key k s=0
structure GoodA (ki ke:SK)(r:ByteArray)(L:List Kd):Prop where
 rest:Kg ke r
 most:L.length<=60
 ents:∀ e∈L,Kg ki e.1/\Kg ke e.2/\e.2≠r/\¬ E7 ki e.1
 sort:L.Pairwise fun e f=>key ki e.1<key ki f.1
def K1 (ki ke:SK)(t:ByteArray)(r:ByteArray)(L:List Kd):Prop:=t.data.toList=E8 r L/\t.size<=2000/\GoodA ki ke r L
theorem UZ:(∀ c∈trueB.data.toList,c≠59/\c≠61)/\∀ c∈falseB.data.toList,c≠59/\c≠61:=by decide
theorem TN (h:Q.Ey c=true):c≠59/\c≠61:=by
 unfold Q.Ey at h;have:=of_decide_eq_true h;constructor<;>(rintro rfl;revert this;decide)
theorem T3 (h:Q.Ow s=true):∀ c∈s.data.toList,c≠59/\c≠61:=by
 intro c hc;obtain⟨F,_,_⟩:=Q.G1 s h;have H:∀ c∈(Q.dgs s).data.toList,c≠59/\c≠61:=fun c hc=>by
  have:=F c hc;unfold Q.D5 at this;constructor<;>(rintro rfl;revert this;decide)
 by_cases hn:Q.Ki s=true
 ·obtain⟨d,j⟩:=Q.I0 s hn;rw[Q.Xg s hn] at H;have e:s.data.toList=s[0]::(s.extract 1 s.size).data.toList:=by
   simp only[Y6,Zf,Zs];have h3:0<s.data.toList.length:=d;have D:(s.data.toList.drop 1).take (s.size - 1)=s.data.toList.drop 1:=Jf (by rw[Jr];exact O1);rw[D]
   match hm:s.data.toList,h3 with
   | x::r,_=>
     have:s[0]=x:=by
      show s.data[0]=x
      have:=Array.getElem_toList (xs:=s.data) (i:=0) (h:=d);rw[<-this];simp only[hm,J0]
     rw[this];rfl
  rw[e] at hc
  rcases Yn.1 hc with rfl|hc
  ·constructor<;>(intro E;rw[E] at j;revert j;decide)
  exact H c hc
 rw[Q.Xh s (by simpa using hn)] at H;exact H c hc
theorem Gt {k:SK}(h:Kg k s):∀ c∈s.data.toList,c≠59/\c≠61:=by
 obtain⟨_,h⟩:=h;unfold I7 at h
 split at h
 ·rcases h with rfl|rfl
  ·exact UZ.1
  exact UZ.2
 split at h
 ·exact T3 h
 split at h
 ·obtain⟨m,hm,j⟩:=h;obtain⟨x,y,d⟩:=j.1 rfl
  cases m with
  | none=>exact T3 d.1
  | some i=>
    obtain⟨a,_⟩:=d;rw[D3 hm];intro c hc
    rcases J5.1 hc with hc|hc
    ·exact T3 a.1 c hc
    rcases Yn.1 hc with rfl|hc
    ·decide
    exact T3 a.2 c hc
 split at h
 ·obtain⟨a1,a2,a3⟩:=h;rw[<-J9 2 s.data.toList,a1];intro c hc
  rcases J5.1 hc with hc|hc
  ·exact (show ∀ c∈([35,98]:List UInt8),c≠59/\c≠61 by decide) c hc
  have:=a3 c hc;unfold If at this;simp only[Ud,Jw] at this
  rcases this with rfl|rfl<;>decide
 split at h
 ·obtain⟨a1,a2⟩:=h;intro c hc
  match hl:s.data.toList,a1,hc with
  | x::r,a1,hc=>
    simp only[List.head?_cons,Option.some.injEq] at a1;subst a1;rw[hl] at a2
    rcases Yn.1 hc with rfl|hc
    ·decide
    exact TN (a2.2.2.1 c hc)
 exact h.elim
theorem GoodA.cut {ki ke:SK}{L:List Kd}(h:GoodA ki ke r L):Xt (E8 r L) r L:=
 ⟨rfl,fun c hc=>(Gt h.rest c hc).1,fun e he=>⟨Gt (h.ents e he).1,fun c hc=>(Gt (h.ents e he).2.1 c hc).1⟩⟩
theorem K1.cut {ki ke:SK}{t:ByteArray}{L:List Kd}(h:K1 ki ke t r L):Xt t.data.toList r L:=by rw[h.1];exact h.2.2.cut
theorem K1.inj {ki ke:SK}{t q:ByteArray}{L M:List Kd}(h:K1 ki ke t r L)(k:K1 ki ke t q M):r=q/\L=M:=h.cut.inj k.cut
def K2 (r:ByteArray):List Kd->ByteArray->ByteArray
 | [],_=>r
 | e::L,i=>if e.1=i then e.2 else K2 r L i
structure SrtA (ki ke:SK)(r:ByteArray)(L:List Kd):Prop where
 ents:∀ e∈L,Kg ki e.1/\Kg ke e.2/\e.2≠r/\¬ E7 ki e.1
 sort:L.Pairwise fun e f=>key ki e.1<key ki f.1
theorem GoodA.srt {ki ke:SK}{L:List Kd}(h:GoodA ki ke r L):SrtA ki ke r L:=⟨h.ents,h.sort⟩
theorem SrtA.tail {ki ke:SK}{e:Kd}{L:List Kd}(h:SrtA ki ke r (e::L)):SrtA ki ke r L:=⟨fun x hx=>h.ents x (by simp[hx]),(Ux.1 h.sort).2⟩
theorem H8 {r:ByteArray}:∀ {L:List Kd} {i:ByteArray},(∀ e∈L,e.1≠i)->K2 r L i=r
 | [],_,_=>rfl
 | e::L,i,h=>by
   unfold K2
   rw[if_neg (h e (by simp)),H8 (fun x hx=>h x (by simp[hx]))]
theorem T7 {r:ByteArray}:∀ {L:List Kd} {i:ByteArray},K2 r L i≠r->(i,K2 r L i)∈L
 | [],_,h=>absurd rfl h
 | e::L,i,h=>by
   unfold K2 at h ⊢
   by_cases d:e.1=i
   ·rw[if_pos d] at h ⊢;subst d;simp
   rw[if_neg d] at h ⊢;exact List.mem_cons_of_mem _ (T7 h)
theorem Qu {r:ByteArray}:∀ {A B:List Kd} {i:ByteArray},(∀ e∈A,e.1≠i)->K2 r (A++B) i=K2 r B i
 | [],_,_,_=>rfl
 | e::A,B,i,h=>by
   rw[Yf]
   unfold K2
   rw[if_neg (h e (by simp)),Qu (fun x hx=>h x (by simp[hx]))]
   cases B<;>rfl
theorem Bm {ki ke:SK}{r:ByteArray}:∀ {L:List Kd} (_:SrtA ki ke r L) {e:Kd},e∈L->K2 r L e.1=e.2
 | f::L,h,e,he=>by
   unfold K2
   rcases Yn.1 he with rfl|he
   ·rw[if_pos rfl]
   have d:=(Ux.1 h.sort).1 e he
   rw[if_neg (fun e2=>by rw[e2] at d;omega)]
   exact Bm h.tail he
theorem ZQ {ki ke:SK}{L:List Kd}(h:SrtA ki ke r L)(hr:Kg ke r)(i:ByteArray):Kg ke (K2 r L i):=by
 by_cases e:K2 r L i=r
 ·rw[e];exact hr
 exact (h.ents _ (T7 e)).2.1
theorem YN {ki ke:SK}:∀ {L M:List Kd},SrtA ki ke r L->SrtA ki ke r M->(∀ i,Kg ki i->K2 r L i=K2 r M i)->L=M:=by
 have H:∀ {L M:List Kd} {e:Kd},SrtA ki ke r L->SrtA ki ke r M->(∀ i,Kg ki i->K2 r L i=K2 r M i)->e∈L->e∈M:=by
  intro L M e d D h F;have j:=d.ents e F;have E:=Bm d F;rw[h _ j.1] at E;have h3:=T7 (L:=M) (i:=e.1) (r:=r) (by rw[E];exact j.2.2.1);rw[E] at h3;exact h3
 intro L
 induction L with
 | nil=>
   intro M d D h
   match M with
   | []=>rfl
   | f::M=>exact absurd (H D d (fun i hi=>(h i hi).symm) (e:=f) (by simp)) (by simp)
 | cons e L ih=>
   intro M d D h
   match M with
   | []=>exact absurd (H d D h (e:=e) (by simp)) (by simp)
   | f::M=>
     have F:=H d D h (e:=e) (by simp);have K:=H D d (fun i hi=>(h i hi).symm) (e:=f) (by simp);have I:e=f:=by
      rcases Yn.1 F with j|j
      ·exact j
      rcases Yn.1 K with E|E
      ·exact E.symm
      have a:=(Ux.1 D.sort).1 e j;have b:=(Ux.1 d.sort).1 f E;omega
     subst I;have J:L=M:=ih d.tail D.tail fun i hi=>by
      have j:=h i hi
      by_cases G:e.1=i
      ·subst G;have o:∀ {N:List Kd},SrtA ki ke r (e::N)->K2 r N e.1=r:=fun hN=>H8 fun x hx e4=>by
        have:=(Ux.1 hN.sort).1 x hx;rw[e4] at this;omega
       rw[o d,o D]
      unfold K2 at j;rw[if_neg G,if_neg G] at j;exact j
     rw[J]
structure PartA (ki:SK)(L:List Kd)(i:ByteArray)(A m B:List Kd):Prop where
 eq:L=A++m++B
 low:∀ e∈A,key ki e.1<key ki i
 mid:m=[]∨∃ x,m=[(i,x)]
 high:∀ e∈B,key ki i<key ki e.1
def newE (r i v:ByteArray):List Kd:=if v=r then [] else [(i,v)]
theorem PartA.srt {ki ke:SK}{L A m B:List Kd}(h:PartA ki L i A m B)(hL:SrtA ki ke r L)(hi:Kg ki i)(hv:Kg ke v)(hz:¬ E7 ki i):SrtA ki ke r (A++newE r i v++B):=by
 have D:=hL.sort;have E:=hL.ents;rw[h.eq] at D E;rw[V4,V4] at D;constructor
 ·intro e d
  rcases J5.1 d with d|d
  ·rcases J5.1 d with d|d
   ·exact E e (by simp[d])
   unfold newE at d
   split at d
   ·cases d
   rename_i hn
   rcases Ye.1 d with rfl
   exact⟨hi,hv,hn,hz⟩
  exact E e (by simp[d])
 rw[V4,V4];refine⟨⟨D.1.1,?_,?_⟩,D.2.1,?_⟩
 ·unfold newE;split<;>simp
 ·intro a ha b j;unfold newE at j
  split at j
  ·cases j
  rcases Ye.1 j with rfl
  exact h.low a ha
 intro a ha b j
 rcases J5.1 ha with ha|ha
 ·exact D.2.2 a (by simp[ha]) b j
 unfold newE at ha
 split at ha
 ·cases ha
 rcases Ye.1 ha with rfl
 exact h.high b j
theorem PartA.same {ki:SK}{L A m B:List Kd}(h:PartA ki L i A m B):K2 r (A++newE r i v++B) i=v:=by
 rw[Yo,Qu (fun e he e2=>by have:=h.low e he;rw[e2] at this;omega)];unfold newE
 split
 ·rename_i hv;rw[Zv,H8 (fun e he e2=>by have:=h.high e he;rw[e2] at this;omega),hv]
 show (if i=i then v else _)=v
 rw[if_pos rfl]
theorem Bb {r:ByteArray}:∀ {A B C:List Kd} {i:ByteArray},K2 r B i=K2 r C i->K2 r (A++B) i=K2 r (A++C) i
 | [],_,_,_,h=>h
 | e::A,B,C,i,h=>by
   rw[Yf,Yf]
   unfold K2
   rw[Bb (A:=A) h]
theorem PartA.other {ki:SK}{j:ByteArray}{L A m B:List Kd}(h:PartA ki L i A m B)(hj:j≠i):K2 r (A++newE r i v++B) j=K2 r L j:=by
 rw[h.eq,Yo,Yo];refine Bb ?_;have o:∀ m:List Kd,(m=[]∨∃ x,m=[(i,x)])->K2 r (m++B) j=K2 r B j:=by
  intro m hm
  rcases hm with rfl|⟨x,rfl⟩
  ·rfl
  exact Qu (fun e he e2=>by rcases Ye.1 he with rfl;exact hj e2.symm)
 rw[o m h.mid,o (newE r i v) (by unfold newE;split;exact .inl rfl;exact .inr ⟨v,rfl⟩)]
def Gk (n k:Nat):UInt8:=UInt8.ofNat (48+n / 2 ^ k % 2)
def digits2 (n:Nat):Nat->List UInt8
 | 0=>[]
 | w+1=>Gk n w::digits2 n w
def Ny (w n:Nat):ByteArray:=Q.Kq (35::98::digits2 n w)
theorem K5 (n:Nat):∀ w,(digits2 n w).length=w
 | 0=>rfl
 | w+1=>by simp[digits2,K5 n w]
theorem Qp (n k:Nat):(Gk n k).toNat=48+n / 2 ^ k % 2:=by
 unfold Gk;rw[UInt8.toNat_ofNat'];have:n / 2 ^ k % 2<2:=Zy _ (by decide);omega
theorem KO (n k:Nat):If (Gk n k)=true:=by
 unfold If Gk;have:n / 2 ^ k % 2=0∨n / 2 ^ k % 2=1:=by omega
 rcases this with e|e<;>rw[e]<;>rfl
theorem Fj (n:Nat):∀ w,∀ c∈digits2 n w,If c=true
 | 0,c,h=>by simp[digits2] at h
 | w+1,c,h=>by
   rcases Yn.1 h with rfl|h
   ·exact KO n w
   exact Fj n w c h
theorem F0 (n:Nat):∀ w,bn 2 (digits2 n w)=n % 2 ^ w
 | 0=>by simp[digits2,bn,Nat.mod_one]
 | w+1=>by
   show bn 2 ([Gk n w]++digits2 n w)=_
   rw[Xb,I3,K5,F0 n w,Qp,Nat.add_sub_cancel_left,Ju,Nat.mod_mul]
   rw[Yy,Ol]
theorem GW (w n:Nat):bitsP w (Ny w n).data.toList:=by
 refine⟨rfl,?_,Fj n w⟩
 show (35::98::digits2 n w).length=w+2
 simp[K5]
theorem Gc {k:SK}(hk:k.kind=4)(hn:n<2 ^ k.width):key k (Ny k.width n)=n:=by
 unfold key;rw[if_neg (by omega),if_pos hk]
 show ((bn 2 (digits2 n k.width):Nat):Int)=n
 rw[F0,Nat.mod_eq_of_lt hn]
theorem Mx {k:SK}(hk:k.kind=4)(hw:k.width<=64):Kg k (Ny k.width n):=by
 refine⟨?_,?_⟩
 ·unfold Ny;rw[Q.Kf];simp[K5];omega
 unfold I7;rw[hk];exact GW k.width n
theorem Bh {k:SK}(hk:k.kind=4)(h:Kg k s):∃ n:Nat,key k s=n/\n<2 ^ k.width:=by
 obtain⟨_,h⟩:=h;unfold I7 at h;simp only[hk] at h;obtain⟨j,d,h3⟩:bitsP k.width s.data.toList:=h;refine⟨bn 2 (s.data.toList.drop 2),?_,?_⟩
 ·unfold key;rw[if_neg (by omega),if_pos hk]
 have:=Pp _ (fun c hc=>Gf (h3 c hc));rw[Jr,d] at this;exact this
theorem Df {k:SK}(hk:k.kind=4)(hw:k.width<=64)(h:Kg k s)(hn:key k s=n):s=Ny k.width n:=by
 obtain⟨m,d,j⟩:=Bh hk h;have e:m=n:=by omega
 subst e;exact Qw (.inr (.inl hk)) h (Mx hk hw) (d.trans (Gc hk j).symm)
def Km (w:Nat)(r:ByteArray)(L:List Kd)(v:ByteArray):Nat->List Kd
 | 0=>[]
 | n+1=>Km w r L v n++if n=0∨K2 r L (Ny w n)=v then [] else [(Ny w n,K2 r L (Ny w n))]
theorem R3 {w:Nat}{r v:ByteArray}{L:List Kd}:∀ {N:Nat} {e:Kd},e∈Km w r L v N↔∃ n,0<n/\n<N/\K2 r L (Ny w n)≠v/\e=(Ny w n,K2 r L (Ny w n))
 | 0,e=>by simp[Km]
 | N+1,e=>by
   unfold Km
   rw[J5,R3]
   constructor
   ·rintro (⟨n,a,b,c,d⟩|h)
    ·exact⟨n,a,by omega,c,d⟩
    split at h
    ·cases h
    rename_i hn
    rcases Ye.1 h with rfl
    exact⟨N,by omega,by omega,fun e=>hn (.inr e),rfl⟩
   rintro⟨n,a,b,c,d⟩
   by_cases j:n=N
   ·subst j
    rw[if_neg (by rintro (h|h);omega;exact c h)]
    exact .inr (by simp[d])
   exact .inl ⟨n,a,by omega,c,d⟩
theorem R4 {ki ke:SK}{r v:ByteArray}{L:List Kd}(hk:ki.kind=4)(hw:ki.width<=64)(h:SrtA ki ke r L)(hr:Kg ke r):∀ {N:Nat},N<=2 ^ ki.width->SrtA ki ke v (Km ki.width r L v N)
 | 0,_=>⟨fun _ he=>by simp[Km] at he,by simp[Km]⟩
 | N+1,hN=>by
   have D:=R4 hk hw h hr (v:=v) (N:=N) (by omega)
   have j:∀ n,n<N->key ki (Ny ki.width n)=n:=fun n hn=>Gc hk (by omega)
   constructor
   ·intro e he
    obtain⟨n,a,b,c,rfl⟩:=R3.1 he
    refine⟨Mx hk hw,ZQ h hr _,c,fun hz=>?_⟩
    have:=hz.2
    rw[Gc hk (by omega)] at this
    omega
   unfold Km
   rw[V4]
   refine⟨D.sort,?_,?_⟩
   ·split<;>simp
   intro a ha b d
   obtain⟨n,a1,a2,a3,rfl⟩:=R3.1 ha
   split at d
   ·cases d
   rcases Ye.1 d with rfl
   show key ki (Ny ki.width n)<key ki (Ny ki.width N)
   rw[Gc hk (by omega),Gc hk (by omega)]
   omega
theorem RA {ki ke:SK}{L:List Kd}(hk:ki.kind=4)(hw:ki.width<=64)(h:SrtA ki ke r L)(hr:Kg ke r)(hi:Kg ki i)(hz:¬ E7 ki i):K2 v (Km ki.width r L v (2 ^ ki.width)) i=K2 r L i:=by
 have E:=R4 (v:=v) hk hw h hr O1;obtain⟨n,d,D⟩:=Bh hk hi;have h3:=Df hk hw hi d;have j:0<n:=by
  rcases Zx n with e|e
  ·exact absurd ⟨hk,by rw[d,e];rfl⟩ hz
  exact e
 by_cases e:K2 r L i=v
 ·rw[e];refine H8 fun x hx e2=>?_;obtain⟨m,a1,a2,a3,rfl⟩:=R3.1 hx;exact a3 (by rw[show Ny ki.width m=i from e2];exact e)
 have:=Bm E (R3.2 ⟨n,j,D,by rw[<-h3];exact e,rfl⟩);rw[<-h3] at this;exact this
theorem Fd {ki ke:SK}{L:List Kd}(h:SrtA ki ke r L)(hz:E7 ki i):K2 r L i=r:=
 H8 fun e he e2=>(h.ents e he).2.2.2 (by rw[e2];exact hz)
def PN (ki:SK)(r:ByteArray)(L:List Kd)(i v r':ByteArray)(L':List Kd):Prop:=
 (E7 ki i/\v=r/\r'=r/\L'=L)∨(E7 ki i/\v≠r/\r'=v/\L'=Km ki.width r L v (2 ^ ki.width))∨(¬ E7 ki i/\r'=r/\∃ A m B,PartA ki L i A m B/\L'=A++newE r i v++B)
structure PutR (ki ke:SK)(r:ByteArray)(L:List Kd)(i v r':ByteArray)(L':List Kd):Prop where
 srt:SrtA ki ke r' L'
 rest:Kg ke r'
 same:K2 r' L' i=v
 other:∀ j,Kg ki j->j≠i->K2 r' L' j=K2 r L j
 zero:E7 ki i->r'=v
 away:¬ E7 ki i->r'=r
theorem PN.ok {ki ke:SK}{L L':List Kd}(h:PN ki r L i v r' L')(hw:ki.width<=64)(hL:SrtA ki ke r L)(hr:Kg ke r)(hi:Kg ki i)(hv:Kg ke v):PutR ki ke r L i v r' L':=by
 rcases h with⟨d,rfl,rfl,rfl⟩|⟨d,hn,rfl,rfl⟩|⟨d,rfl,A,m,B,D,rfl⟩
 ·exact⟨hL,hr,Fd hL d,fun _ _ _=>rfl,fun _=>rfl,fun h=>absurd d h⟩
 ·refine⟨R4 d.1 hw hL hr O1,hv,?_,fun j hj hji=>RA d.1 hw hL hr hj ?_,fun _=>rfl,fun h=>absurd d h⟩
  ·exact Fd (R4 d.1 hw hL hr O1) d
  intro E;exact hji (Qw (.inr (.inl d.1)) hj hi (E.2.trans d.2.symm))
 exact⟨D.srt hL hi hv d,hr,D.same,fun j _ hji=>D.other hji,fun h=>absurd h d,fun _=>rfl⟩
theorem PutR.back {ki ke:SK}{r'':ByteArray}{L L' L'':List Kd}(hL:SrtA ki ke r L)(h:PutR ki ke r L i v r' L')(k:PutR ki ke r' L' i (K2 r L i) r'' L''):r''=r/\L''=L:=by
 have e:r''=r:=by
  by_cases D:E7 ki i
  ·rw[k.zero D];exact Fd hL D
  rw[k.away D,h.away D]
 subst e;refine⟨rfl,YN k.srt hL fun j hj=>?_⟩
 by_cases d:j=i
 ·subst d;exact k.same
 rw[k.other j hj d,h.other j hj d]
theorem PutR.inj {ki ke:SK}{r'':ByteArray}{L L' L'':List Kd}(hi:Kg ki i)(h:PutR ki ke r L i v r' L')(k:PutR ki ke r L i v r'' L''):r'=r''/\L'=L'':=by
 have e:r'=r'':=by
  by_cases D:E7 ki i
  ·rw[h.zero D,k.zero D]
  rw[h.away D,k.away D]
 subst e;refine⟨rfl,YN h.srt k.srt fun j hj=>?_⟩
 by_cases d:j=i
 ·subst d;rw[h.same,k.same]
 rw[h.other j hj d,k.other j hj d]
end Go.Proofs.YtjjgilacnocigaaGreatDoor
namespace Go.Proofs.YtjjgilacnocigaaGreatDoor
open ChangeShapes WideShapes ChangeAt RowKit
variable {i l:List UInt8}
def Eg (p:UInt8->Bool):List UInt8->Nat
 | []=>0
 | c::r=>if p c then Eg p r+1 else 0
theorem BT (p:UInt8->Bool)(l:List UInt8):Eg p l<=l.length:=by
 induction l with
 | nil=>exact O1
 | cons c r ih=>unfold Eg;split<;>simp<;>omega
theorem Ao {p:UInt8->Bool}(h:l.all p=true):Eg p l=l.length:=by
 induction l with
 | nil=>rfl
 | cons c r ih=>
   simp only[List.all_cons,Yd] at h;unfold Eg;rw[if_pos h.1,ih h.2];rfl
theorem VQ {p:UInt8->Bool}(h:Eg p l=l.length):l.all p=true:=by
 induction l with
 | nil=>rfl
 | cons c r ih=>
   unfold Eg at h
   split at h
   ·rename_i hc;simp only[J8,Nat.add_right_cancel_iff] at h;simp[hc,ih h]
   simp at h
theorem VR {p:UInt8->Bool}:Eg p l=l.length↔l.all p=true:=⟨VQ,Ao⟩
theorem Wg {p:UInt8->Bool}:∀ {l:List UInt8} {i:Nat},i<=l.length->(∀ j (h:j<l.length),j<i->p l[j]=true)->(∀ h:i<l.length,p l[i]=false)->Eg p l=i
 | [],i,hi,_,_=>by simp at hi;subst hi;rfl
 | c::r,0,_,_,h=>by
   have:=h (by simp)
   unfold Eg;rw[if_neg (by simpa using this)]
 | c::r,i+1,hi,ha,h=>by
   have d:=ha 0 (by simp) (by omega)
   simp only[J0] at d
   unfold Eg;rw[if_pos d,Wg (l:=r) (i:=i) (by simpa using hi) (fun j hj hji=>?_) (fun hj=>?_)]
   ·have:=ha (j+1) (by simpa using hj) (by omega)
    simpa using this
   have:=h (by simpa using hj)
   simpa using this
def dg (c:UInt8):Bool:=decide (48<=c.toNat)&&decide (c.toNat<=57)
def JL (c:UInt8):Bool:=decide (c.toNat=48)||decide (c.toNat=49)
def FA (c:UInt8):Bool:=decide (32<=c.toNat)&&decide (c.toNat<=126)
def JN (c:UInt8):Bool:=FA c||decide (c.toNat=10)
def Id (c:UInt8):Bool:=FA c&&!decide (c.toNat=124)&&!decide (c.toNat=92)
def Hq:List UInt8:=[43,45,42,47,61,37,63,33,46,36,95,126,38,94,60,62,64]
def Nn (c:UInt8):Bool:=(decide (97<=c.toNat)&&decide (c.toNat<=122))||(decide (65<=c.toNat)&&decide (c.toNat<=90))||dg c||Hq.contains c
def JA:List UInt8->List UInt8
 | []=>[]
 | c::r=>if c=34 then 34::34::JA r else c::JA r
def AC (dec:Bool)(t:List UInt8):Bool:=
 let k:=Eg dg t
 decide (0<k)&&!(decide (1<k)&&decide (t.head? = some 48)) &&
 (let m:=match t.drop k with|c::r=>if c=46 then Eg dg r else 0|[]=>0
  if dec then decide (0<m)&&decide (k+1+m=t.length) else decide (m=0)&&decide (k=t.length))
def WZ (kind:Int)(t:List UInt8):Bool:=
 if kind=1 then t.isEmpty
 else if kind=2 then t.all Id
 else if kind=3 then AC false t
 else if kind=4 then AC true t
 else if kind=5 then !t.isEmpty&&t.all JL
 else if kind=6 then t.all JN
 else if kind=7 then !t.isEmpty&&t.all Nn
 else false
structure Nd where
 kind:Int
 text:ByteArray
 kids:Int
def Nd.t (n:Nd):List UInt8:=n.text.data.toList
def K6 (t:List UInt8):Bool:=!t.isEmpty&&!(t.head?.any dg)&&t.all Nn
def Kj (kind:Int)(t:List UInt8):List UInt8:=
 if kind=1 then [40]
 else if kind=2 then (if K6 t then t else 124::(t++[124]))
 else if kind=3∨kind=4 then t
 else if kind=5 then 35::98::t
 else if kind=6 then 34::(JA t++[34])
 else if kind=7 then 58::t
 else []
def WP:List Int->List Int
 | []=>[]
 | a::r=>(a - 1)::r
def JY (n:Nd)(l:List Int):List Int:=if n.kind=1 then n.kids::WP l else WP l
def JO:List Int->List Int
 | []=>[]
 | a::r=>if a=0 then JO r else a::r
def JU (n:Nd)(l:List Int):List Int:=JO (JY n l)
def TP (n:Nd):Bool:=decide (0<=n.kids)&&(decide (n.kind=1)||decide (n.kids=0))&&WZ n.kind n.t
def WD:List Nd->Nat->List Int->Bool
 | [],_,l=>l.isEmpty
 | n::r,z,l=>if 20000<z+n.text.size∨TP n=false∨(n.kind=1/\l.length=200) then false else WD r (z+n.text.size) (JU n l)
def fits (ns:List Nd):Bool:=decide (ns.length<=8000)&&WD ns 0 []
def Nx (l:List UInt8):Bool:=decide (0<l.length)&&decide (l.length<=60)&&l.all Id
def G3:List (List UInt8):=[[66,111,111,108],[73,110,116],[82,101,97,108],[66,105,116,86,101,99],[65,114,114,97,121],[95],[108,101,116],[97,115],[116,114,117,101],[102,97,108,115,101],[110,111,116],[97,110,100],[111,114],[120,111,114],[61,62],[105,116,101],[61],[100,105,115,116,105,110,99,116],[43],[45],[42],[47],[60,61],[60],[62,61],[62],[100,105,118],[109,111,100],[116,111,95,114,101,97,108],[115,101,108,101,99,116],[115,116,111,114,101],[99,111,110,99,97,116],[101,120,116,114,97,99,116],[122,101,114,111,95,101,120,116,101,110,100],[115,105,103,110,95,101,120,116,101,110,100],[114,111,116,97,116,101,95,108,101,102,116],[114,111,116,97,116,101,95,114,105,103,104,116],[114,101,112,101,97,116]]
def WI (l:List UInt8):Bool:=decide (l.take 2=[98,118])
def R0 (l:List UInt8):Bool:=WI l||G3.contains l
def Pm (l:List UInt8):Bool:=Nx l&&!R0 l
structure SI where
 kind:Int
 width:Nat
 index:List UInt8
 elem:List UInt8
def SI.none:SI:=⟨0,0,[],[]⟩
def He:List UInt8:=[66,111,111,108]
def Rj:List UInt8:=[73,110,116]
def Xv:List UInt8:=[82,101,97,108]
def A7:List UInt8:=[40,95,32,66,105,116,86,101,99,32]
def E4:List UInt8:=[40,65,114,114,97,121,32]
def Al (w:Nat):List UInt8:=if w<10 then [UInt8.ofNat (48+w)] else [UInt8.ofNat (48+w / 10),UInt8.ofNat (48+w % 10)]
def Gz (w:Nat):List UInt8:=A7++Al w++[41]
def N2 (t:List UInt8):Nat:=((List.range 65).find? (fun w=>decide (0<w)&&decide (Gz w=t))).getD 0
def N6 (t:List UInt8):Option (List UInt8):=
 if K6 t then some t
 else match t with
  | 124::r=>if r.getLast? = some 124/\K6 r.dropLast=false then some r.dropLast else none
  | _=>none
def O3 (own:List UInt8->Bool)(t:List UInt8):SI:=
 if t=He then ⟨1,0,[],[]⟩
 else if t=Rj then ⟨2,0,[],[]⟩
 else if t=Xv then ⟨3,0,[],[]⟩
 else if 0<N2 t then ⟨4,N2 t,[],[]⟩
 else match N6 t with
  | some n=>if Nx n&&own n then ⟨5,0,[],[]⟩ else SI.none
  | none=>SI.none
def Ka (s:SI):Bool:=decide (2<=s.kind)&&decide (s.kind<=5)
def Er (t:List UInt8):Nat:=
 match t with
 | 124::r=>if Eg (· != 124) r<r.length then Eg (· != 124) r+2 else 1
 | 40::_=>if Eg (· != 41) t<t.length then Eg (· != 41) t+1 else 0
 | _=>if Eg (· != 32) t<t.length then Eg (· != 32) t else 0
def Ks (own:List UInt8->Bool)(t:List UInt8):SI:=
 if t.take 7=E4 then
  let both:=t.drop 7
  let i:=both.take (Er both)
  let r:=both.drop (Er both)
  if r.head? = some 32/\2<=r.length/\r.getLast? = some 41 then
   let e:=(r.drop 1).dropLast
   if Ka (O3 own i)&&Ka (O3 own e) then ⟨6,0,i,e⟩ else SI.none
  else SI.none
 else O3 own t
theorem X4 {p:UInt8->Bool}(h:∀ n:Fin 256,p (UInt8.ofNat n.val)=true)(c:UInt8):p c=true:=by
 have e:UInt8.ofNat c.toNat=c:=by simp
 have:=h ⟨c.toNat,c.toNat_lt⟩
 simpa[e] using this
theorem QV {c:UInt8}(h:Nn c=true):c≠32/\c≠41/\c≠40/\c≠124:=by
 have k:=X4 (p:=fun c=>!Nn c||(decide (c≠32)&&decide (c≠41)&&decide (c≠40)&&decide (c≠124))) (by decide +kernel) c;simp only[h,Bool.not_true,Bool.false_or,Yd,Y7] at k;exact⟨k.1.1.1,k.1.1.2,k.1.2,k.2⟩
theorem ON {c:UInt8}(h:Id c=true):c≠124:=by
 have k:=X4 (p:=fun c=>!Id c||decide (c≠124)) (by decide +kernel) c
 simpa[h] using k
theorem Hm {p:UInt8->Bool}:∀ {l:List UInt8} {c:UInt8} {r:List UInt8},(∀ x∈l,p x=true)->p c=false->Eg p (l++c::r)=l.length
 | [],c,r,_,hc=>by simp[Eg,hc]
 | x::l,c,r,h,hc=>by
   have d:=h x (by simp)
   have j:=Hm (l:=l) (r:=r) (fun y hy=>h y (by simp[hy])) hc
   simp[Eg,d,j]
def Dr (t:List UInt8):Prop:=(t≠[]/\∀ c∈t,c≠32/\c≠41/\c≠40/\c≠124)∨(∃ n,t=124::(n++[124])/\∀ c∈n,c≠124)∨∃ m,t=40::(m++[41])/\∀ c∈m,c≠41/\c≠124
theorem Dr.word {t:List UInt8}(h:t≠[])(h1:∀ c∈t,c≠32/\c≠41/\c≠40/\c≠124):Dr t:=.inl ⟨h,h1⟩
theorem Dr.bars {n:List UInt8}(h:∀ c∈n,c≠124):Dr (124::(n++[124])):=.inr (.inl ⟨n,rfl,h⟩)
theorem Dr.list {m:List UInt8}(h:∀ c∈m,c≠41/\c≠124):Dr (40::(m++[41])):=.inr (.inr ⟨m,rfl,h⟩)
theorem Qg {t:List UInt8}(h:0<N2 t):∃ w,0<w/\w<65/\t=Gz w/\N2 t=w:=by
 unfold N2 at h ⊢
 cases j:(List.range 65).find? (fun w=>decide (0<w)&&decide (Gz w=t)) with
 | none=>rw[j] at h;simp at h
 | some w=>
   have d:=List.find?_some j;have D:=List.mem_of_find?_eq_some j;simp only[Yd,Y7] at d;exact⟨w,d.1,by simpa using D,d.2.symm,rfl⟩
def midT (w:Nat):List UInt8:=A7.drop 1++Al w
theorem PF:∀ w:Fin 65,Gz w.val=40::(midT w.val++[41])/\∀ c∈midT w.val,c≠41/\c≠124:=by decide +kernel
theorem Dk {t n:List UInt8}(h:N6 t=some n):(K6 t=true/\t=n)∨(K6 n=false/\t=124::(n++[124])):=by
 unfold N6 at h
 by_cases d:K6 t=true
 ·rw[if_pos d] at h;cases h;exact .inl ⟨d,rfl⟩
 rw[if_neg d] at h
 split at h
 ·rename_i r
  split at h
  ·rename_i hc;cases h;refine .inr ⟨hc.2,?_⟩;obtain⟨j,e⟩:=Vg.1 hc.1;rw[e,V3]
  cases h
 cases h
theorem EL {t:List UInt8}(h:K6 t=true):t≠[]/\∀ c∈t,Nn c=true:=by
 simp only[K6,Yd,Bool.not_eq_true'] at h;exact⟨by rintro rfl;simp at h,Zt.1 h.2⟩
theorem Cf {own:List UInt8->Bool}{t:List UInt8}(h:Ka (O3 own t)=true):Dr t:=by
 unfold O3 at h
 by_cases F:t=He
 ·rw[if_pos F] at h;simp[Ka] at h
 rw[if_neg F] at h
 by_cases G:t=Rj
 ·subst G;exact .word (by decide) (by decide)
 rw[if_neg G] at h
 by_cases h3:t=Xv
 ·subst h3;exact .word (by decide) (by decide)
 rw[if_neg h3] at h
 by_cases h4:0<N2 t
 ·obtain⟨w,J,I,rfl,_⟩:=Qg h4;have:=PF ⟨w,I⟩;rw[this.1];exact .list this.2
 rw[if_neg h4] at h
 cases hn:N6 t with
 | none=>rw[hn] at h;simp[Ka,SI.none] at h
 | some n=>
   rw[hn] at h
   by_cases D:(Nx n&&own n)=true
   ·have E:∀ c∈n,Id c=true:=by
     simp only[Nx,Yd] at D;exact Zt.1 D.1.2
    rcases Dk hn with⟨H,rfl⟩|⟨H,rfl⟩
    ·obtain⟨j,d⟩:=EL H;exact .word j (fun c hc=>QV (d c hc))
    exact .bars (fun c hc=>ON (E c hc))
   simp only[D] at h;simp[Ka,SI.none] at h
def Es (s:List UInt8):Option Nat:=
 match s with
 | []=>none
 | 40::_=>let n:=Eg (fun c=>c != 41&&c != 124) s;if n<s.length/\s.getD n 0=41 then some (n+1) else none
 | 124::r=>let n:=Eg (· != 124) r;if n<r.length then some (n+2) else none
 | _=>some (Eg (fun c=>c != 32&&c != 41) s)
theorem YH (h:Dr i)(r:List UInt8):Er (i++32::r)=i.length:=by
 rcases h with⟨j,E⟩|⟨n,rfl,hn⟩|⟨m,rfl,hm⟩
 ·
  have d:=Hm (p:=(· != 32)) (l:=i) (c:=32) (r:=r) (fun x hx=>by simpa using (E x hx).1) (by simp)
  cases i with
  | nil=>exact absurd rfl j
  | cons c i=>
    have D:=E c (by simp);have F:i.length+1<i.length+(r.length+1)+1:=by omega
    unfold Er
    split
    ·rename_i e;simp only[Yf,List.cons.injEq] at e;exact absurd e.1 D.2.2.2
    ·rename_i e;simp only[Yf,List.cons.injEq] at e;exact absurd e.1 D.2.2.1
    rw[d,if_pos (by simp)]
 ·
  have d:=Hm (p:=(· != 124)) (l:=n) (c:=124) (r:=32::r) (fun x hx=>by simpa using hn x hx) (by simp);have e:124::(n++[124])++32::r=124::(n++124::32::r):=by simp
  rw[e]
  show (if Eg (· != 124) (n++124::32::r)<(n++124::32::r).length then Eg (· != 124) (n++124::32::r)+2 else 1)=_
  rw[d,if_pos (by simp)];simp
 have d:=Hm (p:=(· != 41)) (l:=40::m) (c:=41) (r:=32::r) (fun x hx=>by
  rcases Yn.1 hx with rfl|hx
  ·decide
  simpa using (hm x hx).1) (by simp)
 have e:40::(m++[41])++32::r=40::m++41::32::r:=by simp
 rw[e]
 show (if Eg (· != 41) (40::m++41::32::r)<(40::m++41::32::r).length then Eg (· != 41) (40::m++41::32::r)+1 else 0)=_
 rw[d,if_pos (by simp)];simp
theorem Sg (h:Dr i){d:UInt8}(hd:d=32∨d=41)(r:List UInt8):Es (i++d::r)=some i.length:=by
 rcases h with⟨E,D⟩|⟨n,rfl,hn⟩|⟨m,rfl,hm⟩
 ·
  have j:=Hm (p:=fun c=>c != 32&&c != 41) (l:=i) (c:=d) (r:=r) (fun x hx=>by simpa using ⟨(D x hx).1,(D x hx).2.1⟩) (by rcases hd with rfl|rfl<;>decide)
  cases i with
  | nil=>exact absurd rfl E
  | cons c i=>
    have F:=D c (by simp);unfold Es
    split
    ·rename_i e;cases e
    ·rename_i e;simp only[Yf,List.cons.injEq] at e;exact absurd e.1 F.2.2.1
    ·rename_i e;simp only[Yf,List.cons.injEq] at e;exact absurd e.1 F.2.2.2
    rw[j]
 ·
  have j:=Hm (p:=(· != 124)) (l:=n) (c:=124) (r:=d::r) (fun x hx=>by simpa using hn x hx) (by simp);have e:124::(n++[124])++d::r=124::(n++124::d::r):=by simp
  rw[e]
  show (if Eg (· != 124) (n++124::d::r)<(n++124::d::r).length then some (Eg (· != 124) (n++124::d::r)+2) else none)=_
  rw[j,if_pos (by simp)];simp
 have j:=Hm (p:=fun c=>c != 41&&c != 124) (l:=40::m) (c:=41) (r:=d::r) (fun x hx=>by
  rcases Yn.1 hx with rfl|hx
  ·decide
  simpa using hm x hx) (by simp)
 have e:40::(m++[41])++d::r=40::m++41::d::r:=by simp
 rw[e]
 show (if Eg (fun c=>c != 41&&c != 124) (40::m++41::d::r)<(40::m++41::d::r).length/\(40::m++41::d::r).getD (Eg (fun c=>c != 41&&c != 124) (40::m++41::d::r)) 0=41 then some (Eg (fun c=>c != 41&&c != 124) (40::m++41::d::r)+1) else none)=_
 rw[j,if_pos ⟨by simp,by simp[List.getD_eq_getElem?_getD]⟩];simp
def N1 (own:List UInt8->Bool)(t:List UInt8):SI:=
 if 8<t.length/\t.take 7=E4/\t.getLast? = some 41 then
  match Es (t.drop 7) with
  | none=>SI.none
  | some k=>
    if (t.drop (7+k)).head? = some 32 then
     match Es (t.drop (7+k+1)) with
     | none=>SI.none
     | some m=>
       if 7+k+1+m+1=t.length then
        if Ka (O3 own ((t.drop 7).take k))&&Ka (O3 own ((t.drop (7+k+1)).take m)) then ⟨6,0,(t.drop 7).take k,(t.drop (7+k+1)).take m⟩ else SI.none
       else SI.none
    else SI.none
 else O3 own t
theorem AR {a b:Bool}(h:(a&&b)=true):a=true:=by cases a<;>simp_all
theorem AP {a b:Bool}(h:(a&&b)=true):b=true:=by cases b<;>simp_all
def LJ (own:List UInt8->Bool)(t i e:List UInt8):Prop:=t=E4++(i++32::(e++[41]))/\Ka (O3 own i)=true/\Ka (O3 own e)=true
theorem Tf:E4.length=7:=rfl
theorem QJ {own:List UInt8->Bool}{t e:List UInt8}(h:LJ own t i e):Ks own t=⟨6,0,i,e⟩:=by
 obtain⟨rfl,d,E⟩:=h;have j:(E4++(i++32::(e++[41]))).take 7=E4:=by rw[Yx (by decide)];rfl
 have D:(E4++(i++32::(e++[41]))).drop 7=i++32::(e++[41]):=by rw[<-Tf,List.drop_left]
 have h3:=YH (Cf d) (e++[41]);simp only[Ks,j,if_true,D,h3,List.take_left,List.drop_left];rw[if_pos ⟨rfl,by simp,by rw[<-Yf];exact Vp⟩];have h4:List.dropLast (List.drop 1 (32::(e++[41])))=e:=by simp
 rw[h4,d,E];rfl
theorem VK (own:List UInt8->Bool){t:List UInt8}(ht:t.take 7=E4):Ks own t=SI.none∨∃ i e,LJ own t i e/\Ks own t=⟨6,0,i,e⟩:=by
 by_cases j:((t.drop 7).drop (Er (t.drop 7))).head? = some 32/\2<=((t.drop 7).drop (Er (t.drop 7))).length/\((t.drop 7).drop (Er (t.drop 7))).getLast? = some 41
 ·by_cases D:(Ka (O3 own ((t.drop 7).take (Er (t.drop 7))))&&Ka (O3 own ((((t.drop 7).drop (Er (t.drop 7))).drop 1).dropLast)))=true
  ·refine .inr ⟨_,_,⟨?_,AR D,AP D⟩,?_⟩
   ·have F:t=E4++t.drop 7:=by rw[<-ht,J9]
    have E:t.drop 7=(t.drop 7).take (Er (t.drop 7))++(t.drop 7).drop (Er (t.drop 7)):=(J9 _ _).symm;generalize (t.drop 7).drop (Er (t.drop 7))=r at j E ⊢;generalize (t.drop 7).take (Er (t.drop 7))=i at E ⊢;have G:r=32::((r.drop 1).dropLast++[41]):=by
     cases r with
     | nil=>simp at j
     | cons c r=>
       simp only[List.head?_cons,Option.some.injEq] at j;obtain⟨rfl,H,h3⟩:=j
       cases r with
       | nil=>simp at H
       | cons d r=>
         rw[List.getLast?_cons_cons] at h3;obtain⟨I,e⟩:=Vg.1 h3;rw[List.drop_one,List.tail_cons,e,V3]
    rw[<-G,<-E];exact F
   unfold Ks;rw[if_pos ht];simp only[];rw[if_pos j,if_pos D]
  left
  unfold Ks;rw[if_pos ht];simp only[];rw[if_pos j,if_neg D]
 left
 unfold Ks;rw[if_pos ht];simp only[];rw[if_neg j]
theorem RN {own:List UInt8->Bool}{t e:List UInt8}(h:LJ own t i e):N1 own t=⟨6,0,i,e⟩:=by
 obtain⟨rfl,d,E⟩:=h;have G:(E4++(i++32::(e++[41]))).take 7=E4:=by rw[Yx (by decide)];rfl
 have D:(E4++(i++32::(e++[41]))).drop 7=i++32::(e++[41]):=by rw[<-Tf,List.drop_left]
 have h3:(E4++(i++32::(e++[41]))).drop (7+i.length)=32::(e++[41]):=by rw[<-Z6,D,List.drop_left]
 have h4:(E4++(i++32::(e++[41]))).drop (7+i.length+1)=e++[41]:=by rw[<-Z6,h3];rfl
 have h5:=Sg (Cf d) (.inl rfl) (e++[41]);have H:=Sg (Cf E) (.inr rfl) [];have I:(E4++(i++32::(e++[41]))).getLast? = some 41:=by
  have F:E4++(i++32::(e++[41]))=(E4++(i++32::e))++[41]:=by simp
  rw[F];exact Vp
 have J:(E4++(i++32::(e++[41]))).length=7+i.length+1+e.length+1:=by simp[Tf];omega
 have K:0<i.length:=by
  rcases Cf d with⟨j,_⟩|⟨_,rfl,_⟩|⟨_,rfl,_⟩
  ·exact Zz.2 j
  ·simp
  simp
 unfold N1;rw[if_pos ⟨by omega,G,I⟩,D,h5];simp only[h3,h4,H,J];rw[List.take_left,List.take_left,d,E];rfl
theorem QT {own:List UInt8->Bool}{t:List UInt8}(ht:t.take 7=E4):O3 own t=SI.none:=by
 obtain⟨r,rfl⟩:∃ r,t=E4++r:=⟨t.drop 7,by rw[<-ht,J9]⟩;have E:¬ 0<N2 (E4++r):=by
  intro h;obtain⟨w,F,d,j,_⟩:=Qg h;have h3:=congrArg (List.take 2) j;have h4:∀ w:Fin 65,(Gz w.val).take 2≠[40,65]:=by decide +kernel
  exact h4 ⟨w,d⟩ h3.symm
 have D:K6 (E4++r)=false:=by
  have:Nn 40=false:=by decide
  simp[K6,E4,this]
 have hn:N6 (E4++r)=none:=by
  unfold N6;rw[D];rfl
 unfold O3;rw[if_neg (by simp[E4,He]),if_neg (by simp[E4,Rj]),if_neg (by simp[E4,Xv]),if_neg E,hn]
theorem B3 {s:List UInt8}{k:Nat}(h:Es s=some k):k<=s.length:=by
 unfold Es at h
 split at h
 ·cases h
 ·simp only[] at h
  split at h
  ·rename_i hc;cases h;exact hc.1
  cases h
 ·simp only[] at h
  split at h
  ·rename_i hc;cases h;simp only[J8];omega
  cases h
 cases h;exact BT _ _
theorem VB (own:List UInt8->Bool){t:List UInt8}(ht:t.take 7=E4):N1 own t=SI.none∨∃ i e,LJ own t i e/\N1 own t=⟨6,0,i,e⟩:=by
 by_cases E:8<t.length/\t.take 7=E4/\t.getLast? = some 41
 ·unfold N1;rw[if_pos E]
  cases T:Es (t.drop 7) with
  | none=>exact .inl rfl
  | some k=>
    simp only[]
    by_cases d:(t.drop (7+k)).head? = some 32
    ·rw[if_pos d]
     cases hm:Es (t.drop (7+k+1)) with
     | none=>exact .inl rfl
     | some m=>
       simp only[]
       by_cases G:7+k+1+m+1=t.length
       ·rw[if_pos G]
        by_cases D:(Ka (O3 own ((t.drop 7).take k))&&Ka (O3 own ((t.drop (7+k+1)).take m)))=true
        ·rw[if_pos D];refine .inr ⟨_,_,⟨?_,AR D,AP D⟩,rfl⟩;have I:t=E4++t.drop 7:=by rw[<-ht,J9]
         have J:t.drop 7=(t.drop 7).take k++t.drop (7+k):=by rw[<-Z6,J9]
         have K:t.drop (7+k)=32::t.drop (7+k+1):=by
          cases j:t.drop (7+k) with
          | nil=>rw[j] at d;simp at d
          | cons c q=>
            rw[j] at d;simp only[List.head?_cons,Option.some.injEq] at d;rw[<-Z6,j,d];rfl
         have F:t.drop (7+k+1)=(t.drop (7+k+1)).take m++t.drop (7+k+1+m):=by rw[<-Z6 (i:=m),J9]
         have O:t.drop (7+k+1+m)=[41]:=by
          have hl:(t.drop (7+k+1+m)).length=1:=by simp;omega
          have H:(t.drop (7+k+1+m)).getLast? = some 41:=by
           rw[List.getLast?_drop,if_neg (by omega)];exact E.2.2
          cases j:t.drop (7+k+1+m) with
          | nil=>rw[j] at hl;simp at hl
          | cons c q=>
            rw[j] at hl H;have:q=[]:=Jo (by simpa using hl);subst this
            simpa using H
         rw[O] at F;rw[<-F,<-K,<-J];exact I
        rw[if_neg D];exact .inl rfl
       rw[if_neg G];exact .inl rfl
    rw[if_neg d];exact .inl rfl
 left
 unfold N1;rw[if_neg E];exact QT ht
theorem S8 (own:List UInt8->Bool)(t:List UInt8):N1 own t=Ks own t:=by
 by_cases j:t.take 7=E4
 ·rcases VK own j with d|⟨i,e,ha,d⟩
  ·rcases VB own j with D|⟨i,e,ha,D⟩
   ·rw[d,D]
   rw[QJ ha] at d;cases d
  rw[d,RN ha]
 unfold N1 Ks;rw[if_neg (fun h=>j h.2.1),if_neg j]
end Go.Proofs.YtjjgilacnocigaaGreatDoor
namespace Go.Proofs.YtjjgilacnocigaaGreatDoor
open ChangeShapes WideShapes ChangeAt RowKit Proofs.Tryz
variable {c:UInt8}{k:Nat}{s:ByteArray}
theorem O7 {a b:Bool}(h:a=b):Ending.returned (.bool a)=.returned (.bool b):=by rw[h]
theorem Hb (s:ByteArray)(k:Nat)(h:k<s.size):s.data.toList.take (k+1)=s.data.toList.take k++[s[k]]:=by
 rw[Jt (by simpa using h)];rfl
theorem G9 {p:UInt8->Bool}(h:k<s.size)(hp:(s.data.toList.take k).all p=true)(h1:p s[k]=true):(s.data.toList.take (k+1)).all p=true:=by
 rw[Hb s k h,List.all_append,hp];simp[h1]
theorem X5 {p:UInt8->Bool}(h:k<s.size)(h1:p s[k]=false):s.data.toList.all p=false:=by
 rw[Z4];intro ha;rw[Zt] at ha;have:=ha s[k] (by show s.data[k]∈_;exact Uj _);rw[h1] at this;cases this
theorem Lj {p:UInt8->Bool}(h:¬ k<s.size)(hp:(s.data.toList.take k).all p=true):s.data.toList.all p=true:=by
 rw[<-hp,Jf (by rw[<-Lib.size_eq];omega)]
theorem P5 (c:UInt8):dg c=true↔48<=c.toNat/\c.toNat<=57:=by simp[dg]
theorem OE (c:UInt8):Id c=true↔((32<=c.toNat/\c.toNat<=126)/\c.toNat≠124)/\c.toNat≠92:=by simp[Id,FA]
theorem Q3 (c:UInt8)(w:World) :
 Calls prog 107 #[.int .u8 (c.toNat:Int)] w fun e w'=>e=.returned (.bool (dg c))/\w'=w:=by
 have d:Hid (dg c=true↔48<=c.toNat/\c.toNat<=57):=P5 c
 go_in
 go_wp2
 all_goals go_ret
 all_goals (refine⟨O7 ?_,rfl⟩;rw[Zj,d.o];simp<;>omega)
theorem P9 (c:UInt8)(w:World) :
 Calls prog 200 #[.int .u8 (c.toNat:Int)] w fun e w'=>e=.returned (.bool (dg c))/\w'=w:=by
 have d:Hid (dg c=true↔48<=c.toNat/\c.toNat<=57):=P5 c
 go_in
 go_wp2
 all_goals go_ret
 all_goals (refine⟨O7 ?_,rfl⟩;rw[Zj,d.o];simp<;>omega)
theorem Rv (c:UInt8)(w:World) :
 Calls prog 229 #[.int .u8 (c.toNat:Int)] w fun e w'=>e=.returned (.bool (Id c))/\w'=w:=by
 have d:Hid (Id c=true↔((32<=c.toNat/\c.toNat<=126)/\c.toNat≠124)/\c.toNat≠92):=OE c
 go_in
 go_wp2
 all_goals go_ret
 all_goals (refine⟨O7 ?_,rfl⟩;rw[Zj,d.o];simp<;>omega)
abbrev Pt:ByteArray:=⟨#[43,45,42,47,61,37,63,33,46,36,95,126,38,94,60,62,64]⟩
theorem Sj (c:UInt8):Nn c=true↔((97<=c.toNat/\c.toNat<=122)∨(65<=c.toNat/\c.toNat<=90)∨(48<=c.toNat/\c.toNat<=57))∨c∈Hq:=by
 simp[Nn,dg,or_assoc]
theorem JG {a:UInt8}(e:((a.toNat:Int)==(c.toNat:Int))=true):a=c:=by
 rw[Jw] at e;exact UInt8.toNat_inj.1 (by omega)
theorem JH {a:UInt8}(e:((a.toNat:Int)==(c.toNat:Int))=false):a≠c:=by
 rw[Jd] at e;intro h;rw[h] at e;exact e rfl
theorem Xf:Pt.data.toList=Hq:=rfl
theorem CP (h:k<Pt.size)(e:((Pt[k].toNat:Int)==(c.toNat:Int))=true):c∈Hq:=by
 rw[<-JG e,<-Xf]
 show Pt.data[k]∈_
 exact Uj _
theorem BQ (h:k<Pt.size)(e:((Pt[k].toNat:Int)==(c.toNat:Int))=false)(hp:c∉Hq.take k):c∉Hq.take (k+1):=by
 have:=Hb Pt k h;rw[Xf] at this;rw[this,J5,not_or];exact⟨hp,fun hc=>JH e (Ye.1 hc).symm⟩
theorem Ps (c:UInt8)(w:World) :
 Calls prog 154 #[.int .u8 (c.toNat:Int)] w fun e w'=>e=.returned (.bool (Nn c))/\w'=w:=by
 have j:Hid (Nn c=true↔((97<=c.toNat/\c.toNat<=122)∨(65<=c.toNat/\c.toNat<=90)∨(48<=c.toNat/\c.toNat<=57))∨c∈Hq):=Sj c
 go_in
 go_wp2
 all_goals first
  | (go_ret;refine⟨O7 ?_,rfl⟩;rw[Zj,j.o];simp;omega)
  | skip
 all_goals
  have J:Hid (¬((97<=c.toNat/\c.toNat<=122)∨(65<=c.toNat/\c.toNat<=90)∨(48<=c.toNat/\c.toNat<=57))):=by
   show ¬ _
   omega
  go_loop [4] (fun i=>∃ k:Nat,k<=17/\i=.int .i64 k/\c∉Hq.take k) (fun i=>17 - (intOf i).toNat)
  case atStart=>exact⟨0,J7 _,rfl,by simp⟩
  obtain⟨k,K,rfl,H⟩:=hrel;have G:=Hd H;clear H
  by_cases F:k<17
  ·have I:k<Pt.size:=F
   by_cases D:((Pt[k].toNat:Int)==(c.toNat:Int))=true
   ·have d:=CP I D
    go_wp2
    go_ret
    exact⟨O7 (j.o.2 (.inr d)).symm,rfl⟩
   have E:((Pt[k].toNat:Int)==(c.toNat:Int))=false:=by simpa using D
   have d:Hid (c∉Hq.take (k+1)):=BQ I E G.o;clear D
   go_wp2
   go_round
   case rel=>exact⟨k+1,by omega,by go_num,d.o⟩
   simp[intOf];omega
  have d:Hid (c∉Hq):=by
   unfold Hid
   have:=G.o;rw[Jf (by show 17<=k;omega)] at this;exact this
  go_wp2
  go_ret
  exact⟨O7 (by symm;rw[Z4];intro h;exact (j.o.1 h).elim J.o d.o),rfl⟩
theorem Hw (s:ByteArray)(c:Int)(w:World) :
 Calls prog 203 #[.string s,.int .u8 c] w fun e w'=>e=.returned (.int .i64 (Lib.indexByte s.data.toList c.toNat.toUInt8))/\w'=w:=by
 go_in
 go_wp2
 rw[run_callFunc_extern func230 (by kernel_rfl) (by kernel_rfl) (by kernel_rfl) (e:=Extern.BytealgIndexByte.indexByte) (by kernel_rfl),Lib.run_indexByteString];simp only[Result.andThen];rw[Oper.upon_value]
 go_wp2
 go_ret
 exact⟨rfl,rfl⟩
theorem KX (h:c∈Hq):decide (0<=Lib.indexByte Hq c)=true:=by
 rw[J2];have D:=Lib.indexByte_ge Hq c
 by_cases d:Lib.indexByte Hq c = -1
 ·obtain⟨k,j,e⟩:=Ym h;exact absurd (by rw[Jl j,e]) (Lib.indexByte_none d k)
 omega
theorem Tj (h:c∉Hq):decide (0<=Lib.indexByte Hq c)=false:=by
 rw[Jy];intro d;obtain⟨o,j⟩:=V5 d;have:=(Lib.indexByte_some j).1;exact h (Ug this)
theorem Pb (c:UInt8)(w:World) :
 Calls prog 202 #[.int .u8 (c.toNat:Int)] w fun e w'=>e=.returned (.bool (Nn c))/\w'=w:=by
 have d:Hid (Nn c=true↔((97<=c.toNat/\c.toNat<=122)∨(65<=c.toNat/\c.toNat<=90)∨(48<=c.toNat/\c.toNat<=57))∨c∈Hq):=Sj c;have D:Hid (((c.toNat:Int)).toNat.toUInt8=c):=by show _=_;simp
 by_cases hm:c∈Hq
 ·have z:=KX hm;have j:=hm;clear hm
  go_in
  go_wp2_with (first|(go_at_call 203;refine (Hw _ _ _).mono ?_;rintro e w' ⟨rfl,rfl⟩;rw[D.o,Xf])|go_in)
  all_goals go_ret
  all_goals exact⟨O7 (d.o.2 (.inr j)).symm,rfl⟩
 have z:=Tj hm;have j:=Hd hm;clear hm
 go_in
 go_wp2_with (first|(go_at_call 203;refine (Hw _ _ _).mono ?_;rintro e w' ⟨rfl,rfl⟩;rw[D.o,Xf])|go_in)
 all_goals go_ret
 all_goals refine⟨O7 ?_,rfl⟩
 all_goals first
  | exact (d.o.2 (.inl (by omega))).symm
  | (have hn:Nn c=false:=by (rw[Z4];intro h;exact (d.o.1 h).elim (by omega) j.o)
     rw[hn];simp;omega)
  | (have hn:Nn c=false:=by (rw[Z4];intro h;exact (d.o.1 h).elim (by omega) j.o)
     rw[hn])
end Go.Proofs.YtjjgilacnocigaaGreatDoor
