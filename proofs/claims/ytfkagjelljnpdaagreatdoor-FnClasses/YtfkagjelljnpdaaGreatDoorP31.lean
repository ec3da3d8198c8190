import Derived.Test.YtfkagjelljnpdaaGreatDoorP30
set_option linter.all false
set_option maxRecDepth 100000
set_option maxHeartbeats 8000000
namespace Go.Proofs.YtfkagjelljnpdaaGreatDoor
open ChangeShapes WideShapes ChangeAt RowKit
variable {B eb hb i mb ub:Nat}{H:List Nat}{T:List Tm}{w w':World}
def BF:Me:=⟨none,false,false,.slice none 0 0,0,false,.slice none 0 0⟩
def meA(ms:List Me)(i:Nat):Me:=ms.getD i BF
theorem E7{ms:List Me}(h:i<ms.length):meA ms i=ms[i]:=by simp[meA,List.getD,h]
theorem V4{ms:List Me}(h:i<ms.length)(m:Me)(j:Nat):meA (ms.set i m) j=if j=i then m else meA ms j:=by
 unfold meA
 by_cases e:j=i
 ·subst e;simp[List.getD,h]
 rw[if_neg e];simp[List.getD,List.getElem?_set_ne (Ne.symm e)]
def valA(vu:List Value)(k:Nat):Value:=vu.getD k (.slice none 0 0)
theorem F4{vu:List Value}(h:i<vu.length)(v:Value)(j:Nat):valA (vu.set i v) j=if j=i then v else valA vu j:=by
 unfold valA
 by_cases e:j=i
 ·subst e;simp[List.getD,h]
 rw[if_neg e];simp[List.getD,List.getElem?_set_ne (Ne.symm e)]
def H3(w:World)(B:Nat)(v:Value)(L:List Nat):Prop:=w.ownsRow B 3 1 v L.length (labV L)
def mpV(mb:Nat)(P:List Nat):List Value:=P.map (mp mb)
def Bk(w:World)(B mb:Nat)(v:Value)(P:List Nat):Prop:=w.ownsRow B 45 1 v P.length (mpV mb P)
def obs(hb:Nat)(vu:List Value)(ms:List Me)(x:Nat×Nat):Option Nat:=if x.1=0 then(if x.2=0 then some hb else none)else if x.1=1 then(valA vu x.2).ownBlock else if x.1=2 then(meA ms x.2).ids.ownBlock else if x.1=3 then(meA ms x.2).ap.ownBlock else none
def MC(f:Nat×Nat->Option Nat):Prop:=∀x y g,f x=some g->f y=some g->x=y
theorem MC.upd{f f':Nat×Nat->Option Nat}(h:MC f){x:Nat×Nat}(h1:∀y,y≠x->f' y=f y)(h3:f' x=f x∨∃g,f' x=some g/\∀y k,f y=some k->k≠g):MC f':=by
 rcases h3 with h3|⟨g,J,h3⟩
 ·have e:f'=f:=funext fun y=>by
   by_cases hy:y=x
   ·rw[hy,h3]
   exact h1 y hy
  rw[e];exact h
 have E:∀y,y≠x->f' y≠some g:=fun y hy e=>by
  rw[h1 y hy]at e;exact h3 y g e rfl
 intro y z k hy q
 by_cases G:y=x
 ·subst G
  by_cases j:z=y
  ·exact j.symm
  rw[J]at hy;cases hy;exact absurd q (E z j)
 by_cases j:z=x
 ·subst j;rw[J]at q;cases q;exact absurd hy (E y G)
 rw[h1 y G]at hy;rw[h1 z j]at q;exact h y z k hy q
theorem C3{base n size g:Nat}{e:TypeId}{v:Value}{xs:List Value}(h:w.ownsRow base e size v n xs)(hg:v.ownBlock=some g):g<w.heap.size:=by
 rcases h.2 with⟨J,_⟩|⟨G,q,cur,K,hb,j,O⟩
 ·rw[J]at hg;cases hg
 rw[K]at hg;have E:G=g:=Option.some.inj hg;subst E;exact(Jo.1 j).1
theorem B7{vu:List Value}{ms:List Me}{m':Me}(hi:i<ms.length)(y:Nat×Nat)(h2:y≠(2,i)∨m'.ids=(meA ms i).ids)(h3:y≠(3,i)∨m'.ap=(meA ms i).ap):obs hb vu (ms.set i m') y=obs hb vu ms y:=by
 obtain⟨a,b⟩:=y;unfold obs;simp only
 split
 ·rfl
 split
 ·rfl
 split
 ·rename_i e;subst e;rw[V4 hi]
  split
  ·rename_i e;subst e
   rcases h2 with h|h
   ·exact absurd rfl h
   rw[h]
  rfl
 split
 ·rename_i e;subst e;rw[V4 hi]
  split
  ·rename_i e;subst e
   rcases h3 with h|h
   ·exact absurd rfl h
   rw[h]
  rfl
 rfl
structure Sx where
 s:St
 ms:List Me
 vu:List Value
 U:Nat->List Nat
 I:Nat->List Nat
 P:Nat->List Nat
structure Hp(w:World)(B eb mb hb ub:Nat)(T:List Tm)(H:List Nat)(x:Sx):Prop where
 dyn:Dyn w B eb x.s
 sta:Sta w B mb hb x.s T H x.ms
 mlo:B<=mb
 vU:x.s.vU=.slice (some ⟨ub,0,none⟩) T.length T.length
 usb:Tb w ub 31 x.vu
 ulo:B<=ub
 ul:x.vu.length=T.length
 use:∀k,k<T.length->H3 w B (valA x.vu k) (x.U k)
 ids:∀i,i<T.length->H3 w B (meA x.ms i).ids (x.I i)
 aps:∀i,i<T.length->Bk w B mb (meA x.ms i).ap (x.P i)
 inj:MC (obs hb x.vu x.ms)
 olt:∀y g,obs hb x.vu x.ms y=some g->g<w.heap.size
theorem Dyn.ch{s:St}{ts:List (Option TypeId)}(h:Dyn w B eb s)(hc:Ch B NoX ts w w')(h1:some 59∉ts)(h2:some 84∉ts)(h3:Option.none∉ts)(h4:some 5∉ts)(h5:some 114∉ts)(h6:some 9∉ts):Dyn w' B eb s:=
 ⟨h.box.ch hc (.inr (.inr h1)),h.low,own_ch h.itm hc h2,h.map.ch hc h3,h.mlo,own_ch h.sig hc h4,own_ch h.chg hc h5,own_ch h.ent hc h6⟩
theorem Hp.ch{x:Sx}{s':St}{ts:List (Option TypeId)}(h:Hp w B eb mb hb ub T H x)(hc:Ch B NoX ts w w')(hd:Dyn w' B eb s')(e:s'.vt=x.s.vt/\s'.vH=x.s.vH/\s'.vU=x.s.vU/\s'.vM=x.s.vM)(h1:some 3∉ts)(h2:some 49∉ts)(h3:some 31∉ts)(h4:some 45∉ts):Hp w' B eb mb hb ub T H { x with s:=s' }:=by
 have s1:=h.sta.ch hc h1 h2;refine⟨hd,⟨by rw[e.1];exact s1.trm,by rw[e.2.1];exact s1.vH,s1.hd,s1.hl,s1.h6,by rw[e.2.2.2];exact s1.vM,s1.mem,s1.ml,s1.bs,s1.n3,s1.tk⟩,h.mlo,by rw[e.2.2.1];exact h.vU,h.usb.ch hc (.inr (.inr h3)),h.ulo,h.ul,fun k hk=>own_ch (h.use k hk) hc h1,fun i hi=>own_ch (h.ids i hi) hc h1,fun i hi=>own_ch (h.aps i hi) hc h4,h.inj,fun y g hy=>Jn (h.olt y g hy) hc.size⟩
theorem Hp.up{x:Sx}(h:Hp w B eb mb hb ub T H x)(hc:Ch B NoX [] w w'):Hp w' B eb mb hb ub T H x:=
 h.ch hc (h.dyn.ch hc (by simp) (by simp) (by simp) (by simp) (by simp) (by simp)) ⟨rfl,rfl,rfl,rfl⟩ (by simp) (by simp) (by simp) (by simp)
theorem C2{base n size:Nat}{e:TypeId}{v:Value}{xs:List Value}{r:Option Nat}(h:w.ownsRow base e size v n xs)(hg:w.grownBy w' r)(hne:∀k,v.ownBlock=some k->r≠some k):w'.ownsRow base e size v n xs:=by
 refine⟨h.1,?_⟩
 rcases h.2 with J|⟨E,q,cur,G,hb,j,K⟩
 ·exact .inl J
 exact .inr ⟨E,q,cur,G,hb,(hg.block E (Jo.1 j).1 (fun e=>hne E (by rw[G];rfl) e.symm)).trans j,K⟩
theorem f8_cases{f:Nat}(h:f<8):f=0∨f=1∨f=2∨f=3∨f=4∨f=5∨f=6∨f=7:=by omega
theorem Hp.mem{x:Sx}(h:Hp w B eb mb hb ub T H x){f:Nat}(hi:i<T.length)(hf:f<8)(v:Value)(m':Me)(hm:∀f',f'<8->(QK mb i m')[f']? = if f'=f then some v else(QK mb i (meA x.ms i))[f']?)(e1:m'.ids=(meA x.ms i).ids)(e2:m'.ap=(meA x.ms i).ap):Hp (w.setCell ⟨mb,i*8+f,none⟩ v) B eb mb hb ub T H { x with ms:=x.ms.set i m' }/\Ch B NoX [some 49] w (w.setCell ⟨mb,i*8+f,none⟩ v):=by
 have hl:i<x.ms.length:=by rw[h.sta.ml];exact hi
 have q:Ch B NoX [some 49] w (w.setCell ⟨mb,i*8+f,none⟩ v):=Ch.set h.mlo (fun h=>h) (by rw[h.sta.mem.ty];simp);have m2:=h.sta.mem.set hl hf v m' (by rw[<-E7 hl];exact hm);have E:∀y,obs hb x.vu (x.ms.set i m') y=obs hb x.vu x.ms y:=fun y=>B7 hl y (.inr e1) (.inr e2);have G:∀j,(meA (x.ms.set i m') j).ids=(meA x.ms j).ids:=fun j=>by rw[V4 hl];split;rename_i e;rw[e,e1];rfl
 have i2:∀j,(meA (x.ms.set i m') j).ap=(meA x.ms j).ap:=fun j=>by rw[V4 hl];split;rename_i e;rw[e,e2];rfl
 refine⟨⟨h.dyn.ch q (by decide) (by decide) (by decide) (by decide) (by decide) (by decide),⟨h.sta.trm.bl (q.bl h.sta.bs),h.sta.vH,h.sta.hd.ch q (.inr (.inr (by decide))),h.sta.hl,h.sta.h6,h.sta.vM,m2,by rw[Zh];exact h.sta.ml,Jm h.sta.bs q.size,h.sta.n3,h.sta.tk⟩,h.mlo,h.vU,h.usb.ch q (.inr (.inr (by decide))),h.ulo,h.ul,fun k hk=>own_ch (h.use k hk) q (by decide),fun j hj=>?_,fun j hj=>?_,fun y z g hy hz=>h.inj y z g (by rw[<-E];exact hy) (by rw[<-E];exact hz),fun y g hy=>Jn (h.olt y g (by rw[<-E];exact hy)) q.size⟩,q⟩
 ·show H3 _ _ (meA (x.ms.set i m') j).ids _
  rw[G];exact own_ch (h.ids j hj) q (by decide)
 show Bk _ _ _ (meA (x.ms.set i m') j).ap _
 rw[i2];exact own_ch (h.aps j hj) q (by decide)
theorem Hp.apu{w1:World}{x:Sx}(h:Hp w B eb mb hb ub T H x){n':Nat}{v':Value}(hi:i<T.length){N:List Nat}(hg:w.grownBy w1 (meA x.ms i).ap.ownBlock)(hn:n'=(x.P i++N).length)(ho:w1.ownsRow B 45 1 v' n' (mpV mb (x.P i++N)))(hat:v'.ownBlock=(meA x.ms i).ap.ownBlock∨v'.ownBlock=some w.heap.size) :
 Hp (w1.setCell ⟨mb,i*8+7,none⟩ v') B eb mb hb ub T H { x with ms:=x.ms.set i { meA x.ms i with ap:=v' },P:=updL x.P i (x.P i++N) }/\Ch B NoX [some 45,some 49] w (w1.setCell ⟨mb,i*8+7,none⟩ v'):=by
 have hl:i<x.ms.length:=by rw[h.sta.ml];exact hi
 have E:Ch B NoX [some 45] w w1:=Ch.grown hg (h.aps i hi) leR (fun _ _ h=>h) (by simp);have m1:=h.sta.mem.ch E (by decide);have G:Ch B NoX [some 49] w1 (w1.setCell ⟨mb,i*8+7,none⟩ v'):=Ch.set h.mlo (fun h=>h) (by rw[m1.ty];simp);have q:Ch B NoX [some 45,some 49] w (w1.setCell ⟨mb,i*8+7,none⟩ v'):=(E.wide (by decide)).trans (G.wide (by decide));have m2:=m1.set hl (f:=7) (by omega) v' { meA x.ms i with ap:=v' } (fun f' hf'=>by rw[<-E7 hl];rcases f8_cases hf' with rfl|rfl|rfl|rfl|rfl|rfl|rfl|rfl<;>rfl);have K:∀y,y≠(3,i)->obs hb x.vu (x.ms.set i { meA x.ms i with ap:=v' }) y=obs hb x.vu x.ms y:=fun y hy=>B7 hl y (.inr rfl) (.inl hy);have J:obs hb x.vu (x.ms.set i { meA x.ms i with ap:=v' }) (3,i)=v'.ownBlock:=by
  show(meA (x.ms.set i _) i).ap.ownBlock=_
  rw[V4 hl,if_pos rfl]
 have O:∀j,(meA (x.ms.set i { meA x.ms i with ap:=v' }) j).ids=(meA x.ms j).ids:=fun j=>by rw[V4 hl];split;rename_i e;rw[e];rfl
 refine⟨⟨h.dyn.ch q (by decide) (by decide) (by decide) (by decide) (by decide) (by decide),⟨h.sta.trm.bl (q.bl h.sta.bs),h.sta.vH,h.sta.hd.ch q (.inr (.inr (by decide))),h.sta.hl,h.sta.h6,h.sta.vM,m2,by rw[Zh];exact h.sta.ml,Jm h.sta.bs q.size,h.sta.n3,h.sta.tk⟩,h.mlo,h.vU,h.usb.ch q (.inr (.inr (by decide))),h.ulo,h.ul,fun k hk=>own_ch (h.use k hk) q (by decide),fun j hj=>?_,fun j hj=>?_,h.inj.upd K ?_,fun y k hy=>?_⟩,q⟩
 ·show H3 _ _ (meA (x.ms.set i _) j).ids _
  rw[O];exact own_ch (h.ids j hj) q (by decide)
 ·show Bk _ _ _ (meA (x.ms.set i _) j).ap (updL x.P i (x.P i++N) j)
  rw[V4 hl]
  by_cases e:j=i
  ·subst e;rw[if_pos rfl,U9];unfold Bk;rw[<-hn];exact Uf ho (by rw[m1.ty];decide)
  rw[if_neg e,Es _ _ e];exact Uf (C2 (h.aps j hj) hg (fun k hk e2=>e (by have:=h.inj (3,j) (3,i) k hk e2;simpa using this))) (by rw[m1.ty];decide)
 ·rcases hat with hat|hat
  ·exact .inl (J.trans hat)
  exact .inr ⟨_,J.trans hat,fun y k hy=>by have:=h.olt y k hy;omega⟩
 by_cases e:y=(3,i)
 ·subst e;rw[J]at hy;exact Jn (C3 ho hy) G.size
 exact Jn (h.olt y k (by rw[<-K y e];exact hy)) q.size
theorem Hp.idu{w1:World}{x:Sx}(h:Hp w B eb mb hb ub T H x){n':Nat}{v':Value}(hi:i<T.length){N:List Nat}(hg:w.grownBy w1 (meA x.ms i).ids.ownBlock)(hn:n'=(x.I i++N).length)(ho:w1.ownsRow B 3 1 v' n' (labV (x.I i++N)))(hat:v'.ownBlock=(meA x.ms i).ids.ownBlock∨v'.ownBlock=some w.heap.size) :
 Hp (w1.setCell ⟨mb,i*8+4,none⟩ v') B eb mb hb ub T H { x with ms:=x.ms.set i { meA x.ms i with ids:=v' },I:=updL x.I i (x.I i++N) }/\Ch B NoX [some 3,some 49] w (w1.setCell ⟨mb,i*8+4,none⟩ v'):=by
 have hl:i<x.ms.length:=by rw[h.sta.ml];exact hi
 have J:Ch B NoX [some 3] w w1:=Ch.grown hg (h.ids i hi) leR (fun _ _ h=>h) (by simp);have m1:=h.sta.mem.ch J (by decide);have K:Ch B NoX [some 49] w1 (w1.setCell ⟨mb,i*8+4,none⟩ v'):=Ch.set h.mlo (fun h=>h) (by rw[m1.ty];simp);have G:Ch B NoX [some 3,some 49] w (w1.setCell ⟨mb,i*8+4,none⟩ v'):=(J.wide (by decide)).trans (K.wide (by decide));have m2:=m1.set hl (f:=4) (by omega) v' { meA x.ms i with ids:=v' } (fun f' hf'=>by rw[<-E7 hl];rcases f8_cases hf' with rfl|rfl|rfl|rfl|rfl|rfl|rfl|rfl<;>rfl);have Y:∀y,y≠(2,i)->obs hb x.vu (x.ms.set i { meA x.ms i with ids:=v' }) y=obs hb x.vu x.ms y:=fun y hy=>B7 hl y (.inl hy) (.inr rfl);have R:obs hb x.vu (x.ms.set i { meA x.ms i with ids:=v' }) (2,i)=v'.ownBlock:=by
  show(meA (x.ms.set i _) i).ids.ownBlock=_
  rw[V4 hl,if_pos rfl]
 have Z:∀j,(meA (x.ms.set i { meA x.ms i with ids:=v' }) j).ap=(meA x.ms j).ap:=fun j=>by rw[V4 hl];split;rename_i e;rw[e];rfl
 have O:Tb (w1.setCell ⟨mb,i*8+4,none⟩ v') hb 3 (labV H):=by
  have V:w1.heap[hb]? = w.heap[hb]? := hg.block hb h.sta.hd.bx.lt (fun e=>absurd (h.inj (0,0) (2,i) hb rfl e.symm) (by simp));exact I3 (V.trans h.sta.hd:Tb w1 hb 3 (labV H)) (fun e=>by have:=m1.ty;rw[<-e,U7 (V.trans h.sta.hd)]at this;exact absurd this (by decide))
 have E:∀y k L v,(y≠(2,i))->obs hb x.vu x.ms y=v.ownBlock->H3 w B v L->k=v->H3 (w1.setCell ⟨mb,i*8+4,none⟩ v') B k L:=fun y k L v hy e1 h2 e2=>by
  subst e2;exact Uf (C2 h2 hg (fun q hq e=>hy (h.inj y (2,i) q (e1.trans hq) e))) (by rw[m1.ty];decide)
 refine⟨⟨h.dyn.ch G (by decide) (by decide) (by decide) (by decide) (by decide) (by decide),⟨h.sta.trm.bl (G.bl h.sta.bs),h.sta.vH,O,h.sta.hl,h.sta.h6,h.sta.vM,m2,by rw[Zh];exact h.sta.ml,Jm h.sta.bs G.size,h.sta.n3,h.sta.tk⟩,h.mlo,h.vU,h.usb.ch G (.inr (.inr (by decide))),h.ulo,h.ul,fun k hk=>E (1,k) _ _ _ (by simp) rfl (h.use k hk) rfl,fun j hj=>?_,fun j hj=>?_,h.inj.upd Y ?_,fun y k hy=>?_⟩,G⟩
 ·show H3 _ _ (meA (x.ms.set i _) j).ids (updL x.I i (x.I i++N) j)
  rw[V4 hl]
  by_cases e:j=i
  ·subst e;rw[if_pos rfl,U9];unfold H3;rw[<-hn];exact Uf ho (by rw[m1.ty];decide)
  rw[if_neg e,Es _ _ e];exact E (2,j) _ _ _ (by simpa using e) rfl (h.ids j hj) rfl
 ·show Bk _ _ _ (meA (x.ms.set i _) j).ap _
  rw[Z];exact own_ch (h.aps j hj) G (by decide)
 ·rcases hat with hat|hat
  ·exact .inl (R.trans hat)
  exact .inr ⟨_,R.trans hat,fun y k hy=>by have:=h.olt y k hy;omega⟩
 by_cases e:y=(2,i)
 ·subst e;rw[R]at hy;exact Jn (C3 ho hy) K.size
 exact Jn (h.olt y k (by rw[<-Y y e];exact hy)) G.size
end Go.Proofs.YtfkagjelljnpdaaGreatDoor
namespace Go.Proofs.YtfkagjelljnpdaaGreatDoor
open ChangeShapes WideShapes ChangeAt RowKit Proofs.Tryz
variable {B b c eb hb i mb n p q ub:Nat}{H R:List Nat}{T:List Tm}{v v0 y:Value}{w wr:World}
theorem UD{base size:Nat}{e:TypeId}{xs:List Value}(h:w.ownsRow base e size v n xs):v.oneCell'=true:=by
 rcases Kx h with⟨e,_⟩|⟨g,c,e⟩<;>(rw[e];rfl)
def St.chgd(s:St)(v:Value)(xs:List Value):St:={ s with vC:=v,nC:=s.nC+1,xC:=xs }
def Sx.chgd(x:Sx)(v:Value)(xs:List Value):Sx:={ x with s:=x.s.chgd v xs }
def Sx.clash(x:Sx)(c:Bool):Sx:={ x with s:={ x.s with cl:=c } }
theorem Hk{x:Sx}(h:Hp w B eb mb hb ub T H x)(i:Nat)(hi:i<T.length)(hn:x.s.nC<=1000000000) :
 Calls prog 31 #[.pointer (some ⟨eb,0,none⟩),mp mb i] w fun e w'=>e=.returned (mp mb i)/\∃v' xs',Hp w' B eb mb hb ub T H (x.chgd v' xs')/\Ch B NoX [some 59,some 114] w w':=by
 have hl:i<x.ms.length:=by rw[h.sta.ml];exact hi
 refine(Sy (ms:=x.ms) i w h.dyn.box (rfl:x.s.bx[11]? = some x.s.vC) h.dyn.chg h.dyn.low hn h.sta.mem hl (by rw[<-E7 hl];exact UD (h.ids i hi)) (by rw[<-E7 hl];exact UD (h.aps i hi))).mono ?_;rintro e w' ⟨rfl,v',xs',q,E,j⟩;exact⟨rfl,v',xs',h.ch j ⟨E,h.dyn.low,own_ch h.dyn.itm j (by decide),h.dyn.map.ch j (by decide),h.dyn.mlo,own_ch h.dyn.sig j (by decide),q,own_ch h.dyn.ent j (by decide)⟩ ⟨rfl,rfl,rfl,rfl⟩ (by decide) (by decide) (by decide) (by decide),j⟩
theorem Hp.clash{x:Sx}(h:Hp w B eb mb hb ub T H x)(c:Bool):Hp (w.setCell ⟨eb,10,none⟩ (.bool c)) B eb mb hb ub T H (x.clash c)/\Ch B NoX [some 59] w (w.setCell ⟨eb,10,none⟩ (.bool c)):=by
 have j:Ch B NoX [some 59] w (w.setCell ⟨eb,10,none⟩ (.bool c)):=Ch.set h.dyn.low (fun h=>h) (by rw[h.dyn.box.ty];simp);exact⟨h.ch j ⟨h.dyn.box.set 10 (.bool c),h.dyn.low,own_ch h.dyn.itm j (by decide),h.dyn.map.ch j (by decide),h.dyn.mlo,own_ch h.dyn.sig j (by decide),own_ch h.dyn.chg j (by decide),own_ch h.dyn.ent j (by decide)⟩ ⟨rfl,rfl,rfl,rfl⟩ (by decide) (by decide) (by decide) (by decide),j⟩
theorem Hp.c5{x:Sx}(h:Hp w B eb mb hb ub T H x):w.cell? ⟨eb,5,none⟩=some (.slice (some ⟨mb,0,none⟩) T.length T.length):=by
 have:w.cell? ⟨eb,5,none⟩=some x.s.vM:=h.dyn.box.bx.cell 5;rw[this,h.sta.vM]
theorem Hp.cells{x:Sx}(h:Hp w B eb mb hb ub T H x)(hi:i<T.length):w.cell? ⟨mb,i*8,none⟩=some (.int .i64 (i:Nat))/\w.cell? ⟨mb,i*8+1,none⟩=some (MR mb (meA x.ms i).up)/\w.cell? ⟨mb,i*8+2,none⟩=some (.bool (meA x.ms i).s0)/\w.cell? ⟨mb,i*8+3,none⟩=some (.bool (meA x.ms i).s1)/\w.cell? ⟨mb,i*8+4,none⟩=some (meA x.ms i).ids/\w.cell? ⟨mb,i*8+5,none⟩=some (.int .i64 ((meA x.ms i).least:Nat))/\w.cell? ⟨mb,i*8+6,none⟩=some (.bool (meA x.ms i).pl)/\w.cell? ⟨mb,i*8+7,none⟩=some (meA x.ms i).ap:=by
 have hl:i<x.ms.length:=by rw[h.sta.ml];exact hi
 rw[E7 hl];exact h.sta.mem.cells hl
theorem Hp.speak{x:Sx}{D:Nat->Nat}(h:Hp w B eb mb hb ub T H x)(hF:Fo x.ms R D)(hi:i<T.length):Calls prog 14 #[mp mb i] w fun e w'=>e=.returned (mp mb (labA R i))/\w'=w:=Hj w h.sta.mem hF i (by rw[h.sta.ml];exact hi)
theorem Mv:(prog.info? 45).map (fun i=>(i.zero,i.size,i.bytes))=some (some (.pointer none),1,8):=by kernel_rfl
theorem Fo.same{ms ms':List Me}{D:Nat->Nat}(h:Fo ms R D)(hl:ms'.length=ms.length)(hu:∀i,(meA ms' i).up=(meA ms i).up):Fo ms' R D:=by
 refine⟨by rw[hl];exact h.len,fun i hi=>?_⟩;have j:i<ms.length:=by omega
 have e:=hu i;rw[E7 hi,E7 j]at e;rw[e,hl];exact h.step i j
theorem Fo.rok{ms:List Me}{D:Nat->Nat}(h:Fo ms R D):ROk ms.length R:=by
 refine⟨h.len,fun i hi=>h.lt i hi,fun i hi=>?_⟩;have q:∀d i,D i<=d->i<ms.length->labA R (labA R i)=labA R i:=by
  intro d
  induction d with
  | zero=>
    intro i hd hi
    rcases h.step i hi with⟨_,e⟩|⟨j,_,_,_,J⟩
    ·rw[e,e]
    omega
  | succ d ih=>
    intro i hd hi
    rcases h.step i hi with⟨_,e⟩|⟨j,E,_,G,J⟩
    ·rw[e,e]
    rw[<-G];exact ih j (by omega) E
 exact q _ i leR hi
theorem Th(mb:Nat)(P:List Nat)(b:Nat):mpV mb (P++[b])=mpV mb P++[.pointer (some ⟨mb,b*8,none⟩)]:=by simp[mpV,mp]
def IC(n:Nat)(x x':Sx):Prop:=x'.s.sg=x.s.sg/\x'.s.xI=x.s.xI/\x'.s.nI=x.s.nI/\x'.s.gv=x.s.gv/\x'.s.nS=x.s.nS/\x'.s.nN=x.s.nN/\x'.s.t0=x.s.t0/\x'.s.t1=x.s.t1/\x'.s.vI=x.s.vI/\x'.s.nC=x.s.nC+2/\x'.vu=x.vu/\x'.U=x.U/\x'.I=x.I/\(∀k,(meA x'.ms k).up=(meA x.ms k).up/\(meA x'.ms k).least=(meA x.ms k).least)/\∀k,(x'.P k).length<=(x.P k).length+2/\∀y∈x'.P k,y∈x.P k∨y<n
theorem QL{x:Sx}{D:Nat->Nat}(h:Hp w B eb mb hb ub T H x)(hF:Fo x.ms R D)(i j:Nat)(hi:i<T.length)(hj:j<T.length)(hp:∀k,k<T.length->labA R k=k->(x.P k).length<=100000000)(hn:x.s.nC<=100000000) :
 Calls prog 33 #[.pointer (some ⟨eb,0,none⟩),.int .i64 (i:Nat),.int .i64 (j:Nat)] w fun e w'=>e=.returned (.tuple #[])/\∃x',Hp w' B eb mb hb ub T H x'/\IC T.length x x'/\Ch B NoX [some 59,some 114,some 45,some 49] w w':=by
 have V:=hF.lt i (by rw[h.sta.ml];exact hi);have Y:=hF.lt j (by rw[h.sta.ml];exact hj);rw[h.sta.ml]at V Y;have f5:=hF.rok;rw[h.sta.ml]at f5;have ra:=f5.idem i hi;have rb:=f5.idem j hj;have h0:=h.up (Ch.refl B NoX [] w).drew;have H0:=Hd h0;have e6:=Hd (h0.speak hF hi);have c5:=h.c5;have i1:(i:Int)<(T.length:Int):=by omega
 have i2:decide (i<T.length)=true:=Jb hi;have i3:(j:Int)<(T.length:Int):=by omega
 have i4:decide (j<T.length)=true:=Jb hj;have HF:=Hd hF;have HP:=Hd hp;obtain⟨a,ha⟩:=O2 (labA R i);obtain⟨b,h5⟩:=O2 (labA R j);rw[ha]at e6 V ra;rw[h5]at Y rb;have n2:=Hd ra;have n4:=Hd rb;have n5:=Hd h5;have h3:=Hd (Hk h0 a V (Jm hn (by omega)));unfold mp at e6 h3;clear h hF hp ha h5 ra rb f5;clear h0
 go_in
 go_upto_region 0 with fail
 go_cut [6,7] (fun p q wx=>p=.pointer (some ⟨mb,a*8,none⟩)/\q=.pointer (some ⟨mb,b*8,none⟩)/\∃v1 y1 v2 y2,Hp wx B eb mb hb ub T H ((x.chgd v1 y1).chgd v2 y2)/\Ch B NoX [some 59,some 114] w wx)
 case first=>
  refine Ph 20 rfl (S:=fun W=>W.cell? ⟨eb,5,none⟩=some (.slice (some ⟨mb,0,none⟩) T.length T.length)) (by kernel_rfl) (H0.o.c5) (fun hHeld=>?_);refine tk 0 8 (v:=?_) rfl rfl (by kernel_rfl) (fun _ _ _ h=>h) (Or.inl ⟨by rfl,?_⟩) (by assumption) ?_
  rotate_left
  ·(intro w E;(try dsimp only at E);go_simp;(try with_reducible rfl))
  try simp only[Act.put,Ja,Je,Jf]
  refine tk 1 9 (v:=?_) rfl rfl (by kernel_rfl) (fun _ _ _ h=>h) (Or.inl ⟨by rfl,?_⟩) (by assumption) ?_
  rotate_left
  ·(intro w E;(try dsimp only at E);go_simp;(try with_reducible rfl))
  try simp only[Act.put,Ja,Je,Jf]
  refine tk 2 10 (v:=?_) rfl rfl (by kernel_rfl) (fun _ _ _ h=>h) (Or.inl ⟨by rfl,?_⟩) (by assumption) ?_
  rotate_left
  ·(intro w E;(try dsimp only at E);go_simp;(try with_reducible rfl))
  try simp only[Act.put,Ja,Je,Jf]
  refine tk 3 11 (v:=?_) rfl rfl (by kernel_rfl) (fun _ _ _ h=>h) (Or.inl ⟨by rfl,?_⟩) (by assumption) ?_
  rotate_left
  ·(intro w E;(try dsimp only at E);go_simp;(try with_reducible rfl))
  try simp only[Act.put,Ja,Je,Jf]
  refine tk 4 12 (v:=?_) rfl rfl (by kernel_rfl) (fun _ _ _ h=>h) (Or.inl ⟨by rfl,?_⟩) (by assumption) ?_
  rotate_left
  ·(intro w E;(try dsimp only at E);go_simp;(try with_reducible rfl))
  try simp only[Act.put,Ja,Je,Jf]
  refine tk 5 13 (v:=?_) rfl rfl (by kernel_rfl) (fun _ _ _ h=>h) (Or.inl ⟨by rfl,?_⟩) (by assumption) ?_
  rotate_left
  ·(intro w E;(try dsimp only at E);go_simp;(try with_reducible rfl))
  try simp only[Act.put,Ja,Je,Jf]
  refine tk 6 14 (v:=?_) rfl rfl (by kernel_rfl) (fun _ _ _ h=>h) (Or.inl ⟨by rfl,?_⟩) (by assumption) ?_
  rotate_left
  ·(intro w E;(try dsimp only at E);go_simp;(try with_reducible rfl))
  try simp only[Act.put,Ja,Je,Jf]
  refine tk 9 17 (v:=?_) rfl rfl (by kernel_rfl) (fun _ _ _ h=>h) (Or.inl ⟨by rfl,?_⟩) (by assumption) ?_
  rotate_left
  ·(intro w E;(try dsimp only at E);go_simp;(try with_reducible rfl))
  try simp only[Act.put,Ja,Je,Jf]
  refine tk 10 18 (v:=?_) rfl rfl (by kernel_rfl) (fun _ _ _ h=>h) (Or.inl ⟨by rfl,?_⟩) (by assumption) ?_
  rotate_left
  ·(intro w E;(try dsimp only at E);go_simp;(try with_reducible rfl))
  try simp only[Act.put,Ja,Je,Jf]
  refine tk 11 19 (v:=?_) rfl rfl (by kernel_rfl) (fun _ _ _ h=>h) (Or.inl ⟨by rfl,?_⟩) (by assumption) ?_
  rotate_left
  ·(intro w E;(try dsimp only at E);go_simp;(try with_reducible rfl))
  try simp only[Act.put,Ja,Je,Jf]
  refine tk 12 20 (v:=?_) rfl rfl (by kernel_rfl) (fun _ _ _ h=>h) (Or.inl ⟨by rfl,?_⟩) (by assumption) ?_
  rotate_left
  ·(intro w E;(try dsimp only at E);go_simp;(try with_reducible rfl))
  try simp only[Act.put,Ja,Je,Jf]
  refine tk 13 21 (v:=?_) rfl rfl (by kernel_rfl) (fun _ _ _ h=>h) (Or.inl ⟨by rfl,?_⟩) (by assumption) ?_
  rotate_left
  ·(intro w E;(try dsimp only at E);go_simp;(try with_reducible rfl))
  try simp only[Act.put,Ja,Je,Jf]
  refine tk 14 22 (v:=?_) rfl rfl (by kernel_rfl) (fun _ _ _ h=>h) (Or.inl ⟨by rfl,?_⟩) (by assumption) ?_
  rotate_left
  ·(intro w E;(try dsimp only at E);go_simp;(try with_reducible rfl))
  try simp only[Act.put,Ja,Je,Jf]
  refine tk 15 23 (v:=?_) rfl rfl (by kernel_rfl) (fun _ _ _ h=>h) (Or.inl ⟨by rfl,?_⟩) (by assumption) ?_
  rotate_left
  ·(intro w E;(try dsimp only at E);go_simp;(try with_reducible rfl))
  try simp only[Act.put,Ja,Je,Jf]
  refine wpAnyH_ready (rs:=[7]) (by kernel_rfl) (by simp) ?_;refine AllReadyH.cons rfl (fun K hK=>?_) AllReadyH.nil
  go_simp
  go_at_call 14
  refine e6.o.mono ?_;rintro e w1 ⟨rfl,rfl⟩
  go_wp2_with fail
  refine hK.out _ _ (hHeld) (fun hHeld7=>?_);clear hK K
  try simp only[Act.put,Ja,Je,Jf]
  refine wpAnyH_ready (rs:=[8]) (by kernel_rfl) (by simp) ?_;refine AllReadyH.cons rfl (fun K hK=>?_) AllReadyH.nil
  go_simp
  go_at_call 31
  refine h3.o.mono ?_;rintro e w2 ⟨rfl,v1,y1,hh,hc⟩;have e1:=Hd hh;have m7:Hid (Ch B NoX [some 59,some 114] w w2):=⟨hc.os,hc.tape,hc.output,hc.size,hc.block⟩;have h4:=Hd (e1.o.speak (x:=x.chgd v1 y1) HF.o hj);rw[n5.o]at h4;have i8:=Hd (Hk e1.o b Y (show x.s.nC+1<=1000000000 by omega));unfold mp at h4 i8;clear hh hc
  go_wp2_with fail
  refine hK.out _ _ (e1.o.c5) (fun hHeld8=>?_);clear hK K
  try simp only[Act.put,Ja,Je,Jf]
  refine wpAnyH_ready (rs:=[16]) (by kernel_rfl) (by simp) ?_;refine AllReadyH.cons rfl (fun K hK=>?_) AllReadyH.nil
  go_simp
  go_at_call 14
  refine h4.o.mono ?_;rintro e w3 ⟨rfl,rfl⟩
  go_wp2_with fail
  refine hK.out _ _ (e1.o.c5) (fun hHeld16=>?_);clear hK K
  try simp only[Act.put,Ja,Je,Jf]
  refine wpAnyH_ready (rs:=[17]) (by kernel_rfl) (by simp) ?_;refine AllReadyH.cons rfl (fun K hK=>?_) AllReadyH.nil
  go_simp
  go_at_call 31
  refine i8.o.mono ?_;rintro e w4 ⟨rfl,v2,y2,hh,hc⟩;have Z:=Hd hh;have m8:Hid (Ch B NoX [some 59,some 114] w w4):=m7.o.trans hc;clear hh hc
  go_wp2_with fail
  refine hK.out _ _ (Z.o.c5) (fun hHeld17=>?_);clear hK K
  try simp only[Act.put,Ja,Je,Jf]
  refine tk 18 6 (v:=?_) rfl rfl (by kernel_rfl) (fun _ _ _ h=>h) (Or.inl ⟨by rfl,?_⟩) (by assumption) ?_
  rotate_left
  ·(intro w E;(try dsimp only at E);go_simp;(try with_reducible rfl))
  try simp only[Act.put,Ja,Je,Jf]
  refine tk 19 7 (v:=?_) rfl rfl (by kernel_rfl) (fun _ _ _ h=>h) (Or.inl ⟨by rfl,?_⟩) (by assumption) ?_
  rotate_left
  ·(intro w E;(try dsimp only at E);go_simp;(try with_reducible rfl))
  try simp only[Act.put,Ja,Je,Jf]
  refine wpAnyH_done (by kernel_rfl) ?_ _
  go_wp2
  go_meet
  exact⟨rfl,rfl,_,_,_,_,Z.o,m8.o⟩
 rename World=>wx
 obtain⟨rfl,rfl,v1,y1,v2,y2,hh,hc⟩:=hcut;have m6:=Hd hc;obtain⟨O,f8⟩:=O2 ((x.chgd v1 y1).chgd v2 y2);rw[f8]at hh;have Z:=Hd hh;have j9:=Hd f8;have j0:Hid (∀k,k<T.length->labA R k=k->(O.P k).length<=100000000):=by unfold Hid;rw[<-f8];exact HP.o
 obtain⟨i0,g9,l1,l4,l5⟩:=info_parts Mv;clear hh hc f8 e6 h3 c5;obtain⟨l6,k0,b3⟩:∃p c,(meA O.ms a).ap=.slice p (O.P a).length c:=by
  rcases Kx (Z.o.aps a V)with⟨e,_⟩|⟨g,c,e⟩
  ·exact⟨_,_,e⟩
  exact⟨_,_,e⟩
 obtain⟨L1,d1⟩:∃l,(O.P a).length=l:=⟨_,rfl⟩;have m1:=(Z.o.cells V).2.2.2.2.2.2.2;rw[b3,d1]at m1;have p0:L1<=200000000:=by rw[<-d1];exact Jm (j0.o a V n2.o) (by omega)
 obtain⟨f0,b5⟩:∃W,wx.alloc (.cells #[.pointer (some ⟨mb,b*8,none⟩)] 45)=W:=⟨_,rfl⟩;have j6:=Hd b5;have j4:Hid (Ch B NoX [] wx f0):=by unfold Hid;rw[<-b5];exact Ch.up _ _ _ (Oy _ _)
 have b1:=Hd (Z.o.up j4.o);have g0:Hid (f0.ownsRow B 45 1 (.slice l6 L1 k0) L1 (mpV mb (O.P a))):=by unfold Hid;rw[<-d1,<-b3];exact b1.o.aps a V
 have j1:Hid (∀j u,([.pointer (some ⟨mb,b*8,none⟩)]:List Value)[j]? = some u->f0.cell? ((⟨wx.heap.size,0,none⟩:Addr).add j)=some u):=by
  unfold Hid;rw[<-b5];exact World.news_of_block (cs:=#[.pointer (some ⟨mb,b*8,none⟩)]) (t:=45) (fr:=(0,0)) (heap_alloc_new wx _)
 have n9:B<=f0.heap.size:=b1.o.sta.bs;have c6:=Hd d1;have g4:=Hd b3;clear b5 d1 b3
 go_wp2_with (at_builtin;rw[j6.o];refine wpList_append_lies _ rfl _ _ 47 rfl B 45 i0 (.pointer none) 1 8 underlying47 g9 l1 l4 l5 rfl (by omega) (.slice l6 L1 k0) L1 (mpV mb (O.P a)) rfl g0.o ⟨wx.heap.size,0,none⟩ 1 1 [.pointer (some ⟨mb,b*8,none⟩)] rfl rfl j1.o (by simp[Value.oneCell']) (by omega) (by unfold maxLen;omega) (by omega) n9 _ rfl ?_)
 intro g1 c1 l8 d7 d5 g7 k9;have h9:=Hd (Ch.grown (B:=B) (X:=NoX) (ts:=[some 45]) d5 g0.o leR (fun _ _ h=>h) (by simp));have a8:=Hd (b1.o.apu (i:=a) (n':=L1+1) (v':=.slice (some ⟨g1,0,none⟩) (L1+1) c1) V (N:=[b]) (w1:=l8) (by rw[g4.o];rw[c6.o];exact d5) (by simp[c6.o]) (by rw[Th];exact d7) (by rw[g4.o,c6.o];exact g7.elim (fun h=>.inl h.symm) (fun h=>.inr (by rw[h];rfl))));have h7:=b1.o.sta.mem.ch h9.o (by decide);have k1:=(h7.cells (i:=a) (by rw[Z.o.sta.ml];exact V)).2.2.2.2.2.2.2;have q1:=h7.fz (a*8+7);obtain⟨a1,d3⟩:∃W,l8.setCell ⟨mb,a*8+7,none⟩ (.slice (some ⟨g1,0,none⟩) (L1+1) c1)=W:=⟨_,rfl⟩;rw[d3]at a8;have g6:=Hd d3;clear d7 d5 g7 k9 h7 d3 m1
 go_upto_region 2 with fail
 rw[g6.o];clear k1 q1;obtain⟨J,f9⟩:=O2 ({ O with ms:=O.ms.set a { meA O.ms a with ap:=.slice (some ⟨g1,0,none⟩) (L1+1) c1 },P:=updL O.P a (O.P a++[b]) }:Sx);rw[f9]at a8;have b9:=Hd a8.o.1;have m9:Hid (Ch B NoX [some 45,some 49] wx a1):=(j4.o.wide (by decide)).trans a8.o.2;have e7:=Hd f9;have n1:Hid (∀k,k<T.length->labA R k=k->(J.P k).length<=200000000):=by
  intro k hk hr;rw[<-f9]
  show(updL O.P a (O.P a++[b]) k).length<=_
  have h1:=j0.o k hk hr
  by_cases e:k=a
  ·subst e;rw[U9,Jq];simp;omega
  rw[Es _ _ e];omega
 clear f9 g6;obtain⟨l7,k7,b4⟩:∃p c,(meA J.ms b).ap=.slice p (J.P b).length c:=by
  rcases Kx (b9.o.aps b Y)with⟨e,_⟩|⟨g,c,e⟩
  ·exact⟨_,_,e⟩
  exact⟨_,_,e⟩
 obtain⟨L2,d2⟩:∃l,(J.P b).length=l:=⟨_,rfl⟩;have m2:=(b9.o.cells Y).2.2.2.2.2.2.2;rw[b4,d2]at m2;have p1:L2<=200000000:=by rw[<-d2];exact n1.o b Y n4.o
 obtain⟨f1,b6⟩:∃W,a1.alloc (.cells #[.pointer (some ⟨mb,a*8,none⟩)] 45)=W:=⟨_,rfl⟩;have j7:=Hd b6;have j5:Hid (Ch B NoX [] a1 f1):=by unfold Hid;rw[<-b6];exact Ch.up _ _ _ (Oy _ _)
 have b2:=Hd (b9.o.up j5.o);have g3:Hid (f1.ownsRow B 45 1 (.slice l7 L2 k7) L2 (mpV mb (J.P b))):=by unfold Hid;rw[<-d2,<-b4];exact b2.o.aps b Y
 have j2:Hid (∀j u,([.pointer (some ⟨mb,a*8,none⟩)]:List Value)[j]? = some u->f1.cell? ((⟨a1.heap.size,0,none⟩:Addr).add j)=some u):=by
  unfold Hid;rw[<-b6];exact World.news_of_block (cs:=#[.pointer (some ⟨mb,a*8,none⟩)]) (t:=45) (fr:=(0,0)) (heap_alloc_new a1 _)
 have o0:B<=f1.heap.size:=b2.o.sta.bs;have c8:=Hd d2;have g5:=Hd b4;clear b6 d2 b4
 go_wp2_with (at_builtin;rw[j7.o];refine wpList_append_lies _ rfl _ _ 47 rfl B 45 i0 (.pointer none) 1 8 underlying47 g9 l1 l4 l5 rfl (by omega) (.slice l7 L2 k7) L2 (mpV mb (J.P b)) rfl g3.o ⟨a1.heap.size,0,none⟩ 1 1 [.pointer (some ⟨mb,a*8,none⟩)] rfl rfl j2.o (by simp[Value.oneCell']) (by omega) (by unfold maxLen;omega) (by omega) o0 _ rfl ?_)
 intro g2 c2 l9 d8 d6 g8 l0;have i6:=Hd (Ch.grown (B:=B) (X:=NoX) (ts:=[some 45]) d6 g3.o leR (fun _ _ h=>h) (by simp));have b0:=Hd (b2.o.apu (i:=b) (n':=L2+1) (v':=.slice (some ⟨g2,0,none⟩) (L2+1) c2) Y (N:=[a]) (w1:=l9) (by rw[g5.o];rw[c8.o];exact d6) (by simp[c8.o]) (by rw[Th];exact d8) (by rw[g5.o,c8.o];exact g8.elim (fun h=>.inl h.symm) (fun h=>.inr (by rw[h];rfl))));have h8:=b2.o.sta.mem.ch i6.o (by decide);have k2:=(h8.cells (i:=b) (by rw[b9.o.sta.ml];exact Y)).2.2.2.2.2.2.2;have q2:=h8.fz (b*8+7);obtain⟨d0,d4⟩:∃W,l9.setCell ⟨mb,b*8+7,none⟩ (.slice (some ⟨g2,0,none⟩) (L2+1) c2)=W:=⟨_,rfl⟩;rw[d4]at b0;have j8:=Hd d4;clear d8 d6 g8 l0 h8 d4 m2
 go_upto_region 3 with fail
 rw[j8.o];clear k2 q2;obtain⟨x4,G⟩:=O2 ({ J with ms:=J.ms.set b { meA J.ms b with ap:=.slice (some ⟨g2,0,none⟩) (L2+1) c2 },P:=updL J.P b (J.P b++[a]) }:Sx);rw[G]at b0;have e4:=Hd b0.o.1;have n0:Hid (Ch B NoX [some 45,some 49] a1 d0):=(j5.o.wide (by decide)).trans b0.o.2;have i7:Hid (Ch B NoX [some 59,some 114,some 45,some 49] w d0):=((m6.o.wide (by decide)).trans (m9.o.wide (by decide))).trans (n0.o.wide (by decide));have j3:Hid (∀c,IC T.length x (x4.clash c)):=by
  intro c;have l2:a<O.ms.length:=by rw[Z.o.sta.ml];exact V
  have l3:b<J.ms.length:=by rw[b9.o.sta.ml];exact Y
  have u3:∀k,(meA J.ms k).up=(meA O.ms k).up/\(meA J.ms k).least=(meA O.ms k).least:=fun k=>by
   rw[<-e7.o]
   show(meA (O.ms.set a _) k).up=_/\(meA (O.ms.set a _) k).least=_
   rw[V4 l2]
   split
   ·rename_i e;rw[e];exact⟨rfl,rfl⟩
   exact⟨rfl,rfl⟩
  have u4:∀k,(meA x4.ms k).up=(meA J.ms k).up/\(meA x4.ms k).least=(meA J.ms k).least:=fun k=>by
   rw[<-G]
   show(meA (J.ms.set b _) k).up=_/\(meA (J.ms.set b _) k).least=_
   rw[V4 l3]
   split
   ·rename_i e;rw[e];exact⟨rfl,rfl⟩
   exact⟨rfl,rfl⟩
  have p3:∀k,(J.P k).length<=(O.P k).length+1/\∀y∈J.P k,y∈O.P k∨y<T.length:=fun k=>by
   rw[<-e7.o]
   show(updL O.P a (O.P a++[b]) k).length<=_/\∀y∈updL O.P a (O.P a++[b]) k,_
   by_cases e:k=a
   ·subst e;rw[U9];refine⟨by simp,fun y hy=>?_⟩;rcases Yc.1 hy with h|h;exact .inl h;rw[J5.1 h];exact .inr Y
   rw[Es _ _ e];exact⟨by omega,fun y hy=>.inl hy⟩
  have p4:∀k,(x4.P k).length<=(J.P k).length+1/\∀y∈x4.P k,y∈J.P k∨y<T.length:=fun k=>by
   rw[<-G]
   show(updL J.P b (J.P b++[a]) k).length<=_/\∀y∈updL J.P b (J.P b++[a]) k,_
   by_cases e:k=b
   ·subst e;rw[U9];refine⟨by simp,fun y hy=>?_⟩;rcases Yc.1 hy with h|h;exact .inl h;rw[J5.1 h];exact .inr V
   rw[Es _ _ e];exact⟨by omega,fun y hy=>.inl hy⟩
  have e2:=j9.o;have e3:=e7.o;refine⟨by rw[<-G,<-e3,<-e2];rfl,by rw[<-G,<-e3,<-e2];rfl,by rw[<-G,<-e3,<-e2];rfl,by rw[<-G,<-e3,<-e2];rfl,by rw[<-G,<-e3,<-e2];rfl,by rw[<-G,<-e3,<-e2];rfl,by rw[<-G,<-e3,<-e2];rfl,by rw[<-G,<-e3,<-e2];rfl,by rw[<-G,<-e3,<-e2];rfl,by rw[<-G,<-e3,<-e2];rfl,by rw[<-G,<-e3,<-e2];rfl,by rw[<-G,<-e3,<-e2];rfl,by rw[<-G,<-e3,<-e2];rfl,fun k=>?_,fun k=>?_⟩
  ·show(meA x4.ms k).up=_/\(meA x4.ms k).least=_
   rw[(u4 k).1,(u3 k).1,(u4 k).2,(u3 k).2,<-e2];exact⟨rfl,rfl⟩
  show(x4.P k).length<=_/\∀y∈x4.P k,_
  have h1:=p3 k;have h2:=p4 k;rw[<-e2]at h1;have e5:(((x.chgd v1 y1).chgd v2 y2).P k)=x.P k:=rfl;rw[e5]at h1;refine⟨by omega,fun y hy=>?_⟩
  rcases h2.2 y hy with h|h
  ·exact h1.2 y h
  exact .inr h
 have e0:=Hd e4.o.clash;have n6:d0.cell? ⟨eb,10,none⟩=some (.bool x4.s.cl):=e4.o.dyn.box.bx.cell 10;have o7:=e4.o.dyn.box.bx.fz 10;have hq:(binOp .eql 45 (.pointer (some ⟨mb,a*8,none⟩)) (.pointer (some ⟨mb,b*8,none⟩))).run prog d0=.ok (.bool (decide (a=b))) d0:=ZY e4.o.sta.mem a b;clear G j9 e7;obtain⟨cl,k8⟩:∃c,x4.s.cl=c:=⟨_,rfl⟩;rw[k8]at n6;clear k8
 cases cl with
 | true=>
   go_wp2_with fail
   go_end0
   exact⟨rfl,_,(e0.o true).1,j3.o true,i7.o.trans ((e0.o true).2.wide (by decide))⟩
 | false=>
   obtain⟨d,hd⟩:=O2 (decide (a=b));rw[hd]at hq;clear hd
   go_wp2_with fail
   go_end0
   exact⟨rfl,_,(e0.o d).1,j3.o d,i7.o.trans ((e0.o d).2.wide (by decide))⟩
theorem Fo.join{ms ms':List Me}{D:Nat->Nat}(h:Fo ms R D){a:Nat}(_ha:a<ms.length)(hb:b<ms.length)(ea:labA R a=a)(eb:labA R b=b)(hab:a≠b)(hl:ms'.length=ms.length)(hu:∀i,(meA ms' i).up=if i=a then some b else(meA ms i).up):Fo ms' (relbl R a b) (fun i=>if labA R i=a then D i+D b+1 else D i):=by
 have J:=h.len;refine⟨by rw[In,J,hl],fun i hi=>?_⟩;have q:i<ms.length:=by omega
 have e:=hu i;rw[E7 hi]at e;rw[e]
 by_cases g:i=a
 ·subst g;refine .inr ⟨b,by omega,by rw[if_pos rfl],?_,?_⟩
  ·rw[V3 (by omega),V3 (by omega),eb,ea,if_neg (Ne.symm hab),if_pos rfl]
  show(if labA R b=i then _ else _)<(if labA R i=i then _ else _)
  rw[eb,ea,if_neg (Ne.symm hab),if_pos rfl];omega
 rw[if_neg g,E7 q]
 rcases h.step i q with⟨G,E⟩|⟨j,O,G,E,K⟩
 ·exact .inl ⟨G,by rw[V3 (by omega),E,if_neg g]⟩
 refine .inr ⟨j,by omega,G,by rw[V3 (by omega),V3 (by omega),E],?_⟩
 show(if labA R j=a then _ else _)<(if labA R i=a then _ else _)
 rw[E]
 split<;>omega
def FD(mb:Nat)(W:List (Nat×Nat)):List Value:=W.flatMap (fun p=>[mp mb p.1,mp mb p.2])
def It(mb:Nat)(s:St)(W:List (Nat×Nat)):Prop:=∃pre:List (Nat×Nat),s.xI=FD mb (pre++W)/\s.nI=(pre++W).length/\s.gv=pre.length
theorem It.put{s s':St}{W:List (Nat×Nat)}(h:It mb s W){t u:Nat}(e1:s'.xI=s.xI++[mp mb t,mp mb u])(e2:s'.nI=s.nI+1)(e3:s'.gv=s.gv):It mb s' (W++[(t,u)]):=by
 obtain⟨pre,j,q,E⟩:=h;refine⟨pre,?_,?_,by rw[e3,E]⟩
 ·rw[e1,j,<-Ys];simp[FD]
 rw[e2,q];simp;omega
theorem It.same{s s':St}{W:List (Nat×Nat)}(h:It mb s W)(e1:s'.xI=s.xI)(e2:s'.nI=s.nI)(e3:s'.gv=s.gv):It mb s' W:=by
 obtain⟨pre,j,q,E⟩:=h;exact⟨pre,e1.trans j,e2.trans q,e3.trans E⟩
def BI(s s':St):Prop:=s'.nI<=s.nI+1/\s'.nS<=s.nS+1/\s'.nN<=s.nN+1/\s'.nC=s.nC/\s'.gv=s.gv/\s'.t0=s.t0/\s'.t1=s.t1
theorem UB{x:Sx}{D:Nat->Nat}{W:List (Nat×Nat)}(h:Hp w B eb mb hb ub T H x)(hF:Fo x.ms R D)(t:Nat)(ht:t<T.length)(hu:∀k u,x.s.sg k=some u->u<T.length)(hW:It mb x.s W)(hnI:x.s.nI<=5000000000000)(hnS:x.s.nS<=5000000000000)(hnN:x.s.nN<=5000000000000) :
 Calls prog 30 #[.pointer (some ⟨eb,0,none⟩),.int .i64 (t:Nat)] w fun e w'=>e=.returned (.tuple #[])/\∃s' W',Hp w' B eb mb hb ub T H { x with s:=s' }/\It mb s' W'/\LP x.s.sg W s'.sg W' (Gx T H R t) t/\BI x.s s'/\Ch B NoX UM w w'/\Pk w x.s.vI w' s'.vI:=by
 refine(RE t h.dyn h.sta hF ht hu hnI hnS hnN).mono ?_;rintro e w' ⟨rfl,j,v2,⟨u,v',q,E,G⟩|⟨q,vN,xN,E,G⟩⟩
 ·exact⟨rfl,_,W++[(t,u)],h.ch j E ⟨rfl,rfl,rfl,rfl⟩ (by decide) (by decide) (by decide) (by decide),hW.put rfl rfl rfl,.inl ⟨u,q,rfl,rfl⟩,⟨leR,Y8 _,Y8 _,rfl,rfl,rfl,rfl⟩,j,G⟩
 exact⟨rfl,_,W,h.ch j E ⟨rfl,rfl,rfl,rfl⟩ (by decide) (by decide) (by decide) (by decide),hW.same rfl rfl rfl,.inr ⟨q,rfl,rfl⟩,⟨Y8 _,leR,leR,rfl,rfl,rfl,rfl⟩,j,G⟩
structure Stat(T:List Tm)(H:List Nat)(U:Nat->List Nat):Prop where
 hd:HdOk T H
 tk:TmK T
 uq:Ww T
 n3:T.length<=3000
 use:∀t,t<T.length->U5 (tmAt T (t:Nat)).op=false->∀i,i<(tmAt T (t:Nat)).kids.length->t∈U (O9 (tmAt T (t:Nat)) i)
 uno:∀k,k<T.length->∀t∈U k,t<T.length/\U5 (tmAt T (t:Nat)).op=false
 ulen:∀k,k<T.length->(U k).length<=150000
def Ug:List (Option TypeId):=[some 59,some 84,some 5,some 9,none,some 114,some 49,some 3,some 45]
structure JS(B eb mb hb ub:Nat)(T:List Tm)(H R:List Nat)(Bq:Nat->Nat->Prop)(x:Sx)(W0:List (Nat×Nat))(w:World)(v0:Value)(wr:World)(s':St)(W':List (Nat×Nat))(rest:Nat->Prop)(c:Nat):Prop where
 hp:Hp wr B eb mb hb ub T H { x with s:=s' }
 it:It mb s' W'
 snd:Snd T (madeL T T.length) Bq H R s'.sg W'
 sig:∀t,t<T.length->U5 (tmAt T (t:Nat)).op=false->Hv T H R s'.sg W' t∨rest t
 sub:∀p∈W0,p∈W'
 wl:W'.length<=W0.length+c
 cI:s'.nI<=x.s.nI+c
 cS:s'.nS<=x.s.nS+c
 cN:s'.nN<=x.s.nN+c
 cC:s'.nC=x.s.nC
 t0:s'.t0=x.s.t0
 t1:s'.t1=x.s.t1
 ch:Ch B NoX Ug w wr
 pk:Pk w v0 wr s'.vI
theorem JS.imp{Bq:Nat->Nat->Prop}{x:Sx}{W0:List (Nat×Nat)}{s':St}{W':List (Nat×Nat)}{rest rest':Nat->Prop}{c':Nat}(h:JS B eb mb hb ub T H R Bq x W0 w v0 wr s' W' rest c)(hr:∀t,rest t->rest' t)(hc:c<=c'):JS B eb mb hb ub T H R Bq x W0 w v0 wr s' W' rest' c':=
 ⟨h.hp,h.it,h.snd,fun t h1 h2=>(h.sig t h1 h2).imp id (hr t),h.sub,Jm h.wl (by omega),Jm h.cI (by omega),Jm h.cS (by omega),Jm h.cN (by omega),h.cC,h.t0,h.t1,h.ch,h.pk⟩
theorem JS.sign{Bq:Nat->Nat->Prop}{x:Sx}{D:Nat->Nat}{W0:List (Nat×Nat)}{s':St}{W':List (Nat×Nat)}{rest:Nat->Prop}(h:JS B eb mb hb ub T H R Bq x W0 w v0 wr s' W' rest c)(hS:Stat T H x.U)(hF:Fo x.ms R D)(t:Nat)(ht:t<T.length)(hl:U5 (tmAt T (t:Nat)).op=false)(hn:x.s.nI+c<=5000000000000/\x.s.nS+c<=5000000000000/\x.s.nN+c<=5000000000000) :
 Calls prog 30 #[.pointer (some ⟨eb,0,none⟩),.int .i64 (t:Nat)] wr fun e w'=>e=.returned (.tuple #[])/\∃s2 W2,JS B eb mb hb ub T H R Bq x W0 w v0 w' s2 W2 (fun y=>rest y/\y≠t) (c+1):=by
 have J:=hF.rok;rw[h.hp.sta.ml]at J;refine(UB (x:={ x with s:=s' }) h.hp hF t ht (fun k u hk=>(h.snd.ss k u hk).1) h.it (Jm h.cI hn.1) (Jm h.cS hn.2.1) (Jm h.cN hn.2.2)).mono ?_;rintro e w' ⟨rfl,s2,W2,Y,Z,j,⟨K,O,V,q,g5,E,G⟩,h5,h6⟩;have a1:=h.cI;have a2:=h.cS;have a3:=h.cN;have a4:=h.wl;simp only at K O V q E G;refine⟨rfl,s2,W2,Y,Z,h.snd.step J hS.hd hS.tk hS.uq hS.n3 ht hl j,fun y hy hly=>?_,fun p hp=>?_,?_,by omega,by omega,by omega,q.trans h.cC,E.trans h.t0,G.trans h.t1,h.ch.trans (h5.wide (by decide)),h.pk.trans h6⟩
 ·by_cases e:y=t
  ·subst e;exact .inl (Hv.new j)
  exact(h.sig y hy hly).imp (fun h=>h.step j) (fun h=>⟨h,e⟩)
 ·have:=h.sub p hp
  rcases j with⟨u,_,_,rfl⟩|⟨_,_,rfl⟩
  ·exact Va _ this
  exact this
 rcases j with⟨u,_,_,rfl⟩|⟨_,_,rfl⟩
 ·rw[Jq];simp;omega
 omega
structure Lg(T:List Tm)(H:List Nat)(Bq:Nat->Nat->Prop)(x:Sx)(R:List Nat)(D:Nat->Nat)(W:List (Nat×Nat))(Q:Nat->Nat->Prop)(f:Nat):Prop where
 fo:Fo x.ms R D
 idk:Wl T.length R x.I
 lek:KZ T.length R (fun i=>(meA x.ms i).least)
 snd:Snd T (madeL T T.length) Bq H R x.s.sg W
 sig:∀t,t<T.length->U5 (tmAt T (t:Nat)).op=false->Hv T H R x.s.sg W t
 fct:∀a b,Q a b->Rj T.length R W a b
 apl:∀i,i<T.length->labA R i=i->(x.P i).length<=f*(x.I i).length/\∀y∈x.P i,y<T.length
structure Cn(n:Nat)(x:Sx)(R:List Nat)(K C:Nat):Prop where
 cI:x.s.nI+ZM n R*450000000<=K+2
 cS:x.s.nS+ZM n R*450000000<=K
 cN:x.s.nN+ZM n R*450000000<=K
 cC:x.s.nC+ZM n R*2<=C
theorem Wl.len{I:Nat->List Nat}(h:Wl n R I){r:Nat}(hr:r<n)(e:labA R r=r):1<=(I r).length/\(I r).length<=n:=by
 obtain⟨j,q⟩:=h r hr e;refine⟨List.length_pos_of_mem ((j r).2 ⟨hr,e⟩),R7 q (fun x hx=>((j x).1 hx).1)⟩
theorem Iu:(prog.info? 3).map (fun i=>(i.zero,i.size,i.bytes))=some (some (.int .i64 0),1,8):=by kernel_rfl
theorem UO{m:Nat}{t e:TypeId}{i:TypeInfo}{z:Value}{xs ys:List Value}(ht:prog.underlying t=some (.slice e))(hi:prog.info? e=some i)(hz:i.zero=some z)(hs:i.size=1)(hby:i.bytes=8)(hzs:z.cells.size=1)(hv:w.ownsRow B e 1 v n xs)(hy:w.ownsRow B e 1 y m ys)(h1:∀u∈ys,u.oneCell'=true)(hn:n+m<=1000000000)(hB:B<=w.heap.size) :
 ∃v' w',(Builtin.append_ #[t,t] t #[v,y]).run prog w=.ok v' w'/\w'.ownsRow B e 1 v' (n+m) (xs++ys)/\w.grownBy w' v.ownBlock/\(v'.ownBlock=v.ownBlock∨v'.ownBlock=some w.heap.size):=by
 rcases Kx hy with⟨rfl,rfl⟩|⟨g,c,rfl⟩
 ·have q:ys=[]:=Jt (by have:=hy.1;omega);subst q;exact⟨v,w,run_append_owned_none w B t t e i 1 ht hi v n xs hv,by rw[Vo];exact hv,⟨rfl,rfl,rfl,leR,fun _ _ _=>rfl⟩,.inl rfl⟩
 obtain⟨v',w',K,E,G,_,J⟩:=run_append_own_at (P:=prog) w B t t e i z 1 8 ht hi hz hs hby hzs (by omega) v n xs hv ⟨g,0,none⟩ m c ys hy.1 (fun j u hu=>by
  have h:(⟨g,0,none⟩:Addr).add j=⟨g,j,none⟩:=by unfold Addr.add;split<;>simp_all
  rw[h];exact(hy.cellAt j (by have:=(Zm.1 hu).1;rw[hy.1]at this;exact this)).trans hu) h1 (by unfold maxLen;omega) (by omega) hB
 exact⟨v',w',K,E,G,J⟩
theorem DI(L:List Nat):∀u∈labV L,u.oneCell'=true:=fun u hu=>by obtain⟨x,_,rfl⟩:=Yu.1 hu;rfl
theorem DA(mb:Nat)(L:List Nat):∀u∈mpV mb L,u.oneCell'=true:=fun u hu=>by obtain⟨x,_,rfl⟩:=Yu.1 hu;rfl
theorem PD{L K:List Nat}(hv:H3 w B v L)(hy:H3 w B y K)(hn:L.length+K.length<=1000000000)(hB:B<=w.heap.size):∃v' w',(Builtin.append_ #[31,31] 31 #[v,y]).run prog w=.ok v' w'/\w'.ownsRow B 3 1 v' (L++K).length (labV (L++K))/\w.grownBy w' v.ownBlock/\(v'.ownBlock=v.ownBlock∨v'.ownBlock=some w.heap.size):=by
 obtain⟨i0,h,j,q,E⟩:=info_parts Iu;obtain⟨v',w',G,J,O,R⟩:=UO underlying31 h j q E rfl hv hy (DI K) hn hB;exact⟨v',w',G,by rw[Jq,(by simp[labV]:labV (L++K)=labV L++labV K)];exact J,O,R⟩
theorem PP{L K:List Nat}(hv:Bk w B mb v L)(hy:Bk w B mb y K)(hn:L.length+K.length<=1000000000)(hB:B<=w.heap.size):∃v' w',(Builtin.append_ #[47,47] 47 #[v,y]).run prog w=.ok v' w'/\w'.ownsRow B 45 1 v' (L++K).length (mpV mb (L++K))/\w.grownBy w' v.ownBlock/\(v'.ownBlock=v.ownBlock∨v'.ownBlock=some w.heap.size):=by
 obtain⟨i0,h,j,q,E⟩:=info_parts Mv;obtain⟨v',w',G,J,O,R⟩:=UO underlying47 h j q E rfl hv hy (DA mb K) hn hB;exact⟨v',w',G,by rw[Jq,(by simp[mpV]:mpV mb (L++K)=mpV mb L++mpV mb K)];exact J,O,R⟩
theorem Hp.apAt{x:Sx}(h:Hp w B eb mb hb ub T H x)(hi:i<T.length)(hl:(x.P i).length<=1000000000)(hp:∀y∈x.P i,y<T.length):PI w mb T.length (meA x.ms i).ap:=by
 have q:=h.aps i hi
 rcases Kx q with⟨e,E⟩|⟨g,c,e⟩
 ·exact⟨none,_,0,e,hl,.inl E⟩
 refine⟨_,_,c,e,hl,.inr ⟨g,rfl,fun j hj=>?_⟩⟩;unfold Bk at q;rw[e]at q;have G:=q.cellAt j (by omega);refine⟨(x.P i)[j],hp _ (Jj hj),G.trans ?_⟩;simp[mpV,hj]
theorem G1{P:Program}{ops:Array Oper}{o:Oper}{a:Act}{K:Act->World->Prop}{Q:Exit->Act->World->Prop}{E:Prop}(hgd:o.guard=none)(s x:Operand)(t:TypeId)(ho:o.op=.call { callee:=.builtin .append,args:=#[s,x],argTypes:=#[t,t] })(v y:Value)(hs:a.eval s=v)(hx:a.eval x=y)(ty:TypeId)(hty:o.type=ty)(v':Value)(w':World)(hr:(Builtin.append_ #[t,t] ty #[v,y]).run P w=.ok v' w')(h:K (a.put o.dst v') w') :
 if Region.wanted o (yielded ops a.tmps)=true then Oper.wp P o a w K Q else E:=by
 have j:Region.wanted o (yielded ops a.tmps)=true:=by simp[Region.wanted,hgd]
 rw[if_pos j];unfold Oper.wp execOp;subst hty;simp only[ho,resolve,invoke,builtin,Sem.run_bind,Sem.run_pure,Result.andThen_ok,List.map_toArray,Za,Zq,hs,hx,hr];exact h
theorem Hp.idJoin{y:Sx}(h:Hp w B eb mb hb ub T H y){a:Nat}(ha:a<T.length)(hb':b<T.length)(h1:1<=(y.I b).length)(hle:(y.I b).length+(y.I a).length<=1000000000)(hn:n=(y.I b++y.I a).length) :
 ∃g c w6,(Builtin.append_ #[31,31] 31 #[(meA y.ms b).ids,(meA y.ms a).ids]).run prog w=.ok (.slice (some ⟨g,0,none⟩) n c) w6/\w6.cell? ⟨mb,b*8+4,none⟩=some (meA y.ms b).ids/\w6.frozen? ⟨mb,b*8+4,none⟩=false/\Hp (w6.setCell ⟨mb,b*8+4,none⟩ (.slice (some ⟨g,0,none⟩) n c)) B eb mb hb ub T H { y with ms:=y.ms.set b { meA y.ms b with ids:=.slice (some ⟨g,0,none⟩) n c },I:=updL y.I b (y.I b++y.I a) }/\Ch B NoX [some 3,some 49] w (w6.setCell ⟨mb,b*8+4,none⟩ (.slice (some ⟨g,0,none⟩) n c)):=by
 obtain⟨v6,w6,q,j,G,J⟩:=PD (h.ids b hb') (h.ids a ha) hle h.sta.bs
 rcases Kx j with⟨_,e⟩|⟨g,c,rfl⟩
 ·rw[Jq]at e;omega
 have E:=h.idu hb' G rfl j J;have hm:=h.sta.mem.ch (Ch.grown (B:=B) (X:=NoX) (ts:=[some 3]) G (h.ids b hb') leR (fun _ _ h=>h) (by simp)) (by decide);have hl:b<y.ms.length:=by rw[h.sta.ml];exact hb'
 rw[<-hn]at q E;exact⟨g,c,w6,q,by rw[E7 hl];exact(hm.cells hl).2.2.2.2.1,hm.fz _,E.1,E.2⟩
theorem Hp.apJoin{y:Sx}(h:Hp w B eb mb hb ub T H y){a:Nat}(ha:a<T.length)(hb':b<T.length)(hle:(y.P b).length+(y.P a).length<=1000000000) :
 ∃v6 w6,(v6=.slice none 0 0∨∃g n c,v6=.slice (some ⟨g,0,none⟩) n c)/\(Builtin.append_ #[47,47] 47 #[(meA y.ms b).ap,(meA y.ms a).ap]).run prog w=.ok v6 w6/\w6.cell? ⟨mb,b*8+7,none⟩=some (meA y.ms b).ap/\w6.frozen? ⟨mb,b*8+7,none⟩=false/\Hp (w6.setCell ⟨mb,b*8+7,none⟩ v6) B eb mb hb ub T H { y with ms:=y.ms.set b { meA y.ms b with ap:=v6 },P:=updL y.P b (y.P b++y.P a) }/\Ch B NoX [some 45,some 49] w (w6.setCell ⟨mb,b*8+7,none⟩ v6):=by
 obtain⟨v6,w6,G,j,q,J⟩:=PP (h.aps b hb') (h.aps a ha) hle h.sta.bs;have E:=h.apu hb' q rfl j J;have hm:=h.sta.mem.ch (Ch.grown (B:=B) (X:=NoX) (ts:=[some 45]) q (h.aps b hb') leR (fun _ _ h=>h) (by simp)) (by decide);have hl:b<y.ms.length:=by rw[h.sta.ml];exact hb'
 refine⟨v6,w6,?_,G,by rw[E7 hl];exact(hm.cells hl).2.2.2.2.2.2.2,hm.fz _,E.1,E.2⟩
 rcases Kx j with⟨e,K⟩|⟨g,c,e⟩
 ·exact .inl (by rw[e,K])
 exact .inr ⟨g,_,c,e⟩
def MB(B eb mb hb ub:Nat)(T:List Tm)(H:List Nat)(Bq:Nat->Nat->Prop)(x:Sx)(R:List Nat)(W:List (Nat×Nat))(Q:Nat->Nat->Prop)(f K C:Nat)(w w':World):Prop:=∃x' R' D' W',Hp w' B eb mb hb ub T H x'/\Lg T H Bq x' R' D' W' Q f/\It mb x'.s W'/\Cn T.length x' R' K C/\x'.U=x.U/\x'.s.t0=x.s.t0/\x'.s.t1=x.s.t1/\W'.length+ZM T.length R'*450000001<=W.length+ZM T.length R*450000001/\Ch B NoX Ug w w'/\Pk w x.s.vI w' x'.s.vI
structure JB(T:List Tm)(x x':Sx)(a b:Nat):Prop where
 up:∀i,(meA x'.ms i).up=if i=a then some b else(meA x.ms i).up
 le:∀i,(meA x'.ms i).least=if i=b then min (meA x.ms a).least (meA x.ms b).least else(meA x.ms i).least
 I:x'.I=updL x.I b (x.I b++x.I a)
 P:x'.P=updL x.P b (x.P b++x.P a)
 U:x'.U=x.U
 s:x'.s.sg=x.s.sg/\x'.s.xI=x.s.xI/\x'.s.nI=x.s.nI/\x'.s.gv=x.s.gv/\x'.s.nS=x.s.nS/\x'.s.nN=x.s.nN/\x'.s.t0=x.s.t0/\x'.s.t1=x.s.t1/\x'.s.vI=x.s.vI/\x'.s.nC=x.s.nC+2
def Sx.sUp(x:Sx)(a b:Nat):Sx:={ x with ms:=x.ms.set a { meA x.ms a with up:=some b } }
def Sx.sId(x:Sx)(a b:Nat)(v:Value):Sx:={ x with ms:=x.ms.set b { meA x.ms b with ids:=v },I:=updL x.I b (x.I b++x.I a) }
def Sx.sLe(x:Sx)(b m:Nat):Sx:={ x with ms:=x.ms.set b { meA x.ms b with least:=m } }
def Sx.sPl(x:Sx)(b:Nat)(c:Bool):Sx:={ x with ms:=x.ms.set b { meA x.ms b with pl:=c } }
def Sx.sAp(x:Sx)(a b:Nat)(v:Value):Sx:={ x with ms:=x.ms.set b { meA x.ms b with ap:=v },P:=updL x.P b (x.P b++x.P a) }
theorem JB.of{x:Sx}{a m:Nat}{cc c:Bool}{v3 v5 v6 v9:Value}{y3 y5:List Value}(ha:a<x.ms.length)(hb:b<x.ms.length)(hab:a≠b)(hm:m=min (meA x.ms a).least (meA x.ms b).least):JB T x (((((((x.clash cc).chgd v3 y3).sUp a b).chgd v5 y5).sId a b v6).sLe b m |>.sPl b c).sAp a b v9) a b:=by
 have h:∀(ms:List Me) (i:Nat) (mm:Me),(ms.set i mm).length=ms.length:=fun ms i mm=>Zh;refine⟨fun i=>?_,fun i=>?_,rfl,rfl,rfl,⟨rfl,rfl,rfl,rfl,rfl,rfl,rfl,rfl,rfl,rfl⟩⟩
 ·show(meA (List.set (List.set (List.set (List.set (List.set x.ms a _) b _) b _) b _) b _) i).up=_
  rw[V4 (by simp only[h];exact hb)]
  split
  ·rename_i e;subst e
   show(meA (List.set (List.set (List.set (List.set x.ms a _) i _) i _) i _) i).up=_
   rw[V4 (by simp only[h];exact hb),if_pos rfl]
   show(meA (List.set (List.set (List.set x.ms a _) i _) i _) i).up=_
   rw[V4 (by simp only[h];exact hb),if_pos rfl]
   show(meA (List.set (List.set x.ms a _) i _) i).up=_
   rw[V4 (by simp only[h];exact hb),if_pos rfl]
   show(meA (List.set x.ms a _) i).up=_
   rw[V4 ha,if_neg (Ne.symm hab),if_neg (Ne.symm hab)]
  rename_i e;rw[V4 (by simp only[h];exact hb),if_neg e,V4 (by simp only[h];exact hb),if_neg e,V4 (by simp only[h];exact hb),if_neg e,V4 ha]
  split
  ·rfl
  rfl
 show(meA (List.set (List.set (List.set (List.set (List.set x.ms a _) b _) b _) b _) b _) i).least=_
 rw[V4 (by simp only[h];exact hb)]
 split
 ·rename_i e;subst e
  show(meA (List.set (List.set (List.set (List.set x.ms a _) i _) i _) i _) i).least=_
  rw[V4 (by simp only[h];exact hb),if_pos rfl]
  show(meA (List.set (List.set (List.set x.ms a _) i _) i _) i).least=_
  rw[V4 (by simp only[h];exact hb),if_pos rfl];exact hm
 rename_i e;rw[V4 (by simp only[h];exact hb),if_neg e,V4 (by simp only[h];exact hb),if_neg e,V4 (by simp only[h];exact hb),if_neg e,V4 ha]
 split
 ·rename_i g;rw[g];rfl
 rfl
theorem Snd.tail{M:List Nat}{Bq:Nat->Nat->Prop}{sg:List UInt8->Option Nat}{W:List (Nat×Nat)}{p:Nat×Nat}(h:Snd T M Bq H R sg (p::W)):Snd T M Bq H R sg W:=⟨h.rs,fun q hq=>h.ws q (List.mem_cons_of_mem _ hq),h.ss⟩
theorem Lg.skip{Bq:Nat->Nat->Prop}{x:Sx}{D:Nat->Nat}{W:List (Nat×Nat)}{Q:Nat->Nat->Prop}{f:Nat}(h:Lg T H Bq x R D ((p,q)::W) Q f)(hp:p<T.length)(hq:q<T.length)(e:labA R p=labA R q):Lg T H Bq x R D W Q f:=
 ⟨h.fo,h.idk,h.lek,h.snd.tail,fun t h1 h2=>(h.sig t h1 h2).skip hp hq e,fun a b hab=>(h.fct a b hab).skip hp hq e,h.apl⟩
structure JPre(T:List Tm)(R:List Nat)(p q a b:Nat):Prop where
 hp:p<T.length
 hq:q<T.length
 ha:a<T.length
 hb:b<T.length
 ea:labA R a=a
 eb:labA R b=b
 ab:a≠b
 pq:(labA R p=a/\labA R q=b)∨(labA R p=b/\labA R q=a)
theorem Lg.clo{Bq:Nat->Nat->Prop}{x:Sx}{D:Nat->Nat}{W:List (Nat×Nat)}{Q:Nat->Nat->Prop}{f a:Nat}(h:Lg T H Bq x R D ((p,q)::W) Q f)(hl:x.ms.length=T.length)(hj:JPre T R p q a b):Ky T (madeL T T.length) Bq a b:=by
 have C:=Ky.cong T (madeL T T.length) Bq;have O:=h.fo.rok;rw[hl]at O;have K:=(h.snd.ws (p,q) (by simp)).2.2;have j:=h.snd.own O hj.hp;have E:=h.snd.own O hj.hq;simp only at K
 rcases hj.pq with⟨G,J⟩|⟨G,J⟩
 ·rw[G]at j;rw[J]at E;exact C.2.2.1 _ _ _ (C.2.1 _ _ j) (C.2.2.1 _ _ _ K E)
 rw[G]at j;rw[J]at E;exact C.2.2.1 _ _ _ (C.2.1 _ _ E) (C.2.2.1 _ _ _ (C.2.1 _ _ K) j)
theorem Lg.begin{Bq:Nat->Nat->Prop}{x x':Sx}{D:Nat->Nat}{W:List (Nat×Nat)}{Q:Nat->Nat->Prop}{f a:Nat}(h:Lg T H Bq x R D ((p,q)::W) Q f)(hl:x.ms.length=T.length)(hS:Stat T H x.U)(hj:JPre T R p q a b)(hx:JB T x x' a b)(hp:Hp wr B eb mb hb ub T H x')(hI:It mb x.s W)(hc:Ch B NoX Ug w wr)(hk:Pk w x.s.vI wr x.s.vI):JS B eb mb hb ub T H (relbl R a b) Bq x' W w x.s.vI wr x'.s W (fun t=>∃k∈x.I a,t∈x.U k) 0:=by
 have j:=h.fo.rok;rw[hl]at j;obtain⟨s1,G,J,K,V,Y,Z,s8,O,E⟩:=hx.s;refine⟨hp,hI.same G J K,by rw[s1];exact h.snd.tail.join j (h.clo hl hj),fun t ht hlt=>?_,fun _ h=>h,by omega,by omega,by omega,by omega,rfl,rfl,rfl,hc,by rw[O];exact hk⟩;rw[s1];exact(h.sig t ht hlt).join j hS.tk hj.hp hj.hq hj.pq ht (fun i hi=>hS.use t ht hlt i hi) (fun k hk e=>((h.idk a hj.ha hj.ea).1 k).2 ⟨hk,e⟩)
theorem Lg.end{Bq:Nat->Nat->Prop}{x x':Sx}{D:Nat->Nat}{W W':List (Nat×Nat)}{Q:Nat->Nat->Prop}{f a:Nat}{s':St}{rest:Nat->Prop}(h:Lg T H Bq x R D ((p,q)::W) Q f)(hl:x.ms.length=T.length)(hj:JPre T R p q a b)(hx:JB T x x' a b)(js:JS B eb mb hb ub T H (relbl R a b) Bq x' W w v0 wr s' W' rest c)(hr:∀t,¬ rest t):Lg T H Bq { x' with s:=s' } (relbl R a b) (fun i=>if labA R i=a then D i+D b+1 else D i) W' Q f:=by
 have j:=h.fo.rok;rw[hl]at j;have E:x'.ms.length=T.length:=js.hp.sta.ml;refine⟨h.fo.join (by rw[hl];exact hj.ha) (by rw[hl];exact hj.hb) hj.ea hj.eb hj.ab (by rw[E,hl]) hx.up,?_,?_,js.snd,fun t h1 h2=>(js.sig t h1 h2).resolve_right (hr t),fun u v huv=>((h.fct u v huv).join j hj.hp hj.hq hj.pq).more js.sub,fun i hi e=>?_⟩
 ·show Wl _ _ x'.I
  rw[hx.I];exact h.idk.join j hj.ha hj.hb hj.ea hj.eb hj.ab
 ·have e:(fun i=>(meA x'.ms i).least)=updL (fun i=>(meA x.ms i).least) b (min (meA x.ms a).least (meA x.ms b).least):=funext fun i=>hx.le i
  show KZ _ _ (fun i=>(meA x'.ms i).least)
  rw[e];exact h.lek.join j hj.ha hj.hb hj.ea hj.eb hj.ab
 obtain⟨J,K⟩:=Qo j hj.hb hj.eb hj.ab hi e
 show(x'.P i).length<=f*(x'.I i).length/\∀y∈x'.P i,y<T.length
 rw[hx.P,hx.I]
 by_cases g:i=b
 ·subst g;rw[U9,U9,Jq,Jq,Nat.mul_add];obtain⟨O,a2⟩:=h.apl a hj.ha hj.ea;obtain⟨V,G⟩:=h.apl i hj.hb hj.eb;exact⟨by omega,fun y hy=>(Yc.1 hy).elim (G y) (a2 y)⟩
 rw[Es _ _ g,Es _ _ g];exact h.apl i hi J
theorem MY{k:Nat}(hk:k<3000)(hq:q<150000):k*150000+q<=450000000:=by omega
def Do:List (Option TypeId):=[some 59,some 114,some 49,some 3,some 45]
theorem XW{x:Sx}{a:Nat}{cc:Bool}{v3 v5 v6:Value}{y3 y5:List Value}(ha:a<x.ms.length)(hb:b<x.ms.length)(i:Nat):(meA ((((((x.clash cc).chgd v3 y3).sUp a b).chgd v5 y5).sId a b v6).ms) i).least=(meA x.ms i).least:=by
 show(meA (List.set (List.set x.ms a _) b _) i).least=_
 rw[V4 (by rw[Zh];exact hb)]
 split
 ·rename_i e;subst e
  show(meA (List.set x.ms a _) i).least=_
  rw[V4 ha]
  split
  ·rename_i e;rw[e];rfl
  rfl
 rw[V4 ha]
 split
 ·rename_i e;rw[e];rfl
 rfl
theorem JS.fin{Bq:Nat->Nat->Prop}{x x':Sx}{D:Nat->Nat}{W W':List (Nat×Nat)}{Q:Nat->Nat->Prop}{f K C a:Nat}{s':St}{rest:Nat->Prop}(h:Lg T H Bq x R D ((p,q)::W) Q f)(hl:x.ms.length=T.length)(hC:Cn T.length x R K C)(hj:JPre T R p q a b)(hx:JB T x x' a b)(js:JS B eb mb hb ub T H (relbl R a b) Bq x' W w x.s.vI wr s' W' rest c)(hr:∀t,¬ rest t)(hc:c<=450000000):MB B eb mb hb ub T H Bq x R W Q f K C w wr:=by
 have E:=h.fo.rok;rw[hl]at E;have G:=RO E hj.ha hj.hb hj.ea hj.eb hj.ab;obtain⟨s1,s2,Z,s4,s5,s6,s7,s8,s9,j⟩:=hx.s;have c1:=hC.cI;have c2:=hC.cS;have c3:=hC.cN;have c4:=hC.cC;have J:=js.cI;have O:=js.cS;have V:=js.cN;have Y:=js.cC;have j5:=js.wl;rw[Z]at J;rw[s5]at O;rw[s6]at V;rw[j]at Y;refine⟨{ x' with s:=s' },relbl R a b,_,W',js.hp,h.end hl hj hx js hr,js.it,⟨?_,?_,?_,?_⟩,hx.U,js.t0.trans s7,js.t1.trans s8,by omega,js.ch,js.pk⟩
 ·show s'.nI+_<=K+2;omega
 ·show s'.nS+_<=K;omega
 ·show s'.nN+_<=K;omega
 show s'.nC+_<=C;omega
end Go.Proofs.YtfkagjelljnpdaaGreatDoor
