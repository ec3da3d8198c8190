import Derived.Test.YtfkagjelljnpdaaGreatDoorP26
set_option linter.all false
set_option maxRecDepth 100000
set_option maxHeartbeats 8000000
namespace Go.Proofs.YtfkagjelljnpdaaGreatDoor
open ChangeShapes WideShapes ChangeAt RowKit
variable {B g i mb n size:Nat}{b w w':World}{e t:TypeId}{l xs:List Value}{v:Value}
def Ix(w:World)(k:Nat):Option TypeId:=match w.heap[k]? with|some (.cells _ t _)=>some t|_=>none
theorem U7{k:Nat}{a:Array Value}{f:Nat×Nat}(h:w.heap[k]? = some (.cells a t f)):Ix w k=some t:=by unfold Ix;rw[h]
theorem Iq{k:Nat}(h:w'.heap[k]? = w.heap[k]?):Ix w' k=Ix w k:=by unfold Ix;rw[h]
structure Ch(B:Nat)(X:Nat->Prop)(ts:List (Option TypeId))(w w':World):Prop where
 os:w'.os=w.os
 tape:w'.tape=w.tape
 output:w'.output=w.output
 size:w.heap.size<=w'.heap.size
 block:∀k,k<w.heap.size->(k<B∨X k∨Ix w k∉ts)->w'.heap[k]? = w.heap[k]?
theorem Ch.refl(B:Nat)(X:Nat->Prop)(ts:List (Option TypeId))(w:World):Ch B X ts w w:=⟨rfl,rfl,rfl,leR,fun _ _ _=>rfl⟩
theorem Ch.trans{X:Nat->Prop}{ts:List (Option TypeId)}{a c:World}(h:Ch B X ts a b)(k:Ch B X ts b c):Ch B X ts a c:=
 ⟨k.os.trans h.os,k.tape.trans h.tape,k.output.trans h.output,Jm h.size k.size,fun i hi hk=>by
  have e:=h.block i hi hk
  refine(k.block i (Jn hi h.size) ?_).trans e
  rw[Iq e]
  exact hk⟩
theorem Ch.mono{B':Nat}{X X':Nat->Prop}{ts ts':List (Option TypeId)}{a:World}(h:Ch B X ts a b)(hB:B'<=B)(hX:∀k,X' k->X k)(ht:∀t∈ts,t∈ts'):Ch B' X' ts' a b:=
 ⟨h.os,h.tape,h.output,h.size,fun i hi hk=>h.block i hi (hk.elim (fun h=>.inl (by omega)) (fun h=>.inr (h.elim (fun h=>.inl (hX _ h)) (fun h=>.inr (fun hm=>h (ht _ hm))))))⟩
theorem Ch.wide{X:Nat->Prop}{ts ts':List (Option TypeId)}{a:World}(h:Ch B X ts a b)(ht:∀t∈ts,t∈ts'):Ch B X ts' a b:=h.mono leR (fun _ h=>h) ht
theorem Ch.up(B:Nat)(X:Nat->Prop)(ts:List (Option TypeId))(h:Up w w'):Ch B X ts w w':=⟨h.os,h.tape,h.output,h.size,fun k hk _=>h.block k hk⟩
theorem Ch.bar{X:Nat->Prop}{ts:List (Option TypeId)}(h:Bar g w w')(hB:B<=g)(hX:¬ X g)(ht:Ix w g∈ts):Ch B X ts w w':=
 ⟨h.os,h.tape,h.output,h.size,fun k hk hk2=>h.block k hk (fun e=>by
  subst e
  rcases hk2 with h|h|h
  ·omega
  ·exact hX h
  exact h ht)⟩
theorem Ch.bl{X:Nat->Prop}{ts:List (Option TypeId)}{a:World}(h:Ch B X ts a b)(hB:B<=a.heap.size):Below B a b:=⟨h.os,h.tape,h.output,h.size,fun k hk=>h.block k (by omega) (.inl hk)⟩
theorem Ch.drew{X:Nat->Prop}{ts:List (Option TypeId)}{a:World}(h:Ch B X ts a b):Ch B X ts a b.drew:=⟨h.os,h.tape,h.output,h.size,h.block⟩
theorem Ch.cell{X:Nat->Prop}{ts:List (Option TypeId)}(h:Ch B X ts w w'){p:Addr}{u:Value}(hc:w.cell? p=some u)(hk:p.block<B∨X p.block∨Ix w p.block∉ts):w'.cell? p=some u:=
 (Zc (h.block p.block (J3 w p hc) hk)).trans hc
def Tb(w:World)(g:Nat)(t:TypeId)(l:List Value):Prop:=w.heap[g]? = some (.cells l.toArray t (0,0))
theorem Tb.bx(h:Tb w g t l):Bx w g l:=⟨t,h⟩
theorem Tb.ty(h:Tb w g t l):Ix w g=some t:=U7 h
theorem Tb.set(h:Tb w g t l)(i:Nat)(v:Value):Tb (w.setCell ⟨g,i,none⟩ v) g t (l.set i v):=by
 obtain⟨j,q⟩:=Jo.1 h
 show(w.heap.modify g _)[g]? = _
 rw[Zk (by rw[Zf];exact j),Zt,q];simp
theorem Tb.ch{X:Nat->Prop}{ts:List (Option TypeId)}(h:Tb w g t l)(hc:Ch B X ts w w')(hk:g<B∨X g∨some t∉ts):Tb w' g t l:=
 (hc.block g h.bx.lt (by rw[h.ty];exact hk)).trans h
theorem Ch.set{X:Nat->Prop}{ts:List (Option TypeId)}(hB:B<=g)(hX:¬ X g)(ht:Ix w g∈ts):Ch B X ts w (w.setCell ⟨g,i,none⟩ v):=Ch.bar (Bar.setCell g i w v) hB hX ht
theorem ZG{base cap:Nat}(h:w.ownsRow base e size (.slice (some ⟨g,0,none⟩) n cap) n xs):Ix w g=some e/\base<=g:=by
 rcases h.2 with⟨E,_⟩|⟨J,q,cur,G,hb,j,_⟩
 ·cases E
 cases G;exact⟨U7 j,hb⟩
theorem own_ch{X:Nat->Prop}{ts:List (Option TypeId)}{base:Nat}(h:w.ownsRow base e size v n xs)(hc:Ch B X ts w w')(hk:some e∉ts):w'.ownsRow base e size v n xs:=by
 refine⟨h.1,?_⟩
 rcases h.2 with G|⟨E,q,cur,K,hb,j,J⟩
 ·exact .inl G
 exact .inr ⟨E,q,cur,K,hb,(hc.block E (Jo.1 j).1 (by rw[U7 j];exact .inr (.inr hk))).trans j,J⟩
theorem Ch.grown{X:Nat->Prop}{ts:List (Option TypeId)}{base:Nat}(h:w.grownBy w' v.ownBlock)(hown:w.ownsRow base e size v n xs)(hb:B<=base)(hX:∀k,v.ownBlock=some k->¬ X k)(ht:some e∈ts):Ch B X ts w w':=by
 refine⟨h.os,h.tape,h.output,h.size,fun k hk hk2=>h.block k hk (fun e'=>?_)⟩
 rcases hown.2 with⟨K,_⟩|⟨E,q,cur,G,O,j,_⟩
 ·rw[K]at e';cases e'
 rw[G]at e';have J:E=k:=(Option.some.inj e').symm;subst J
 rcases hk2 with h|h|h
 ·omega
 ·exact hX E (by rw[G];rfl) h
 exact h (by rw[U7 j];exact ht)
structure Me where
 up:Option Nat
 s0:Bool
 s1:Bool
 ids:Value
 least:Nat
 pl:Bool
 ap:Value
def mp(mb i:Nat):Value:=.pointer (some ⟨mb,i*8,none⟩)
def MR(mb:Nat)(u:Option Nat):Value:=match u with|some j=>mp mb j|none=>.pointer none
def QK(mb i:Nat)(m:Me):List Value:=[.int .i64 (i:Nat),MR mb m.up,.bool m.s0,.bool m.s1,m.ids,.int .i64 (m.least:Nat),.bool m.pl,m.ap]
structure MemsAt(w:World)(mb:Nat)(ms:List Me):Prop where
 blk:∃a,w.heap[mb]? = some (.cells a 49 (0,0))
 cell:∀i (h:i<ms.length) (f:Nat),f<8->w.cell? ⟨mb,i*8+f,none⟩=(QK mb i ms[i])[f]?
theorem MemsAt.ty{ms:List Me}(h:MemsAt w mb ms):Ix w mb=some 49:=by obtain⟨a,e⟩:=h.blk;exact U7 e
theorem MemsAt.lt{ms:List Me}(h:MemsAt w mb ms):mb<w.heap.size:=by obtain⟨a,e⟩:=h.blk;exact(Jo.1 e).1
theorem MemsAt.ch{X:Nat->Prop}{ts:List (Option TypeId)}{ms:List Me}(h:MemsAt w mb ms)(hc:Ch B X ts w w')(hk:some 49∉ts):MemsAt w' mb ms:=by
 have e:=hc.block mb h.lt (by rw[h.ty];exact .inr (.inr hk));obtain⟨a,ha⟩:=h.blk;exact⟨⟨a,e.trans ha⟩,fun i hi f hf=>(Zc e).trans (h.cell i hi f hf)⟩
theorem MemsAt.fz{ms:List Me}(h:MemsAt w mb ms)(i:Nat):w.frozen? ⟨mb,i,none⟩=false:=by
 obtain⟨a,ha⟩:=h.blk;simp[World.frozen?,ha]
theorem MemsAt.cells{ms:List Me}(h:MemsAt w mb ms)(hi:i<ms.length):w.cell? ⟨mb,i*8,none⟩=some (.int .i64 (i:Nat))/\w.cell? ⟨mb,i*8+1,none⟩=some (MR mb ms[i].up)/\w.cell? ⟨mb,i*8+2,none⟩=some (.bool ms[i].s0)/\w.cell? ⟨mb,i*8+3,none⟩=some (.bool ms[i].s1)/\w.cell? ⟨mb,i*8+4,none⟩=some ms[i].ids/\w.cell? ⟨mb,i*8+5,none⟩=some (.int .i64 (ms[i].least:Nat))/\w.cell? ⟨mb,i*8+6,none⟩=some (.bool ms[i].pl)/\w.cell? ⟨mb,i*8+7,none⟩=some ms[i].ap:=
 ⟨h.cell i hi 0 (by omega),h.cell i hi 1 (by omega),h.cell i hi 2 (by omega),h.cell i hi 3 (by omega),h.cell i hi 4 (by omega),h.cell i hi 5 (by omega),h.cell i hi 6 (by omega),h.cell i hi 7 (by omega)⟩
theorem MemsAt.set{ms:List Me}(h:MemsAt w mb ms){f:Nat}(hi:i<ms.length)(hf:f<8)(v:Value)(m':Me)(hm:∀f',f'<8->(QK mb i m')[f']? = if f'=f then some v else(QK mb i ms[i])[f']?):MemsAt (w.setCell ⟨mb,i*8+f,none⟩ v) mb (ms.set i m'):=by
 obtain⟨a,ha⟩:=h.blk;refine⟨?_,fun j hj f' hf'=>?_⟩
 ·obtain⟨q,J⟩:=Jo.1 ha;refine⟨a.set! (i*8+f) v,?_⟩
  show(w.heap.modify mb _)[mb]? = _
  rw[Zk (by rw[Zf];exact q),Zt,J];simp
 rw[Zh]at hj
 by_cases e:j=i
 ·subst e;rw[List.getElem_set_self,hm f' hf']
  by_cases E:f'=f
  ·subst E;rw[if_pos rfl];have G:=h.cell j hi f' hf';have:∃u,(QK mb j ms[j])[f']? = some u:=⟨_,Jg (by simp[QK];omega)⟩;obtain⟨u,K⟩:=this;rw[K]at G;exact Y0 w _ _ G
  rw[if_neg E,<-h.cell j hi f' hf'];exact Yq w _ _ _ (fun e=>by simp only[Addr.mk.injEq,true_and,and_true]at e;omega)
 rw[List.getElem_set_ne (by omega),<-h.cell j hj f' hf'];exact Yq w _ _ _ (fun e'=>by simp only[Addr.mk.injEq,true_and,and_true]at e';omega)
theorem K5(w:World)(B:Nat)(e:TypeId)(size:Nat):w.ownsRow B e size (.slice none 0 0) 0 []:=⟨by simp,.inl ⟨rfl,rfl⟩⟩
def FactsAt(w:World)(v:Value)(Fs:List (Int×Bool)):Prop:=∃p c,v=.slice p Fs.length c/\Fs.length<=c/\c<=maxLen/\(Fs=[]∨∃b,p=some ⟨b,0,none⟩/\b<w.heap.size/\∀i (h:i<Fs.length),w.cell? ⟨b,i*2,none⟩=some (.int .i64 Fs[i].1)/\w.cell? ⟨b,i*2+1,none⟩=some (.bool Fs[i].2))
theorem FactsAt.bl{Fs:List (Int×Bool)}(h:FactsAt w v Fs)(hb:Up w w'):FactsAt w' v Fs:=by
 obtain⟨p,c,rfl,E,G,j⟩:=h;refine⟨p,c,rfl,E,G,?_⟩
 rcases j with j|⟨b,e,hl,q⟩
 ·exact .inl j
 exact .inr ⟨b,e,Jn hl hb.size,fun i hi=>⟨(hb.cell (p:=⟨b,i*2,none⟩) hl).trans (q i hi).1,(hb.cell (p:=⟨b,i*2+1,none⟩) hl).trans (q i hi).2⟩⟩
end Go.Proofs.YtfkagjelljnpdaaGreatDoor
namespace Go.Proofs.YtfkagjelljnpdaaGreatDoor
open ChangeShapes WideShapes ChangeAt RowKit Proofs.Tryz
variable {L:List Nat}{g i:Nat}
def labV(L:List Nat):List Value:=L.map (fun x=>.int .i64 (x:Nat))
def labA(L:List Nat)(i:Nat):Nat:=L.getD i 0
theorem Te(L:List Nat):(labV L).length=L.length:=by simp[labV]
theorem O1(h:i<L.length):labA L i=L[i]:=by simp[labA,List.getD,h]
theorem Ks(h:i<L.length):(labV L)[i]? = some (.int .i64 ((labA L i:Nat):Int)):=by
 rw[O1 h];simp[labV,h]
theorem Tn(L:List Nat)(i v:Nat):(labV L).set i (.int .i64 (v:Nat))=labV (L.set i v):=by simp[labV,List.map_set]
def relbl(L:List Nat)(y x:Nat):List Nat:=L.map (fun z=>if z=y then x else z)
def Xa(L:List Nat)(y x i:Nat):List Nat:=relbl (L.take i) y x++L.drop i
theorem In(L:List Nat)(y x:Nat):(relbl L y x).length=L.length:=by simp[relbl]
theorem Tj(L:List Nat)(y x i:Nat):(Xa L y x i).length=L.length:=by simp[Xa,relbl];omega
theorem GI(L:List Nat)(y x:Nat):Xa L y x 0=L:=by simp[Xa,relbl]
theorem QW(L:List Nat)(y x:Nat):Xa L y x L.length=relbl L y x:=by simp[Xa]
theorem CV{y x:Nat}(h:i<L.length):labA (Xa L y x i) i=labA L i:=by
 rw[O1 (by rw[Tj];exact h),O1 h];unfold Xa;rw[Zu (by simp[relbl];omega)];simp[relbl,Nat.min_eq_left (Nat.le_of_lt h)]
theorem GH{y x:Nat}(h:i<L.length):Xa L y x (i+1)=if labA L i=y then(Xa L y x i).set i x else Xa L y x i:=by
 rw[O1 h];unfold Xa relbl;rw[Vb,Jg h,Y3 h];have hl:((L.take i).map (fun z=>if z=y then x else z)).length=i:=by simp;omega
 split
 ·rename_i e;rw[Z5 _ _ (by omega),hl];simp[e]
 rename_i e;simp only[Option.toList_some,Yk,Za,Zq,if_neg e,Ys,List.singleton_append]
def K9(L:List Nat)(a b:Nat):List Nat:=if labA L a=labA L b then L else relbl L (max (labA L a) (labA L b)) (min (labA L a) (labA L b))
theorem Ik(L:List Nat)(a b:Nat):(K9 L a b).length=L.length:=by unfold K9;split;rfl;exact In _ _ _
theorem Hm(a b:Nat)(w:World)(h:Bx w g (labV L))(ha:a<L.length)(hb:b<L.length)(hn:L.length<=3000) :
 Calls prog 40 #[.slice (some ⟨g,0,none⟩) L.length L.length,.int .i64 (a:Nat),.int .i64 (b:Nat)] w fun e w'=>e=.returned (.bool (!decide (labA L a=labA L b)))/\Bx w' g (labV (K9 L a b))/\Bar g w w':=by
 have c0:=h.cell a;have c1:=h.cell b;rw[Ks ha]at c0;rw[Ks hb]at c1;have H:=Hd h;obtain⟨p,hp⟩:=O2 (labA L a);obtain⟨q,hq⟩:=O2 (labA L b);have HJ:Hid (K9 L a b=if p=q then L else relbl L (max p q) (min p q)):=by unfold Hid K9;rw[hp,hq]
 rw[hp]at c0 ⊢;rw[hq]at c1 ⊢;clear h hp hq
 by_cases e:p=q
 ·subst e;have G:Hid (K9 L a b=L):=by unfold Hid;rw[HJ.o,if_pos rfl]
  go_in
  go_wp2
  go_ret
  exact⟨by simp,by rw[G.o];exact H.o,Bar.refl _ _⟩
 have z1:((p:Int)==(q:Int))=false:=by rw[Jc];omega
 obtain⟨lo,R⟩:=O2 (min p q);obtain⟨hi,O⟩:=O2 (max p q);have G:Hid (K9 L a b=relbl L hi lo):=by unfold Hid;rw[HJ.o,if_neg e,R,O]
 have Y:=Hd R;have V:=Hd O;have HE:=Hd e;clear R O e
 go_in
 go_upto_if 24 with fail
 go_cut [7,8] (fun s7 s8 wx=>s7=.int .i64 (lo:Nat)/\s8=.int .i64 (hi:Nat)/\w=wx)
 case first=>
  by_cases e2:q<p
  ·have z2:decide ((q:Int)<(p:Int))=true:=Jb (by omega);have z3:decide (q<p)=true:=Jb e2
   go_wp2
   go_meet
   exact⟨by rw[<-Y.o,Z3 (by omega)],by rw[<-V.o,Nat.max_eq_left (by omega)],rfl⟩
  have z2:decide ((q:Int)<(p:Int))=false:=Jd (by omega);have z3:decide (q<p)=false:=Jd e2
  go_wp2
  go_meet
  exact⟨by rw[<-Y.o,Yw (by omega)],by rw[<-V.o,Nat.max_eq_right (by omega)],rfl⟩
 obtain⟨rfl,rfl,rfl⟩:=hcut;clear z1 c0 c1
 go_wp2
 go_loopw [10,30] (fun _ iv wr=>∃i:Nat,i<=L.length/\iv=.int .i64 (i:Nat)/\Bx wr g (labV (Xa L hi lo i))/\Bar g w wr) (fun _ iv _=>L.length - (intOf iv).toNat)
 case atStart=>exact⟨0,Jp _,rfl,by rw[GI];exact H.o,Bar.refl _ _⟩
 rename World=>wr
 obtain⟨i,b5,rfl,hx,K⟩:=hrel;have HX:=Hd hx;have E:=Hd K
 by_cases j:i<L.length
 ·have z4:decide ((i:Int)<(L.length:Int))=true:=Jb (by omega);have z5:decide (i<L.length)=true:=Jb j;have d0:=hx.cell i;rw[Ks (by rw[Tj];exact j),CV j]at d0;have f0:=hx.fz i;have HN:=Hd (GH (y:=hi) (x:=lo) j);obtain⟨r,hr⟩:=O2 (labA L i);rw[hr]at d0 HN;clear hr hx K
  by_cases Z:r=hi
  ·have z6:((r:Int)==(hi:Int))=true:=by rw[J2];omega
   have J:Hid (Xa L hi lo (i+1)=(Xa L hi lo i).set i lo):=by unfold Hid;rw[HN.o,if_pos Z]
   clear Z
   go_wp2
   go_roundw
   case rel=>exact⟨i+1,by omega,by go_num,by rw[J.o,<-Tn];exact HX.o.set i _,E.o.trans (Bar.setCell _ _ _ _)⟩
   simp[intOf];omega
  have z6:((r:Int)==(hi:Int))=false:=by rw[Jc];omega
  have J:Hid (Xa L hi lo (i+1)=Xa L hi lo i):=by unfold Hid;rw[HN.o,if_neg Z]
  clear Z
  go_wp2
  go_roundw
  case rel=>exact⟨i+1,by omega,by go_num,by rw[J.o];exact HX.o,E.o⟩
  simp[intOf];omega
 have z4:decide ((i:Int)<(L.length:Int))=false:=Jd (by omega);have z5:decide (i<L.length)=false:=Jd j;have HI:Hid (i=L.length):=by unfold Hid;omega
 clear hx K
 go_wp2
 go_ret
 refine⟨by simp[HE.o],?_,E.o⟩;have:=HX.o;rw[HI.o,QW]at this;rw[G.o];exact this
def L7(T:List Tm)(op:Int):Option Nat:=T.findIdx? (fun t=>decide (t.op=op))
def Kf(T:List Tm)(op:Int):Int:=match L7 T op with|some i=>(i:Int)|none => -1
theorem Ps{w:World}{vs vf vt:Value}{S:List (List UInt8)}{F:List Fn}{T:List Tm}(op:Int)(h:BankAt w vs vf vt S F T)(hn:T.length<=3000) :
 Calls prog 39 #[.agg #[vs,vf,vt],.int .i64 op] w fun e w'=>e=.returned (.int .i64 (Kf T op))/\Up w w':=by
 obtain⟨W0,E⟩:=O2 (w.alloc (.cells #[vs,vf,vt] 27));have J:Up w W0:=by rw[<-E];exact Oy _ _
 have R:Bx W0 w.heap.size [vs,vf,vt]:=by rw[<-E];exact Oq w _ _
 have Z:=Hd E;have K:=Hd J;have HT:=Hd (h.t.bl J);obtain⟨ps,cs,rfl,-,-,-⟩:=h.s;obtain⟨pf,cf,rfl,-,-,-⟩:=h.f;obtain⟨pt,ct,rfl,-,-,-⟩:=h.t;obtain⟨c0,c1,c2⟩:=R.c3;clear h E J R
 go_in
 go_upto_region 1 with fail
 rw[Z.o]
 go_wp2
 go_loop [5,9] (fun _ iv=>∃i:Nat,i<=T.length/\iv=.int .i64 (i:Nat)/\∀j (h:j<T.length),j<i->T[j].op≠op) (fun _ iv=>T.length - (intOf iv).toNat)
 case atStart=>exact⟨0,Jp _,rfl,fun j _ h=>absurd h (Jz _)⟩
 obtain⟨i,hi,rfl,O⟩:=hrel;have G:=Hd O;clear O
 by_cases q:i<T.length
 ·have z4:decide ((i:Int)<(T.length:Int))=true:=Jb (by omega);have z5:decide (i<T.length)=true:=Jb q;obtain⟨bt,rfl,k0⟩:∃bt,pt=some ⟨bt,0,none⟩/\W0.cell? ⟨bt,i*6,none⟩=some (.int .i64 T[i].op):=by
   obtain⟨p',c',e,-,-,h3⟩:=HT.o;simp only[Value.slice.injEq,true_and]at e;obtain⟨rfl,rfl⟩:=e
   rcases h3 with h3|⟨b',e,_,h5⟩
   ·rw[h3]at q;exact absurd q (Jz _)
   exact⟨b',e,(h5 i q).1⟩
  by_cases e:T[i].op=op
  ·have z6:(T[i].op==op)=true:=by rw[J2];exact e
   have V:Hid (Kf T op=(i:Int)):=by
    unfold Hid Kf L7;rw[show T.findIdx? (fun t=>decide (t.op=op))=some i from J9.2 ⟨q,by simpa using e,fun j hj=>by simpa using G.o j (by omega) hj⟩]
   generalize T[i].op=r at k0 z6;clear e
   go_wp2
   go_ret
   exact⟨by rw[V.o];rfl,K.o⟩
  have z6:(T[i].op==op)=false:=by rw[Jc];exact e
  have Y:Hid (∀j (h:j<T.length),j<i+1->T[j].op≠op):=fun j h hj=>by
   by_cases a8:j=i
   ·subst a8;exact e
   exact G.o j h (by omega)
  generalize T[i].op=r at k0 z6;clear e
  go_wp2
  go_round
  case rel=>exact⟨i+1,by omega,by go_num,Y.o⟩
  simp[intOf];omega
 have z4:decide ((i:Int)<(T.length:Int))=false:=Jd (by omega);have z5:decide (i<T.length)=false:=Jd q;have V:Hid (Kf T op = -1):=by
  unfold Hid Kf L7;rw[show T.findIdx? (fun t=>decide (t.op=op))=none from Zl.2 fun t ht=>by
   obtain⟨j,hj,rfl⟩:=Ya ht
   simpa using G.o j hj (by omega)]
 go_wp2
 go_ret
 exact⟨by rw[V.o];rfl,K.o⟩
def O9(t:Tm)(i:Nat):Nat:=(t.kids.getD i 0).toNat
def XS(s t:Tm):Prop:=s.op=t.op/\s.sort=t.sort/\s.text=t.text/\s.a=t.a/\s.b=t.b/\s.kids.length=t.kids.length
def Kg(L:List Nat)(s t:Tm):Prop:=XS s t/\∀i,i<s.kids.length->labA L (O9 s i)=labA L (O9 t i)
theorem Hl{t:Tm}{w:World}{pk:Option Addr}{ck:Nat}{n:Nat}(h:IntsAt w (.slice pk t.kids.length ck) t.kids)(hk:∀x∈t.kids,0<=x/\x.toNat<n)(hi:i<t.kids.length):∃bk,pk=some ⟨bk,0,none⟩/\bk<w.heap.size/\w.cell? ⟨bk,i,none⟩=some (.int .i64 ((O9 t i:Nat):Int))/\O9 t i<n:=by
 obtain⟨K,J,e,-,-,j⟩:=h;simp only[Value.slice.injEq,true_and]at e;obtain⟨rfl,rfl⟩:=e
 rcases j with j|⟨q,e,hb,G⟩
 ·rw[j]at hi;exact absurd hi (Jz _)
 have hm:=hk t.kids[i] (Jj hi);have E:((O9 t i:Nat):Int)=t.kids[i]:=by unfold O9;simp[List.getD,hi];omega
 refine⟨q,e,hb,by rw[E];exact G i hi,?_⟩;unfold O9;simp[List.getD,hi];exact hm.2
theorem Bs(s t:Tm)(p1 p2:Option Addr)(c1 c2:Nat)(w:World)(h:Bx w g (labV L))(_hn:L.length<=3000)(hs:IntsAt w (.slice p1 s.kids.length c1) s.kids)(ht:IntsAt w (.slice p2 t.kids.length c2) t.kids)(ks:∀x∈s.kids,0<=x/\x.toNat<L.length)(kt:∀x∈t.kids,0<=x/\x.toNat<L.length)(h50:s.kids.length<=50) :
 Calls prog 74 #[.slice (some ⟨g,0,none⟩) L.length L.length,.agg #[.int .i64 s.op,.string (Oo s.sort),.string (Oo s.text),.int .i64 s.a,.int .i64 s.b,.slice p1 s.kids.length c1],.agg #[.int .i64 t.op,.string (Oo t.sort),.string (Oo t.text),.int .i64 t.a,.int .i64 t.b,.slice p2 t.kids.length c2]] w fun e w'=>(∃b:Bool,e=.returned (.bool b)/\(b=true↔Kg L s t))/\Up w w':=by
 obtain⟨W0,d0,V,d1,d2,-⟩:=LC w [.int .i64 s.op,.string (Oo s.sort),.string (Oo s.text),.int .i64 s.a,.int .i64 s.b,.slice p1 s.kids.length c1] [.int .i64 t.op,.string (Oo t.sort),.string (Oo t.text),.int .i64 t.a,.int .i64 t.b,.slice p2 t.kids.length c2] 38 38;have G:=Hd d0;have E:=Hd V;have HX:=Hd (h.bl h.lt V);have HS:=Hd (hs.bl V);have HT:=Hd (ht.bl V);have d5:=Hd ks;have d6:=Hd kt;obtain⟨x0,x1,x2,x3,x4,x5⟩:=d1.k6;obtain⟨y0,y1,y2,y3,y4,y5⟩:=d2.k6;have NO:Hid (¬ Kg L s t->∃b:Bool,Ending.returned (.bool false)=.returned (.bool b)/\(b=true↔Kg L s t)):=fun h=>⟨false,rfl,by simp[h]⟩;clear d0 V d1 d2 h hs ht ks kt
 by_cases R:s.op=t.op
 case neg=>
  have z0:=Un R;have O:Hid (¬ Kg L s t):=fun h=>R h.1.1;clear R
  go_in
  go_upto_region 1 with fail
  rw[G.o]
  go_wp2
  go_ret
  exact⟨NO.o O.o,E.o⟩
 have z0:=U4 R
 rcases Ez s.sort t.sort with⟨Y,z1⟩|⟨Y,z1⟩
 rotate_left
 ·have O:Hid (¬ Kg L s t):=fun h=>Y h.1.2.1;clear R Y
  go_in
  go_upto_region 1 with fail
  rw[G.o]
  go_wp2
  go_ret
  exact⟨NO.o O.o,E.o⟩
 rcases Ez s.text t.text with⟨e2,z2⟩|⟨e2,z2⟩
 rotate_left
 ·have O:Hid (¬ Kg L s t):=fun h=>e2 h.1.2.2.1;clear R Y e2
  go_in
  go_upto_region 1 with fail
  rw[G.o]
  go_wp2
  go_ret
  exact⟨NO.o O.o,E.o⟩
 by_cases e3:s.a=t.a
 case neg=>
  have z3:=Un e3;have O:Hid (¬ Kg L s t):=fun h=>e3 h.1.2.2.2.1;clear R Y e2 e3
  go_in
  go_upto_region 1 with fail
  rw[G.o]
  go_wp2
  go_ret
  exact⟨NO.o O.o,E.o⟩
 have z3:=U4 e3
 by_cases e4:s.b=t.b
 case neg=>
  have z4:=Un e4;have O:Hid (¬ Kg L s t):=fun h=>e4 h.1.2.2.2.2.1;clear R Y e2 e3 e4
  go_in
  go_upto_region 1 with fail
  rw[G.o]
  go_wp2
  go_ret
  exact⟨NO.o O.o,E.o⟩
 have z4:=U4 e4
 by_cases e5:s.kids.length=t.kids.length
 case neg=>
  have z5:=Un (show ¬ (s.kids.length:Int)=(t.kids.length:Int)by omega);have z6:(s.kids.length==t.kids.length)=false:=by rw[Jc];exact e5
  have O:Hid (¬ Kg L s t):=fun h=>e5 h.1.2.2.2.2.2;clear R Y e2 e3 e4 e5
  go_in
  go_upto_region 1 with fail
  rw[G.o]
  go_wp2
  go_ret
  exact⟨NO.o O.o,E.o⟩
 have z5:=U4 (show(s.kids.length:Int)=(t.kids.length:Int)by omega);have z6:(s.kids.length==t.kids.length)=true:=by rw[J2];exact e5
 have d4:Hid (XS s t):=⟨R,Y,e2,e3,e4,e5⟩;have d7:Hid (s.kids.length=t.kids.length):=e5;clear R Y e2 e3 e4 e5
 go_in
 go_upto_region 1 with fail
 rw[G.o]
 go_wp2
 go_loopw [7,53] (fun _ iv wr=>∃(i:Nat),i<=s.kids.length/\iv=.int .i64 (i:Nat)/\(∀j,j<i->labA L (O9 s j)=labA L (O9 t j))/\Up W0 wr) (fun _ iv _=>s.kids.length - (intOf iv).toNat)
 case atStart=>exact⟨0,Jp _,rfl,fun j h=>absurd h (Jz _),Ji _ _⟩
 rename World=>wr
 obtain⟨i,hi,rfl,b7,q⟩:=hrel;have b9:=Hd b7;have K:=Hd q;have J:=Hd (E.o.trans (q.mono E.o.size));have up:∀j u,W0.cell? ⟨w.heap.size,j,none⟩=some u->wr.cell? ⟨w.heap.size,j,none⟩=some u:=fun j u hj=>(q.cell (p:=⟨w.heap.size,j,none⟩) (J3 W0 _ hj)).trans hj;have b8:∀j u,W0.cell? ⟨w.heap.size+1,j,none⟩=some u->wr.cell? ⟨w.heap.size+1,j,none⟩=some u:=fun j u hj=>(q.cell (p:=⟨w.heap.size+1,j,none⟩) (J3 W0 _ hj)).trans hj;have u5:=up _ _ x5;have v5:=b8 _ _ y5;have c6:=Hd (HX.o.bl HX.o.lt q)
 by_cases Z:i<s.kids.length
 ·have z7:decide ((i:Int)<(s.kids.length:Int))=true:=Jb (by omega);have z8:decide (i<s.kids.length)=true:=Jb Z;have a8:i<t.kids.length:=by have:=d7.o;omega
  have z9:decide (i<t.kids.length)=true:=Jb a8;obtain⟨b1,rfl,-,q1,m1⟩:=Hl (HS.o.bl q) d5.o Z;obtain⟨b2,rfl,-,q2,m2⟩:=Hl (HT.o.bl q) d6.o a8;have r1:=c6.o.cell (O9 s i);have r2:=c6.o.cell (O9 t i);rw[Ks m1]at r1;rw[Ks m2]at r2;have b0:Hid (labA L (O9 s i)=labA L (O9 t i)->∀j,j<i+1->labA L (O9 s j)=labA L (O9 t j)):=fun e j hj=>by
   by_cases d9:j=i
   ·subst d9;exact e
   exact b9.o j (by omega)
  have b3:Hid (labA L (O9 s i)≠labA L (O9 t i)->¬ Kg L s t):=fun e h=>e (h.2 i Z);generalize labA L (O9 s i)=l1 at r1 b0 b3;generalize labA L (O9 t i)=l2 at r2 b0 b3;generalize O9 s i=k1 at q1 m1 r1;generalize O9 t i=k2 at q2 m2 r2;have h2:decide (k1<L.length)=true:=Jb m1;have h3:decide (k2<L.length)=true:=Jb m2;clear b7 q up b8 x0 x1 x2 x3 x4 x5 y0 y1 y2 y3 y4 y5 z0 z1 z2 z3 z4 z5 z6
  by_cases e:l1=l2
  ·have e9:=U4 (show(l1:Int)=(l2:Int)by omega);have d3:=Hd (b0.o e);clear e
   go_wp2
   go_quiet (fail)
   go_wp2
   go_roundw
   case rel=>exact⟨i+1,by omega,by go_num,d3.o,⟨K.o.os,K.o.tape,K.o.output,K.o.size,K.o.block⟩⟩
   simp[intOf];omega
  have e9:=Un (show ¬ (l1:Int)=(l2:Int)by omega);have d8:=Hd (b3.o e);clear e
  go_wp2
  go_quiet (fail)
  go_wp2
  go_ret
  exact⟨NO.o d8.o,⟨J.o.os,J.o.tape,J.o.output,J.o.size,J.o.block⟩⟩
 have z7:decide ((i:Int)<(s.kids.length:Int))=false:=Jd (by omega);have z8:decide (i<s.kids.length)=false:=Jd Z;have HY:Hid (Kg L s t):=⟨d4.o,fun j hj=>b9.o j (by omega)⟩;clear b7 q up b8 x0 x1 x2 x3 x4 x5 y0 y1 y2 y3 y4 y5 z0 z1 z2 z3 z4 z5 z6
 go_wp2
 go_ret
 exact⟨⟨true,rfl,by simp[HY.o]⟩,J.o⟩
def S5(t:Tm):Int:=IntKind.u64.wrap (IntKind.u64.wrap (t.op*1000003+IntKind.u64.wrap (IntKind.u64.wrap t.a*31))+IntKind.u64.wrap t.b)
def RR(h:Int)(c:Nat):Int:=IntKind.u64.wrap (IntKind.u64.wrap (h*1099511628211)+IntKind.u64.wrap (c:Int))
def RP(h:Int)(l:Nat):Int:=IntKind.u64.wrap (IntKind.u64.wrap (IntKind.u64.wrap (h*1099511628211)+IntKind.u64.wrap (l:Int))+7)
def Pa(h:Int)(s:List UInt8):Int:=s.foldl (fun h c=>RR h c.toNat) h
def Cg(h:Int)(ls:List Nat):Int:=ls.foldl RP h
def Qh(L:List Nat)(t:Tm)(n:Nat):List Nat:=(List.range n).map (fun i=>labA L (O9 t i))
def Re(L:List Nat)(t:Tm):Int:=Cg (Pa (S5 t) t.text) (Qh L t t.kids.length)
theorem YI(h:Int){s:List UInt8}(hi:i<s.length):Pa h (s.take (i+1))=RR (Pa h (s.take i)) s[i].toNat:=by
 unfold Pa;rw[Vb,Jg hi,List.foldl_append];rfl
theorem YH(h:Int)(L:List Nat)(t:Tm)(i:Nat):Cg h (Qh L t (i+1))=RP (Cg h (Qh L t i)) (labA L (O9 t i)):=by
 unfold Cg Qh;rw[Yv,Yk,List.foldl_append];rfl
theorem YX{s t:Tm}(h:Kg L s t):Re L s=Re L t:=by
 obtain⟨⟨q,O,E,G,J,h6⟩,K⟩:=h;unfold Re;have e:Qh L s s.kids.length=Qh L t t.kids.length:=by
  unfold Qh;rw[<-h6];exact Vu fun i hi=>K i (Yg.1 hi)
 have j:S5 s=S5 t:=by unfold S5;rw[q,G,J]
 rw[e,j,E]
theorem YD(t:Tm)(pk:Option Addr)(ck:Nat)(w:World)(h:Bx w g (labV L))(_hn:L.length<=3000)(ht:IntsAt w (.slice pk t.kids.length ck) t.kids)(kt:∀x∈t.kids,0<=x/\x.toNat<L.length)(h50:t.kids.length<=50)(htx:t.text.length<=1048576)(h0:0<=t.op/\t.op<=100) :
 Calls prog 72 #[.slice (some ⟨g,0,none⟩) L.length L.length,.agg #[.int .i64 t.op,.string (Oo t.sort),.string (Oo t.text),.int .i64 t.a,.int .i64 t.b,.slice pk t.kids.length ck]] w fun e w'=>e=.returned (.int .u64 (Re L t))/\Up w w':=by
 obtain⟨W0,J⟩:=O2 (w.alloc (.cells #[.int .i64 t.op,.string (Oo t.sort),.string (Oo t.text),.int .i64 t.a,.int .i64 t.b,.slice pk t.kids.length ck] 38));have K:Up w W0:=by rw[<-J];exact Oy _ _
 have E:Bx W0 w.heap.size [.int .i64 t.op,.string (Oo t.sort),.string (Oo t.text),.int .i64 t.a,.int .i64 t.b,.slice pk t.kids.length ck]:=by rw[<-J];exact Oq w _ _
 have b2:=Hd J;have Z:=Hd K;have d0:=Hd E;have HX:=Hd (h.bl h.lt K);have HT:=Hd (ht.bl K);have b0:=Hd kt;have x0:=E.cell 0;have x2:=E.cell 2;have x3:=E.cell 3;have x4:=E.cell 4;have x5:=E.cell 5;simp only[Jr,Jy]at x0 x2 x3 x4 x5;obtain⟨h1,h2⟩:=h0;have b4:=Q0 t.text;obtain⟨V,O⟩:=O2 (S5 t);have a7:Hid (IntKind.u64.wrap (IntKind.u64.wrap (t.op*1000003+IntKind.u64.wrap (IntKind.u64.wrap t.a*31))+IntKind.u64.wrap t.b)=V):=O;have a8:Hid (Re L t=Cg (Pa V t.text) (Qh L t t.kids.length)):=by unfold Hid Re;rw[O]
 clear J K E h ht kt O
 go_in
 go_upto_region 1 with fail
 rw[b2.o]
 go_upto_region 2 with fail
 rw[a7.o]
 go_wp2
 go_loop [5,6] (fun hv iv=>∃(i:Nat) (k:Int),i<=t.text.length/\iv=.int .i64 (i:Nat)/\hv=.int .u64 k/\k=Pa V (t.text.take i)) (fun _ iv=>t.text.length - (intOf iv).toNat)
 case atStart=>exact⟨0,V,Jp _,rfl,rfl,rfl⟩
 obtain⟨i,k,hi,rfl,rfl,hk⟩:=hrel;have HK:=Hd hk;clear hk
 by_cases G:i<t.text.length
 ·have z4:decide ((i:Int)<(t.text.length:Int))=true:=Jb (by omega);have z5:decide (i<t.text.length)=true:=Jb G;have b3:i<(Oo t.text).size:=by rw[b4];exact G
  have Y:Hid (Pa V (t.text.take (i+1))=RR k ((Oo t.text)[i]'b3).toNat):=by unfold Hid;rw[HK.o];exact YI _ G
  go_wp2_with fail
  refine⟨⟨i+1,_,by omega,by go_num,rfl,?_⟩,by simp[intOf];omega⟩;rw[Y.o];rfl
 have z4:decide ((i:Int)<(t.text.length:Int))=false:=Jd (by omega);have z5:decide (i<t.text.length)=false:=Jd G;have a1:Hid (k=Pa V t.text):=by
  have:=HK.o;rw[Yf (by omega)]at this;exact this
 clear hi G
 go_wp2
 go_loop [5,8,40] (fun hv _ iv=>∃(j:Nat) (q:Int),j<=t.kids.length/\iv=.int .i64 (j:Nat)/\hv=.int .u64 q/\q=Cg k (Qh L t j)) (fun _ _ iv=>t.kids.length - (intOf iv).toNat)
 case atStart=>exact⟨0,k,Jp _,rfl,rfl,rfl⟩
 obtain⟨j,q,hj,rfl,rfl,hq⟩:=hrel;have HQ:=Hd hq;clear hq
 by_cases R:j<t.kids.length
 ·have z6:decide ((j:Int)<(t.kids.length:Int))=true:=Jb (by omega);have z7:decide (j<t.kids.length)=true:=Jb R;obtain⟨b1,rfl,-,q1,m1⟩:=Hl HT.o b0.o R;have r1:=HX.o.cell (O9 t j);rw[Ks m1]at r1;have Y:Hid (Cg k (Qh L t (j+1))=RP q (labA L (O9 t j))):=by unfold Hid;rw[HQ.o];exact YH _ _ _ _
  generalize labA L (O9 t j)=l1 at r1 Y;generalize O9 t j=k1 at q1 m1 r1;have d8:decide (k1<L.length)=true:=Jb m1
  go_wp2_with fail
  refine⟨⟨j+1,_,by omega,by go_num,rfl,?_⟩,by simp[intOf];omega⟩;rw[Y.o];rfl
 have z6:decide ((j:Int)<(t.kids.length:Int))=false:=Jd (by omega);have z7:decide (j<t.kids.length)=false:=Jd R;have HE:Hid (Re L t=q):=by
  unfold Hid;rw[a8.o,HQ.o,a1.o,show j=t.kids.length by omega]
 go_wp2
 go_ret
 exact⟨by rw[HE.o];rfl,Z.o⟩
end Go.Proofs.YtfkagjelljnpdaaGreatDoor
namespace Go.Proofs.YtfkagjelljnpdaaGreatDoor
open ChangeShapes WideShapes ChangeAt RowKit
variable {A:List Nat}
def Nq(K:List Int)(i:Nat):Int:=K.getD i 0
def Al(K:List Int)(a b:Nat):Bool:=decide (Nq K a<=Nq K b)
theorem NG(K:List Int)(a b c:Nat)(h1:Al K a b=true)(h2:Al K b c=true):Al K a c=true:=by
 unfold Al at *;rw[J1]at *;omega
theorem NE(K:List Int)(a b:Nat):(Al K a b||Al K b a)=true:=by
 unfold Al;rw[Vn,J1,J1];omega
def G8(K:List Int)(xs ys:List Nat):List Nat:=xs.merge ys (Al K)
theorem Ca(K:List Int)(ys:List Nat):G8 K [] ys=ys:=by unfold G8;simp
theorem Mc(K:List Int)(xs:List Nat):G8 K xs []=xs:=by unfold G8;simp
theorem Md(K:List Int)(x y:Nat)(xs ys:List Nat):G8 K (x::xs) (y::ys)=if Al K x y=true then x::G8 K xs (y::ys)else y::G8 K (x::xs) ys:=by
 unfold G8;rw[List.cons_merge_cons]
theorem Mf(K:List Int)(xs ys:List Nat):(G8 K xs ys).Perm (xs++ys):=List.merge_perm_append _
theorem Ti(K:List Int)(xs ys:List Nat):(G8 K xs ys).length=xs.length+ys.length:=by rw[(Mf K xs ys).length_eq,Jq]
def Qc(K:List Int)(A:List Nat):Prop:=A.Pairwise (fun a b=>Al K a b=true)
theorem QG(K:List Int){xs ys:List Nat}(h1:Qc K xs)(h2:Qc K ys):Qc K (G8 K xs ys):=List.pairwise_merge (NG K) (NE K) _ _ h1 h2
def Gv(K:List Int)(w:Nat):Nat->List Nat->List Nat
 | 0,_=>[]
 | f+1,A=>if A.length=0 then []else G8 K (A.take w) ((A.drop w).take w)++Gv K w f (A.drop (2*w))
theorem Fy(K:List Int)(w:Nat)(hw:0<w):∀(f:Nat) (A:List Nat),A.length<=f->(Gv K w f A).Perm A
 | 0,A,h=>by
   rw[Jt (by omega:A.length=0)]
   exact List.Perm.refl _
 | f+1,A,h=>by
   unfold Gv
   split
   ·rename_i e
    rw[Jt e]
   have q:=Fy K w hw f (A.drop (2*w)) (by rw[Yr];omega)
   have j:=(Mf K (A.take w) ((A.drop w).take w)).append q
   have e:A.take w++(A.drop w).take w++A.drop (2*w)=A:=by
    rw[Ys,show A.drop (2*w)=(A.drop w).drop w by rw[Zr];congr 1;omega,Y2,Y2]
   rw[e]at j
   exact j
def KO(K:List Int)(w:Nat)(A:List Nat):Prop:=∀m,Qc K ((A.drop (m*w)).take w)
theorem Ma(K:List Int)(w:Nat)(hw:0<w):∀(f:Nat) (A:List Nat),A.length<=f->KO K w A->KO K (2*w) (Gv K w f A)
 | 0,A,h,_=>fun m=>by unfold Gv;simp[Qc]
 | f+1,A,h,hB=>by
   unfold Gv
   split
   ·intro m;simp[Qc]
   rename_i hne
   have G:Qc K (G8 K (A.take w) ((A.drop w).take w)):=by
    refine QG K ?_ ?_
    ·have:=hB 0;simpa using this
    have:=hB 1;simpa using this
   have J:=Ma K w hw f (A.drop (2*w)) (by rw[Yr];omega) (fun m=>by
    have:=hB (m+2)
    rw[Zr,show 2*w+m*w=(m+2)*w by rw[Nat.add_mul];omega]
    exact this)
   have hl:(G8 K (A.take w) ((A.drop w).take w)).length=min (2*w) A.length:=by
    rw[Ti];simp;omega
   have j:A.length<2*w->Gv K w f (A.drop (2*w))=[]:=fun h=>by
    rw[Yj (by omega)]
    cases f with
    | zero=>rfl
    | succ f=>unfold Gv;simp
   intro m
   by_cases E:A.length<2*w
   ·rw[j E,Vo]
    cases m with
    | zero=>rw[Nat.zero_mul,Y9,Yf (by omega)];exact G
    | succ m=>
      have O:2*w<=(m+1)*(2*w):=Nat.le_mul_of_pos_left _ (Nat.succ_pos m)
      rw[Yj (by rw[hl];omega)];simp[Qc]
   have q:(G8 K (A.take w) ((A.drop w).take w)).length=2*w:=by rw[hl];omega
   cases m with
   | zero=>rw[Nat.zero_mul,Y9,List.take_left' q];exact G
   | succ m=>
     rw[show(m+1)*(2*w)=2*w+m*(2*w)by rw[Nat.succ_mul];omega,<-Zr,List.drop_left' q]
     exact J m
theorem PA(K:List Int)(A:List Nat):KO K 1 A:=fun m=>by
 rw[Nat.mul_one]
 cases A.drop m with
 | nil=>simp[Qc]
 | cons x xs=>simp[Qc]
theorem PM{K:List Int}{w:Nat}(h:KO K w A)(hl:A.length<=w):Qc K A:=by
 have:=h 0;rw[Nat.zero_mul,Y9,Yf hl]at this;exact this
theorem QH(K:List Int){i m k e:Nat}(hi:i<m)(hm:m<=A.length)(he:e<=A.length)(hk:k=e∨(k<e/\Al K (labA A i) (labA A k)=true)):G8 K ((A.take m).drop i) ((A.take e).drop k)=labA A i::G8 K ((A.take m).drop (i+1)) ((A.take e).drop k):=by
 have j:(A.take m).drop i=labA A i::(A.take m).drop (i+1):=by
  rw[Y3 (by simp;omega),O1 (by omega)];simp
 rw[j]
 rcases hk with rfl|⟨hk,h⟩
 ·rw[show(A.take k).drop k=[]from Yj (by simp;omega),Mc,Mc]
 have q:(A.take e).drop k=labA A k::(A.take e).drop (k+1):=by
  rw[Y3 (by simp;omega),O1 (by omega)];simp
 rw[q,Md,if_pos h]
theorem NH(K:List Int){i m k e:Nat}(hk:k<e)(hm:m<=A.length)(he:e<=A.length)(hi:m<=i∨(i<m/\Al K (labA A i) (labA A k)=false)):G8 K ((A.take m).drop i) ((A.take e).drop k)=labA A k::G8 K ((A.take m).drop i) ((A.take e).drop (k+1)):=by
 have q:(A.take e).drop k=labA A k::(A.take e).drop (k+1):=by
  rw[Y3 (by simp;omega),O1 (by omega)];simp
 rw[q]
 rcases hi with hi|⟨hi,h⟩
 ·rw[Yj (by simp;omega),Ca,Ca]
 have j:(A.take m).drop i=labA A i::(A.take m).drop (i+1):=by
  rw[Y3 (by simp;omega),O1 (by omega)];simp
 rw[j,Md,if_neg (by rw[h];decide)]
end Go.Proofs.YtfkagjelljnpdaaGreatDoor
namespace Go.Proofs.YtfkagjelljnpdaaGreatDoor
open ChangeShapes WideShapes ChangeAt RowKit Proofs.Tryz
variable {i:Nat}
def Mg(K:List Int):List Value:=K.map (fun k=>.int .u64 k)
theorem Rn{K:List Int}(h:i<K.length):(Mg K)[i]? = some (.int .u64 (Nq K i)):=by simp[Mg,Nq,List.getD,h]
theorem Ke{ops:Array Oper}{rest:List Oper}{o:Oper}{a:Act}{Q:Exit->Act->World->Prop}{W:World}{y:Nat}{base:Nat}{v:Value}{N:List Nat}(hgd:o.guard=none)(s x:Operand)
 (ho:o.op=.call { callee:=.builtin .append,args:=#[s,x],argTypes:=#[31,31] }) (hs:a.eval s=v) (hown:W.ownsRow base 3 1 v N.length (labV N))
 (H:Nat) (hx:a.eval x=.slice (some ⟨H,0,none⟩) 1 1) (hH:W.heap.size=H) (hn:N.length<=1000000000) (hbase:base<=W.heap.size)
 (h:∀v' W',W'.ownsRow base 3 1 v' (N++[y]).length (labV (N++[y]))->Below base (W.alloc (.cells #[.int .i64 (y:Nat)] 3)) W'->wpList prog ops Q rest (a.put o.dst v') W') :
 wpList prog ops Q (o::rest) a (W.alloc (.cells #[.int .i64 (y:Nat)] 3)):=by
 subst hH;obtain⟨i0,j,q,E,G⟩:=Iv;refine wpList_append_lies _ hgd s x 31 ho base 3 i0 (.int .i64 0) 1 8 underlying31 j q E G rfl (by decide) v N.length (labV N) hs (hown.alloc _) ⟨W.heap.size,0,none⟩ 1 1 [.int .i64 (y:Nat)] hx rfl
  (World.news_of_block (cs:=#[.int .i64 (y:Nat)]) (t:=3) (fr:=(0,0)) Js) (by simp[Value.oneCell']) (by decide) (by unfold maxLen;omega) (by omega) (by simp;omega) _ rfl ?_
 intro g J W' K O _ _;refine h _ W' ?_ ?_
 ·rw[show labV (N++[y])=labV N++[.int .i64 (y:Nat)]by simp[labV],Jq];exact K
 exact(Ji _ _).grown O (by simp;omega) (fun k e=>(hown.lt k e).1)
theorem Nz{w:World}{base g n cap:Nat}{A:List Nat}(h:w.ownsRow base 3 1 (.slice (some ⟨g,0,none⟩) n cap) n (labV A))(hi:i<A.length):w.cell? ⟨g,i,none⟩=some (.int .i64 ((labA A i:Nat):Int))/\A.length=n:=by
 have hl:=h.1;rw[Te]at hl;exact⟨(h.cellAt i (by omega)).trans (Ks hi),by omega⟩
theorem Sg(A:List Nat)(f w n:Nat)(hA:A.length=n):(A.take (min (f+w) n)).drop f=(A.drop f).take w:=by
 rw[Vh]
 by_cases h:f+w<=n
 ·rw[Yw h];congr 1;omega
 rw[Z3 (by omega),Yf (by simp;omega),Yf (by simp;omega)]
theorem KA(A:List Nat)(f w n:Nat)(hA:A.length=n):(A.take (min (min (f+w) n+w) n)).drop (min (f+w) n)=((A.drop f).drop w).take w:=by
 rw[Sg A _ w n hA,Zr]
 by_cases h:f+w<=n
 ·rw[Yw h]
 rw[Z3 (by omega),Yj (by omega),Yj (by omega)]
theorem No(w:World)(n:Nat):Up w (w.drewN n):=⟨rfl,rfl,rfl,leR,fun _ _=>rfl⟩
theorem Dx{A:List Nat}{n:Nat}(h:A.Perm (List.range n))(hi:i<A.length):labA A i<n:=by
 rw[O1 hi];exact Yg.1 (h.mem_iff.1 (Jj hi))
theorem Li{gk:Nat}{K:List Int}(w:World)(h:Bx w gk (Mg K))(hn:K.length<=3000) :
 Calls prog 73 #[.slice (some ⟨gk,0,none⟩) K.length K.length] w fun e w'=>∃v A,e=.returned v/\w'.ownsRow w.heap.size 3 1 v K.length (labV A)/\A.Perm (List.range K.length)/\Qc K A/\Up w w':=by
 have H:=Hd h;have p6:=h.lt;obtain⟨i0,d5,i8,j0,j1⟩:=Iv;clear h
 go_in
 go_wp2_with (at_make;refine wpList_make_full _ rfl _ _ 31 rfl w.heap.size 3 i0 (.int .i64 0) 1 underlying31 d5 i8 j0 .i64 .i64 _ _ K.length rfl rfl (by simp) (by simp) (by rw[j1];omega) (by unfold maxLen;omega) leR ?_)
 intro w1 d0 h7;have j8:Hid (Up w w1):=(Ji _ _).grown h7 leR (fun k e=>by cases e);have l0:=Hd d0;clear d0 h7
 go_wp2
 go_loopw [5,19] (fun _ iv wr=>∃(i:Nat) (xs:List Value),i<=K.length/\iv=.int .i64 (i:Nat)/\(∀j,j<i->xs[j]? = some (.int .i64 (j:Nat)))/\wr.ownsRow w.heap.size 3 1 (.slice (some ⟨w.heap.size,0,none⟩) K.length K.length) K.length xs/\Up w wr) (fun _ iv _=>K.length - (intOf iv).toNat)
 case atStart=>exact⟨0,_,Jp _,rfl,fun j h=>absurd h (Jz _),l0.o,j8.o⟩
 rename World=>wr
 obtain⟨i,xs,hi,rfl,b4,q,hB⟩:=hrel;have HB:=Hd hB;have f5:=Hd b4;have HO:=Hd q;have g6:Hid (xs.length=K.length):=by have:=q.1;unfold Hid;omega
 by_cases b6:i<K.length
 ·have z1:decide ((i:Int)<(K.length:Int))=true:=Jb (by omega);have z2:decide (i<K.length)=true:=Jb b6;obtain⟨u0,e0⟩:=ZF q i (by omega);have g0:=q.frozenAt i;have l9:=Hd (q.stored i (.int .i64 (i:Nat))).1;clear b4 q hB
  go_wp2
  go_roundw
  case rel=>
   refine⟨i+1,_,by omega,by go_num,?_,l9.o,HB.o.sc⟩;intro j hj
   by_cases e:j=i
   ·subst e;rw[Vk (by have:=g6.o;omega)]
   rw[Zg (by omega)];exact f5.o j (by omega)
  simp[intOf];omega
 have z1:decide ((i:Int)<(K.length:Int))=false:=Jd (by omega);have z2:decide (i<K.length)=false:=Jd b6;have j7:Hid (wr.ownsRow w.heap.size 3 1 (.slice (some ⟨w.heap.size,0,none⟩) K.length K.length) K.length (labV (List.range K.length))):=by
  unfold Hid;have e:xs=labV (List.range K.length):=by
   refine List.ext_getElem? fun j=>?_
   by_cases hj:j<K.length
   ·rw[f5.o j (by omega)];simp[labV,hj]
   rw[Zd.2 (by have:=g6.o;omega),Zd.2 (by simp[labV];omega)]
  rw[<-e];exact HO.o
 clear b4 q hB hi b6
 go_wp2
 go_loopw [4,6,7,8,9,10,11,12] (fun va wv _ _ _ _ _ _ wr=>∃(W g cap:Nat) (A:List Nat),1<=W/\W<=6000/\wv=.int .i64 (W:Nat)/\va=.slice (some ⟨g,0,none⟩) K.length cap/\wr.ownsRow w.heap.size 3 1 (.slice (some ⟨g,0,none⟩) K.length cap) K.length (labV A)/\A.Perm (List.range K.length)/\KO K W A/\Up w wr) (fun _ wv _ _ _ _ _ _ _=>K.length - (intOf wv).toNat)
 case atStart=>exact⟨1,w.heap.size,K.length,_,leR,by decide,rfl,rfl,j7.o,List.Perm.refl _,PA _ _,HB.o⟩
 rename World=>wa
 obtain⟨W,g,cap,A,p1,p2,rfl,rfl,q,Z,c8,hB⟩:=hrel;have g2:=Hd q;have d2:=Hd Z;have e7:=Hd c8;have b5:=Hd hB;have a8:A.length=K.length:=by have:=Z.length_eq;simpa using this
 have a7:=Hd a8
 by_cases b6:W<K.length
 ·have z3:decide ((W:Int)<(K.length:Int))=true:=Jb (by omega);have z4:decide (W<K.length)=true:=Jb b6;clear q Z c8 hB a8
  go_wp2_with (at_make;refine wpList_make_own _ rfl _ _ 31 rfl wa.heap.size 3 i0 (.int .i64 0) 1 underlying31 d5 i8 j0 .i64 .i64 _ K.length rfl rfl (by simp) (by rw[j1];omega) (by unfold maxLen;omega) leR ?_)
  intro w2 d1 d4;have j9:Hid (Up wa w2):=(Ji _ _).grown d4 leR (fun k e=>by cases e);have l3:=Hd d1;clear d1 d4
  go_wp2_with fail
  have b9:Hid ((Gv K W K.length A).Perm (List.range K.length)/\KO K (2*W) (Gv K W K.length A)):=⟨(Fy K W (by omega) _ A (by have:=a7.o;omega)).trans d2.o,Ma K W (by omega) _ A (by have:=a7.o;omega) e7.o⟩;obtain⟨PL,e3⟩:=O2 (Gv K W K.length A);have l6:=Hd e3;rw[e3]at b9;clear e3
  go_loopw [7,8,9,10,11,12] (fun vn fv _ _ _ _ wq=>∃(fr f:Nat) (N:List Nat),fr<=20000/\fv=.int .i64 (fr:Nat)/\K.length - fr<=f/\N++Gv K W f (A.drop fr)=PL/\wq.ownsRow wa.heap.size 3 1 vn N.length (labV N)/\Up wa wq) (fun _ fv _ _ _ _ _=>K.length - (intOf fv).toNat)
  case atStart=>exact⟨0,K.length,[],by decide,rfl,by omega,by rw[Y9];exact l6.o,l3.o,j9.o⟩
  rename World=>wq
  obtain⟨fr,f,N,p5,rfl,p4,e2,i6,h4⟩:=hrel;have g1:=Hd e2;have g3:=Hd i6;have e8:=Hd h4;have o9:N.length<=K.length:=by
   have h1:=congrArg List.length e2;have h2:=b9.o.1.length_eq;simp at h1 h2;omega
  clear e2 i6 h4
  by_cases h5:fr<K.length
  ·have z5:decide ((fr:Int)<(K.length:Int))=true:=Jb (by omega);have z6:decide (fr<K.length)=true:=Jb h5;obtain⟨md,d3⟩:=O2 (min (fr+W) K.length);obtain⟨en,e5⟩:=O2 (min (md+W) K.length);have f8:=Hd d3;have f0:=Hd e5;have m1:md<=K.length:=by omega
   have m2:en<=K.length:=by omega
   have m3:fr<md:=by omega
   have m4:md<=en:=by omega
   have k1:Hid ((A.take md).drop fr=(A.drop fr).take W):=by unfold Hid;rw[<-d3];exact Sg A fr W _ a7.o
   have k7:Hid ((A.take en).drop md=((A.drop fr).drop W).take W):=by unfold Hid;rw[<-e5,<-d3];exact KA A fr W _ a7.o
   clear d3 e5
   go_upto_if 46 with fail
   go_cut [9] (fun s9 wx=>s9=.int .i64 (md:Nat)/\wq=wx)
   case first=>
    by_cases e:K.length<fr+W
    ·have z7:decide ((K.length:Int)<(fr:Int)+(W:Int))=true:=Jb (by omega);have z8:decide (K.length<fr+W)=true:=Jb e;have HE:Hid (K.length=md):=by have:=f8.o;unfold Hid;omega
     go_wp2
     go_meet
     exact⟨by rw[<-HE.o],rfl⟩
    have z7:decide ((K.length:Int)<(fr:Int)+(W:Int))=false:=Jd (by omega);have z8:decide (K.length<fr+W)=false:=Jd e;have HE:Hid (((fr:Int)+(W:Int))=((md:Nat):Int)):=by have:=f8.o;unfold Hid;omega
    go_wp2
    go_meet
    exact⟨by rw[HE.o],rfl⟩
   obtain⟨rfl,rfl⟩:=hcut
   go_upto_if 53 with fail
   go_cut [10] (fun s10 wx=>s10=.int .i64 (en:Nat)/\wq=wx)
   case first=>
    by_cases e:K.length<md+W
    ·have z7:decide ((K.length:Int)<(md:Int)+(W:Int))=true:=Jb (by omega);have z8:decide (K.length<md+W)=true:=Jb e;have HE:Hid (K.length=en):=by have:=f0.o;unfold Hid;omega
     go_wp2
     go_meet
     exact⟨by rw[<-HE.o],rfl⟩
    have z7:decide ((K.length:Int)<(md:Int)+(W:Int))=false:=Jd (by omega);have z8:decide (K.length<md+W)=false:=Jd e;have HE:Hid (((md:Int)+(W:Int))=((en:Nat):Int)):=by have:=f0.o;unfold Hid;omega
    go_wp2
    go_meet
    exact⟨by rw[HE.o],rfl⟩
   obtain⟨rfl,rfl⟩:=hcut
   go_wp2_with fail
   obtain⟨TG,e4⟩:=O2 (N++G8 K ((A.take md).drop fr) ((A.take en).drop md));have g5:=Hd e4;have p0:TG.length<=6000:=by rw[<-e4,Jq,Ti];simp;have:=a7.o;omega
   clear e4
   go_loopw [7,11,12] (fun vn iv kv wx=>∃(i k:Nat) (M:List Nat),fr<=i/\i<=md/\md<=k/\k<=en/\iv=.int .i64 (i:Nat)/\kv=.int .i64 (k:Nat)/\M++G8 K ((A.take md).drop i) ((A.take en).drop k)=TG/\wx.ownsRow wa.heap.size 3 1 vn M.length (labV M)/\Up wa wx) (fun _ iv kv _=>(md - (intOf iv).toNat)+(en - (intOf kv).toNat))
   case atStart=>exact⟨fr,md,N,leR,by omega,leR,m4,rfl,rfl,g5.o,g3.o,e8.o⟩
   rename World=>wx
   obtain⟨i,k,M,m7,m8,n0,n1,rfl,rfl,e1,i1,c6⟩:=hrel;have d8:=Hd e1;have b8:=Hd i1;have b7:=Hd c6;have o8:M.length<=6000:=by
    have h1:=congrArg List.length e1;simp at h1;omega
   have G:wa.heap.size<=wx.heap.size:=c6.size;have d6:=Hd (Km g2.o c6);have f1:=Hd ((H.o.bl H.o.lt b5.o).bl (H.o.bl H.o.lt b5.o).lt c6);have a8:A.length=K.length:=a7.o;clear e1 i1 c6;have Y:Hid (∀v8 w8,w8.ownsRow wa.heap.size 3 1 v8 (M++[labA A i]).length (labV (M++[labA A i]))->Up wa w8->i<md->(k=en∨(k<en/\Al K (labA A i) (labA A k)=true))->∃(i' k':Nat) (M':List Nat),fr<=i'/\i'<=md/\md<=k'/\k'<=en/\Value.int .i64 ((i:Int)+1)=.int .i64 (i':Nat)/\Value.int .i64 (k:Int)=.int .i64 (k':Nat)/\M'++G8 K ((A.take md).drop i') ((A.take en).drop k')=TG/\w8.ownsRow wa.heap.size 3 1 v8 M'.length (labV M')/\Up wa w8):=fun v8 w8 ho hb h1 h2=>by
    refine⟨i+1,k,M++[labA A i],by omega,by omega,n0,n1,rfl,rfl,?_,ho,hb⟩;rw[<-d8.o,QH K h1 (by omega) (by omega) h2,Ys];rfl
   have E:Hid (∀v8 w8,w8.ownsRow wa.heap.size 3 1 v8 (M++[labA A k]).length (labV (M++[labA A k]))->Up wa w8->k<en->(md<=i∨(i<md/\Al K (labA A i) (labA A k)=false))->∃(i' k':Nat) (M':List Nat),fr<=i'/\i'<=md/\md<=k'/\k'<=en/\Value.int .i64 (i:Int)=.int .i64 (i':Nat)/\Value.int .i64 ((k:Int)+1)=.int .i64 (k':Nat)/\M'++G8 K ((A.take md).drop i') ((A.take en).drop k')=TG/\w8.ownsRow wa.heap.size 3 1 v8 M'.length (labV M')/\Up wa w8):=fun v8 w8 ho hb h1 h2=>by
    refine⟨i,k+1,M++[labA A k],m7,m8,by omega,by omega,rfl,rfl,?_,ho,hb⟩;rw[<-d8.o,NH K h1 (by omega) (by omega) h2,Ys];rfl
   by_cases ei:i<md
   ·have z9:decide ((i:Int)<(md:Int))=true:=Jb (by omega);have n5:decide (i<md)=true:=Jb ei;have a1:=(Nz d6.o (i:=i) (by omega)).1;have l1:=Dx d2.o (i:=i) (by omega);have b1:=f1.o.cell (labA A i);rw[Rn l1]at b1
    by_cases ek:k=en
    ·subst ek;have J:=Hd (fun v8 w8 ho hb=>Y.o v8 w8 ho hb ei (.inl rfl));obtain⟨x,hx⟩:=O2 (labA A i);rw[hx]at a1 J;clear hx Y E b1 l1 a8
     go_wp2
     go_quiet (fail)
     go_wp2_with (at_builtin;refine Ke (W:=wx.drewN nq) (N:=M) (y:=x) rfl _ _ rfl rfl (Km b8.o (No _ _)) _ rfl rfl (by omega) G ?_;intro v8 w8 V R;have b0:Hid (Up wa w8):=((b7.o.trans ((No wx nq).mono G)).alloc G _).trans R;have b3:=Hd V;clear V R)
     go_roundw
     case rel=>exact J.o _ _ b3.o b0.o
     simp[intOf];omega
    have j2:((k:Int)==(en:Int))=false:=by rw[Jc];omega
    have j3:(k==en)=false:=by rw[Jc];exact ek
    have n6:decide ((k:Int)<(en:Int))=true:=Jb (by omega);have a2:=(Nz d6.o (i:=k) (by omega)).1;have l2:=Dx d2.o (i:=k) (by omega);have b2:=f1.o.cell (labA A k);rw[Rn l2]at b2;have J:=Hd (fun v8 w8 ho hb (h:Al K (labA A i) (labA A k)=true)=>Y.o v8 w8 ho hb ei (.inr ⟨by omega,h⟩));have O:=Hd (fun v8 w8 ho hb (h:Al K (labA A i) (labA A k)=false)=>E.o v8 w8 ho hb (by omega) (.inr ⟨ei,h⟩));have h8:Al K (labA A i) (labA A k)=decide (Nq K (labA A i)<=Nq K (labA A k)):=rfl;have m9:i<K.length:=by omega
    have e6:k<K.length:=by omega
    have n7:decide (i<K.length)=true:=Jb m9;have n8:decide (k<K.length)=true:=Jb e6;clear Y E;rw[h8]at J O;clear h8;obtain⟨x,hx⟩:=O2 (labA A i);obtain⟨y,hy⟩:=O2 (labA A k);rw[hx]at a1 b1 l1 J O;rw[hy]at a2 b2 l2 J O;have q2:decide (x<K.length)=true:=Jb l1;have q3:decide (y<K.length)=true:=Jb l2;generalize Nq K x=kx at b1 J O;generalize Nq K y=ky at b2 J O;clear hx hy a8
    cases hc:decide (kx<=ky)
    ·have l7:=Hd (fun v8 w8 ho hb=>O.o v8 w8 ho hb hc);clear J O
     go_wp2
     go_quiet (fail)
     go_wp2_with (at_builtin;refine Ke (W:=wx.drewN nq) (N:=M) (y:=y) rfl _ _ rfl rfl (Km b8.o (No _ _)) _ rfl rfl (by omega) G ?_;intro v8 w8 V R;have b0:Hid (Up wa w8):=((b7.o.trans ((No wx nq).mono G)).alloc G _).trans R;have b3:=Hd V;clear V R)
     go_roundw
     case rel=>exact l7.o _ _ b3.o b0.o
     simp[intOf];omega
    have k8:=Hd (fun v8 w8 ho hb=>J.o v8 w8 ho hb hc);clear J O
    go_wp2
    go_quiet (fail)
    go_wp2_with (at_builtin;refine Ke (W:=wx.drewN nq) (N:=M) (y:=x) rfl _ _ rfl rfl (Km b8.o (No _ _)) _ rfl rfl (by omega) G ?_;intro v8 w8 V R;have b0:Hid (Up wa w8):=((b7.o.trans ((No wx nq).mono G)).alloc G _).trans R;have b3:=Hd V;clear V R)
    go_roundw
    case rel=>exact k8.o _ _ b3.o b0.o
    simp[intOf];omega
   have z9:decide ((i:Int)<(md:Int))=false:=Jd (by omega);have n5:decide (i<md)=false:=Jd ei
   by_cases ek:k=en
   ·have j2:decide ((k:Int)<(en:Int))=false:=Jd (by omega);have j3:decide (k<en)=false:=Jd (by omega);have k9:Hid (M=TG):=by
     unfold Hid;have:=d8.o;rw[show(A.take md).drop i=[]from Yj (by simp;omega),show(A.take en).drop k=[]from Yj (by simp;omega),Ca,Vo]at this;exact this
    have g4:Hid (∃f':Nat,K.length - (fr+2*W)<=f'/\M++Gv K W f' (A.drop (fr+2*W))=PL):=by
     unfold Hid;obtain⟨f',rfl⟩:∃f',f=f'+1:=⟨f - 1,by omega⟩;refine⟨f',by omega,?_⟩;have n2:Gv K W (f'+1) (A.drop fr)=G8 K ((A.drop fr).take W) (((A.drop fr).drop W).take W)++Gv K W f' (A.drop (fr+2*W)):=by
      rw[Gv,if_neg (by rw[Yr];omega)];simp only[Zr]
     rw[k9.o,<-g5.o,<-g1.o,Ys,k1.o,k7.o,n2]
    clear Y E a8
    go_wp2
    go_roundw
    case rel=>
     obtain⟨f',h1,h2⟩:=g4.o;exact⟨fr+2*W,f',M,by omega,by go_num,h1,h2,b8.o,b7.o⟩
    simp[intOf];omega
   have j2:((k:Int)==(en:Int))=false:=by rw[Jc];omega
   have j3:(k==en)=false:=by rw[Jc];exact ek
   have n6:decide ((k:Int)<(en:Int))=true:=Jb (by omega);have n7:decide (k<en)=true:=Jb (by omega);have a2:=(Nz d6.o (i:=k) (by omega)).1;have O:=Hd (fun v8 w8 ho hb=>E.o v8 w8 ho hb (by omega) (.inl (by omega)));obtain⟨y,hy⟩:=O2 (labA A k);rw[hy]at a2 O;have e6:k<K.length:=by omega
   have n8:decide (k<K.length)=true:=Jb e6;clear hy Y E a8
   go_wp2
   go_quiet (fail)
   go_wp2_with (at_builtin;refine Ke (W:=wx.drewN nq) (N:=M) (y:=y) rfl _ _ rfl rfl (Km b8.o (No _ _)) _ rfl rfl (by omega) G ?_;intro v8 w8 V R;have b0:Hid (Up wa w8):=((b7.o.trans ((No wx nq).mono G)).alloc G _).trans R;have b3:=Hd V;clear V R)
   go_roundw
   case rel=>exact O.o _ _ b3.o b0.o
   simp[intOf];omega
  have z5:decide ((fr:Int)<(K.length:Int))=false:=Jd (by omega);have z6:decide (fr<K.length)=false:=Jd h5;have f9:Hid (N=PL):=by
   unfold Hid;rw[<-g1.o,Yj (by have:=a7.o;omega)]
   cases f with
   | zero=>simp[Gv]
   | succ f=>simp[Gv]
  have m6:N.length=K.length:=by
   have h2:=b9.o.1.length_eq;rw[f9.o];simpa using h2
  have l5:Hid (∃g9 c9,u7=Value.slice (some ⟨g9,0,none⟩) K.length c9/\wq.ownsRow w.heap.size 3 1 u7 K.length (labV PL)):=by
   unfold Hid;have h1:=g3.o;rw[m6,f9.o]at h1
   rcases id h1.2 with⟨h0,o7⟩|⟨g9,c9,cur,h0,p3,rest⟩
   ·omega
   exact⟨g9,c9,h0,h1.1,.inr ⟨g9,c9,cur,h0,by have:=b5.o.size;omega,rest⟩⟩
  obtain⟨g9,c9,e9,h9⟩:=l5.o;subst e9;have l4:=Hd h9;have k0:=Hd (b5.o.trans (e8.o.mono b5.o.size));clear h9
  go_wp2
  go_roundw
  case rel=>exact⟨2*W,g9,c9,PL,by omega,by omega,by go_num,rfl,l4.o,b9.o.1,b9.o.2,k0.o⟩
  simp[intOf];omega
 have z3:decide ((W:Int)<(K.length:Int))=false:=Jd (by omega);have z4:decide (W<K.length)=false:=Jd b6;have l8:Hid (Qc K A):=PM e7.o (by have:=a7.o;omega);clear q Z c8 hB a8
 go_wp2
 go_ret
 exact⟨_,A,rfl,g2.o,d2.o,l8.o,b5.o⟩
end Go.Proofs.YtfkagjelljnpdaaGreatDoor
namespace Go.Proofs.YtfkagjelljnpdaaGreatDoor
open ChangeShapes WideShapes ChangeAt RowKit
variable {L:List Nat}{b i:Nat}
theorem Xd{a:Nat}(hi:i<L.length):labA (K9 L a b) i=if labA L a=labA L b then labA L i else if labA L i=max (labA L a) (labA L b)then min (labA L a) (labA L b)else labA L i:=by
 unfold K9
 split
 ·rfl
 rw[O1 (by rw[In];exact hi),O1 hi];simp[relbl]
theorem ES{a:Nat}(ha:a<L.length)(hb:b<L.length):labA (K9 L a b) a=labA (K9 L a b) b:=by
 rw[Xd ha,Xd hb]
 split
 ·assumption
 rcases Nat.le_total (labA L a) (labA L b)with h|h
 ·rw[Nat.max_eq_right h,Yw h,if_pos rfl]
  split<;>rfl
 rw[Nat.max_eq_left h,Z3 h,if_pos rfl]
 split<;>rfl
theorem YG{a j:Nat}(hi:i<L.length)(hj:j<L.length)(h:labA L i=labA L j):labA (K9 L a b) i=labA (K9 L a b) j:=by
 rw[Xd hi,Xd hj,h]
theorem VG(L:List Nat)(f:Nat->Nat)(h:∀x,f x<=x):(L.map f).sum<=L.sum:=by
 induction L with
 | nil=>exact leR
 | cons x L ih=>simp only[Za,List.sum_cons];have:=h x;omega
theorem VH(L:List Nat)(f:Nat->Nat)(h:∀x,f x<=x){y:Nat}(hy:y∈L)(hlt:f y<y):(L.map f).sum<L.sum:=by
 induction L with
 | nil=>cases hy
 | cons x L ih=>
   simp only[Za,List.sum_cons]
   rcases Ym.1 hy with rfl|hy
   ·have:=VG L f h;omega
   have:=ih hy;have:=h x;omega
theorem ET{a:Nat}(ha:a<L.length)(hb:b<L.length)(h:labA L a≠labA L b):(K9 L a b).sum<L.sum:=by
 unfold K9;rw[if_neg h];unfold relbl;have hm:max (labA L a) (labA L b)∈L:=by
  rcases Nat.le_total (labA L a) (labA L b)with h|h
  ·rw[Nat.max_eq_right h,O1 hb];exact Jj hb
  rw[Nat.max_eq_left h,O1 ha];exact Jj ha
 refine VH L _ (fun x=>?_) hm ?_
 ·split<;>omega
 rw[if_pos rfl];omega
def Ge(T:List Tm)(M:List Nat)(L L':List Nat):Prop:=∀P:List Nat->Prop,(∀L1 x y,P L1->x∈M->y∈M->Kg L1 (tmAt T (x:Nat)) (tmAt T (y:Nat))->P (K9 L1 x y))->P L->P L'
theorem Ge.refl(T:List Tm)(M L:List Nat):Ge T M L L:=fun _ _ h=>h
theorem Ge.join{T:List Tm}{M L':List Nat}(h:Ge T M L L'){x y:Nat}(hx:x∈M)(hy:y∈M)(ha:Kg L' (tmAt T (x:Nat)) (tmAt T (y:Nat))):Ge T M L (K9 L' x y):=fun P hP h0=>hP _ _ _ (h P hP h0) hx hy ha
theorem Ge.trans{T:List Tm}{M L' L'':List Nat}(h:Ge T M L L')(h':Ge T M L' L''):Ge T M L L'':=fun P hP h0=>h' P hP (h P hP h0)
def Q3(T:List Tm)(M:List Nat)(L:List Nat):Prop:=∀x∈M,∀y∈M,Kg L (tmAt T (x:Nat)) (tmAt T (y:Nat))->labA L x=labA L y
theorem Kg.symm{s t:Tm}(h:Kg L s t):Kg L t s:=by
 obtain⟨⟨j,q,E,G,J,h6⟩,K⟩:=h;exact⟨⟨j.symm,q.symm,E.symm,G.symm,J.symm,h6.symm⟩,fun i hi=>(K i (by omega)).symm⟩
def IF(T:List Tm)(M L L':List Nat)(more:Bool):Prop:=Ge T M L L'/\(more=true->L'.sum<L.sum)/\(more=false->L'=L/\Q3 T M L)
theorem CI{K:List Int}{A:List Nat}(h:Qc K A){j m:Nat}(hi:i<=m)(hm:m<=j)(hj:j<A.length)(he:Nq K (labA A i)=Nq K (labA A j)):Nq K (labA A m)=Nq K (labA A j):=by
 have hp:∀a b,a<b->b<A.length->Nq K (labA A a)<=Nq K (labA A b):=fun a b hab hb=>by
  have:=List.pairwise_iff_getElem.1 h a b (by omega) hb hab;unfold Al at this;rw[J1]at this;rw[O1 (by omega),O1 hb];exact this
 by_cases q:i=m
 ·subst q;exact he
 by_cases E:m=j
 ·subst E;rfl
 have G:=hp i m (by omega) (by omega);have J:=hp m j (by omega) hj;omega
end Go.Proofs.YtfkagjelljnpdaaGreatDoor
