import Derived.Test.YtfkagjelljnpdaaGreatDoorP33
import Derived.Laws.MakeOwn
set_option linter.all false
set_option maxRecDepth 100000
set_option maxHeartbeats 16000000
namespace Go.Proofs.YtfkagjelljnpdaaGreatDoor
open ChangeShapes WideShapes ChangeAt RowKit Proofs.Tryz
variable {L T:List Tm}{b hb k mb:Nat}{v vt:Value}{w:World}
theorem YK(op:Int)(w:World):Calls prog 29 #[.int .i64 op] w fun e w'=>e=.returned (.bool (!U5 op))/\w'=w:=by
 by_cases h:3<=op/\op<=10
 ·have G:Hid ((!U5 op)=false):=by unfold Hid U5;rw[Jb h];rfl
  have j:op=3∨op=4∨op=5∨op=6∨op=7∨op=8∨op=9∨op=10:=by omega
  clear h
  rcases j with rfl|rfl|rfl|rfl|rfl|rfl|rfl|rfl
  all_goals (
   go_in
   go_wp2
   go_ret
   exact⟨Oz G.o.symm,rfl⟩)
 have G:Hid ((!U5 op)=true):=by unfold Hid U5;rw[Jd h];rfl
 have z3:(op==3)=false:=by rw[Jc];omega
 have z4:(op==4)=false:=by rw[Jc];omega
 have z5:(op==5)=false:=by rw[Jc];omega
 have E:(op==6)=false:=by rw[Jc];omega
 have J:(op==7)=false:=by rw[Jc];omega
 have K:(op==8)=false:=by rw[Jc];omega
 have z9:(op==9)=false:=by rw[Jc];omega
 have q:(op==10)=false:=by rw[Jc];omega
 clear h
 go_in
 go_wp2
 go_ret
 exact⟨Oz G.o.symm,rfl⟩
theorem S3(t:Tm)(pk:Option Addr)(nk ck:Nat)(w:World):Calls prog 27 #[.agg #[.int .i64 t.op,.string (Oo t.sort),.string (Oo t.text),.int .i64 t.a,.int .i64 t.b,.slice pk nk ck]] w fun e w'=>∃b,e=.returned (.bool b)/\Up w w':=by
 obtain⟨j,h⟩:=O2 (w.alloc (.cells #[.int .i64 t.op,.string (Oo t.sort),.string (Oo t.text),.int .i64 t.a,.int .i64 t.b,.slice pk nk ck] 38));have q:Hid (Up w j):=by unfold Hid;rw[<-h];exact Oy _ _
 have hx:Bx j w.heap.size [.int .i64 t.op,.string (Oo t.sort),.string (Oo t.text),.int .i64 t.a,.int .i64 t.b,.slice pk nk ck]:=by rw[<-h];exact Oq w _ _
 have c0:=hx.cell 0;have E:=Hd h;obtain⟨G,R⟩:∃b,(t.op==1)=b:=⟨_,rfl⟩;obtain⟨J,V⟩:∃b,(t.op==2)=b:=⟨_,rfl⟩;obtain⟨K,Y⟩:∃b,(t.op==12)=b:=⟨_,rfl⟩;obtain⟨O,Z⟩:∃b,(t.op==24)=b:=⟨_,rfl⟩;clear hx h
 cases G<;>cases J<;>cases K
 all_goals (
  go_in
  go_upto_region 1 with fail
  rw[E.o]
  go_wp2
  go_ret
  exact⟨_,rfl,q.o⟩)
theorem FB{vu:List Value}{ms:List Me}(hk:k<vu.length)(y:Nat×Nat)(h:y≠(1,k)):obs hb (vu.set k v) ms y=obs hb vu ms y:=by
 obtain⟨a,b⟩:=y;unfold obs;simp only
 split
 ·rfl
 split
 ·rename_i e;subst e;rw[F4 hk,if_neg (fun e=>h (by rw[e]))]
 rfl
theorem Hp.usu{w1:World}{B eb ub:Nat}{H:List Nat}{x:Sx}(h:Hp w B eb mb hb ub T H x){n':Nat}{v':Value}(hk:k<T.length){N:List Nat}(hg:w.grownBy w1 (valA x.vu k).ownBlock)(hn:n'=(x.U k++N).length)(ho:w1.ownsRow B 3 1 v' n' (labV (x.U k++N)))(hat:v'.ownBlock=(valA x.vu k).ownBlock∨v'.ownBlock=some w.heap.size) :
 Hp (w1.setCell ⟨ub,k,none⟩ v') B eb mb hb ub T H { x with vu:=x.vu.set k v',U:=updL x.U k (x.U k++N) }/\Ch B NoX [some 3,some 31] w (w1.setCell ⟨ub,k,none⟩ v'):=by
 have hl:k<x.vu.length:=by rw[h.ul];exact hk
 have J:Ch B NoX [some 3] w w1:=Ch.grown hg (h.use k hk) leR (fun _ _ h=>h) (by simp);have O:=h.usb.ch J (.inr (.inr (by decide)));have K:Ch B NoX [some 31] w1 (w1.setCell ⟨ub,k,none⟩ v'):=Ch.set h.ulo (fun h=>h) (by rw[O.ty];simp);have G:Ch B NoX [some 3,some 31] w (w1.setCell ⟨ub,k,none⟩ v'):=(J.wide (by decide)).trans (K.wide (by decide));have Z:∀y,y≠(1,k)->obs hb (x.vu.set k v') x.ms y=obs hb x.vu x.ms y:=fun y hy=>FB hl y hy;have V:obs hb (x.vu.set k v') x.ms (1,k)=v'.ownBlock:=by
  show(valA (x.vu.set k v') k).ownBlock=_
  rw[F4 hl,if_pos rfl]
 have R:Tb (w1.setCell ⟨ub,k,none⟩ v') hb 3 (labV H):=by
  have Y:w1.heap[hb]? = w.heap[hb]? := hg.block hb h.sta.hd.bx.lt (fun e=>absurd (h.inj (0,0) (1,k) hb rfl e.symm) (by simp));exact I3 (Y.trans h.sta.hd:Tb w1 hb 3 (labV H)) (fun e=>by have:=O.ty;rw[<-e,U7 (Y.trans h.sta.hd)]at this;exact absurd this (by decide))
 have E:∀y v L,(y≠(1,k))->obs hb x.vu x.ms y=v.ownBlock->H3 w B v L->H3 (w1.setCell ⟨ub,k,none⟩ v') B v L:=fun y v L hy e1 h2=>
  Uf (C2 h2 hg (fun q hq e=>hy (h.inj y (1,k) q (e1.trans hq) e))) (by rw[O.ty];decide)
 refine⟨⟨h.dyn.ch G (by decide) (by decide) (by decide) (by decide) (by decide) (by decide),⟨h.sta.trm.bl (G.bl h.sta.bs),h.sta.vH,R,h.sta.hl,h.sta.h6,h.sta.vM,h.sta.mem.ch G (by decide),h.sta.ml,Jm h.sta.bs G.size,h.sta.n3,h.sta.tk⟩,h.mlo,h.vU,O.set k v',h.ulo,by rw[Zh];exact h.ul,fun j hj=>?_,fun i hi=>E (2,i) _ _ (by simp) rfl (h.ids i hi),fun i hi=>own_ch (h.aps i hi) G (by decide),h.inj.upd Z ?_,fun y g hy=>?_⟩,G⟩
 ·show H3 _ _ (valA (x.vu.set k v') j) (updL x.U k (x.U k++N) j)
  rw[F4 hl]
  by_cases e:j=k
  ·subst e;rw[if_pos rfl,U9];unfold H3;rw[<-hn];exact Uf ho (by rw[O.ty];decide)
  rw[if_neg e,Es _ _ e];exact E (1,j) _ _ (by simpa using e) rfl (h.use j hj)
 ·rcases hat with hat|hat
  ·exact .inl (V.trans hat)
  exact .inr ⟨_,V.trans hat,fun y g hy=>by have:=h.olt y g hy;omega⟩
 by_cases e:y=(1,k)
 ·subst e;rw[V]at hy;exact Jn (C3 ho hy) K.size
 exact Jn (h.olt y g (by rw[<-Z y e];exact hy)) G.size
theorem NK(L:List Nat)(t:Nat):labV (L++[t])=labV L++[.int .i64 (t:Nat)]:=by simp[labV]
structure EnU(T:List Tm)(t c:Nat)(U U':Nat->List Nat)(k:Nat):Prop where
 mono:∀j,∀y∈U j,y∈U' j
 only:∀j,∀y∈U' j,y∈U j∨y=t
 got:∀i,i<k->t∈U' (O9 (tmAt T (t:Nat)) i)
 len:∀j,(U' j).length<=(U j).length+c
theorem EnU.refl(T:List Tm)(t:Nat)(U:Nat->List Nat):EnU T t 0 U U 0:=⟨fun _ _ h=>h,fun _ _ h=>.inl h,fun _ hi=>absurd hi (Jz _),fun _=>leR⟩
theorem EnU.stay{t c:Nat}{U U':Nat->List Nat}(h:EnU T t c U U' k)(hm:t∈U' (O9 (tmAt T (t:Nat)) k)):EnU T t (c+1) U U' (k+1):=
 ⟨h.mono,h.only,fun i hi=>by
  by_cases e:i=k
  ·subst e;exact hm
  exact h.got i (by omega),fun j=>by have:=h.len j;omega⟩
theorem EnU.grow{t c:Nat}{U U':Nat->List Nat}(h:EnU T t c U U' k):EnU T t (c+1) U (updL U' (O9 (tmAt T (t:Nat)) k) (U' (O9 (tmAt T (t:Nat)) k)++[t])) (k+1):=by
 obtain⟨q,hq⟩:=O2 (O9 (tmAt T (t:Nat)) k);rw[hq];have sub:∀j,∀y∈U' j,y∈updL U' q (U' q++[t]) j:=fun j y hy=>by
  by_cases e:j=q
  ·subst e;rw[U9];exact Va _ hy
  rw[Es _ _ e];exact hy
 refine⟨fun j y hy=>sub j y (h.mono j y hy),fun j y hy=>?_,fun i hi=>?_,fun j=>?_⟩
 ·by_cases e:j=q
  ·subst e;rw[U9]at hy
   rcases Yc.1 hy with hy|hy
   ·exact h.only j y hy
   exact .inr (J5.1 hy)
  rw[Es _ _ e]at hy;exact h.only j y hy
 ·by_cases e:i=k
  ·subst e;rw[hq,U9];simp
  exact sub _ _ (h.got i (by omega))
 have:=h.len j
 by_cases e:j=q
 ·subst e;rw[U9,Jq];simp;omega
 rw[Es _ _ e];omega
def PQ(B eb mb hb ub:Nat)(T:List Tm)(H R:List Nat)(x:Sx)(W:List (Nat×Nat))(t:Nat)(w w':World):Prop:=∃s' vu' U' W' c k,Hp w' B eb mb hb ub T H { x with s:=s',vu:=vu',U:=U' }/\EnU T t c x.U U' k/\c<=50/\It mb s' W'/\BI x.s s'/\((U5 (tmAt T (t:Nat)).op=true/\U'=x.U/\s'=x.s/\W'=W)∨(U5 (tmAt T (t:Nat)).op=false/\k=(tmAt T (t:Nat)).kids.length/\LP x.s.sg W s'.sg W' (Gx T H R t) t))/\Ch B NoX (some 31::Ug) w w'
theorem EO{B eb ub:Nat}{H R:List Nat}{x:Sx}{D:Nat->Nat}{W:List (Nat×Nat)}(t:Nat)(h:Hp w B eb mb hb ub T H x)(hF:Fo x.ms R D)(ht:t<T.length)(hu:∀k u,x.s.sg k=some u->u<T.length)(hI:It mb x.s W)(hn:x.s.nI<=5000000000000/\x.s.nS<=5000000000000/\x.s.nN<=5000000000000)(hU:∀k,k<T.length->(x.U k).length<=200000) :
 Calls prog 12 #[.pointer (some ⟨eb,0,none⟩),.int .i64 (t:Nat)] w fun e w'=>e=.returned (.tuple #[])/\PQ B eb mb hb ub T H R x W t w w':=by
 obtain⟨bt,ct,pk,ck,et,k7,k0,k1,k2,k3,k4,k5,k6⟩:=Uo h.sta.trm.at ht;have e0:w.cell? ⟨eb,0,none⟩=some x.s.vt:=h.dyn.box.bx.cell 0;rw[et]at e0;have c8:=h.sta.trm.kid ht et k5 h.sta.tk;obtain⟨nk,b2⟩:∃n,(tmAt T (t:Nat)).kids.length=n:=⟨_,rfl⟩;have k9:nk<=50:=by rw[<-b2];exact h.sta.tk.few t ht
 rw[b2]at k5 c8;have i6:=Hd c8.2;have j0:=Hd b2;have i1:(t:Int)<(T.length:Int):=by omega
 have i2:decide (t<T.length)=true:=Jb ht;obtain⟨op,d1⟩:∃n,(tmAt T (t:Nat)).op=n:=⟨_,rfl⟩;rw[d1]at k0;have e7:=Hd d1;have a7:=Hd (YK op w);have HH:=Hd h;have HF:=Hd hF;have HU:=Hd hu;have HI:=Hd hI;have j3:=Hd hU;clear h hF hu hI hU et k7 k1 k2 k3 k4 k6 c8 b2 d1
 cases G:U5 op with
 | true=>
   have HR:Hid (PQ B eb mb hb ub T H R x W t w w):=⟨x.s,x.vu,x.U,W,0,0,HH.o,EnU.refl _ _ _,by omega,HI.o,⟨by omega,by omega,by omega,rfl,rfl,rfl,rfl⟩,.inl ⟨by rw[e7.o];exact G,rfl,rfl,rfl⟩,Ch.refl _ _ _ _⟩;rw[G]at a7;clear G
   go_in
   go_wp2_with fail
   refine a7.o.mono ?_;rintro e w2 ⟨rfl,rfl⟩
   go_wp2
   go_returns
   exact⟨rfl,HR.o⟩
 | false=>
   have i7:Hid (U5 (tmAt T (t:Nat)).op=false):=by unfold Hid;rw[e7.o];exact G
   rw[G]at a7;clear G
   go_in
   go_wp2_with fail
   refine a7.o.mono ?_;rintro e w2 ⟨rfl,rfl⟩
   go_wp2
   go_loopw [5,6,26] (fun _ _ iv wy=>∃(k:Nat) (vu1:List Value) (U1:Nat->List Nat),k<=nk/\iv=.int .i64 (k:Nat)/\Hp wy B eb mb hb ub T H { x with vu:=vu1,U:=U1 }/\EnU T t k x.U U1 k/\Ch B NoX [some 3,some 31] w2 wy) (fun _ _ iv _=>nk - (intOf iv).toNat)
   case atStart=>exact⟨0,x.vu,x.U,Jp _,rfl,HH.o,EnU.refl _ _ _,Ch.refl _ _ _ _⟩
   rename World=>wy
   obtain⟨k,vu1,U1,hk,rfl,hh,a8,hc⟩:=hrel;have e5:=Hd hh;have b6:=Hd a8;have e3:=Hd hc;clear e0 k0 k5
   by_cases b0:k<nk
   ·have z1:decide ((k:Int)<(nk:Int))=true:=Jb (by omega);have z2:decide (k<nk)=true:=Jb b0;have i3:(k:Int)<(nk:Int):=by omega
    obtain⟨bk,rfl,j9,g7,kl⟩:=i6.o k b0;have kc:=hc.cell (p:=⟨bk,k,none⟩) g7 (.inl j9);obtain⟨q,hq⟩:=O2 (O9 (tmAt T (t:Nat)) k);rw[hq]at kc kl;have HQ:=Hd hq;have d4:wy.cell? ⟨eb,4,none⟩=some (.slice (some ⟨ub,0,none⟩) T.length T.length):=by
     have h1:wy.cell? ⟨eb,4,none⟩=some x.s.vU:=hh.dyn.box.bx.cell 4;rw[h1];exact congrArg some hh.vU
    have d5:wy.cell? ⟨ub,q,none⟩=some (valA vu1 q):=by
     rw[hh.usb.bx.cell q];have b9:q<vu1.length:=by have:=hh.ul;simp only at this;omega
     show vu1[q]? = _
     simp[valA,List.getD,b9]
    have f5:=hh.usb.bx.fz q;have d3:H3 wy B (valA vu1 q) (U1 q):=hh.use q kl;obtain⟨Nu,O⟩:∃n,(U1 q).length=n:=⟨_,rfl⟩;have l7:Nu<=300000:=by have h1:=a8.len q;have h2:=j3.o q kl;omega
    obtain⟨pU,cU,eU,d2⟩:∃p c,valA vu1 q=.slice p Nu c/\(Nu=0∨∃g,p=some ⟨g,0,none⟩):=by
     rcases Kx d3 with⟨e,e0⟩|⟨g,c,e⟩
     ·exact⟨none,0,by rw[e,O],.inl (by omega)⟩
     exact⟨_,c,by rw[e,O],.inr ⟨g,rfl⟩⟩
    have j4:Hid (vu1[q]? = some (.slice pU Nu cU)):=by
     unfold Hid;rw[<-eU];have b9:q<vu1.length:=by have:=hh.ul;simp only at this;omega
     simp[valA,List.getD,b9]
    rw[eU]at d5;have e9:Hid (wy.ownsRow B 3 1 (.slice pU Nu cU) Nu (labV (U1 q))):=by unfold Hid;rw[<-eU,<-O];exact d3
    have e6:=Hd O;have e4:=Hd eU;have i4:(q:Int)<(T.length:Int):=by omega
    have i5:decide (q<T.length)=true:=Jb kl;have k8:eb<wy.heap.size:=hh.dyn.box.bx.lt;have l0:ub<wy.heap.size:=hh.usb.bx.lt;clear hh a8 hc g7 hq d3 O eU
    go_upto_region 5 with fail
    go_cut [54] (fun s54 wx=>(∃bb,s54=.bool bb/\(bb=false->t∈U1 q))/\wx=wy)
    case first=>
     by_cases h0:Nu=0
     ·have y1:((Nu:Int)==0)=true:=by rw[J2];omega
      clear h0
      go_wp2
      go_meet
      exact⟨⟨true,rfl,fun e=>by cases e⟩,rfl⟩
     obtain⟨gU,rfl⟩:∃g,pU=some ⟨g,0,none⟩:=by
      rcases d2 with e|h
      ·exact absurd e h0
      exact h
     obtain⟨m,rfl⟩:∃m,Nu=m+1:=⟨Nu - 1,by omega⟩;have y1:((m:Int)+1==0)=false:=by rw[Jc];omega
     have b1:m<(U1 q).length:=by rw[e6.o];omega
     have g3:wy.cell? ⟨gU,m,none⟩=some (.int .i64 ((labA (U1 q) m:Nat):Int)):=(e9.o.cellAt m (by omega)).trans (Ks b1);have d0:labA (U1 q) m∈U1 q:=by rw[O1 b1];exact Jj b1
     obtain⟨z,hz⟩:=O2 (labA (U1 q) m);rw[hz]at g3 d0;have i8:=Hd d0;clear hz h0 d2 b1 d0
     go_wp2
     go_meet
     exact⟨⟨_,rfl,fun e=>by
      have e1:(z:Int)=(t:Int):=by simpa using e
      have e2:z=t:=by omega
      rw[<-e2];exact i8.o⟩,rfl⟩
    obtain⟨⟨bb,rfl,g0⟩,hw⟩:=hcut
    rename World=>wz
    subst hw;have h5:=Hd g0;clear g0;have f0:Hid (∀(wv:World) vu2 U2,Hp wv B eb mb hb ub T H { x with vu:=vu2,U:=U2 }->EnU T t (k+1) x.U U2 (k+1)->Ch B NoX [some 3,some 31] wz wv->∃(k':Nat) (vu1:List Value) (U1:Nat->List Nat),k'<=nk/\(.int .i64 ((k:Int)+1):Value)=.int .i64 (k':Nat)/\Hp wv B eb mb hb ub T H { x with vu:=vu1,U:=U1 }/\EnU T t k' x.U U1 k'/\Ch B NoX [some 3,some 31] w2 wv):=fun wv vu2 U2 a1 a2 a3=>⟨k+1,vu2,U2,b0,by go_num,a1,a2,e3.o.trans a3⟩
    cases bb with
    | false=>
      have HR:=Hd (f0.o wz vu1 U1 e5.o (b6.o.stay (by rw[HQ.o];exact h5.o rfl)) (Ch.refl _ _ _ _))
      go_wp2
      go_roundw
      case rel=>exact HR.o
      simp[intOf];omega
    | true=>
      obtain⟨i0,g1,l1,l2,l3⟩:=info_parts Iu;obtain⟨W2,V⟩:=O2 ((wz.alloc (.cells #[.int .i64 (t:Nat)] 3)).drew);have K:=Hd V;have b7:Hid (Ch B NoX [] wz W2):=by unfold Hid;rw[<-V];exact(Ch.up _ _ _ (Oy wz _)).drew
      have J:=Hd (e5.o.up b7.o);obtain⟨Z,hZ⟩:=O2 wz.heap.size;rw[hZ]at k8 l0;have b5:Hid (W2.ownsRow B 3 1 (.slice pU Nu cU) Nu (labV (U1 q))):=own_ch e9.o b7.o (by simp);have j1:Hid (∀j u,([.int .i64 (t:Nat)]:List Value)[j]? = some u->W2.cell? ((⟨Z,0,none⟩:Addr).add j)=some u):=by
       have h:=World.news_of_block (cs:=#[.int .i64 (t:Nat)]) (t:=3) (fr:=(0,0)) (heap_alloc_new wz (.cells #[.int .i64 (t:Nat)] 3));rw[hZ]at h;unfold Hid;rw[<-V];exact h
      have g5:W2.heap.size=Z+1:=by rw[<-V,<-hZ];simp
      have f1:=Hd g5;have h7:Hid (B<=W2.heap.size):=J.o.sta.bs;have h8:Hid (∀w6,W2.grownBy w6 (Value.slice pU Nu cU).ownBlock->w6.cell? ⟨eb,4,none⟩=some (.slice (some ⟨ub,0,none⟩) T.length T.length)):=fun w6 hg=>by
       have h1:w6.cell? ⟨eb,4,none⟩=some x.s.vU:=(J.o.dyn.box.ch (Ch.grown (B:=B) (X:=NoX) (ts:=[some 3]) hg b5.o leR (fun _ _ h=>h) (by simp)) (.inr (.inr (by decide)))).bx.cell 4;rw[h1];exact congrArg some J.o.vU
      clear V g5 d2
      go_wp2
      go_region_law
       ((refine step_append_lies _ (by rfl) _ _ _ (by rfl) B 3 i0 _ 1 8 underlying31 g1 l1 l2 l3 rfl (by omega) (.slice pU Nu cU) Nu (labV (U1 q)) (by rfl) (by rw[K.o];exact b5.o) ⟨Z,0,none⟩ 1 1 [.int .i64 (t:Nat)] (by rfl) (by rfl) (by rw[K.o];exact j1.o) (by simp[Value.oneCell']) (by omega) (by unfold maxLen;omega) (by omega) (by rw[K.o];exact h7.o) (Z+1) (by rw[K.o];exact f1.o) ?_;rw[K.o];intro g6 c6 w6 Y E b4 g4;have f8:=Hd (J.o.usu (k:=q) (n':=Nu+1) (v':=.slice (some ⟨g6,0,none⟩) (Nu+1) c6) kl (N:=[t]) (w1:=w6) (by show W2.grownBy w6 (valA vu1 q).ownBlock;rw[e4.o];exact E) (by show Nu+1=(U1 q++[t]).length;rw[Jq,e6.o];rfl) (by show w6.ownsRow B 3 1 _ (Nu+1) (labV (U1 q++[t]));rw[NK];exact Y) (by show _=(valA vu1 q).ownBlock∨_;rw[e4.o,f1.o];exact b4.elim (fun h=>.inl h.symm) (fun h=>.inr (by rw[h];rfl))));have b3:=Hd (J.o.usb.ch (Ch.grown (B:=B) (X:=NoX) (ts:=[some 3]) E b5.o leR (fun _ _ h=>h) (by simp)) (.inr (.inr (by decide))));have d7:=b3.o.bx.cell q;have d8:=b3.o.bx.fz q;rw[j4.o]at d7;have d9:=h8.o w6 E;clear Y E b4 g4))
      all_goals (
       go_wp2
       go_roundw
       case rel=>exact f0.o _ _ _ f8.o.1 (by rw[<-HQ.o];exact b6.o.grow) ((b7.o.wide (by decide)).trans f8.o.2)
       simp[intOf];omega)
   have z1:decide ((k:Int)<(nk:Int))=false:=Jd (by omega);have z2:decide (k<nk)=false:=Jd b0;have g2:k=nk:=by omega
   have h9:=Hd g2;have j2:=Hd (UB (x:={ x with vu:=vu1,U:=U1 }) hh HF.o t ht HU.o HI.o hn.1 hn.2.1 hn.2.2);clear hh a8 hc g2
   go_wp2_with fail
   refine j2.o.mono ?_;rintro e w5 ⟨rfl,s',W',a1,a2,a3,a4,a5,a6⟩;have HR:Hid (PQ B eb mb hb ub T H R x W t w2 w5):=⟨s',vu1,U1,W',k,k,a1,b6.o,by omega,a2,a4,.inr ⟨i7.o,by rw[h9.o,j0.o],a3⟩,(e3.o.wide (by decide)).trans (a5.wide (by decide))⟩;clear a1 a2 a3 a4 a5 a6
   go_wp2_with fail
   go_end0
   exact⟨rfl,HR.o⟩
def Ip(w:World)(v:Value)(L:List Int):Prop:=∃g c,v=.slice (some ⟨g,0,none⟩) L.length c/\g<w.heap.size/\∀i (h:i<L.length),w.cell? ⟨g,i,none⟩=some (.int .i64 L[i])
theorem Ip.bl{w':World}{L:List Int}(h:Ip w v L)(hb:Up w w'):Ip w' v L:=by
 obtain⟨g,c,e,j,q⟩:=h;exact⟨g,c,e,Jn j hb.size,fun i hi=>(hb.cell (p:=⟨g,i,none⟩) j).trans (q i hi)⟩
def N6(T:List Tm)(x:Int):Prop:=¬ (0<=x/\x<(T.length:Int)/\(tmAt T x).sort=Ok)
theorem ZV(x:Int)(k:Nat)(h:TermsAt w vt T)(hk:w.cell? ⟨k,0,none⟩=some vt)(_hn:T.length<=3000) :
 Calls prog 57 #[.int .i64 x,.pointer (some ⟨k,0,none⟩)] w fun e w'=>Nd (N6 T x) e/\w'=w:=by
 obtain⟨pt,ct,rfl,-,-,-⟩:=id h;have K:=Hd h;clear h
 by_cases G:x<0
 ·have z5:decide (x<0)=true:=Jb G;have j:Hid (N6 T x):=fun h=>by have:=h.1;omega
  go_in
  go_wp2
  go_ret
  exact⟨Nd.yes j.o,rfl⟩
 have z5:decide (x<0)=false:=Jd G
 by_cases f2:(T.length:Int)<=x
 ·have Z:decide ((T.length:Int)<=x)=true:=Jb f2;have j:Hid (N6 T x):=fun h=>by have:=h.2.1;omega
  go_in
  go_wp2
  go_ret
  exact⟨Nd.yes j.o,rfl⟩
 obtain⟨y,rfl⟩:∃y:Nat,x=(y:Int):=⟨x.toNat,by omega⟩;have E:y<T.length:=by omega
 have Z:decide ((T.length:Int)<=(y:Int))=false:=Jd f2;have z7:decide (T.length<=y)=false:=Jd (by omega);have z8:decide (y<T.length)=true:=Jb E;have Y:(y:Int)<(T.length:Int):=by omega
 obtain⟨bt,O,p1,k1,J,R,s0,s1,s2,s3,s4,s5,V⟩:=Uo K.o E;simp only[Value.slice.injEq,true_and]at J;obtain⟨rfl,rfl⟩:=J;clear G f2 V
 rcases Uz (tmAt T (y:Nat)).sort Ok with⟨f3,z9⟩|⟨f3,z9⟩
 ·have j:Hid (¬ N6 T (y:Int)):=fun h=>h ⟨by omega,by omega,f3⟩;have q:((Oo (tmAt T (y:Nat)).sort).toList==[66,111,111,108])=true:=z9;generalize (tmAt T (y:Nat)).sort=so at s1 q;clear f3 z9
  go_in
  go_wp2
  go_ret
  exact⟨Nd.no j.o,rfl⟩
 have j:Hid (N6 T (y:Int)):=fun h=>f3 h.2.2;have q:((Oo (tmAt T (y:Nat)).sort).toList==[66,111,111,108])=false:=z9;generalize (tmAt T (y:Nat)).sort=so at s1 q;clear f3 z9
 go_in
 go_wp2
 go_ret
 exact⟨Nd.yes j.o,rfl⟩
def MM(P:Prop)(e:Ending):Prop:=∃r:Int,e=.returned (.int .i64 r)/\(0<=r↔P)
theorem Lv{L:List Int}(k:Nat)(h:TermsAt w vt T)(hk:w.cell? ⟨k,0,none⟩=some vt)(hn:T.length<=3000)(hv:Ip w v L)(hL:L.length<=1000) :
 Calls prog 82 #[v,.func (.func 57) #[] #[.pointer (some ⟨k,0,none⟩)]] w fun e w'=>MM (∃x∈L,N6 T x) e/\w'=w:=by
 obtain⟨g,c,rfl,hg,O⟩:=hv;have V:=Hd O;have R:=Hd (fun x=>ZV x k h hk hn);clear h hk O
 go_in
 go_wp2
 go_loopw [5,8] (fun _ iv wr=>∃i:Nat,i<=L.length/\iv=.int .i64 (i:Nat)/\(∀j (h:j<L.length),j<i->¬ N6 T L[j])/\wr=w) (fun _ iv _=>L.length - (intOf iv).toNat)
 case atStart=>exact⟨0,Jp _,rfl,fun j _ h=>absurd h (Jz _),rfl⟩
 obtain⟨i,hi,rfl,J,rfl⟩:=hrel;have E:=Hd J;clear J
 by_cases q:i<L.length
 ·have q0:=V.o i q;have a1:(i:Int)<(L.length:Int):=by omega
  have Z:=Hd (R.o L[i]);have Y:=Hd (Jj q);have K:Hid (¬ N6 T L[i]->∀j (h:j<L.length),j<i+1->¬ N6 T L[j]):=fun hf j h hj=>by
   by_cases e:j=i
   ·subst e;exact hf
   exact E.o j h (by omega)
  generalize L[i]=y at *
  go_wp2_with fail
  refine Z.o.mono ?_;rintro e w1 ⟨⟨b,rfl,hb⟩,rfl⟩
  cases b with
  | true=>
    have G:Hid (∃x∈L,N6 T x):=⟨y,Y.o,hb.1 rfl⟩;clear hb
    go_wp2
    go_ret
    exact⟨⟨_,rfl,⟨fun _=>G.o,fun _=>by omega⟩⟩,rfl⟩
  | false=>
    have G:=Hd (K.o (fun h=>by have:=hb.2 h;cases this));clear hb
    go_wp2
    go_roundw
    case rel=>exact⟨i+1,q,by go_num,G.o,trivial⟩
    simp[intOf];omega
 have a7:¬ (i:Int)<(L.length:Int):=by omega
 have G:Hid (¬ ∃x∈L,N6 T x):=fun⟨x,hx,hb⟩=>by
  obtain⟨j,hj,rfl⟩:=Ya hx;exact E.o j hj (by omega) hb
 go_wp2
 go_ret
 exact⟨⟨_,rfl,⟨fun h=>by omega,fun h=>absurd h G.o⟩⟩,rfl⟩
theorem R1{L:List Int}(k:Nat)(h:TermsAt w vt T)(hk:w.cell? ⟨k,0,none⟩=some vt)(hn:T.length<=3000)(hv:Ip w v L)(hL:L.length<=1000) :
 Calls prog 58 #[v,.func (.func 57) #[] #[.pointer (some ⟨k,0,none⟩)]] w fun e w'=>Nd (∃x∈L,N6 T x) e/\w'=w:=by
 have j:=Hd (Lv k h hk hn hv hL);obtain⟨g,c,rfl,-,-⟩:=hv;clear h hk
 go_in
 go_wp2_with fail
 refine j.o.mono ?_;rintro e w1 ⟨⟨r,rfl,q⟩,rfl⟩;have E:=Hd q;clear q j
 go_wp2
 go_ret
 exact⟨⟨_,rfl,by simpa using E.o⟩,rfl⟩
theorem Be{L:List Int}(h:TermsAt w vt T)(hn:T.length<=3000)(hv:Ip w v L)(hL:L.length<=1000) :
 Calls prog 25 #[vt,v] w fun e w'=>Nd (¬ ∃x∈L,N6 T x) e/\Up w w':=by
 obtain⟨Y,R,rfl,-,-,-⟩:=id h;obtain⟨O,j⟩:=O2 (w.alloc (.cells #[.slice Y T.length R] 25));have q:Up w O:=by rw[<-j];exact Oy _ _
 have E:Bx O w.heap.size [.slice Y T.length R]:=by rw[<-j];exact Oq w _ _
 have K:=Hd (R1 w.heap.size (h.bl q) (E.cell 0) hn (hv.bl q) hL);have a1:∀(fn:Go.Fn) (first cap:Array Value) (w:World),(Instr.makeFunc fn first cap).run prog w=.ok (.func fn first cap) w:=fun _ _ _ _=>rfl;have J:=Hd j;have G:=Hd q;obtain⟨g,c,rfl,-,-⟩:=hv;clear h j q E
 go_in
 go_upto_region 1 with fail
 rw[J.o]
 go_wp2_with fail
 refine K.o.mono ?_;rintro e w2 ⟨⟨b,rfl,hb⟩,rfl⟩;have Z:=Hd hb;clear hb K
 go_wp2
 go_ret
 refine⟨⟨!b,rfl,?_⟩,G.o⟩;have V:=Z.o;constructor
 ·intro e hx;rw[V.2 hx]at e;cases e
 intro hx;cases b with
 | true=>exact absurd (V.1 rfl) hx
 | false=>rfl
def RW(Fs:List (Int×Bool))(k:Nat):List Value:=(Fs.take k).map (fun f=>.int .i64 f.1)++List.replicate (Fs.length - k) (.int .i64 0)
theorem RJ{Fs:List (Int×Bool)}(h:k<Fs.length):(RW Fs k).set k (.int .i64 Fs[k].1)=RW Fs (k+1):=by
 unfold RW;have j:((Fs.take k).map (fun f=>Value.int .i64 f.1)).length=k:=by simp;omega
 rw[Z5 _ _ (by omega),j,Nat.sub_self,Vb,Jg h];obtain⟨m,hm⟩:∃m,Fs.length - k=m+1:=⟨Fs.length - k - 1,by omega⟩;rw[hm,show Fs.length - (k+1)=m by omega,Vv];simp only[Option.toList_some,Yk,Za,Zq,Ys,List.singleton_append,Je]
theorem Wh{vk:Value}{Fs:List (Int×Bool)}(h:FactsAt w vk Fs)(hn:Fs.length<=300) :
 Calls prog 26 #[vk] w fun e w'=>∃v,e=.returned v/\Ip w' v (Fs.map (fun f=>f.1))/\Up w w':=by
 obtain⟨i0,Y,b8,b9,c6⟩:=info_parts Iu;have HF:=Hd h;obtain⟨pk,ck,rfl,d6,d7,-⟩:=h
 go_in
 go_wp2_with (at_make;refine wpList_make_full _ rfl _ _ 31 rfl w.heap.size 3 i0 (.int .i64 0) 1 underlying31 Y b8 b9 .i64 .i64 _ _ Fs.length rfl rfl (by simp) (by simp) (by rw[c6];omega) (by unfold maxLen;omega) leR ?_)
 intro w1 J q;have R:Up w w1:=⟨q.os,q.tape,q.output,q.size,fun k hk=>q.block k hk (fun e=>by cases e)⟩;have V:Bx w1 w.heap.size (RW Fs 0):=by
  have e:(madeCells #[Value.int .i64 0] Fs.length).toList=RW Fs 0:=by
   rw[toList_madeCells_one];simp[RW]
  rw[<-e];exact B9 J
 have b1:=Hd R;have b4:=Hd V;clear J q R V
 go_wp2
 go_loopw [4,5,11] (fun _ _ iv wr=>∃k:Nat,k<=Fs.length/\iv=.int .i64 (k:Nat)/\Bx wr w.heap.size (RW Fs k)/\Up w wr) (fun _ _ iv _=>Fs.length - (intOf iv).toNat)
 case atStart=>exact⟨0,Jp _,rfl,b4.o,b1.o⟩
 rename World=>wr
 obtain⟨k,hk,rfl,hx,hb⟩:=hrel;have HX:=Hd hx;have HB:=Hd hb
 by_cases j:k<Fs.length
 ·have z1:decide ((k:Int)<(Fs.length:Int))=true:=Jb (by omega);have z2:decide (k<Fs.length)=true:=Jb j;have i1:(k:Int)<(Fs.length:Int):=by omega
  obtain⟨bk,rfl,d5,q0,q1⟩:∃bk,pk=some ⟨bk,0,none⟩/\bk<wr.heap.size/\wr.cell? ⟨bk,k*2,none⟩=some (.int .i64 Fs[k].1)/\wr.cell? ⟨bk,k*2+1,none⟩=some (.bool Fs[k].2):=by
   obtain⟨p',c',e,-,-,h3⟩:=HF.o.bl hb;simp only[Value.slice.injEq,true_and]at e;obtain⟨rfl,rfl⟩:=e
   rcases h3 with h3|⟨b',e,hl,h5⟩
   ·rw[h3]at j;exact absurd j (Jz _)
   exact⟨b',e,hl,h5 k j⟩
  have O:=Hd (RJ j);generalize Fs[k]=f at *;obtain⟨ft,fo⟩:=f;simp only at q0 q1 O;obtain⟨W1,E⟩:=O2 (wr.alloc (.cells #[.int .i64 ft,.bool fo] 36));have K:Up wr W1:=by rw[<-E];exact Oy _ _
  have a1:Bx W1 wr.heap.size [.int .i64 ft,.bool fo]:=by rw[<-E];exact Oq wr _ _
  have G:=hx.bl hx.lt K;have y0:=a1.c2.1;have b6:∃u,(RW Fs k)[k]? = some u:=⟨_,Jg (by unfold RW;simp;omega)⟩;obtain⟨u,hu⟩:=b6;have y1:=G.cell k;rw[hu]at y1;have y2:=G.fz k;have b3:=Hd E;have HS:Hid (Bx (W1.setCell ⟨w.heap.size,k,none⟩ (.int .i64 ft)) w.heap.size (RW Fs (k+1))):=by unfold Hid;rw[<-O.o];exact G.set k _
  have b2:Hid (Up w (W1.setCell ⟨w.heap.size,k,none⟩ (.int .i64 ft))):=(HB.o.trans (K.mono HB.o.size)).sc;clear hx hb E K a1 G hu
  go_upto_region 5 with fail
  rw[b3.o]
  go_wp2
  go_roundw
  case rel=>exact⟨k+1,j,by go_num,HS.o,b2.o⟩
  simp[intOf];omega
 have z1:decide ((k:Int)<(Fs.length:Int))=false:=Jd (by omega);have z2:decide (k<Fs.length)=false:=Jd j;have Z:k=Fs.length:=by omega
 have HV:Hid (Ip wr (.slice (some ⟨w.heap.size,0,none⟩) Fs.length Fs.length) (Fs.map (fun f=>f.1))):=by
  refine⟨w.heap.size,Fs.length,by rw[Z6],hx.lt,fun i hi=>?_⟩;rw[hx.cell i,Z];have b7:i<Fs.length:=by simpa using hi
  simp[RW,b7]
 clear hx hb Z
 go_wp2
 go_ret
 exact⟨_,rfl,HV.o,HB.o⟩
def R3(t:Tm):Tm:={ t with kids:=[] }
def Hz(w:World)(b:Nat)(L:List Tm):Prop:=
 ∃D:DataW Unit,w.ownsMap prog 110 (plainElem prog 3) b L.length D/\(∀t,WfT t->Maps.has D (Xk t)=(Kd L t).isSome/\∀i,Kd L t=some i->D.atKey (Xk t) (.lit (.int .i64 0))=.lit (.int .i64 (i:Nat)))/\Maps.size D=L.length
theorem Hz.blk{w':World}(h:Hz w b L)(e:w'.heap[b]? = w.heap[b]?):Hz w' b L:=by
 obtain⟨D,⟨j,cl,hm,E⟩,q⟩:=h;exact⟨D,⟨j,cl,e.trans hm,E⟩,q⟩
theorem Hz.ty0(h:Hz w b L):Ix w b=Option.none/\b<w.heap.size:=by
 obtain⟨D,⟨j,cl,hm,_⟩,_⟩:=h;exact⟨by unfold Ix;rw[hm],(Jo.1 hm).1⟩
theorem Hz.new(h:w.heap[b]? = some (.map #[] 0)):Hz w b []:=by
 obtain⟨q,cl,hm,j⟩:=World.ownsMap_made (H:=Unit) w prog 110 (plainElem prog 3);rw[heap_alloc_new]at hm;cases hm;exact⟨_,⟨_,_,h,j⟩,fun _ _=>⟨rfl,fun i hi=>by cases hi⟩,rfl⟩
theorem Hz.look(h:Hz w b L){t:Tm}(ht:WfT t):∃c:Int,(∀i,Kd L t=some i->c=(i:Nat))/\(Instr.lookup 78 (.map (some b)) (Ci t) true).run prog w=.ok (.tuple #[.int .i64 c,.bool (Kd L t).isSome]) w:=by
 obtain⟨D,j,G,-⟩:=h;have V:(zeroValue 3).run prog w=.ok (.int .i64 0) w:=rfl;obtain⟨v,Y,q,O⟩:=j.look_ok P4 underlying78 V (plainElem_int underlying3 (by decide)) (E0 ht);obtain⟨c,rfl,K,R⟩:=plainElem_int_inv underlying3 O;refine⟨c,fun i hi=>?_,?_⟩
 ·have J:=(G t ht).2 i hi;have E:=congrArg Prod.fst K;rw[J]at E;simp at E;exact E.symm
 rw[q,(G t ht).1]
theorem Hz.put{D:DataW Unit}(hD:∀t,WfT t->Maps.has D (Xk t)=(Kd L t).isSome/\∀i,Kd L t=some i->D.atKey (Xk t) (.lit (.int .i64 0))=.lit (.int .i64 (i:Nat)))(hm:Maps.IsMap D)(ht:Maps.Tidy D)(hs:Maps.size D=L.length){s:Tm}(hw:WfT s)(hn:Kd L s=none)(hown:w.ownsMap prog 110 (plainElem prog 3) b (L.length+1) (D.put (Xk s) (.lit (.int .i64 (L.length:Nat))))):Hz w b (L++[s]):=by
 obtain⟨E,G,J⟩:=Kn.put hD hm hw hn hown;have j:=P4.key (E0 hw);refine⟨_,by rw[Jq];exact hown,fun t ht'=>?_,?_⟩
 ·rw[R4 hn]
  by_cases h:t=s
  ·subst h;rw[if_pos (Ut.2 rfl)];refine⟨Maps.has_put_same hm j _,fun i hi=>?_⟩;cases hi;exact Maps.atKey_put_same hm j _ _
  rw[if_neg (fun e=>h (Ut.1 e))];have q:Xk t≠Xk s:=fun e=>h (S6 ht' hw e);rw[Maps.has_put_other q,Maps.atKey_put_other q];exact hD t ht'
 rw[Maps.size_put ht,(hD s hw).1,hn,hs];simp
def BH(b:Nat)(L:List Tm)(u:Tm)(w:World)(e:Ending)(w':World):Prop:=∃k:Nat,e=.returned (.int .i64 (k:Nat))/\Bar b w w'/\((Kd L u=some k/\Hz w' b L)∨(Kd L u=none/\k=L.length/\Hz w' b (L++[u])))
theorem OS(t:Tm)(pk:Option Addr)(nk ck:Nat)(w:World)(h:Hz w b L)(hw:WfT (R3 t))(hL:L.length<=3000):Calls prog 28 #[.agg #[.int .i64 t.op,.string (Oo t.sort),.string (Oo t.text),.int .i64 t.a,.int .i64 t.b,.slice pk nk ck],.map (some b)] w (BH b L (R3 t) w):=by
 obtain⟨W0,O⟩:=O2 (w.alloc (.cells #[.int .i64 t.op,.string (Oo t.sort),.string (Oo t.text),.int .i64 t.a,.int .i64 t.b,.slice pk nk ck] 38));have Z:Up w W0:=by rw[<-O];exact Oy _ _
 have hx:Bx W0 w.heap.size [.int .i64 t.op,.string (Oo t.sort),.string (Oo t.text),.int .i64 t.a,.int .i64 t.b,.slice pk nk ck]:=by rw[<-O];exact Oq w _ _
 obtain⟨J,R⟩:=O2 (W0.alloc (.cells #[.int .i64 t.op,.string (Oo t.sort),.string (Oo t.text),.int .i64 t.a,.int .i64 t.b,.string ⟨#[]⟩] 110));have b1:Up W0 J:=by rw[<-R];exact Oy _ _
 have q:Bx J W0.heap.size [.int .i64 t.op,.string (Oo t.sort),.string (Oo t.text),.int .i64 t.a,.int .i64 t.b,.string ⟨#[]⟩]:=by rw[<-R];exact Oq W0 _ _
 have a8:=Hd O;have b0:=Hd R;have V:Hid (Up w J):=Z.trans (b1.mono Z.size);have K:Hz J b L:=h.blk (V.o.block b h.ty0.2);have e0:Ci (R3 t)=.agg #[.int .i64 t.op,.string (Oo t.sort),.string (Oo t.text),.int .i64 t.a,.int .i64 t.b,.string ⟨#[]⟩]:=rfl;obtain⟨c,hc,hl⟩:=K.look hw;rw[e0]at hl;have c0:=hx.cell 0;have c1:=hx.cell 1;have c2:=hx.cell 2;have c3:=hx.cell 3;have c4:=hx.cell 4;have c5:=hx.cell 5;have d0:=q.cell 0;have d1:=q.cell 1;have d2:=q.cell 2;have d3:=q.cell 3;have d4:=q.cell 4;have d5:=q.cell 5;have b3:=Hd (E0 hw);have b6:=Hd hw;have HC:=Hd hc;clear O R Z b1 hx q h hw hc
 cases hi:Kd L (R3 t)with
 | some k=>
   rw[hi]at hl;have b7:=HC.o k hi;have HI:=Hd hi;have b4:=Hd K;subst b7;have b8:(Instr.lookup 78 (.map (some b)) (.agg #[.int .i64 t.op,.string (Oo t.sort),.string (Oo t.text),.int .i64 t.a,.int .i64 t.b,.string ⟨#[]⟩]) true).run prog J=.ok (.tuple #[.int .i64 (k:Nat),.bool true]) J:=hl;clear hl hi K
   go_in
   go_upto_region 1 with fail
   rw[a8.o]
   go_upto_region 2 with fail
   rw[b0.o]
   go_wp2
   go_ret
   exact⟨k,rfl,Bar.of V.o,.inl ⟨HI.o,b4.o⟩⟩
 | none=>
   rw[hi]at hl;have HI:=Hd hi;obtain⟨D,E,hD,hs⟩:=K;have Y:=Hd E;have HD:=Hd hD;have b5:=Hd hs;have b8:(Instr.lookup 78 (.map (some b)) (.agg #[.int .i64 t.op,.string (Oo t.sort),.string (Oo t.text),.int .i64 t.a,.int .i64 t.b,.string ⟨#[]⟩]) true).run prog J=.ok (.tuple #[.int .i64 c,.bool false]) J:=hl;have d6:∀ty,(Builtin.len_ #[78] ty #[.map (some b)]).run prog J=.ok (.int .i64 (L.length:Nat)) J:=fun ty=>by rw[<-hs];exact E.len underlying78 ty
   clear hl hi E hD hs
   go_in
   go_upto_region 1 with fail
   rw[a8.o]
   go_upto_region 2 with fail
   rw[b0.o]
   go_upto_region 5 with fail
   go_wp2_with (at_mapUpdate;refine wpList_mapUpdate_own _ rfl _ _ _ 78 rfl 110 3 P4 underlying78 (plainElem prog 3) b L.length D rfl Y.o (by unfold maxLen;omega) _ _ _ rfl rfl b3.o (.lit (.int .i64 (L.length:Nat))) [] (plainElem_int underlying3 ?wf) ?_)
   case wf=>exact F6 (by omega)
   intro w4 G j;have HR:Hid (BH b L (R3 t) w (.returned (.int .i64 (L.length:Nat))) w4):=⟨L.length,rfl,(Bar.of V.o).trans ⟨j.os,j.tape,j.output,j.size,fun k hk hne=>j.block k hk (fun e=>hne (Option.some.inj e))⟩,.inr ⟨HI.o,rfl,Hz.put HD.o Y.o.isMap (Y.o.tidy P4) b5.o b6.o HI.o G⟩⟩;clear G j
   go_wp2
   go_ret
   exact HR.o
theorem YY:(prog.info? 31).map (fun i=>(i.zero,i.size,i.bytes))=some (some (.slice none 0 0),1,24):=by kernel_rfl
theorem EL:(prog.info? 49).map (fun i=>(i.zero,i.size,i.bytes))=some (some (.agg #[.int .i64 0,.pointer none,.bool false,.bool false,.slice none 0 0,.int .i64 0,.bool false,.slice none 0 0]),8,88):=by kernel_rfl
theorem EU(w:World)(o0 o1 o2 o3 o4:Obj):((((((w.alloc o0).alloc o1).alloc o2).alloc o3).alloc o4).heap[w.heap.size]? = some o0/\(((((w.alloc o0).alloc o1).alloc o2).alloc o3).alloc o4).heap[w.heap.size+1]? = some o1/\(((((w.alloc o0).alloc o1).alloc o2).alloc o3).alloc o4).heap[w.heap.size+1+1]? = some o2/\(((((w.alloc o0).alloc o1).alloc o2).alloc o3).alloc o4).heap[w.heap.size+1+1+1]? = some o3/\(((((w.alloc o0).alloc o1).alloc o2).alloc o3).alloc o4).heap[w.heap.size+1+1+1+1]? = some o4)/\Up w (((((w.alloc o0).alloc o1).alloc o2).alloc o3).alloc o4):=by
 refine⟨?_,Eu (Eu (Eu (Eu (Eu (Ji _ _) _) _) _) _) _⟩
 show((((((w.heap.push o0).push o1).push o2).push o3).push o4)[w.heap.size]?)=_/\((((((w.heap.push o0).push o1).push o2).push o3).push o4)[w.heap.size+1]?)=_/\((((((w.heap.push o0).push o1).push o2).push o3).push o4)[w.heap.size+1+1]?)=_/\((((((w.heap.push o0).push o1).push o2).push o3).push o4)[w.heap.size+1+1+1]?)=_/\((((((w.heap.push o0).push o1).push o2).push o3).push o4)[w.heap.size+1+1+1+1]?)=_
 refine⟨?_,?_,?_,?_,?_⟩
 all_goals (simp only[Array.getElem?_push,Array.size_push];repeat' split)
 all_goals first|rfl|omega|simp_all
structure NewE(w:World)(n:Nat)(vt:Value)(A1 A2 A3:Array Value)(eb hb ub mb sb:Nat)(W:World):Prop where
 box:Tb W eb 59 [vt,.int .i64 (-1),.int .i64 (-1),.slice (some ⟨hb,0,none⟩) n n,.slice (some ⟨ub,0,none⟩) n n,.slice (some ⟨mb,0,none⟩) n n,.slice none 0 0,.int .i64 0,.map (some sb),.slice none 0 0,.bool false,.slice none 0 0,.slice none 0 0]
 low:Up w W
 hd:W.heap[hb]? = some (.cells A1 3 (0,0))
 us:W.heap[ub]? = some (.cells A2 31 (0,0))
 mm:W.heap[mb]? = some (.cells A3 49 (0,0))
 sg:W.heap[sb]? = some (.map #[] 0)
 ge:w.heap.size<=eb/\w.heap.size<=hb/\w.heap.size<=ub/\w.heap.size<=mb/\w.heap.size<=sb
theorem O7{g i:Nat}{a:Array Value}{t:TypeId}(h:w.heap[g]? = some (.cells a t (0,0)))(hi:i<a.size):∃u,w.cell? ⟨g,i,none⟩=some u:=by
 refine⟨a[i],?_⟩;rw[cell_of_row w g i a t (0,0) h];exact Zk hi
theorem Hq{g i:Nat}{a:Array Value}{t:TypeId}(h:w.heap[g]? = some (.cells a t (0,0)))(v:Value):∃a',(w.setCell ⟨g,i,none⟩ v).heap[g]? = some (.cells a' t (0,0))/\a'.size=a.size:=by
 obtain⟨j,q⟩:=Jo.1 h;refine⟨a.set! i v,?_,by simp⟩
 show(w.heap.modify g _)[g]? = _
 rw[Zk (by rw[Zf];exact j),Zt,q];simp
theorem MemsAt.put8{n:Nat}{ms:List Me}{a:Array Value}(h:MemsAt w mb ms)(hb:w.heap[mb]? = some (.cells a 49 (0,0)))(hs:a.size=n*8)(hn:ms.length<n)(m:Me){v0 v1 v2 v3 v4 v5 v6 v7:Value}(hv:QK mb ms.length m=[v0,v1,v2,v3,v4,v5,v6,v7]) :
 MemsAt ((((((((w.setCell ⟨mb,ms.length*8,none⟩ v0).setCell ⟨mb,ms.length*8+1,none⟩ v1).setCell ⟨mb,ms.length*8+2,none⟩ v2).setCell ⟨mb,ms.length*8+3,none⟩ v3).setCell ⟨mb,ms.length*8+4,none⟩ v4).setCell ⟨mb,ms.length*8+5,none⟩ v5).setCell ⟨mb,ms.length*8+6,none⟩ v6).setCell ⟨mb,ms.length*8+7,none⟩ v7) mb (ms++[m])/\(∃a',((((((((w.setCell ⟨mb,ms.length*8,none⟩ v0).setCell ⟨mb,ms.length*8+1,none⟩ v1).setCell ⟨mb,ms.length*8+2,none⟩ v2).setCell ⟨mb,ms.length*8+3,none⟩ v3).setCell ⟨mb,ms.length*8+4,none⟩ v4).setCell ⟨mb,ms.length*8+5,none⟩ v5).setCell ⟨mb,ms.length*8+6,none⟩ v6).setCell ⟨mb,ms.length*8+7,none⟩ v7).heap[mb]? = some (.cells a' 49 (0,0))/\a'.size=n*8)/\Bar mb w ((((((((w.setCell ⟨mb,ms.length*8,none⟩ v0).setCell ⟨mb,ms.length*8+1,none⟩ v1).setCell ⟨mb,ms.length*8+2,none⟩ v2).setCell ⟨mb,ms.length*8+3,none⟩ v3).setCell ⟨mb,ms.length*8+4,none⟩ v4).setCell ⟨mb,ms.length*8+5,none⟩ v5).setCell ⟨mb,ms.length*8+6,none⟩ v6).setCell ⟨mb,ms.length*8+7,none⟩ v7):=by
 obtain⟨a0,J,s0⟩:=Hq (i:=ms.length*8) hb v0;obtain⟨a1,K,s1⟩:=Hq (i:=ms.length*8+1) J v1;obtain⟨a2,O,s2⟩:=Hq (i:=ms.length*8+2) K v2;obtain⟨a3,R,s3⟩:=Hq (i:=ms.length*8+3) O v3;obtain⟨a4,V,s4⟩:=Hq (i:=ms.length*8+4) R v4;obtain⟨a5,Y,s5⟩:=Hq (i:=ms.length*8+5) V v5;obtain⟨a6,h6,s6⟩:=Hq (i:=ms.length*8+6) Y v6;obtain⟨G,Z,s7⟩:=Hq (i:=ms.length*8+7) h6 v7;have E:Bar mb w ((((((((w.setCell ⟨mb,ms.length*8,none⟩ v0).setCell ⟨mb,ms.length*8+1,none⟩ v1).setCell ⟨mb,ms.length*8+2,none⟩ v2).setCell ⟨mb,ms.length*8+3,none⟩ v3).setCell ⟨mb,ms.length*8+4,none⟩ v4).setCell ⟨mb,ms.length*8+5,none⟩ v5).setCell ⟨mb,ms.length*8+6,none⟩ v6).setCell ⟨mb,ms.length*8+7,none⟩ v7):=(((((((Bar.setCell mb (ms.length*8) w v0).trans (Bar.setCell mb (ms.length*8+1) _ v1)).trans (Bar.setCell mb (ms.length*8+2) _ v2)).trans (Bar.setCell mb (ms.length*8+3) _ v3)).trans (Bar.setCell mb (ms.length*8+4) _ v4)).trans (Bar.setCell mb (ms.length*8+5) _ v5)).trans (Bar.setCell mb (ms.length*8+6) _ v6)).trans (Bar.setCell mb (ms.length*8+7) _ v7);refine⟨⟨⟨G,Z⟩,fun i hi f hf=>?_⟩,⟨G,Z,by omega⟩,E⟩;rw[Jq]at hi
 by_cases e:i<ms.length
 ·rw[Vd e,<-h.cell i e f hf]
  iterate 8 (refine(Yq _ _ _ _ (fun e'=>by simp only[Addr.mk.injEq,true_and,and_true]at e';omega)).trans ?_)
  rfl
 have e1:i=ms.length:=by simp at hi;omega
 subst e1;rw[Zu leR];simp only[Nat.sub_self,Vl];rw[hv];have j:∀g,g<8->ms.length*8+g<a.size:=fun g hg=>by omega
 rcases f8_cases hf with rfl|rfl|rfl|rfl|rfl|rfl|rfl|rfl
 ·iterate 7 (refine(Yq _ _ _ _ (fun e'=>by simp only[Addr.mk.injEq,true_and,and_true]at e';omega)).trans ?_)
  obtain⟨u,q⟩:=O7 (i:=ms.length*8) hb (j 0 (by omega));exact Y0 _ _ _ q
 ·iterate 6 (refine(Yq _ _ _ _ (fun e'=>by simp only[Addr.mk.injEq,true_and,and_true]at e';omega)).trans ?_)
  obtain⟨u,q⟩:=O7 (i:=ms.length*8+1) J (by have:=j 1 (by omega);omega);exact Y0 _ _ _ q
 ·iterate 5 (refine(Yq _ _ _ _ (fun e'=>by simp only[Addr.mk.injEq,true_and,and_true]at e';omega)).trans ?_)
  obtain⟨u,q⟩:=O7 (i:=ms.length*8+2) K (by have:=j 2 (by omega);omega);exact Y0 _ _ _ q
 ·iterate 4 (refine(Yq _ _ _ _ (fun e'=>by simp only[Addr.mk.injEq,true_and,and_true]at e';omega)).trans ?_)
  obtain⟨u,q⟩:=O7 (i:=ms.length*8+3) O (by have:=j 3 (by omega);omega);exact Y0 _ _ _ q
 ·iterate 3 (refine(Yq _ _ _ _ (fun e'=>by simp only[Addr.mk.injEq,true_and,and_true]at e';omega)).trans ?_)
  obtain⟨u,q⟩:=O7 (i:=ms.length*8+4) R (by have:=j 4 (by omega);omega);exact Y0 _ _ _ q
 ·iterate 2 (refine(Yq _ _ _ _ (fun e'=>by simp only[Addr.mk.injEq,true_and,and_true]at e';omega)).trans ?_)
  obtain⟨u,q⟩:=O7 (i:=ms.length*8+5) V (by have:=j 5 (by omega);omega);exact Y0 _ _ _ q
 ·iterate 1 (refine(Yq _ _ _ _ (fun e'=>by simp only[Addr.mk.injEq,true_and,and_true]at e';omega)).trans ?_)
  obtain⟨u,q⟩:=O7 (i:=ms.length*8+6) Y (by have:=j 6 (by omega);omega);exact Y0 _ _ _ q
 obtain⟨u,q⟩:=O7 (i:=ms.length*8+7) h6 (by have:=j 7 (by omega);omega);exact Y0 _ _ _ q
end Go.Proofs.YtfkagjelljnpdaaGreatDoor
namespace Go.Proofs.YtfkagjelljnpdaaGreatDoor
open ChangeShapes WideShapes ChangeAt RowKit
def Lm(T:List Tm)(op:Int):Nat->Int
 | 0 => -1
 | k+1=>if(tmAt T (k:Nat)).op=op then(k:Int)else Lm T op k
structure NL(w:World)(n:Nat)(vt:Value)(T:List Tm)(A2:Array Value)(eb hb ub mb sb gm:Nat)(k:Nat)(wr:World)(L:List Nat)(ms:List Me)(Hs:List Tm):Prop where
 low:Up w wr
 box:Tb wr eb 59 [vt,.int .i64 (Lm T 2 k),.int .i64 (Lm T 1 k),.slice (some ⟨hb,0,none⟩) n n,.slice (some ⟨ub,0,none⟩) n n,.slice (some ⟨mb,0,none⟩) n n,.slice none 0 0,.int .i64 0,.map (some sb),.slice none 0 0,.bool false,.slice none 0 0,.slice none 0 0]
 ge:w.heap.size<=eb/\w.heap.size<=hb/\w.heap.size<=ub/\w.heap.size<=mb/\w.heap.size<=sb/\w.heap.size<=gm
 ne:gm≠sb
 hd:Tb wr hb 3 (labV L)
 hl:L.length=n
 us:wr.heap[ub]? = some (.cells A2 31 (0,0))
 mem:MemsAt wr mb ms
 ml:ms.length=k
 mz:∃a,wr.heap[mb]? = some (.cells a 49 (0,0))/\a.size=n*8
 me:∀i,i<k->(meA ms i).up=none/\(meA ms i).least=i/\(meA ms i).ap=.slice none 0 0/\∃g,(meA ms i).ids=.slice (some ⟨g,0,none⟩) 1 1/\w.heap.size<=g/\Tb wr g 3 [.int .i64 (i:Nat)]
 inj:∀i j,i<k->j<k->(meA ms i).ids=(meA ms j).ids->i=j
 nhb:∀i,i<k->(meA ms i).ids.ownBlock≠some hb
 sg:wr.heap[sb]? = some (.map #[] 0)
 hm:Hz wr gm Hs
 hh:Hs.length<=k
 hx:∀i,i<k->Kd Hs (R3 (tmAt T (i:Nat)))=some (labA L i)
def CT(g k:Nat)(pl:Bool):Me:=⟨none,false,false,.slice (some ⟨g,0,none⟩) 1 1,k,pl,.slice none 0 0⟩
theorem Rx{ms:List Me}(m:Me)(i:Nat)(hi:i<ms.length+1):meA (ms++[m]) i=if i=ms.length then m else meA ms i:=by
 unfold meA
 split
 ·rename_i e;subst e;simp[List.getD]
 rename_i e;have:i<ms.length:=by omega
 simp[List.getD,List.getElem?_append_left this]
theorem ER{L:List Tm}{s t:Tm}{i:Nat}(h:Kd L t=some i):Kd (L++[s]) t=some i:=by
 unfold Kd at h ⊢;rw[List.findIdx?_append,h];rfl
theorem NL.next{w:World}{n:Nat}{vt:Value}{T:List Tm}{A2:Array Value}{eb hb ub mb sb gm k:Nat}{wr:World}{L:List Nat}{ms:List Me}{Hs:List Tm}(h:NL w n vt T A2 eb hb ub mb sb gm k wr L ms Hs)(hk:k<n){W1 w6 wz w8:World}(hu:Up wr W1){g q:Nat}{pl:Bool}{Hs':List Tm}(hm:MemsAt w6 mb (ms++[CT g k pl]))(hz:∃a,w6.heap[mb]? = some (.cells a 49 (0,0))/\a.size=n*8)(hg:Tb w6 g 3 [.int .i64 (k:Nat)])(hge:W1.heap.size<=g)(hc:Ch w.heap.size NoX [some 49] W1 w6)(hb1:Bar gm w6 wz)(hmap:Hz wz gm Hs')(hcase:(Kd Hs (R3 (tmAt T (k:Nat)))=some q/\Hs'=Hs)∨(Kd Hs (R3 (tmAt T (k:Nat)))=none/\q=Hs.length/\Hs'=Hs++[R3 (tmAt T (k:Nat))]))
 (hbox:Tb w8 eb 59 [vt,.int .i64 (Lm T 2 (k+1)),.int .i64 (Lm T 1 (k+1)),.slice (some ⟨hb,0,none⟩) n n,.slice (some ⟨ub,0,none⟩) n n,.slice (some ⟨mb,0,none⟩) n n,.slice none 0 0,.int .i64 0,.map (some sb),.slice none 0 0,.bool false,.slice none 0 0,.slice none 0 0]) (hb8:Bar eb (wz.setCell ⟨hb,k,none⟩ (.int .i64 (q:Nat))) w8):NL w n vt T A2 eb hb ub mb sb gm (k+1) w8 (L.set k q) (ms++[CT g k pl]) Hs':=by
 have lt:∀ {W:World} {g:Nat} {o:Obj},W.heap[g]? = some o->g<W.heap.size:=fun h=>(Jo.1 h).1;have g0:=h.ge;have z1:=h.low.size;have z2:=hu.size;have z3:=hc.size;have z4:=hb1.size;have t6:∀x,x<wr.heap.size->Ix wr x≠some 49->w6.heap[x]? = wr.heap[x]? := fun x hx ht=>by
  have G:=hu.block x hx;refine(hc.block x (by omega) (.inr (.inr ?_))).trans G;rw[Iq G]
  simpa using ht
 have t8:∀x,x<w6.heap.size->x≠gm->x≠hb->x≠eb->w8.heap[x]? = w6.heap[x]? := fun x hx n1 n2 n3=>by
  have G:=hb1.block x hx n1;have Y:(wz.setCell ⟨hb,k,none⟩ (.int .i64 (q:Nat))).heap[x]? = wz.heap[x]? := Jh wz ⟨hb,k,none⟩ _ x n2;have d4:x<(wz.setCell ⟨hb,k,none⟩ (.int .i64 (q:Nat))).heap.size:=by
   have:(wz.setCell ⟨hb,k,none⟩ (.int .i64 (q:Nat))).heap.size=wz.heap.size:=by simp[World.setCell]
   omega
  exact(hb8.block x d4 n3).trans (Y.trans G)
 have J:=h.box.ty;have O:=h.hd.ty;have K:=h.hm.ty0;have V:Ix wr ub=some 31:=U7 h.us;have a8:=h.mem.ty;have b0:Ix wr sb=none:=by unfold Ix;rw[h.sg]
 have E:∀ {x y:Nat} {a b:Option TypeId},Ix wr x=a->Ix wr y=b->a≠b->x≠y:=fun h1 h2 h3 e=>h3 (by rw[<-h1,<-h2,e]);have d7:w6.heap.size<=w6.heap.size:=leR;have b2:Tb w6 hb 3 (labV L):=(t6 hb h.hd.bx.lt (by rw[O];decide)).trans h.hd;have b4:hb≠gm:=E O K.1 (by decide);have d2:hb≠eb:=E O J (by decide);have d1:Tb wz hb 3 (labV L):=(hb1.block hb b2.bx.lt b4).trans b2;have b3:Tb (wz.setCell ⟨hb,k,none⟩ (.int .i64 (q:Nat))) hb 3 (labV (L.set k q)):=by rw[<-Tn];exact d1.set k _
 have d0:Tb w8 hb 3 (labV (L.set k q)):=(hb8.block hb b3.bx.lt d2).trans b3;have c8:w8.heap[gm]? = wz.heap[gm]? := by
  have Y:(wz.setCell ⟨hb,k,none⟩ (.int .i64 (q:Nat))).heap[gm]? = wz.heap[gm]? := Jh wz ⟨hb,k,none⟩ _ gm (Ne.symm b4);have:(wz.setCell ⟨hb,k,none⟩ (.int .i64 (q:Nat))).heap.size=wz.heap.size:=by simp[World.setCell]
  exact(hb8.block gm (by rw[this];exact hmap.ty0.2) (E K.1 J (by decide))).trans Y
 have a7:w8.heap[mb]? = w6.heap[mb]? := t8 mb hm.lt (E a8 K.1 (by decide)) (E a8 O (by decide)) (E a8 J (by decide));have e0:w6.heap.size<=w8.heap.size:=by
  have e:(wz.setCell ⟨hb,k,none⟩ (.int .i64 (q:Nat))).heap.size=wz.heap.size:=by simp[World.setCell]
  have:=hb8.size;omega
 have R:g≠gm/\g≠hb/\g≠eb:=by
  have a1:=K.2;have a2:=h.hd.bx.lt;have a3:=h.box.bx.lt;omega
 have Z:=h.ml;have b5:Up w w6:=(h.low.trans (hu.mono h.low.size)).trans (hc.bl (by omega));have b6:Up w w8:=by
  have a1:Below w.heap.size w6 wz:=⟨hb1.os,hb1.tape,hb1.output,hb1.size,fun x hx=>hb1.block x (by omega) (by omega)⟩;have a2:=(b5.trans a1).setCell (p:=⟨hb,k,none⟩) g0.2.1 (.int .i64 (q:Nat));have e:(wz.setCell ⟨hb,k,none⟩ (.int .i64 (q:Nat))).heap.size=wz.heap.size:=by simp[World.setCell]
  exact a2.trans ⟨hb8.os,hb8.tape,hb8.output,hb8.size,fun x hx=>hb8.block x (by omega) (by omega)⟩
 refine⟨b6,hbox,g0,h.ne,d0,by rw[Zh];exact h.hl,?_,?_,by rw[Jq,Z];rfl,?_,fun i hi=>?_,fun i j hi hj e=>?_,fun i hi=>?_,?_,hmap.blk c8,?_,fun i hi=>?_⟩
 ·have e6:=t6 ub (lt h.us) (by rw[V];decide);exact(t8 ub (by have:=lt h.us;omega) (E V K.1 (by decide)) (E V O (by decide)) (E V J (by decide))).trans (e6.trans h.us)
 ·obtain⟨a,ha⟩:=hm.blk;exact⟨⟨a,a7.trans ha⟩,fun i hi f hf=>(Zc a7).trans (hm.cell i hi f hf)⟩
 ·obtain⟨a,ha,hs⟩:=hz;exact⟨a,a7.trans ha,hs⟩
 ·rw[Rx _ i (by omega)]
  split
  ·rename_i e;refine⟨rfl,by rw[e,Z];rfl,rfl,g,rfl,by omega,?_⟩;rw[e,Z];exact(t8 g hg.bx.lt R.1 R.2.1 R.2.2).trans hg
  rename_i e;obtain⟨a1,a2,a3,gi,a4,a5,a6⟩:=h.me i (by omega);refine⟨a1,a2,a3,gi,a4,a5,?_⟩;have l1:=a6.bx.lt;exact(t8 gi (by omega) (E a6.ty K.1 (by decide)) (fun e'=>h.nhb i (by omega) (by rw[a4,e'];rfl)) (E a6.ty J (by decide))).trans ((t6 gi l1 (by rw[a6.ty];decide)).trans a6)
 ·rw[Rx _ i (by omega),Rx _ j (by omega)]at e
  by_cases G:i=ms.length
  ·by_cases Y:j=ms.length
   ·omega
   rw[if_pos G,if_neg Y]at e;obtain⟨_,_,_,gj,a4,_,a6⟩:=h.me j (by omega);rw[a4]at e;have l1:=a6.bx.lt;have e':g=gj:=by simp only[CT,Value.slice.injEq,Option.some.injEq,Addr.mk.injEq,and_true]at e;exact e
   omega
  by_cases Y:j=ms.length
  ·rw[if_neg G,if_pos Y]at e;obtain⟨_,_,_,gi,a4,_,a6⟩:=h.me i (by omega);rw[a4]at e;have l1:=a6.bx.lt;have e':gi=g:=by simp only[CT,Value.slice.injEq,Option.some.injEq,Addr.mk.injEq,and_true]at e;exact e
   omega
  rw[if_neg G,if_neg Y]at e;exact h.inj i j (by omega) (by omega) e
 ·rw[Rx _ i (by omega)]
  split
  ·intro e';have:g=hb:=Option.some.inj e';exact R.2.1 this
  exact h.nhb i (by omega)
 ·have e6:=t6 sb (lt h.sg) (by rw[b0];decide);exact(t8 sb (by have:=lt h.sg;omega) (Ne.symm h.ne) (E b0 O (by decide)) (E b0 J (by decide))).trans (e6.trans h.sg)
 ·have:=h.hh
  rcases hcase with⟨_,rfl⟩|⟨_,_,rfl⟩
  ·omega
  rw[Jq];simp;omega
 have d3:k<L.length:=by rw[h.hl];exact hk
 have ls:labA (L.set k q) i=if i=k then q else labA L i:=by
  unfold labA
  by_cases e:i=k
  ·subst e;simp[List.getD,d3]
  rw[if_neg e];simp[List.getD,List.getElem?_set_ne (Ne.symm e)]
 rw[ls]
 by_cases e:i=k
 ·subst e;rw[if_pos rfl]
  rcases hcase with⟨G,rfl⟩|⟨G,rfl,rfl⟩
  ·exact G
  rw[R4 G,if_pos (Ut.2 rfl)]
 rw[if_neg e];have:=h.hx i (by omega)
 rcases hcase with⟨G,rfl⟩|⟨G,rfl,rfl⟩
 ·exact this
 exact ER this
end Go.Proofs.YtfkagjelljnpdaaGreatDoor
