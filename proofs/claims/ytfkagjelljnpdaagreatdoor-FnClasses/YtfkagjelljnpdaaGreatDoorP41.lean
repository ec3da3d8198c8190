import Derived.Test.YtfkagjelljnpdaaGreatDoorP38
set_option linter.all false
set_option maxRecDepth 100000
set_option maxHeartbeats 8000000
namespace Go.Proofs.YtfkagjelljnpdaaGreatDoor
open ChangeShapes WideShapes ChangeAt RowKit
variable {A l xs:List Value}{F:List Fn}{N N0 N1 g n:Nat}{S:List (List UInt8)}{T:List Tm}{W W' w:World}{e:TypeId}{uf us ut v:Value}
def Pi(w:World)(g:Nat)(e:TypeId)(n:Nat):Prop:=∃cur:Array Value,w.heap[g]? = some (.cells cur e (0,0))/\n<=cur.size
theorem Pi.lt(h:Pi w g e n):g<w.heap.size:=by
 obtain⟨cur,h,_⟩:=h;exact(Jo.1 h).1
theorem Pi.cell(h:Pi w g e n){i:Nat}(hi:i<n):∃x,w.cell? ⟨g,i,none⟩=some x:=by
 obtain⟨cur,h,hn⟩:=h;exact⟨cur[i]'(by omega),by unfold World.cell?;simp only[h];simp⟩
theorem Pi.fz(h:Pi w g e n)(i:Nat):w.frozen? ⟨g,i,none⟩=false:=by
 obtain⟨cur,h,_⟩:=h;unfold World.frozen?;simp only[h];simp
theorem Pi.set(h:Pi w g e n)(b i:Nat)(v:Value):Pi (w.setCell ⟨b,i,none⟩ v) g e n:=by
 obtain⟨cur,h,hn⟩:=h
 by_cases e:g=b
 ·subst e;exact⟨_,heap_setCell_same w g i cur _ v h,by simpa using hn⟩
 exact⟨cur,(Jh w ⟨b,i,none⟩ v g e).trans h,hn⟩
theorem Pi.keep{w':World}(h:Pi w g e n)(hk:w'.heap[g]? = w.heap[g]?):Pi w' g e n:=by
 obtain⟨cur,h,hn⟩:=h;exact⟨cur,hk.trans h,hn⟩
theorem FA{base c s:Nat}(h:w.ownsRow base e s (.slice (some ⟨g,0,none⟩) n c) n xs):Pi w g e (n*s):=by
 rcases h.2 with⟨q,_⟩|⟨K,j,cur,J,_,hb,E,_,G,_⟩
 ·cases q
 cases J;exact⟨cur,hb,by rw[G];exact Nat.mul_le_mul_right _ E⟩
def IL(w:World)(N0 N1:Nat)(e:TypeId)(s:Nat)(v:Value)(n:Nat):Prop:=
 ∃p c,v=.slice p n c/\n<=c/\c<=maxLen/\((n=0/\((p=none/\c=0)∨∃g,p=some ⟨g,0,none⟩))∨∃g,p=some ⟨g,0,none⟩/\N0<=g/\g<N1/\Pi w g e (n*s))
theorem Fr{base s:Nat}(h:w.ownsRow base e s v n xs)(h0:N0<=base)(h1:w.heap.size<=N1):IL w N0 N1 e s v n:=by
 have hh:=h
 rcases h.2 with⟨rfl,rfl⟩|⟨g,j,cur,rfl,hb,_,q,hm,_⟩
 ·exact⟨none,0,rfl,leR,Jp _,.inl ⟨rfl,.inl ⟨rfl,rfl⟩⟩⟩
 exact⟨_,j,rfl,q,hm,.inr ⟨g,rfl,Jm h0 hb,Jn (hh.lt g rfl).2 h1,FA hh⟩⟩
theorem IL.mk{w':World}{s:Nat}(h:IL w N0 N1 e s v n)(hs:∀g e n,Pi w g e n->Pi w' g e n):IL w' N0 N1 e s v n:=by
 obtain⟨p,c,rfl,G,hm,j⟩:=h;refine⟨p,c,rfl,G,hm,?_⟩
 rcases j with j|⟨g,rfl,q,E,j⟩
 ·exact .inl j
 exact .inr ⟨g,rfl,q,E,hs _ _ _ j⟩
def BD(F:List Fn)(k i:Nat):Nat:=k+((F.take i).map (fun f=>f.args.length+2)).sum
structure FunsX(w:World)(N0 N1:Nat)(v:Value)(F:List Fn)(A:List Value):Prop where
 row:IL w N0 N1 75 3 v F.length
 len:A.length=F.length
 at':∀g c,v=.slice (some ⟨g,0,none⟩) F.length c->∀i (h:i<A.length),w.cell? ⟨g,i*3+1,none⟩=some A[i]
 rows:∀i (h:i<A.length) (h':i<F.length),IL w N0 N1 9 1 A[i] F[i].args.length/\∀b,A[i].ownBlock=some b->∃n,Pi w b 9 n
 apart:∀i j (hi:i<A.length) (hj:j<A.length),i<j->∀b,A[i].ownBlock=some b->A[j].ownBlock≠some b
 kind:∀b,v.ownBlock=some b->∃n,Pi w b 75 n
def PF(v:Value)(A:List Value)(b:Nat):Prop:=v.ownBlock=some b∨∃a∈A,a.ownBlock=some b
def BC(T:List Tm)(k i:Nat):Nat:=k+((T.take i).map (fun t=>t.kids.length+5)).sum
structure TermsX(w:World)(N0 N1:Nat)(v:Value)(T:List Tm)(A:List Value):Prop where
 row:IL w N0 N1 38 6 v T.length
 len:A.length=T.length
 at':∀g c,v=.slice (some ⟨g,0,none⟩) T.length c->∀i (h:i<A.length),w.cell? ⟨g,i*6+5,none⟩=some A[i]
 rows:∀i (h:i<A.length) (h':i<T.length),IL w N0 N1 3 1 A[i] T[i].kids.length/\∀b,A[i].ownBlock=some b->∃n,Pi w b 3 n
 apart:∀i j (hi:i<A.length) (hj:j<A.length),i<j->∀b,A[i].ownBlock=some b->A[j].ownBlock≠some b
 kind:∀b,v.ownBlock=some b->∃n,Pi w b 38 n
structure BankX(w:World)(N0 N1:Nat)(vs vf vt:Value)(S:List (List UInt8))(F:List Fn)(T:List Tm)(A B:List Value):Prop where
 s:IL w N0 N1 9 1 vs S.length
 sk:∀b,vs.ownBlock=some b->∃n,Pi w b 9 n
 f:FunsX w N0 N1 vf F A
 t:TermsX w N0 N1 vt T B
 sa:∀b,vs.ownBlock=some b->∀a∈A,a.ownBlock≠some b
def PB(vs vf vt:Value)(A B:List Value)(b:Nat):Prop:=vs.ownBlock=some b∨PF vf A b∨PF vt B b
def kB(S:List (List UInt8))(F:List Fn)(T:List Tm):Nat:=BC T (BD F (1+S.length) F.length) T.length
theorem FunsX.blk(h:FunsX w N0 N1 v F A){b:Nat}(hb:PF v A b):(∃n,Pi w b 75 n)∨(∃n,Pi w b 9 n):=by
 rcases hb with hb|⟨a,ha,hb⟩
 ·exact .inl (h.kind b hb)
 obtain⟨i,j,rfl⟩:=Ya ha;exact .inr ((h.rows i j (by have:=h.len;omega)).2 b hb)
theorem TermsX.blk(h:TermsX w N0 N1 v T A){b:Nat}(hb:PF v A b):(∃n,Pi w b 38 n)∨(∃n,Pi w b 3 n):=by
 rcases hb with hb|⟨a,ha,hb⟩
 ·exact .inl (h.kind b hb)
 obtain⟨i,j,rfl⟩:=Ya ha;exact .inr ((h.rows i j (by have:=h.len;omega)).2 b hb)
def LN(v:Value)(n:Nat):Prop:=∃p c,v=.slice p n c/\n<=c/\c<=maxLen/\(n=0∨∃g,p=some ⟨g,0,none⟩)
theorem IL.sh{s:Nat}(h:IL w N0 N1 e s v n):LN v n:=by
 obtain⟨p,c,rfl,q,hm,j⟩:=h;refine⟨p,c,rfl,q,hm,?_⟩
 rcases j with j|⟨g,rfl,-⟩
 ·exact .inl j.1
 exact .inr ⟨g,rfl⟩
structure ShB(vs vf vt:Value)(S:List (List UInt8))(F:List Fn)(T:List Tm)(A B:List Value):Prop where
 s:LN vs S.length
 f:LN vf F.length
 t:LN vt T.length
 la:A.length=F.length
 a:∀i (h:i<A.length) (h':i<F.length),LN A[i] F[i].args.length
 lb:B.length=T.length
 b:∀i (h:i<B.length) (h':i<T.length),LN B[i] T[i].kids.length
theorem BankX.sh{vs vf vt:Value}{B:List Value}(h:BankX w N0 N1 vs vf vt S F T A B):ShB vs vf vt S F T A B:=
 ⟨h.s.sh,h.f.row.sh,h.t.row.sh,h.f.len,fun i hi hi'=>(h.f.rows i hi hi').1.sh,h.t.len,fun i hi hi'=>(h.t.rows i hi hi').1.sh⟩
theorem C4{base s:Nat}(h:w.ownsRow base e s v n xs):∀b,v.ownBlock=some b->∃n,Pi w b e n:=by
 intro b hb
 rcases h.2 with⟨rfl,_⟩|⟨g,j,cur,rfl,_,q,_⟩
 ·cases hb
 cases hb;exact⟨0,cur,q,Jp _⟩
theorem FunsX.of{base:Nat}{X:List (Fn×Value)}(hr:w.ownsRow base 75 3 v (X.map Prod.fst).length (X.flatMap funC))(hA:∀x∈X,w.ownsRow base 9 1 x.2 x.1.args.length (strsC x.1.args))(hp:X.Pairwise E6)(h0:N0<=base):FunsX w N0 w.heap.size v (X.map Prod.fst) (X.map Prod.snd):=by
 refine⟨Fr hr h0 leR,by simp,fun g c e i hi=>?_,fun i hi hi'=>?_,fun i j hi hj hij b hb=>?_,C4 hr⟩
 ·subst e;have hi':i<X.length:=by simpa using hi
  rw[Yh];exact Ey hr (by rw[Ng (k:=3) (fun _=>rfl) X i 1 hi' (by decide)];rfl)
 ·have h:i<X.length:=by simpa using hi
  have hx:=hA _ (Jj h);rw[Yh,Yh];exact⟨Fr hx h0 leR,C4 hx⟩
 rw[Yh]at hb ⊢;exact List.pairwise_iff_getElem.1 hp i j (by simpa using hi) (by simpa using hj) hij b hb
theorem K4.x{base:Nat}(h:K4 w base v F)(h0:N0<=base):∃A,FunsX w N0 w.heap.size v F A/\∀a∈A,∀b,a.ownBlock=some b->base<=b:=by
 obtain⟨X,rfl,q,j,hp⟩:=h;refine⟨_,FunsX.of q j hp h0,fun a ha b hb=>?_⟩;obtain⟨x,hx,rfl⟩:=Yu.1 ha;exact Oe (j x hx) b hb
theorem Kz.x{base:Nat}(h:Kz w base v T)(h0:N0<=base):∃A,TermsX w N0 w.heap.size v T A/\∀a∈A,∀b,a.ownBlock=some b->base<=b:=by
 obtain⟨X,rfl,E,G,hp⟩:=h;refine⟨X.map Prod.snd,⟨Fr E h0 leR,by simp,fun g c e i hi=>?_,fun i hi hi'=>?_,fun i j hi hj hij b hb=>?_,C4 E⟩,fun a ha b hb=>?_⟩
 ·subst e;have hi':i<X.length:=by simpa using hi
  rw[Yh];exact Ey E (by rw[Ng (k:=6) (fun _=>rfl) X i 5 hi' (by decide)];rfl)
 ·have q:i<X.length:=by simpa using hi
  have hx:=G _ (Jj q);rw[Yh,Yh];exact⟨Fr hx h0 leR,C4 hx⟩
 ·rw[Yh]at hb ⊢;exact List.pairwise_iff_getElem.1 hp i j (by simpa using hi) (by simpa using hj) hij b hb
 obtain⟨x,hx,rfl⟩:=Yu.1 ha;exact Oe (G x hx) b hb
theorem IT{bs bf bt:Nat}(hs:w.ownsRow bs 9 1 us S.length (strsC S))(hf:K4 w bf uf F)(ht:Kz w bt ut T)(h1:N<=bs)(h2:N<=bf)(h3:N<=bt)(hl:∀b,us.ownBlock=some b->b<bf) :
 ∃A B,BankX w N w.heap.size us uf ut S F T A B/\∀b,PB us uf ut A B b->N<=b:=by
 obtain⟨A,E,h⟩:=hf.x h2;obtain⟨B,G,j⟩:=ht.x h3;refine⟨A,B,⟨Fr hs h1 leR,C4 hs,E,G,fun b hb a ha e=>?_⟩,fun b hb=>?_⟩
 ·have J:=hl b hb;have K:=h a ha b e;omega
 rcases hb with hb|(hb|⟨a,ha,hb⟩)|(hb|⟨a,ha,hb⟩)
 ·exact Jm h1 (Oe hs b hb)
 ·obtain⟨X,-,q,-⟩:=hf;exact Jm h2 (Oe q b hb)
 ·exact Jm h2 (h a ha b hb)
 ·obtain⟨X,-,q,-⟩:=ht;exact Jm h3 (Oe q b hb)
 exact Jm h3 (j a ha b hb)
theorem Book.x{w0:World}{kb sb fb tb gb nS nF nT:Nat}{vS vF vT:Value}{bF:Nat}(h:Book w0 kb sb fb tb gb n nS nF nT S F T vS vF vT bF W):∃A B,BankX W w0.heap.size W.heap.size vS vF vT S F T A B/\∀b,PB vS vF vT A B b->w0.heap.size<=b:=by
 have q:=h.ids;have j:=h.far;exact IT h.sr h.fr h.tr (by omega) (by omega) (by omega) (fun b hb=>j.2.2 b hb)
theorem Book.at{w0:World}{kb sb fb tb gb nS nF nT:Nat}{vS vF vT:Value}{bF:Nat}(h:Book w0 kb sb fb tb gb n nS nF nT S F T vS vF vT bF W):BankAt W vS vF vT S F T:=⟨Rl h.sr,h.fr.at,h.tr.at⟩
structure CpS(w:World)(N:Nat)(l:List Value)(us uf ut:Value)(S:List (List UInt8))(F:List Fn)(T:List Tm)(wr:World):Prop where
 low:Up w wr
 x:Bx wr w.heap.size l
 y:Bx wr (w.heap.size+1) [.slice none 0 0,.slice none 0 0,.slice none 0 0]
 z:Bx wr (w.heap.size+1+1) [us,uf,ut]
 s:wr.ownsRow (w.heap.size+1+1+1) 9 1 us S.length (strsC S)
 f:K4 wr N uf F
 t:Kz wr (w.heap.size+1+1+1) ut T
 sz:w.heap.size+1+1+1<=wr.heap.size
 sn:(w.heap.size+1+1+1<=N/\N<=wr.heap.size)/\∀g,us.ownBlock=some g->g<N
theorem CpS.bl(h:CpS w N l us uf ut S F T W)(hb:Up W W'):CpS w N l us uf ut S F T W':=
 ⟨h.low.trans (hb.mono h.low.size),h.x.bl h.x.lt hb,h.y.bl h.y.lt hb,h.z.bl h.z.lt hb,Km h.s hb,h.f.keep (fun g _ _ hg _=>hb.block g (by rcases hg with hg|hg<;>exact(Jo.1 hg).1)),h.t.keep (fun g _ _ hg _=>hb.block g (by rcases hg with hg|hg<;>exact(Jo.1 hg).1)),Jm h.sz hb.size,⟨h.sn.1.1,Jm h.sn.1.2 hb.size⟩,h.sn.2⟩
theorem CpS.addF{va v1:Value}{o:Obj}{X:List (Fn×Value)}{f:Fn}(h:CpS w N l us uf ut S F T W)
 (hX:X.map Prod.fst=F) (hr:W.ownsRow N 75 3 uf F.length (X.flatMap funC)) (hA:(∀x∈X,W.ownsRow N 9 1 x.2 x.1.args.length (strsC x.1.args))/\X.Pairwise E6)
 (hva:W.ownsRow N 9 1 va f.args.length (strsC f.args)) (hvn:∀x∈X,E6 x (f,va))
 (hg:(W.alloc o).grownBy W' uf.ownBlock) (hr1:W'.ownsRow N 75 3 v1 (F.length+1) (X.flatMap funC++funC (f,va))) :
 CpS w N l us v1 ut S (F++[f]) T (W'.setCell ⟨w.heap.size+1+1,1,none⟩ v1):=by
 have V:=h.sz;have K:=h.sn.1;have O:∀g,uf.ownBlock=some g->w.heap.size+1+1+1<=g:=fun g hg=>Jm K.1 (Oe hr g hg);have R:=hg.size;have hk:∀k,k<W.heap.size->uf.ownBlock≠some k->k≠w.heap.size+1+1->(W'.setCell ⟨w.heap.size+1+1,1,none⟩ v1).heap[k]? = W.heap[k]? := fun k hk h1 h2=>by
  rw[Jh W' ⟨w.heap.size+1+1,1,none⟩ v1 k h2,hg.block k (by simp;omega) (fun e=>h1 e.symm)];exact Below.block (Oy W o) k hk
 have j:∀k,k<w.heap.size+1+1+1->k≠w.heap.size+1+1->(W'.setCell ⟨w.heap.size+1+1,1,none⟩ v1).heap[k]? = W.heap[k]? := fun k h1 h2=>hk k (by omega) (fun e=>by have:=O k e;omega) h2;have J:∀k cs ty fz,W.heap[k]? = some (.cells cs ty fz)->ty≠75->w.heap.size+1+1+1<=k->(W'.setCell ⟨w.heap.size+1+1,1,none⟩ v1).heap[k]? = W.heap[k]? := fun k cs ty fz hc ht hk1=>hk k (Jo.1 hc).1 (own_type hr hc (Ne.symm ht)) (by omega);have G:W.heap.size<=(W'.setCell ⟨w.heap.size+1+1,1,none⟩ v1).heap.size:=by have:=R;simp[World.setCell]at this ⊢;omega
 have E:Bx W' (w.heap.size+1+1) [us,uf,ut]:=by
  obtain⟨ty,hh⟩:=h.z;refine⟨ty,?_⟩;rw[hg.block _ (by simp;omega) (fun e=>by have:=O _ e.symm;omega)];exact(Below.block (Oy W o) _ (by omega)).trans hh
 have q:∀ {bb:Nat} {v:Value} {n:Nat} {xs:List Value} {e:TypeId},w.heap.size+1+1+1<=bb->W.ownsRow bb e 1 v n xs->e≠75->(W'.setCell ⟨w.heap.size+1+1,1,none⟩ v1).ownsRow bb e 1 v n xs:=fun hbb ho he=>own_other' ho (fun g hg'=>by
  obtain⟨c,fz,hc⟩:=Ob ho g hg';exact J g c _ fz hc he (Jm hbb (Oe ho g hg')))
 refine⟨⟨?_,?_,?_,Jm h.low.size G,fun k hk1=>?_⟩,?_,?_,E.set 1 v1,q leR h.s (by decide),⟨X++[(f,va)],?_,?_,?_,Id hA.2 hvn⟩,?_,Jm V G,⟨K.1,Jm K.2 G⟩,h.sn.2⟩
 ·exact hg.os.trans h.low.os
 ·exact hg.tape.trans h.low.tape
 ·exact hg.output.trans h.low.output
 ·rw[j k (by omega) (by omega)];exact h.low.block k hk1
 ·obtain⟨ty,hh⟩:=h.x;exact⟨ty,(j _ (by omega) (by omega)).trans hh⟩
 ·obtain⟨ty,hh⟩:=h.y;exact⟨ty,(j _ (by omega) (by omega)).trans hh⟩
 ·rw[Yk,hX];rfl
 ·rw[Yx,Jq];refine own_other' (v:=v1) (W:=W') (by simpa using hr1) (fun g hg'=>Jh W' ⟨w.heap.size+1+1,1,none⟩ v1 g ?_);have:=Oe hr1 g hg'
  show g≠w.heap.size+1+1
  omega
 ·intro x hx
  rcases Yc.1 hx with hx|hx
  ·exact q K.1 (hA.1 x hx) (by decide)
  obtain rfl:=J5.1 hx;exact q K.1 hva (by decide)
 refine h.t.keep fun g cs fz hc hge=>?_
 rcases hc with hc|hc
 ·exact J g cs _ fz hc (by decide) hge
 exact J g cs _ fz hc (by decide) hge
theorem CpS.addT{va v1:Value}{o:Obj}{X:List (Tm×Value)}{f:Tm}(h:CpS w N l us uf ut S F T W)
 (hX:X.map Prod.fst=T) (hr:W.ownsRow (w.heap.size+1+1+1) 38 6 ut T.length (X.flatMap O5)) (hA:(∀x∈X,W.ownsRow (w.heap.size+1+1+1) 3 1 x.2 x.1.kids.length (Uq x.1.kids))/\X.Pairwise E6)
 (hva:W.ownsRow (w.heap.size+1+1+1) 3 1 va f.kids.length (Uq f.kids)) (hvn:∀x∈X,E6 x (f,va))
 (hg:(W.alloc o).grownBy W' ut.ownBlock) (hr1:W'.ownsRow (w.heap.size+1+1+1) 38 6 v1 (T.length+1) (X.flatMap O5++O5 (f,va))) :
 CpS w N l us uf v1 S F (T++[f]) (W'.setCell ⟨w.heap.size+1+1,2,none⟩ v1):=by
 have R:=h.sz;have K:∀g,ut.ownBlock=some g->w.heap.size+1+1+1<=g:=Oe hr;have O:=hg.size;have hk:∀k,k<W.heap.size->ut.ownBlock≠some k->k≠w.heap.size+1+1->(W'.setCell ⟨w.heap.size+1+1,2,none⟩ v1).heap[k]? = W.heap[k]? := fun k hk h1 h2=>by
  rw[Jh W' ⟨w.heap.size+1+1,2,none⟩ v1 k h2,hg.block k (by simp;omega) (fun e=>h1 e.symm)];exact Below.block (Oy W o) k hk
 have j:∀k,k<w.heap.size+1+1+1->k≠w.heap.size+1+1->(W'.setCell ⟨w.heap.size+1+1,2,none⟩ v1).heap[k]? = W.heap[k]? := fun k h1 h2=>hk k (by omega) (fun e=>by have:=K k e;omega) h2;have J:∀k cs ty fz,W.heap[k]? = some (.cells cs ty fz)->ty≠38->w.heap.size+1+1+1<=k->(W'.setCell ⟨w.heap.size+1+1,2,none⟩ v1).heap[k]? = W.heap[k]? := fun k cs ty fz hc ht hk1=>hk k (Jo.1 hc).1 (own_type hr hc (Ne.symm ht)) (by omega);have G:W.heap.size<=(W'.setCell ⟨w.heap.size+1+1,2,none⟩ v1).heap.size:=by have:=O;simp[World.setCell]at this ⊢;omega
 have E:Bx W' (w.heap.size+1+1) [us,uf,ut]:=by
  obtain⟨ty,hh⟩:=h.z;refine⟨ty,?_⟩;rw[hg.block _ (by simp;omega) (fun e=>by have:=K _ e.symm;omega)];exact(Below.block (Oy W o) _ (by omega)).trans hh
 have q:∀ {v:Value} {n:Nat} {xs:List Value} {e:TypeId},W.ownsRow (w.heap.size+1+1+1) e 1 v n xs->e≠38->(W'.setCell ⟨w.heap.size+1+1,2,none⟩ v1).ownsRow (w.heap.size+1+1+1) e 1 v n xs:=fun ho he=>own_other' ho (fun g hg'=>by
  obtain⟨c,fz,hc⟩:=Ob ho g hg';exact J g c _ fz hc he (Oe ho g hg'))
 refine⟨⟨?_,?_,?_,Jm h.low.size G,fun k hk1=>?_⟩,?_,?_,E.set 2 v1,q h.s (by decide),?_,⟨X++[(f,va)],?_,?_,?_,Id hA.2 hvn⟩,Jm R G,⟨h.sn.1.1,Jm h.sn.1.2 G⟩,h.sn.2⟩
 ·exact hg.os.trans h.low.os
 ·exact hg.tape.trans h.low.tape
 ·exact hg.output.trans h.low.output
 ·rw[j k (by omega) (by omega)];exact h.low.block k hk1
 ·obtain⟨ty,hh⟩:=h.x;exact⟨ty,(j _ (by omega) (by omega)).trans hh⟩
 ·obtain⟨ty,hh⟩:=h.y;exact⟨ty,(j _ (by omega) (by omega)).trans hh⟩
 ·refine h.f.keep fun g cs fz hc hge=>?_
  rcases hc with hc|hc
  ·exact J g cs _ fz hc (by decide) (Jm h.sn.1.1 hge)
  exact J g cs _ fz hc (by decide) (Jm h.sn.1.1 hge)
 ·rw[Yk,hX];rfl
 ·rw[Yx,Jq];refine own_other' (v:=v1) (W:=W') (by simpa using hr1) (fun g hg'=>Jh W' ⟨w.heap.size+1+1,2,none⟩ v1 g ?_);have:=Oe hr1 g hg'
  show g≠w.heap.size+1+1
  omega
 intro x hx
 rcases Yc.1 hx with hx|hx
 ·exact q (hA.1 x hx) (by decide)
 obtain rfl:=J5.1 hx;exact q hva (by decide)
end Go.Proofs.YtfkagjelljnpdaaGreatDoor
namespace Go.Proofs.YtfkagjelljnpdaaGreatDoor
open ChangeShapes WideShapes ChangeAt RowKit Proofs.Tryz
variable {w:World}
theorem K4.lower{base base':Nat}{v:Value}{F:List Fn}(h:K4 w base v F)(hb:base'<=base):K4 w base' v F:=by
 obtain⟨X,e,j,q,E⟩:=h;exact⟨X,e,own_lower j hb,fun x hx=>own_lower (q x hx) hb,E⟩
theorem Kz.lower{base base':Nat}{v:Value}{F:List Tm}(h:Kz w base v F)(hb:base'<=base):Kz w base' v F:=by
 obtain⟨X,e,j,q,E⟩:=h;exact⟨X,e,own_lower j hb,fun x hx=>own_lower (q x hx) hb,E⟩
theorem YM{vs vf vt:Value}{S:List (List UInt8)}{F:List Fn}{T:List Tm}(h:BankAt w vs vf vt S F T)(hvs:Ac vs S.length)
 (hfa:∀g c,vf=.slice (some ⟨g,0,none⟩) F.length c->∀i (h:i<F.length) va,w.cell? ⟨g,i*3+1,none⟩=some va->Ac va F[i].args.length)
 (hta:∀g c,vt=.slice (some ⟨g,0,none⟩) T.length c->∀i (h:i<T.length) va,w.cell? ⟨g,i*6+5,none⟩=some va->Ac va T[i].kids.length)
 (hl1:S.length<=1048576) (hl2:F.length<=1048576) (hl3:T.length<=1048576) (hla:∀f∈F,f.args.length<=1048576) (hlk:∀t∈T,t.kids.length<=1048576) :
 Calls prog 55 #[.agg #[vs,vf,vt]] w fun e w'=>∃us uf ut,e=.returned (.agg #[us,uf,ut])/\w'.ownsRow w.heap.size 9 1 us S.length (strsC S)/\K4 w' w.heap.size uf F/\Kz w' w.heap.size ut T/\Up w w'/\∃N,w.heap.size<=N/\(∀g,us.ownBlock=some g->g<N)/\K4 w' N uf F:=by
 have HS:=Hd h.s;have o6:=Hd hvs;have o1:=Hd hfa;have o7:=Hd hta;have o2:=Hd hla;have o3:=Hd hlk;have HF:=Hd h.f;have HT:=Hd h.t;obtain⟨a1,c1,e1,x1,y1,-⟩:=h.s;obtain⟨a2,c2,e2,x2,y2,-⟩:=h.f;obtain⟨a3,c3,e3,x3,y3,-⟩:=h.t;unfold maxLen at y1 y2 y3;subst e1 e2 e3;clear h hvs hfa hta hla hlk
 go_in
 go_upto_region 2 with fail
 obtain⟨W3,m0,m8,n5,n6,n7,n1⟩:=MS w [.slice a1 S.length c1,.slice a2 F.length c2,.slice a3 T.length c3] [.slice none 0 0,.slice none 0 0,.slice none 0 0] [.slice none 0 0,.slice none 0 0,.slice none 0 0] 27 27 27;rw[m0];clear m0;have i7:=Hd m8;have h5:=Hd n5;have j2:=Hd n6;have g0:=Hd n7;have h4:=Hd n1;clear m8 n5 n6 n7 n1;obtain⟨b0,b1,b2⟩:=h5.o.c3;obtain⟨q0,q1,q2⟩:=g0.o.c3;have r0:=g0.o.fz 0
 go_wp2_with (at_builtin;refine I5 (L:=S) rfl _ _ rfl rfl rfl ?va ?sh ?ln ?_)
 case va=>exact HS.o.bl i7.o
 case sh=>exact o6.o
 case ln=>omega
 intro us w4 h9 V c4 e4 e5;subst e4;have l0:Hid (w4.ownsRow (w.heap.size+1+1+1) 9 1 (.slice V S.length c4) S.length (strsC S)):=own_lower h9 (Nat.le_of_eq h4.o.symm);have j8:=i7.up e5;have j3:=Hd (h5.o.bl h5.o.lt e5);have l4:=Hd (j2.o.bl j2.o.lt e5);have h7:=Hd (g0.o.bl g0.o.lt e5);have j0:Hid (w.heap.size+1+1+1<=w4.heap.size):=by have:=e5.size;have:=h4.o;unfold Hid;omega
 have k8:Hid (∀g,(Value.slice V S.length c4).ownBlock=some g->w.heap.size+1+1+1<=g):=fun g hg=>by have:=Oe h9 g hg;have:=h4.o;omega
 have k9:Hid (∀g,(Value.slice V S.length c4).ownBlock=some g->g<w4.heap.size):=fun g hg=>(h9.lt g hg).2;clear h9 e5 b0 b1 b2 q0 q1 q2 r0 h5 j2 g0;have q0:=h7.o.c3.1;have r0:=h7.o.fz 0;have b1:=j3.o.c3.2.1;have p9:w.heap.size≠w.heap.size+1+1:=by omega
 have q3:w.heap.size+1≠w.heap.size+1+1:=by omega
 have l5:=Hd (BQ j3.o p9 0 (.slice V S.length c4));have l6:=Hd (BQ l4.o q3 0 (.slice V S.length c4));have l7:Hid (Bx (w4.setCell ⟨w.heap.size+1+1,0,none⟩ (.slice V S.length c4)) (w.heap.size+1+1) [.slice V S.length c4,.slice none 0 0,.slice none 0 0]):=h7.o.set 0 _;have l1:Hid ((w4.setCell ⟨w.heap.size+1+1,0,none⟩ (.slice V S.length c4)).ownsRow (w.heap.size+1+1+1) 9 1 (.slice V S.length c4) S.length (strsC S)):=own_other' l0.o (fun g hg=>Jh w4 ⟨w.heap.size+1+1,0,none⟩ _ g (by have:=k8.o g hg;show g≠w.heap.size+1+1;omega));have j9:Hid (Up w (w4.setCell ⟨w.heap.size+1+1,0,none⟩ (.slice V S.length c4))):=j8.o.setCell (p:=⟨w.heap.size+1+1,0,none⟩) (by show _<=w.heap.size+1+1;omega) _;have l3:Hid (w.heap.size+1+1+1<=(w4.setCell ⟨w.heap.size+1+1,0,none⟩ (.slice V S.length c4)).heap.size):=by have:=j0.o;unfold Hid;simpa[World.setCell]using this
 have q:Hid (CpS w w4.heap.size [.slice a1 S.length c1,.slice a2 F.length c2,.slice a3 T.length c3] (.slice V S.length c4) (.slice none 0 0) (.slice none 0 0) S [] [] (w4.setCell ⟨w.heap.size+1+1,0,none⟩ (.slice V S.length c4))):=
  ⟨j9.o,l5.o,l6.o,l7.o,l1.o,⟨[],rfl,⟨rfl,.inl ⟨rfl,rfl⟩⟩,(fun x hx=>by cases hx),List.Pairwise.nil⟩,⟨[],rfl,⟨rfl,.inl ⟨rfl,rfl⟩⟩,(fun x hx=>by cases hx),List.Pairwise.nil⟩,l3.o,⟨j0.o,by simp[World.setCell]⟩,k9.o⟩
 generalize w4.heap.size=N at q
 go_wp2_with fail
 clear q0 r0 b1 l5 l6 l7 l1 j9 l3 l0 j8 j3 l4 h7 j0 k8 i7 h4
 go_loopw [20] (fun iv wr=>∃i:Nat,i<=F.length/\iv=.int .i64 (i:Nat)/\∃pf cf,CpS w N [.slice a1 S.length c1,.slice a2 F.length c2,.slice a3 T.length c3] (.slice V S.length c4) (.slice pf (i:Nat) cf) (.slice none 0 0) S (F.take i) [] wr) (fun iv _=>F.length - (intOf iv).toNat)
 case atStart=>exact⟨0,Jp _,rfl,none,0,q.o⟩
 obtain⟨i,hi,rfl,pf,cf,j⟩:=hrel;clear q;have q:=Hd j;clear j
 by_cases G:i<F.length
 ·obtain⟨g,rfl,hg,b7⟩:∃g,a2=some ⟨g,0,none⟩/\g<w.heap.size/\w.cell? ⟨g,i*3,none⟩=some (.string (Oo F[i].name))/\(∃va,w.cell? ⟨g,i*3+1,none⟩=some va/\O4 w va F[i].args)/\w.cell? ⟨g,i*3+2,none⟩=some (.string (Oo F[i].sort)):=by
   obtain⟨p,c,e,_,_,h3⟩:=HF.o
   cases e
   rcases h3 with h3|⟨b,e,hb,hh⟩
   ·rw[h3]at G;cases G
   exact⟨b,e,hb,hh i G⟩
  obtain⟨k0,⟨va,k1,d7⟩,k2⟩:=b7;have d6:=o1.o g c2 rfl i G va k1;have j5:=o2.o _ (Jj G);have f8:Hid (F.take (i+1)=F.take i++[F[i]]):=by unfold Hid;rw[Vb,Jg G];rfl
  have J:(F.take i).length=i:=by rw[J7];omega
  obtain⟨f,hf⟩:=O2 (F[i]);rw[hf]at k0 k2 d7 d6 j5 f8;have HB:=Hd q.o.low;have f9:=Hd (d7.bl q.o.low);have f5:=Hd d6;rw[<-HB.o.cell (p:=⟨g,i*3,none⟩) hg]at k0;rw[<-HB.o.cell (p:=⟨g,i*3+1,none⟩) hg]at k1;rw[<-HB.o.cell (p:=⟨g,i*3+2,none⟩) hg]at k2;obtain⟨pa,ca,rfl,-,-,-⟩:=d7;clear d6 hf
  go_upto_region 7 with fail
  obtain⟨W6,O⟩:=O2 (wr.alloc (.cells #[.string (Oo f.name),.slice pa f.args.length ca,.string (Oo f.sort)] 75));have h6:Up wr W6:=by rw[<-O];exact Oy _ _
  have g5:Bx W6 wr.heap.size [.string (Oo f.name),.slice pa f.args.length ca,.string (Oo f.sort)]:=by rw[<-O];exact Oq wr _ _
  have b5:=Hd g5;have e6:=Hd (q.o.bl h6);have j1:=Hd (f9.o.bl h6);have r5:Hid (wr.heap.size<=W6.heap.size):=h6.size;obtain⟨y0,y1,y2⟩:=b5.o.c3;rw[O];clear O h6 g5 k0 k1 k2 f9
  go_wp2_with (at_builtin;refine I5 (L:=f.args) rfl _ _ rfl rfl rfl ?va ?sh ?ln ?_)
  case va=>exact j1.o
  case sh=>exact f5.o
  case ln=>omega
  intro va w7 b9 p7 c7 e7 R;subst e7;have Y:=Hd (e6.o.bl R);have b6:=Hd (b5.o.bl b5.o.lt R);have h0:Hid (∀b,(Value.slice p7 f.args.length c7).ownBlock=some b->W6.heap.size<=b):=Oe b9;have o4:=Hd (own_lower b9 e6.o.sn.1.2);have u5:W6.heap.size<=w7.heap.size:=R.size;obtain⟨X,hX,b3,E⟩:=e6.o.f;have c6:=Km b3 R;have g1:(∀x∈X,w7.ownsRow N 9 1 x.2 x.1.args.length (strsC x.1.args))/\X.Pairwise E6:=⟨fun x hx=>Km (E.1 x hx) R,E.2⟩;have i6:Hid (∀x∈X,E6 x (f,Value.slice p7 f.args.length c7)):=fun x hx b hb e=>by
   have h1:=((E.1 x hx).lt b hb).2;have h2:=h0.o b e;omega
  have a7:=Hd J;rw[J]at c6;clear J;have i8:=Hd hX;have Z:=Hd c6;have g9:=Hd g1;obtain⟨d0,d1,d2⟩:=b6.o.c3;have z1:=Y.o.z.c3.2.1;have zf:=Y.o.z.fz 1;have n2:=Y.o.sz;clear b9 R y0 y1 y2 hX c6 g1 b3 E
  go_wp2_with (at_builtin;refine wpList_appF (x:=(f,.slice p7 f.args.length c7)) (n:=i) (base:=N) (xs:=X.flatMap funC) rfl _ _ rfl rfl ?own2 rfl _ rfl ?hH2 ?hn2 ?hb2 ?_)
  case own2=>exact Z.o
  case hH2=>rfl
  case hn2=>omega
  case hb2=>have:=Y.o.sn.1.2;omega
  intro g8 c8 w8 g4 b8 _;have g2:=i6.o;have j:=Y.o.addF (f:=f) i8.o (by rw[a7.o];exact Z.o) g9.o o4.o g2 b8 (by rw[a7.o];exact g4);rw[<-f8.o]at j;have e9:=Hd j;have g3:∀g,(Value.slice pf (i:Nat) cf).ownBlock=some g->w.heap.size+1+1+1<=g:=fun g hg=>Jm Y.o.sn.1.1 (Oe Z.o g hg);have d8:Bx w8 (w.heap.size+1+1) [.slice V S.length c4,.slice pf (i:Nat) cf,.slice none 0 0]:=by
   obtain⟨ty,hh⟩:=Y.o.z;refine⟨ty,?_⟩;rw[b8.block _ (by simp;omega) (fun e=>by have:=g3 _ e.symm;omega)];exact(Below.block (Oy w7 _) _ (by omega)).trans hh
  have z8:=d8.c3.2.1;have r4:=d8.fz 1;clear g2 j g3 g4 b8 d8 d0 d1 d2 z1 zf Y b6
  go_wp2
  go_roundw
  case rel=>exact⟨i+1,by omega,by go_num,_,_,e9.o⟩
  simp[intOf];omega
 obtain rfl:i=F.length:=by omega
 have j:=q.o;rw[Y1]at j;have e8:=Hd j;have b2:=e8.o.x.c3.2.2;clear j q
 go_wp2_with fail
 clear b2
 go_loopw [43] (fun iv wr=>∃i:Nat,i<=T.length/\iv=.int .i64 (i:Nat)/\∃pt ct,CpS w N [.slice a1 S.length c1,.slice a2 F.length c2,.slice a3 T.length c3] (.slice V S.length c4) (.slice pf F.length cf) (.slice pt (i:Nat) ct) S F (T.take i) wr) (fun iv _=>T.length - (intOf iv).toNat)
 case atStart=>exact⟨0,Jp _,rfl,none,0,e8.o⟩
 obtain⟨i,hi,rfl,pt,ct,j⟩:=hrel;clear e8;have q:=Hd j;clear j
 by_cases G:i<T.length
 ·obtain⟨g,rfl,hg,b7⟩:∃g,a3=some ⟨g,0,none⟩/\g<w.heap.size/\w.cell? ⟨g,i*6,none⟩=some (.int .i64 T[i].op)/\w.cell? ⟨g,i*6+1,none⟩=some (.string (Oo T[i].sort))/\w.cell? ⟨g,i*6+2,none⟩=some (.string (Oo T[i].text))/\w.cell? ⟨g,i*6+3,none⟩=some (.int .i64 T[i].a)/\w.cell? ⟨g,i*6+4,none⟩=some (.int .i64 T[i].b)/\∃va,w.cell? ⟨g,i*6+5,none⟩=some va/\IntsAt w va T[i].kids:=by
   obtain⟨p,c,e,_,_,h3⟩:=HT.o
   cases e
   rcases h3 with h3|⟨b,e,hb,hh⟩
   ·rw[h3]at G;cases G
   exact⟨b,e,hb,hh i G⟩
  obtain⟨k0,k1,k2,k3,k4,va,k5,d7⟩:=b7;have d6:=o7.o g c3 rfl i G va k5;have j5:=o3.o _ (Jj G);have f8:Hid (T.take (i+1)=T.take i++[T[i]]):=by unfold Hid;rw[Vb,Jg G];rfl
  have J:(T.take i).length=i:=by rw[J7];omega
  obtain⟨f,hf⟩:=O2 (T[i]);rw[hf]at k0 k1 k2 k3 k4 d7 d6 j5 f8;have HB:=Hd q.o.low;have f9:=Hd (d7.bl q.o.low);have f5:=Hd d6;rw[<-HB.o.cell (p:=⟨g,i*6,none⟩) hg]at k0;rw[<-HB.o.cell (p:=⟨g,i*6+1,none⟩) hg]at k1;rw[<-HB.o.cell (p:=⟨g,i*6+2,none⟩) hg]at k2;rw[<-HB.o.cell (p:=⟨g,i*6+3,none⟩) hg]at k3;rw[<-HB.o.cell (p:=⟨g,i*6+4,none⟩) hg]at k4;rw[<-HB.o.cell (p:=⟨g,i*6+5,none⟩) hg]at k5;obtain⟨pa,ca,rfl,-,-,-⟩:=d7;clear d6 hf
  go_upto_region 14 with fail
  obtain⟨W6,O⟩:=O2 (wr.alloc (.cells #[.int .i64 f.op,.string (Oo f.sort),.string (Oo f.text),.int .i64 f.a,.int .i64 f.b,.slice pa f.kids.length ca] 38));have h6:Up wr W6:=by rw[<-O];exact Oy _ _
  have g5:Bx W6 wr.heap.size [.int .i64 f.op,.string (Oo f.sort),.string (Oo f.text),.int .i64 f.a,.int .i64 f.b,.slice pa f.kids.length ca]:=by rw[<-O];exact Oq wr _ _
  have b5:=Hd g5;have e6:=Hd (q.o.bl h6);have j1:=Hd (f9.o.bl h6);have k7:=Hd h6;have o5:Hid (W6.heap.size=wr.heap.size+1):=by unfold Hid;rw[<-O];simp
  have y5:=b5.o.cell 5;rw[O];clear O h6 g5 k0 k1 k2 k3 k4 k5 f9
  go_wp2_with (at_builtin;refine Rw (L:=f.kids) rfl _ _ rfl rfl rfl ?va ?sh ?ln ?_)
  case va=>exact j1.o
  case sh=>exact f5.o
  case ln=>omega
  intro va w7 b9 p7 c7 e7 R;subst e7;have u2:W6.heap.size=wr.heap.size+1:=o5.o;have i1:Up wr w7:=k7.o.trans (R.mono k7.o.size);have h8:Up wr (w7.setCell ⟨wr.heap.size,5,none⟩ (.slice p7 f.kids.length c7)):=i1.sc;have b6:=Hd (b5.o.bl b5.o.lt R);have a8:Hid (Bx (w7.setCell ⟨wr.heap.size,5,none⟩ (.slice p7 f.kids.length c7)) wr.heap.size [.int .i64 f.op,.string (Oo f.sort),.string (Oo f.text),.int .i64 f.a,.int .i64 f.b,.slice p7 f.kids.length c7]):=b6.o.set 5 _;have b4:=Hd (q.o.bl h8);have h0:Hid (∀b,(Value.slice p7 f.kids.length c7).ownBlock=some b->wr.heap.size+1<=b):=fun b hb=>by have:=Oe b9 b hb;omega
  have l2:Hid ((w7.setCell ⟨wr.heap.size,5,none⟩ (.slice p7 f.kids.length c7)).ownsRow (w.heap.size+1+1+1) 3 1 (.slice p7 f.kids.length c7) f.kids.length (Uq f.kids)):=
   own_other' (own_lower b9 e6.o.sz) (fun b hb=>Jh w7 ⟨wr.heap.size,5,none⟩ _ b (by have:=h0.o b hb;show b≠wr.heap.size;omega))
  obtain⟨X,hX,b3,E⟩:=q.o.t;have c6:=Km b3 h8;have g1:(∀x∈X,(w7.setCell ⟨wr.heap.size,5,none⟩ (.slice p7 f.kids.length c7)).ownsRow (w.heap.size+1+1+1) 3 1 x.2 x.1.kids.length (Uq x.1.kids))/\X.Pairwise E6:=⟨fun x hx=>Km (E.1 x hx) h8,E.2⟩;have i6:Hid (∀x∈X,E6 x (f,Value.slice p7 f.kids.length c7)):=fun x hx b hb e=>by
   have h1:=((E.1 x hx).lt b hb).2;have h2:=h0.o b e;omega
  have a7:=Hd J;rw[J]at c6;clear J;have i8:=Hd hX;have Z:=Hd c6;have g9:=Hd g1;have t5:=b6.o.cell 5;have tf:=b6.o.fz 5;clear b9 R i1 h8 y5 hX c6 g1 b3 E
  go_upto_region 16 with fail
  obtain⟨W8,m5⟩:=O2 (w7.setCell ⟨wr.heap.size,5,none⟩ (.slice p7 f.kids.length c7));rw[m5]at a8 b4 l2 Z g9 ⊢;clear m5 t5 tf b6;have d0:=a8.o.cell 0;have d1:=a8.o.cell 1;have d2:=a8.o.cell 2;have d3:=a8.o.cell 3;have d4:=a8.o.cell 4;have d5:=a8.o.cell 5;have z1:=b4.o.z.c3.2.2;have zf:=b4.o.z.fz 2;have n2:=b4.o.sz
  go_wp2_with (at_builtin;refine Wf (x:=(f,.slice p7 f.kids.length c7)) (n:=i) (base:=w.heap.size+1+1+1) (xs:=X.flatMap O5) rfl _ _ rfl rfl ?own2 rfl _ rfl ?hH2 ?hn2 ?hb2 ?_)
  case own2=>exact Z.o
  case hH2=>rfl
  case hn2=>omega
  case hb2=>omega
  intro g8 c8 w8 g4 b8 _;have g2:=i6.o;have j:=b4.o.addT (f:=f) i8.o (by rw[a7.o];exact Z.o) g9.o l2.o g2 b8 (by rw[a7.o];exact g4);rw[<-f8.o]at j;have e9:=Hd j;have g3:∀g,(Value.slice pt (i:Nat) ct).ownBlock=some g->w.heap.size+1+1+1<=g:=Oe Z.o;have d8:Bx w8 (w.heap.size+1+1) [.slice V S.length c4,.slice pf F.length cf,.slice pt (i:Nat) ct]:=by
   obtain⟨ty,hh⟩:=b4.o.z;refine⟨ty,?_⟩;rw[b8.block _ (by simp;omega) (fun e=>by have:=g3 _ e.symm;omega)];exact(Below.block (Oy W8 _) _ (by omega)).trans hh
  have z8:=d8.c3.2.2;have r4:=d8.fz 2;clear g2 j g3 g4 b8 d8 d0 d1 d2 d3 d4 d5 z1 zf b4 a8
  go_wp2
  go_roundw
  case rel=>exact⟨i+1,by omega,by go_num,_,_,e9.o⟩
  simp[intOf];omega
 obtain rfl:i=T.length:=by omega
 have j:=q.o;rw[Y1]at j;have K:=Hd j;obtain⟨z0,z1,z2⟩:=K.o.z.c3;obtain⟨y0,q7,q9⟩:=K.o.y.c3;obtain⟨f0,f1,f2⟩:=K.o.y.f3;clear j q
 go_wp2_with fail
 clear z0 z1 z2 y0 q7 q9 f0 f1 f2;have hE:=((K.o.y.set 0 (.slice V S.length c4)).set 1 (.slice pf F.length cf)).set 2 (.slice pt T.length ct);have j4:=((K.o.low.setCell (p:=⟨w.heap.size+1,0,none⟩) (by show _<=w.heap.size+1;omega) (.slice V S.length c4)).setCell (p:=⟨w.heap.size+1,1,none⟩) (by show _<=w.heap.size+1;omega) (.slice pf F.length cf)).setCell (p:=⟨w.heap.size+1,2,none⟩) (by show _<=w.heap.size+1;omega) (.slice pt T.length ct);generalize m6:((wr.setCell ⟨w.heap.size+1,0,none⟩ (.slice V S.length c4)).setCell ⟨w.heap.size+1,1,none⟩ (.slice pf F.length cf)).setCell ⟨w.heap.size+1,2,none⟩ (.slice pt T.length ct)=WE at hE j4 ⊢;have hh:∀k,k≠w.heap.size+1->WE.heap[k]? = wr.heap[k]? := fun k hk=>by
  rw[<-m6,Jh _ ⟨w.heap.size+1,2,none⟩ _ _ hk,Jh _ ⟨w.heap.size+1,1,none⟩ _ _ hk,Jh _ ⟨w.heap.size+1,0,none⟩ _ _ hk]
 have h1:=own_lower (own_other' K.o.s (fun g hg=>hh g (by have:=Oe K.o.s g hg;omega))) (show w.heap.size<=w.heap.size+1+1+1 by omega);have n0:=K.o.sn;have h2:=K.o.f.keep (w':=WE) (fun g _ _ _ hge=>hh g (by omega));have h3:=(K.o.t.keep (fun g _ _ _ hge=>hh g (by omega))).lower (show w.heap.size<=w.heap.size+1+1+1 by omega);obtain⟨e0,e1,e2⟩:=hE.c3;refine Jl (v:=.agg #[.slice V S.length c4,.slice pf F.length cf,.slice pt T.length ct]) ?_ rfl ⟨_,_,_,rfl,h1,h2.lower (by omega),h3,j4,N,by omega,n0.2,h2⟩;clear hE j4 hh m6 h1 h2 h3 n0;simp[results,results55,go_sem,e0,e1,e2]
end Go.Proofs.YtfkagjelljnpdaaGreatDoor
