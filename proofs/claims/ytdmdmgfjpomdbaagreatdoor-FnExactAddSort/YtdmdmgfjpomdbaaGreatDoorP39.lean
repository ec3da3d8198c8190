import Derived.Test.YtdmdmgfjpomdbaaGreatDoorP00
import Derived.Test.YtdmdmgfjpomdbaaGreatDoorP38
import Derived.Laws.AppendOwnNone
set_option linter.all false
set_option maxRecDepth 100000
set_option maxHeartbeats 8000000
namespace Go.Proofs.YtdmdmgfjpomdbaaGreatDoor
open ChangeShapes WideShapes ChangeAt RowKit Proofs.Tryz
theorem AR {w:World}{g b:Nat}{l:List Value}(h:Bx w g l)(hne:g≠b)(i:Nat)(v:Value):Bx (w.setCell ⟨b,i,none⟩ v) g l:=by
 obtain⟨j,d⟩:=h;exact⟨j,(Jh w ⟨b,i,none⟩ v g hne).trans d⟩
theorem Fg {ops:Array Oper}{rest:List Oper}{o:Oper}{a:Act}{Q:Exit->Act->World->Prop}{W:World}{x:Fn×Value}{base n:Nat}{v:Value}{xs:List Value}(hgd:o.guard=none)(s y:Operand)
 (ho:o.op=.call { callee:=.builtin .append,args:=#[s,y],argTypes:=#[28,28] }) (hs:a.eval s=v) (hown:W.ownsRow base 45 3 v n xs) (hone:x.2.oneCell'=true)
 (H:Nat) (hx:a.eval y=.slice (some ⟨H,0,none⟩) 1 1) (hH:W.heap.size=H) (hn:n<=1000000000) (hbase:base<=W.heap.size)
 (h:∀ g cap W',W'.ownsRow base 45 3 (.slice (some ⟨g,0,none⟩) (n+1) cap) (n+1) (xs++funC x)->(W.alloc (.cells (funC x).toArray 45)).grownBy W' v.ownBlock->(v.ownBlock=some g∨W.heap.size<g)->wpList prog ops Q rest (a.put o.dst (.slice (some ⟨g,0,none⟩) (n+1) cap)) W') :
 wpList prog ops Q (o::rest) a (W.alloc (.cells (funC x).toArray 45)):=by
 subst hH;obtain⟨i0,d,j,A,E⟩:=Lr;refine wpList_append_lies _ hgd s y 28 ho base 45 i0 _ 3 56 underlying28 d j A E rfl (by decide) v n xs hs (hown.alloc _) ⟨W.heap.size,0,none⟩ 1 1 (funC x) hx rfl
  (World.news_of_block (fr:=(0,0)) Vg) (fun u hu=>by simp only[funC,Vi,List.not_mem_nil,or_false] at hu;rcases hu with rfl|rfl|rfl<;>first|exact hone|rfl) (by decide) (by unfold maxLen;omega) (by omega) (by simp;omega) _ rfl ?_
 intro g cap W' G h2 h3 _;refine h g cap W' G h2 ?_
 rcases h3 with h3|h3
 ·exact .inl h3
 refine .inr ?_;rw[h3];simp
theorem ZC {ops:Array Oper}{rest:List Oper}{o:Oper}{a:Act}{Q:Exit->Act->World->Prop}{W:World}{x:Tm×Value}{base n:Nat}{v:Value}{xs:List Value}(hgd:o.guard=none)(s y:Operand)
 (ho:o.op=.call { callee:=.builtin .append,args:=#[s,y],argTypes:=#[29,29] }) (hs:a.eval s=v) (hown:W.ownsRow base 55 6 v n xs) (hone:x.2.oneCell'=true)
 (H:Nat) (hx:a.eval y=.slice (some ⟨H,0,none⟩) 1 1) (hH:W.heap.size=H) (hn:n<=1000000000) (hbase:base<=W.heap.size)
 (h:∀ g cap W',W'.ownsRow base 55 6 (.slice (some ⟨g,0,none⟩) (n+1) cap) (n+1) (xs++Ho x)->(W.alloc (.cells (Ho x).toArray 55)).grownBy W' v.ownBlock->(v.ownBlock=some g∨W.heap.size<g)->wpList prog ops Q rest (a.put o.dst (.slice (some ⟨g,0,none⟩) (n+1) cap)) W') :
 wpList prog ops Q (o::rest) a (W.alloc (.cells (Ho x).toArray 55)):=by
 subst hH;obtain⟨i0,d,j,A,E⟩:=Rc;refine wpList_append_lies _ hgd s y 29 ho base 55 i0 _ 6 80 underlying29 d j A E rfl (by decide) v n xs hs (hown.alloc _) ⟨W.heap.size,0,none⟩ 1 1 (Ho x) hx rfl
  (World.news_of_block (fr:=(0,0)) Vg) (fun u hu=>by simp only[Ho,Vi,List.not_mem_nil,or_false] at hu;rcases hu with rfl|rfl|rfl|rfl|rfl|rfl<;>first|exact hone|rfl) (by decide) (by unfold maxLen;omega) (by omega) (by simp;omega) _ rfl ?_
 intro g cap W' G h2 h3 _;refine h g cap W' G h2 ?_
 rcases h3 with h3|h3
 ·exact .inl h3
 refine .inr ?_;rw[h3];simp
def NW (v:Value)(n:Nat):Prop:=(v=.slice none 0 0/\n=0)∨∃ g c,v=.slice (some ⟨g,0,none⟩) n c
theorem Qm {ops:Array Oper}{rest:List Oper}{o:Oper}{a:Act}{Q:Exit->Act->World->Prop}{W:World}{va:Value}{L:List (List UInt8)}(hgd:o.guard=none)(s y:Operand)
 (ho:o.op=.call { callee:=.builtin .append,args:=#[s,y],argTypes:=#[22,22] }) (hs:a.eval s=.slice none 0 0) (hx:a.eval y=va) (hva:O3 W va L) (hsh:NW va L.length) (hn:L.length<=1000000000)
 (h:∀ v' W',W'.ownsRow W.heap.size 9 1 v' L.length (strsC L)->(∃ p c,v'=.slice p L.length c)->Up W W'->wpList prog ops Q rest (a.put o.dst v') W') :
 wpList prog ops Q (o::rest) a W:=by
 have d:W.ownsRow W.heap.size 9 1 (.slice none 0 0) 0 []:=⟨rfl,.inl ⟨rfl,rfl⟩⟩
 rcases hsh with⟨rfl,E⟩|⟨g,c,rfl⟩
 ·obtain⟨i0,j,I,J,K⟩:=Q8;have G:L=[]:=Jw E;subst G;exact wpList_append_own_none hgd s y 22 ho W.heap.size 9 i0 1 underlying22 j _ 0 [] hs d hx (h _ W d ⟨_,_,rfl⟩ (Je _ _))
 obtain⟨p,M,e,O,h2,h3⟩:=hva
 cases e
 refine Py hgd s y ho hs d (ad:=⟨g,0,none⟩) (c:=c) hx (fun i hi=>?_) (by omega) leR (fun v' W' ho' hg'=>?_)
 ·rcases h3 with h3|⟨b,e,hb,hc⟩
  ·rw[h3] at hi;cases hi
  cases e
  rw[show (⟨g,0,none⟩:Addr).add i=⟨g,i,none⟩ by simp only[Addr.add];split<;>simp_all];exact hc i hi
 have A:W'.ownsRow W.heap.size 9 1 v' L.length (strsC L):=by simpa using ho'
 refine h v' W' A ?_ ((Je _ _).grown hg' leR (fun k e=>by cases e));obtain⟨p,c,e,_⟩:=Xg A;exact⟨p,c,e⟩
theorem Bc {ops:Array Oper}{rest:List Oper}{o:Oper}{a:Act}{Q:Exit->Act->World->Prop}{W:World}{base n c:Nat}{v:Value}{xs:List Value}{ad:Addr}{L:List Int}(hgd:o.guard=none)(s y:Operand)
 (ho:o.op=.call { callee:=.builtin .append,args:=#[s,y],argTypes:=#[50,50] }) (hs:a.eval s=v) (hown:W.ownsRow base 3 1 v n xs)
 (hx:a.eval y=.slice (some ad) L.length c) (hc:∀ i (h:i<L.length),W.cell? (ad.add i)=some (.int .i64 L[i])) (hn:n+L.length<=1000000000) (hbase:base<=W.heap.size)
 (h:∀ v' W',W'.ownsRow base 3 1 v' (n+L.length) (xs++Nx L)->W.grownBy W' v.ownBlock->wpList prog ops Q rest (a.put o.dst v') W') :
 wpList prog ops Q (o::rest) a W:=by
 obtain⟨i0,d,A,E,G⟩:=Lp;obtain⟨v',w',J,h2,h3,_,_⟩:=run_append_own_at (P:=prog) W base 50 o.type 3 i0 _ 1 8 underlying50 d A E G rfl (by decide) v n xs hown ad L.length c (Nx L) (by simp[Nx]) (fun j u hu=>by
  have I:j<L.length:=by have:=(Zq.1 hu).1;simpa[Nx] using this
  rw[hc j I,<-hu];simp[Nx,List.getElem?_eq_getElem I]) (fun u hu=>by
  simp only[Nx,Zh] at hu;obtain⟨x,_,rfl⟩:=hu;rfl) (by unfold maxLen;omega) (by omega) hbase
 refine wpList_plain hgd fun K hK=>?_;unfold Oper.wp;simp[execOp,ho,resolve,invoke,builtin,hs,hx,J,Result.andThen];exact hK _ _ (h v' w' h2 h3)
theorem Tj {ops:Array Oper}{rest:List Oper}{o:Oper}{a:Act}{Q:Exit->Act->World->Prop}{W:World}{va:Value}{L:List Int}(hgd:o.guard=none)(s y:Operand)
 (ho:o.op=.call { callee:=.builtin .append,args:=#[s,y],argTypes:=#[50,50] }) (hs:a.eval s=.slice none 0 0) (hx:a.eval y=va) (hva:Kg W va L) (hsh:NW va L.length) (hn:L.length<=1000000000)
 (h:∀ v' W',W'.ownsRow W.heap.size 3 1 v' L.length (Nx L)->(∃ p c,v'=.slice p L.length c)->Up W W'->wpList prog ops Q rest (a.put o.dst v') W') :
 wpList prog ops Q (o::rest) a W:=by
 have d:W.ownsRow W.heap.size 3 1 (.slice none 0 0) 0 []:=⟨rfl,.inl ⟨rfl,rfl⟩⟩
 rcases hsh with⟨rfl,E⟩|⟨g,c,rfl⟩
 ·obtain⟨i0,j,I,J,K⟩:=Lp;have G:L=[]:=Jw E;subst G;exact wpList_append_own_none hgd s y 50 ho W.heap.size 3 i0 1 underlying50 j _ 0 [] hs d hx (h _ W d ⟨_,_,rfl⟩ (Je _ _))
 obtain⟨p,M,e,O,h2,h3⟩:=hva
 cases e
 refine Bc hgd s y ho hs d (ad:=⟨g,0,none⟩) (c:=c) hx (fun i hi=>?_) (by omega) leR (fun v' W' ho' hg'=>?_)
 ·rcases h3 with h3|⟨b,e,hb,hc⟩
  ·rw[h3] at hi;cases hi
  cases e
  rw[show (⟨g,0,none⟩:Addr).add i=⟨g,i,none⟩ by simp only[Addr.add];split<;>simp_all];exact hc i hi
 have A:W'.ownsRow W.heap.size 3 1 v' L.length (Nx L):=by simpa using ho'
 refine h v' W' A ?_ ((Je _ _).grown hg' leR (fun k e=>by cases e));obtain⟨p,c,e,_⟩:=Xg A;exact⟨p,c,e⟩
end Go.Proofs.YtdmdmgfjpomdbaaGreatDoor
namespace Go.Proofs.YtdmdmgfjpomdbaaGreatDoor
open ChangeShapes WideShapes ChangeAt RowKit
variable {F:List Fn}{N:Nat}{S:List (List UInt8)}{T:List Tm}{W W' w:World}{l:List Value}{uf us ut:Value}
structure CpS (w:World)(N:Nat)(l:List Value)(us uf ut:Value)(S:List (List UInt8))(F:List Fn)(T:List Tm)(wr:World):Prop where
 low:Up w wr
 x:Bx wr w.heap.size l
 y:Bx wr (w.heap.size+1) [.slice none 0 0,.slice none 0 0,.slice none 0 0]
 z:Bx wr (w.heap.size+1+1) [us,uf,ut]
 s:wr.ownsRow (w.heap.size+1+1+1) 9 1 us S.length (strsC S)
 f:Ec wr N uf F
 t:K8 wr (w.heap.size+1+1+1) ut T
 sz:w.heap.size+1+1+1<=wr.heap.size
 sn:(w.heap.size+1+1+1<=N/\N<=wr.heap.size)/\∀ g,us.ownBlock=some g->g<N
theorem CpS.bl (h:CpS w N l us uf ut S F T W)(hb:Up W W'):CpS w N l us uf ut S F T W':=
 ⟨h.low.trans (hb.mono h.low.size),h.x.bl h.x.lt hb,h.y.bl h.y.lt hb,h.z.bl h.z.lt hb,Et h.s hb,h.f.keep (fun g _ _ hg _=>hb.block g (by rcases hg with hg|hg<;>exact (Jv.1 hg).1)),h.t.keep (fun g _ _ hg _=>hb.block g (by rcases hg with hg|hg<;>exact (Jv.1 hg).1)),Yc h.sz hb.size,⟨h.sn.1.1,Yc h.sn.1.2 hb.size⟩,h.sn.2⟩
theorem CpS.addF {va v1:Value}{o:Obj}{X:List (Fn×Value)}{f:Fn}(h:CpS w N l us uf ut S F T W)
 (hX:X.map Prod.fst=F) (hr:W.ownsRow N 45 3 uf F.length (X.flatMap funC)) (hA:(∀ x∈X,W.ownsRow N 9 1 x.2 x.1.args.length (strsC x.1.args))/\X.Pairwise Nq)
 (hva:W.ownsRow N 9 1 va f.args.length (strsC f.args)) (hvn:∀ x∈X,Nq x (f,va))
 (hg:(W.alloc o).grownBy W' uf.ownBlock) (hr1:W'.ownsRow N 45 3 v1 (F.length+1) (X.flatMap funC++funC (f,va))) :
 CpS w N l us v1 ut S (F++[f]) T (W'.setCell ⟨w.heap.size+1+1,1,none⟩ v1):=by
 have U:=h.sz;have I:=h.sn.1;have K:∀ g,uf.ownBlock=some g->w.heap.size+1+1+1<=g:=fun g hg=>Yc I.1 (Ol hr g hg);have O:=hg.size;have hk:∀ k,k<W.heap.size->uf.ownBlock≠some k->k≠w.heap.size+1+1->(W'.setCell ⟨w.heap.size+1+1,1,none⟩ v1).heap[k]? = W.heap[k]? := fun k hk h1 h2=>by
  rw[Jh W' ⟨w.heap.size+1+1,1,none⟩ v1 k h2,hg.block k (by simp;omega) (fun e=>h1 e.symm)];exact Below.block (Oz W o) k hk
 have d:∀ k,k<w.heap.size+1+1+1->k≠w.heap.size+1+1->(W'.setCell ⟨w.heap.size+1+1,1,none⟩ v1).heap[k]? = W.heap[k]? := fun k h1 h2=>hk k (by omega) (fun e=>by have:=K k e;omega) h2;have G:∀ k cs ty fz,W.heap[k]? = some (.cells cs ty fz)->ty≠45->w.heap.size+1+1+1<=k->(W'.setCell ⟨w.heap.size+1+1,1,none⟩ v1).heap[k]? = W.heap[k]? := fun k cs ty fz hc ht hk1=>hk k (Jv.1 hc).1 (I3 hr hc (Ne.symm ht)) (by omega);have E:W.heap.size<=(W'.setCell ⟨w.heap.size+1+1,1,none⟩ v1).heap.size:=by have:=O;simp[World.setCell] at this ⊢;omega
 have A:Bx W' (w.heap.size+1+1) [us,uf,ut]:=by
  obtain⟨ty,J⟩:=h.z;refine⟨ty,?_⟩;rw[hg.block _ (by simp;omega) (fun e=>by have:=K _ e.symm;omega)];exact (Below.block (Oz W o) _ (by omega)).trans J
 have j:∀ {bb:Nat} {v:Value} {n:Nat} {xs:List Value} {e:TypeId},w.heap.size+1+1+1<=bb->W.ownsRow bb e 1 v n xs->e≠45->(W'.setCell ⟨w.heap.size+1+1,1,none⟩ v1).ownsRow bb e 1 v n xs:=fun hbb ho he=>own_other' ho (fun g hg'=>by
  obtain⟨c,fz,hc⟩:=Kp ho g hg';exact G g c _ fz hc he (Yc hbb (Ol ho g hg')))
 refine⟨⟨?_,?_,?_,Yc h.low.size E,fun k hk1=>?_⟩,?_,?_,A.set 1 v1,j leR h.s (by decide),⟨X++[(f,va)],?_,?_,?_,Hb hA.2 hvn⟩,?_,Yc U E,⟨I.1,Yc I.2 E⟩,h.sn.2⟩
 ·exact hg.os.trans h.low.os
 ·exact hg.tape.trans h.low.tape
 ·exact hg.output.trans h.low.output
 ·rw[d k (by omega) (by omega)];exact h.low.block k hk1
 ·obtain⟨ty,J⟩:=h.x;exact⟨ty,(d _ (by omega) (by omega)).trans J⟩
 ·obtain⟨ty,J⟩:=h.y;exact⟨ty,(d _ (by omega) (by omega)).trans J⟩
 ·rw[Yr,hX];rfl
 ·rw[Zs,Yn];refine own_other' (v:=v1) (W:=W') (by simpa using hr1) (fun g hg'=>Jh W' ⟨w.heap.size+1+1,1,none⟩ v1 g ?_);have:=Ol hr1 g hg'
  show g≠w.heap.size+1+1
  omega
 ·intro x M
  rcases Zm.1 M with M|M
  ·exact j I.1 (hA.1 x M) (by decide)
  obtain rfl:=Zv.1 M;exact j I.1 hva (by decide)
 refine h.t.keep fun g cs fz hc hge=>?_
 rcases hc with hc|hc
 ·exact G g cs _ fz hc (by decide) hge
 exact G g cs _ fz hc (by decide) hge
theorem CpS.addT {va v1:Value}{o:Obj}{X:List (Tm×Value)}{f:Tm}(h:CpS w N l us uf ut S F T W)
 (hX:X.map Prod.fst=T) (hr:W.ownsRow (w.heap.size+1+1+1) 55 6 ut T.length (X.flatMap Ho)) (hA:(∀ x∈X,W.ownsRow (w.heap.size+1+1+1) 3 1 x.2 x.1.kids.length (Nx x.1.kids))/\X.Pairwise Nq)
 (hva:W.ownsRow (w.heap.size+1+1+1) 3 1 va f.kids.length (Nx f.kids)) (hvn:∀ x∈X,Nq x (f,va))
 (hg:(W.alloc o).grownBy W' ut.ownBlock) (hr1:W'.ownsRow (w.heap.size+1+1+1) 55 6 v1 (T.length+1) (X.flatMap Ho++Ho (f,va))) :
 CpS w N l us uf v1 S F (T++[f]) (W'.setCell ⟨w.heap.size+1+1,2,none⟩ v1):=by
 have O:=h.sz;have J:∀ g,ut.ownBlock=some g->w.heap.size+1+1+1<=g:=Ol hr;have M:=hg.size;have hk:∀ k,k<W.heap.size->ut.ownBlock≠some k->k≠w.heap.size+1+1->(W'.setCell ⟨w.heap.size+1+1,2,none⟩ v1).heap[k]? = W.heap[k]? := fun k hk h1 h2=>by
  rw[Jh W' ⟨w.heap.size+1+1,2,none⟩ v1 k h2,hg.block k (by simp;omega) (fun e=>h1 e.symm)];exact Below.block (Oz W o) k hk
 have d:∀ k,k<w.heap.size+1+1+1->k≠w.heap.size+1+1->(W'.setCell ⟨w.heap.size+1+1,2,none⟩ v1).heap[k]? = W.heap[k]? := fun k h1 h2=>hk k (by omega) (fun e=>by have:=J k e;omega) h2;have G:∀ k cs ty fz,W.heap[k]? = some (.cells cs ty fz)->ty≠55->w.heap.size+1+1+1<=k->(W'.setCell ⟨w.heap.size+1+1,2,none⟩ v1).heap[k]? = W.heap[k]? := fun k cs ty fz hc ht hk1=>hk k (Jv.1 hc).1 (I3 hr hc (Ne.symm ht)) (by omega);have E:W.heap.size<=(W'.setCell ⟨w.heap.size+1+1,2,none⟩ v1).heap.size:=by have:=M;simp[World.setCell] at this ⊢;omega
 have A:Bx W' (w.heap.size+1+1) [us,uf,ut]:=by
  obtain⟨ty,I⟩:=h.z;refine⟨ty,?_⟩;rw[hg.block _ (by simp;omega) (fun e=>by have:=J _ e.symm;omega)];exact (Below.block (Oz W o) _ (by omega)).trans I
 have j:∀ {v:Value} {n:Nat} {xs:List Value} {e:TypeId},W.ownsRow (w.heap.size+1+1+1) e 1 v n xs->e≠55->(W'.setCell ⟨w.heap.size+1+1,2,none⟩ v1).ownsRow (w.heap.size+1+1+1) e 1 v n xs:=fun ho he=>own_other' ho (fun g hg'=>by
  obtain⟨c,fz,hc⟩:=Kp ho g hg';exact G g c _ fz hc he (Ol ho g hg'))
 refine⟨⟨?_,?_,?_,Yc h.low.size E,fun k hk1=>?_⟩,?_,?_,A.set 2 v1,j h.s (by decide),?_,⟨X++[(f,va)],?_,?_,?_,Hb hA.2 hvn⟩,Yc O E,⟨h.sn.1.1,Yc h.sn.1.2 E⟩,h.sn.2⟩
 ·exact hg.os.trans h.low.os
 ·exact hg.tape.trans h.low.tape
 ·exact hg.output.trans h.low.output
 ·rw[d k (by omega) (by omega)];exact h.low.block k hk1
 ·obtain⟨ty,I⟩:=h.x;exact⟨ty,(d _ (by omega) (by omega)).trans I⟩
 ·obtain⟨ty,I⟩:=h.y;exact⟨ty,(d _ (by omega) (by omega)).trans I⟩
 ·refine h.f.keep fun g cs fz hc hge=>?_
  rcases hc with hc|hc
  ·exact G g cs _ fz hc (by decide) (Yc h.sn.1.1 hge)
  exact G g cs _ fz hc (by decide) (Yc h.sn.1.1 hge)
 ·rw[Yr,hX];rfl
 ·rw[Zs,Yn];refine own_other' (v:=v1) (W:=W') (by simpa using hr1) (fun g hg'=>Jh W' ⟨w.heap.size+1+1,2,none⟩ v1 g ?_);have:=Ol hr1 g hg'
  show g≠w.heap.size+1+1
  omega
 intro x K
 rcases Zm.1 K with K|K
 ·exact j (hA.1 x K) (by decide)
 obtain rfl:=Zv.1 K;exact j hva (by decide)
end Go.Proofs.YtdmdmgfjpomdbaaGreatDoor
namespace Go.Proofs.YtdmdmgfjpomdbaaGreatDoor
open ChangeShapes WideShapes ChangeAt RowKit Proofs.Tryz
variable {F:List Fn}{N base base' s:Nat}{S:List (List UInt8)}{T:List Tm}{e:TypeId}{uf us ut v vf vs vt:Value}{w:World}{xs:List Value}
theorem Ec.lower (h:Ec w base v F)(hb:base'<=base):Ec w base' v F:=by
 obtain⟨X,e,d,h2,h3⟩:=h;exact⟨X,e,Kh d hb,fun x hx=>Kh (h2 x hx) hb,h3⟩
theorem K8.lower {F:List Tm}(h:K8 w base v F)(hb:base'<=base):K8 w base' v F:=by
 obtain⟨X,e,d,h2,h3⟩:=h;exact⟨X,e,Kh d hb,fun x hx=>Kh (h2 x hx) hb,h3⟩
theorem UM (h:BankAt w vs vf vt S F T)(hvs:NW vs S.length)
 (hfa:∀ g c,vf=.slice (some ⟨g,0,none⟩) F.length c->∀ i (h:i<F.length) va,w.cell? ⟨g,i*3+1,none⟩=some va->NW va F[i].args.length)
 (hta:∀ g c,vt=.slice (some ⟨g,0,none⟩) T.length c->∀ i (h:i<T.length) va,w.cell? ⟨g,i*6+5,none⟩=some va->NW va T[i].kids.length)
 (hl1:S.length<=1048576) (hl2:F.length<=1048576) (hl3:T.length<=1048576) (hla:∀ f∈F,f.args.length<=1048576) (hlk:∀ t∈T,t.kids.length<=1048576) :
 Calls prog 33 #[.agg #[vs,vf,vt]] w fun e w'=>∃ us uf ut,e=.returned (.agg #[us,uf,ut])/\w'.ownsRow w.heap.size 9 1 us S.length (strsC S)/\Ec w' w.heap.size uf F/\K8 w' w.heap.size ut T/\Up w w'/\∃ N,w.heap.size<=N/\(∀ g,us.ownBlock=some g->g<N)/\Ec w' N uf F:=by
 have HS:=Hd h.s;have o6:=Hd hvs;have o1:=Hd hfa;have o7:=Hd hta;have o2:=Hd hla;have o3:=Hd hlk;have HF:=Hd h.f;have HT:=Hd h.t;obtain⟨a1,c1,e1,x1,y1,-⟩:=h.s;obtain⟨a2,c2,e2,x2,y2,-⟩:=h.f;obtain⟨a3,c3,e3,x3,y3,-⟩:=h.t;unfold maxLen at y1 y2 y3;subst e1 e2 e3;clear h hvs hfa hta hla hlk
 go_in
 go_upto_region 2 with fail
 obtain⟨W3,m6,n0,n6,n7,n8,n3⟩:=GK w [.slice a1 S.length c1,.slice a2 F.length c2,.slice a3 T.length c3] [.slice none 0 0,.slice none 0 0,.slice none 0 0] [.slice none 0 0,.slice none 0 0,.slice none 0 0] 31 31 31;rw[m6];clear m6;have j0:=Hd n0;have h7:=Hd n6;have j4:=Hd n7;have f9:=Hd n8;have h0:=Hd n3;clear n0 n6 n7 n8 n3;obtain⟨b0,b1,b2⟩:=h7.o.c3;obtain⟨q0,q1,q2⟩:=f9.o.c3;have r0:=f9.o.fz 0
 go_wp2_with (at_builtin;refine Qm (L:=S) rfl _ _ rfl rfl rfl ?va ?sh ?ln ?_)
 case va=>exact HS.o.bl j0.o
 case sh=>exact o6.o
 case ln=>omega
 intro us w4 i6 M c4 e4 d7;subst e4;have l2:Hid (w4.ownsRow (w.heap.size+1+1+1) 9 1 (.slice M S.length c4) S.length (strsC S)):=Kh i6 (U4 h0.o.symm);have k7:=j0.up d7;have j5:=Hd (h7.o.bl h7.o.lt d7);have l6:=Hd (j4.o.bl j4.o.lt d7);have h8:=Hd (f9.o.bl f9.o.lt d7);have j2:Hid (w.heap.size+1+1+1<=w4.heap.size):=by have:=d7.size;have:=h0.o;unfold Hid;omega
 have l0:Hid (∀ g,(Value.slice M S.length c4).ownBlock=some g->w.heap.size+1+1+1<=g):=fun g hg=>by have:=Ol i6 g hg;have:=h0.o;omega
 have l1:Hid (∀ g,(Value.slice M S.length c4).ownBlock=some g->g<w4.heap.size):=fun g hg=>(i6.lt g hg).2;clear i6 d7 b0 b1 b2 q0 q1 q2 r0 h7 j4 f9;have q0:=h8.o.c3.1;have r0:=h8.o.fz 0;have b1:=j5.o.c3.2.1;have p5:w.heap.size≠w.heap.size+1+1:=by omega
 have p6:w.heap.size+1≠w.heap.size+1+1:=by omega
 have l7:=Hd (AR j5.o p5 0 (.slice M S.length c4));have l8:=Hd (AR l6.o p6 0 (.slice M S.length c4));have l9:Hid (Bx (w4.setCell ⟨w.heap.size+1+1,0,none⟩ (.slice M S.length c4)) (w.heap.size+1+1) [.slice M S.length c4,.slice none 0 0,.slice none 0 0]):=h8.o.set 0 _;have l3:Hid ((w4.setCell ⟨w.heap.size+1+1,0,none⟩ (.slice M S.length c4)).ownsRow (w.heap.size+1+1+1) 9 1 (.slice M S.length c4) S.length (strsC S)):=own_other' l2.o (fun g hg=>Jh w4 ⟨w.heap.size+1+1,0,none⟩ _ g (by have:=l0.o g hg;show g≠w.heap.size+1+1;omega));have k8:Hid (Up w (w4.setCell ⟨w.heap.size+1+1,0,none⟩ (.slice M S.length c4))):=k7.o.setCell (p:=⟨w.heap.size+1+1,0,none⟩) (by show _<=w.heap.size+1+1;omega) _;have l5:Hid (w.heap.size+1+1+1<=(w4.setCell ⟨w.heap.size+1+1,0,none⟩ (.slice M S.length c4)).heap.size):=by have:=j2.o;unfold Hid;simpa[World.setCell] using this
 have j:Hid (CpS w w4.heap.size [.slice a1 S.length c1,.slice a2 F.length c2,.slice a3 T.length c3] (.slice M S.length c4) (.slice none 0 0) (.slice none 0 0) S [] [] (w4.setCell ⟨w.heap.size+1+1,0,none⟩ (.slice M S.length c4))):=
  ⟨k8.o,l7.o,l8.o,l9.o,l3.o,⟨[],rfl,⟨rfl,.inl ⟨rfl,rfl⟩⟩,(fun x hx=>by cases hx),List.Pairwise.nil⟩,⟨[],rfl,⟨rfl,.inl ⟨rfl,rfl⟩⟩,(fun x hx=>by cases hx),List.Pairwise.nil⟩,l5.o,⟨j2.o,by simp[World.setCell]⟩,l1.o⟩
 generalize w4.heap.size=N at j
 go_wp2_with fail
 clear q0 r0 b1 l7 l8 l9 l3 k8 l5 l2 k7 j5 l6 h8 j2 l0 j0 h0
 go_loopw [20] (fun iv wr=>∃ i:Nat,i<=F.length/\iv=.int .i64 (i:Nat)/\∃ pf cf,CpS w N [.slice a1 S.length c1,.slice a2 F.length c2,.slice a3 T.length c3] (.slice M S.length c4) (.slice pf (i:Nat) cf) (.slice none 0 0) S (F.take i) [] wr) (fun iv _=>F.length - (intOf iv).toNat)
 case atStart=>exact⟨0,Jr _,rfl,none,0,j.o⟩
 obtain⟨i,hi,rfl,pf,cf,d⟩:=hrel;clear j;have j:=Hd d;clear d
 by_cases E:i<F.length
 ·obtain⟨g,rfl,hg,b4⟩:∃ g,a2=some ⟨g,0,none⟩/\g<w.heap.size/\w.cell? ⟨g,i*3,none⟩=some (.string (Oo F[i].name))/\(∃ va,w.cell? ⟨g,i*3+1,none⟩=some va/\O3 w va F[i].args)/\w.cell? ⟨g,i*3+2,none⟩=some (.string (Oo F[i].sort)):=by
   obtain⟨p,c,e,_,_,h3⟩:=HF.o
   cases e
   rcases h3 with h3|⟨b,e,hb,hh⟩
   ·rw[h3] at E;cases E
   exact⟨b,e,hb,hh i E⟩
  obtain⟨k0,⟨va,k1,b9⟩,k2⟩:=b4;have b8:=o1.o g c2 rfl i E va k1;have j7:=o2.o _ (Jo E);have e9:Hid (F.take (i+1)=F.take i++[F[i]]):=by unfold Hid;rw[List.take_add_one,Jd E];rfl
  have G:(F.take i).length=i:=by rw[J4];omega
  obtain⟨f,hf⟩:=Oa (F[i]);rw[hf] at k0 k2 b9 b8 j7 e9;have HB:=Hd j.o.low;have f8:=Hd (b9.bl j.o.low);have e8:=Hd b8;rw[<-HB.o.cell (p:=⟨g,i*3,none⟩) hg] at k0;rw[<-HB.o.cell (p:=⟨g,i*3+1,none⟩) hg] at k1;rw[<-HB.o.cell (p:=⟨g,i*3+2,none⟩) hg] at k2;obtain⟨pa,ca,rfl,-,-,-⟩:=b9;clear b8 hf
  go_upto_region 7 with fail
  obtain⟨W6,J⟩:=Oa (wr.alloc (.cells #[.string (Oo f.name),.slice pa f.args.length ca,.string (Oo f.sort)] 45));have h6:Up wr W6:=by rw[<-J];exact Oz _ _
  have g4:Bx W6 wr.heap.size [.string (Oo f.name),.slice pa f.args.length ca,.string (Oo f.sort)]:=by rw[<-J];exact Oi wr _ _
  have a8:=Hd g4;have d9:=Hd (j.o.bl h6);have j3:=Hd (f8.o.bl h6);have r4:Hid (wr.heap.size<=W6.heap.size):=h6.size;obtain⟨y0,y1,y2⟩:=a8.o.c3;rw[J];clear J h6 g4 k0 k1 k2 f8
  go_wp2_with (at_builtin;refine Qm (L:=f.args) rfl _ _ rfl rfl rfl ?va ?sh ?ln ?_)
  case va=>exact j3.o
  case sh=>exact e8.o
  case ln=>omega
  intro va w7 b6 p7 c7 e7 K;subst e7;have O:=Hd (d9.o.bl K);have b3:=Hd (a8.o.bl a8.o.lt K);have g9:Hid (∀ b,(Value.slice p7 f.args.length c7).ownBlock=some b->W6.heap.size<=b):=Ol b6;have o4:=Hd (Kh b6 d9.o.sn.1.2);have t6:W6.heap.size<=w7.heap.size:=K.size;obtain⟨X,hX,Z,A⟩:=d9.o.f;have b7:=Et Z K;have g0:(∀ x∈X,w7.ownsRow N 9 1 x.2 x.1.args.length (strsC x.1.args))/\X.Pairwise Nq:=⟨fun x hx=>Et (A.1 x hx) K,A.2⟩;have i8:Hid (∀ x∈X,Nq x (f,Value.slice p7 f.args.length c7)):=fun x hx b hb e=>by
   have h1:=((A.1 x hx).lt b hb).2;have h2:=g9.o b e;omega
  have V:=Hd G;rw[G] at b7;clear G;have j1:=Hd hX;have U:=Hd b7;have g7:=Hd g0;obtain⟨d0,d1,d2⟩:=b3.o.c3;have z1:=O.o.z.c3.2.1;have zf:=O.o.z.fz 1;have n4:=O.o.sz;clear b6 K y0 y1 y2 hX b7 g0 Z A
  go_wp2_with (at_builtin;refine Fg (x:=(f,.slice p7 f.args.length c7)) (n:=i) (base:=N) (xs:=X.flatMap funC) rfl _ _ rfl rfl ?own2 rfl _ rfl ?hH2 ?hn2 ?hb2 ?_)
  case own2=>exact U.o
  case hH2=>rfl
  case hn2=>omega
  case hb2=>have:=O.o.sn.1.2;omega
  intro g8 c8 w8 g3 b5 _;have g1:=i8.o;have d:=O.o.addF (f:=f) j1.o (by rw[V.o];exact U.o) g7.o o4.o g1 b5 (by rw[V.o];exact g3);rw[<-e9.o] at d;have e6:=Hd d;have g2:∀ g,(Value.slice pf (i:Nat) cf).ownBlock=some g->w.heap.size+1+1+1<=g:=fun g hg=>Yc O.o.sn.1.1 (Ol U.o g hg);have c6:Bx w8 (w.heap.size+1+1) [.slice M S.length c4,.slice pf (i:Nat) cf,.slice none 0 0]:=by
   obtain⟨ty,hh⟩:=O.o.z;refine⟨ty,?_⟩;rw[b5.block _ (by simp;omega) (fun e=>by have:=g2 _ e.symm;omega)];exact (Below.block (Oz w7 _) _ (by omega)).trans hh
  have z8:=c6.c3.2.1;have r3:=c6.fz 1;clear g1 d g2 g3 b5 c6 d0 d1 d2 z1 zf O b3
  go_wp2
  go_roundw
  case rel=>exact⟨i+1,by omega,by go_num,_,_,e6.o⟩
  simp[intOf];omega
 obtain rfl:i=F.length:=by omega
 have d:=j.o;rw[Yk] at d;have e5:=Hd d;have b2:=e5.o.x.c3.2.2;clear d j
 go_wp2_with fail
 clear b2
 go_loopw [43] (fun iv wr=>∃ i:Nat,i<=T.length/\iv=.int .i64 (i:Nat)/\∃ pt ct,CpS w N [.slice a1 S.length c1,.slice a2 F.length c2,.slice a3 T.length c3] (.slice M S.length c4) (.slice pf F.length cf) (.slice pt (i:Nat) ct) S F (T.take i) wr) (fun iv _=>T.length - (intOf iv).toNat)
 case atStart=>exact⟨0,Jr _,rfl,none,0,e5.o⟩
 obtain⟨i,hi,rfl,pt,ct,d⟩:=hrel;clear e5;have j:=Hd d;clear d
 by_cases E:i<T.length
 ·obtain⟨g,rfl,hg,b4⟩:∃ g,a3=some ⟨g,0,none⟩/\g<w.heap.size/\w.cell? ⟨g,i*6,none⟩=some (.int .i64 T[i].op)/\w.cell? ⟨g,i*6+1,none⟩=some (.string (Oo T[i].sort))/\w.cell? ⟨g,i*6+2,none⟩=some (.string (Oo T[i].text))/\w.cell? ⟨g,i*6+3,none⟩=some (.int .i64 T[i].a)/\w.cell? ⟨g,i*6+4,none⟩=some (.int .i64 T[i].b)/\∃ va,w.cell? ⟨g,i*6+5,none⟩=some va/\Kg w va T[i].kids:=by
   obtain⟨p,c,e,_,_,h3⟩:=HT.o
   cases e
   rcases h3 with h3|⟨b,e,hb,hh⟩
   ·rw[h3] at E;cases E
   exact⟨b,e,hb,hh i E⟩
  obtain⟨k0,k1,k2,k3,k4,va,k5,b9⟩:=b4;have b8:=o7.o g c3 rfl i E va k5;have j7:=o3.o _ (Jo E);have e9:Hid (T.take (i+1)=T.take i++[T[i]]):=by unfold Hid;rw[List.take_add_one,Jd E];rfl
  have G:(T.take i).length=i:=by rw[J4];omega
  obtain⟨f,hf⟩:=Oa (T[i]);rw[hf] at k0 k1 k2 k3 k4 b9 b8 j7 e9;have HB:=Hd j.o.low;have f8:=Hd (b9.bl j.o.low);have e8:=Hd b8;rw[<-HB.o.cell (p:=⟨g,i*6,none⟩) hg] at k0;rw[<-HB.o.cell (p:=⟨g,i*6+1,none⟩) hg] at k1;rw[<-HB.o.cell (p:=⟨g,i*6+2,none⟩) hg] at k2;rw[<-HB.o.cell (p:=⟨g,i*6+3,none⟩) hg] at k3;rw[<-HB.o.cell (p:=⟨g,i*6+4,none⟩) hg] at k4;rw[<-HB.o.cell (p:=⟨g,i*6+5,none⟩) hg] at k5;obtain⟨pa,ca,rfl,-,-,-⟩:=b9;clear b8 hf
  go_upto_region 14 with fail
  obtain⟨W6,J⟩:=Oa (wr.alloc (.cells #[.int .i64 f.op,.string (Oo f.sort),.string (Oo f.text),.int .i64 f.a,.int .i64 f.b,.slice pa f.kids.length ca] 55));have h6:Up wr W6:=by rw[<-J];exact Oz _ _
  have g4:Bx W6 wr.heap.size [.int .i64 f.op,.string (Oo f.sort),.string (Oo f.text),.int .i64 f.a,.int .i64 f.b,.slice pa f.kids.length ca]:=by rw[<-J];exact Oi wr _ _
  have a8:=Hd g4;have d9:=Hd (j.o.bl h6);have j3:=Hd (f8.o.bl h6);have k9:=Hd h6;have o5:Hid (W6.heap.size=wr.heap.size+1):=by unfold Hid;rw[<-J];simp
  have y5:=a8.o.cell 5;rw[J];clear J h6 g4 k0 k1 k2 k3 k4 k5 f8
  go_wp2_with (at_builtin;refine Tj (L:=f.kids) rfl _ _ rfl rfl rfl ?va ?sh ?ln ?_)
  case va=>exact j3.o
  case sh=>exact e8.o
  case ln=>omega
  intro va w7 b6 p7 c7 e7 K;subst e7;have s9:W6.heap.size=wr.heap.size+1:=o5.o;have i7:Up wr w7:=k9.o.trans (K.mono k9.o.size);have i1:Up wr (w7.setCell ⟨wr.heap.size,5,none⟩ (.slice p7 f.kids.length c7)):=i7.sc;have b3:=Hd (a8.o.bl a8.o.lt K);have Y:Hid (Bx (w7.setCell ⟨wr.heap.size,5,none⟩ (.slice p7 f.kids.length c7)) wr.heap.size [.int .i64 f.op,.string (Oo f.sort),.string (Oo f.text),.int .i64 f.a,.int .i64 f.b,.slice p7 f.kids.length c7]):=b3.o.set 5 _;have a7:=Hd (j.o.bl i1);have g9:Hid (∀ b,(Value.slice p7 f.kids.length c7).ownBlock=some b->wr.heap.size+1<=b):=fun b hb=>by have:=Ol b6 b hb;omega
  have l4:Hid ((w7.setCell ⟨wr.heap.size,5,none⟩ (.slice p7 f.kids.length c7)).ownsRow (w.heap.size+1+1+1) 3 1 (.slice p7 f.kids.length c7) f.kids.length (Nx f.kids)):=
   own_other' (Kh b6 d9.o.sz) (fun b hb=>Jh w7 ⟨wr.heap.size,5,none⟩ _ b (by have:=g9.o b hb;show b≠wr.heap.size;omega))
  obtain⟨X,hX,Z,A⟩:=j.o.t;have b7:=Et Z i1;have g0:(∀ x∈X,(w7.setCell ⟨wr.heap.size,5,none⟩ (.slice p7 f.kids.length c7)).ownsRow (w.heap.size+1+1+1) 3 1 x.2 x.1.kids.length (Nx x.1.kids))/\X.Pairwise Nq:=⟨fun x hx=>Et (A.1 x hx) i1,A.2⟩;have i8:Hid (∀ x∈X,Nq x (f,Value.slice p7 f.kids.length c7)):=fun x hx b hb e=>by
   have h1:=((A.1 x hx).lt b hb).2;have h2:=g9.o b e;omega
  have V:=Hd G;rw[G] at b7;clear G;have j1:=Hd hX;have U:=Hd b7;have g7:=Hd g0;have t5:=b3.o.cell 5;have tf:=b3.o.fz 5;clear b6 K i7 i1 y5 hX b7 g0 Z A
  go_upto_region 16 with fail
  obtain⟨W8,m7⟩:=Oa (w7.setCell ⟨wr.heap.size,5,none⟩ (.slice p7 f.kids.length c7));rw[m7] at Y a7 l4 U g7 ⊢;clear m7 t5 tf b3;have d0:=Y.o.cell 0;have d1:=Y.o.cell 1;have d2:=Y.o.cell 2;have d3:=Y.o.cell 3;have d4:=Y.o.cell 4;have d5:=Y.o.cell 5;have z1:=a7.o.z.c3.2.2;have zf:=a7.o.z.fz 2;have n4:=a7.o.sz
  go_wp2_with (at_builtin;refine ZC (x:=(f,.slice p7 f.kids.length c7)) (n:=i) (base:=w.heap.size+1+1+1) (xs:=X.flatMap Ho) rfl _ _ rfl rfl ?own2 rfl _ rfl ?hH2 ?hn2 ?hb2 ?_)
  case own2=>exact U.o
  case hH2=>rfl
  case hn2=>omega
  case hb2=>omega
  intro g8 c8 w8 g3 b5 _;have g1:=i8.o;have d:=a7.o.addT (f:=f) j1.o (by rw[V.o];exact U.o) g7.o l4.o g1 b5 (by rw[V.o];exact g3);rw[<-e9.o] at d;have e6:=Hd d;have g2:∀ g,(Value.slice pt (i:Nat) ct).ownBlock=some g->w.heap.size+1+1+1<=g:=Ol U.o;have c6:Bx w8 (w.heap.size+1+1) [.slice M S.length c4,.slice pf F.length cf,.slice pt (i:Nat) ct]:=by
   obtain⟨ty,hh⟩:=a7.o.z;refine⟨ty,?_⟩;rw[b5.block _ (by simp;omega) (fun e=>by have:=g2 _ e.symm;omega)];exact (Below.block (Oz W8 _) _ (by omega)).trans hh
  have z8:=c6.c3.2.2;have r3:=c6.fz 2;clear g1 d g2 g3 b5 c6 d0 d1 d2 d3 d4 d5 z1 zf a7 Y
  go_wp2
  go_roundw
  case rel=>exact⟨i+1,by omega,by go_num,_,_,e6.o⟩
  simp[intOf];omega
 obtain rfl:i=T.length:=by omega
 have d:=j.o;rw[Yk] at d;have I:=Hd d;obtain⟨z0,z1,z2⟩:=I.o.z.c3;obtain⟨y0,q6,q8⟩:=I.o.y.c3;obtain⟨f0,f1,f2⟩:=I.o.y.f3;clear d j
 go_wp2_with fail
 clear z0 z1 z2 y0 q6 q8 f0 f1 f2;have hE:=((I.o.y.set 0 (.slice M S.length c4)).set 1 (.slice pf F.length cf)).set 2 (.slice pt T.length ct);have j6:=((I.o.low.setCell (p:=⟨w.heap.size+1,0,none⟩) (by show _<=w.heap.size+1;omega) (.slice M S.length c4)).setCell (p:=⟨w.heap.size+1,1,none⟩) (by show _<=w.heap.size+1;omega) (.slice pf F.length cf)).setCell (p:=⟨w.heap.size+1,2,none⟩) (by show _<=w.heap.size+1;omega) (.slice pt T.length ct);generalize m8:((wr.setCell ⟨w.heap.size+1,0,none⟩ (.slice M S.length c4)).setCell ⟨w.heap.size+1,1,none⟩ (.slice pf F.length cf)).setCell ⟨w.heap.size+1,2,none⟩ (.slice pt T.length ct)=WE at hE j6 ⊢;have hh:∀ k,k≠w.heap.size+1->WE.heap[k]? = wr.heap[k]? := fun k hk=>by
  rw[<-m8,Jh _ ⟨w.heap.size+1,2,none⟩ _ _ hk,Jh _ ⟨w.heap.size+1,1,none⟩ _ _ hk,Jh _ ⟨w.heap.size+1,0,none⟩ _ _ hk]
 have h1:=Kh (own_other' I.o.s (fun g hg=>hh g (by have:=Ol I.o.s g hg;omega))) (show w.heap.size<=w.heap.size+1+1+1 by omega);have n2:=I.o.sn;have h2:=I.o.f.keep (w':=WE) (fun g _ _ _ hge=>hh g (by omega));have h3:=(I.o.t.keep (fun g _ _ _ hge=>hh g (by omega))).lower (show w.heap.size<=w.heap.size+1+1+1 by omega);obtain⟨e0,e1,e2⟩:=hE.c3;refine Jg (v:=.agg #[.slice M S.length c4,.slice pf F.length cf,.slice pt T.length ct]) ?_ rfl ⟨_,_,_,rfl,h1,h2.lower (by omega),h3,j6,N,by omega,n2.2,h2⟩;clear hE j6 hh m8 h1 h2 h3 n2;simp[results,results33,go_sem,e0,e1,e2]
structure BankO (w:World)(vs vf vt:Value)(S:List (List UInt8))(F:List Fn)(T:List Tm):Prop where
 at':BankAt w vs vf vt S F T
 s:NW vs S.length
 f:∀ g c,vf=.slice (some ⟨g,0,none⟩) F.length c->∀ i (h:i<F.length) va,w.cell? ⟨g,i*3+1,none⟩=some va->NW va F[i].args.length
 t:∀ g c,vt=.slice (some ⟨g,0,none⟩) T.length c->∀ i (h:i<T.length) va,w.cell? ⟨g,i*6+5,none⟩=some va->NW va T[i].kids.length
theorem BankO.bl {w':World}(h:BankO w vs vf vt S F T)(hb:Up w w'):BankO w' vs vf vt S F T:=by
 refine⟨h.at'.bl hb,h.s,fun g c e i hi va hva=>?_,fun g c e i hi va hva=>?_⟩
 ·obtain⟨p,A,j,_,_,d⟩:=h.at'.f;rw[e] at j
  cases j
  rcases d with d|⟨b,e2,hb2,E⟩
  ·rw[d] at hi;cases hi
  cases e2
  exact h.f g c e i hi va ((hb.cell (p:=⟨g,i*3+1,none⟩) hb2).symm.trans hva)
 obtain⟨p,A,j,_,_,d⟩:=h.at'.t;rw[e] at j
 cases j
 rcases d with d|⟨b,e2,hb2,E⟩
 ·rw[d] at hi;cases hi
 cases e2
 exact h.t g c e i hi va ((hb.cell (p:=⟨g,i*6+5,none⟩) hb2).symm.trans hva)
theorem Cd.sho {N0 N1 n:Nat}(h:Cd w N0 N1 e s v n):NW v n:=by
 obtain⟨p,c,rfl,_,_,A⟩:=h
 rcases A with⟨j,⟨d,h2⟩|⟨g,d⟩⟩|⟨g,d,_⟩
 ·exact .inl ⟨by rw[j,d,h2],j⟩
 ·exact .inr ⟨g,c,by rw[d]⟩
 exact .inr ⟨g,c,by rw[d]⟩
theorem BankW.o {N0 N1:Nat}(h:BankW w N0 N1 vs vf vt S F T)(ha:BankAt w vs vf vt S F T):BankO w vs vf vt S F T:=by
 refine⟨ha,h.s.sho,fun g c e i hi va hva=>?_,fun g c e i hi va hva=>?_⟩
 ·obtain⟨j,d,h2⟩:=h.f.2 g c e i hi;rw[d] at hva;cases hva;exact h2.sho
 obtain⟨j,d,h2⟩:=h.t.2 g c e i hi;rw[d] at hva;cases hva;exact h2.sho
theorem Ai (h:BankO w vs vf vt S F T)(hs:SmallB S F T) :
 Calls prog 33 #[.agg #[vs,vf,vt]] w fun e w'=>∃ us uf ut,e=.returned (.agg #[us,uf,ut])/\w'.ownsRow w.heap.size 9 1 us S.length (strsC S)/\Ec w' w.heap.size uf F/\K8 w' w.heap.size ut T/\Up w w':=
 (UM h.at' h.s h.f h.t hs.s.1 hs.f.1 hs.t.1 (fun f hf=>(hs.f.2 f hf).2.1.1) (fun t ht=>(hs.t.2 t ht).2.2)).mono (fun _ _ ⟨us,uf,ut,e,h1,h2,h3,h4,_⟩=>⟨us,uf,ut,e,h1,h2,h3,h4⟩)
theorem YB {g:Nat}{w3:World}{v0 v1 v2 v3 v4:Value}(hx:Bx w3 g [v0,v1,v2,v3,v4])(hb:Below N w w3)(hN:N<=g)(a b c d e:Value) :
 ∃ WE,((((w3.setCell ⟨g,0,none⟩ a).setCell ⟨g,1,none⟩ b).setCell ⟨g,2,none⟩ c).setCell ⟨g,3,none⟩ d).setCell ⟨g,4,none⟩ e=WE/\Bx WE g [a,b,c,d,e]/\Below N w WE/\∀ k,k≠g->WE.heap[k]? = w3.heap[k]?:=
 ⟨_,rfl,((((hx.set 0 a).set 1 b).set 2 c).set 3 d).set 4 e,((((hb.setCell (p:=⟨g,0,none⟩) hN a).setCell (p:=⟨g,1,none⟩) hN b).setCell (p:=⟨g,2,none⟩) hN c).setCell (p:=⟨g,3,none⟩) hN d).setCell (p:=⟨g,4,none⟩) hN e,fun k hk=>by
  rw[Jh _ ⟨g,4,none⟩ _ _ hk,Jh _ ⟨g,3,none⟩ _ _ hk,Jh _ ⟨g,2,none⟩ _ _ hk,Jh _ ⟨g,1,none⟩ _ _ hk,Jh _ ⟨g,0,none⟩ _ _ hk]⟩
structure BankN (w:World)(base:Nat)(us uf ut:Value)(S:List (List UInt8))(F:List Fn)(T:List Tm):Prop where
 s:w.ownsRow base 9 1 us S.length (strsC S)
 f:Ec w base uf F
 t:K8 w base ut T
theorem BankN.keep {w':World}(h:BankN w base us uf ut S F T)(hk:∀ k,base<=k->k<w.heap.size->w'.heap[k]? = w.heap[k]?):BankN w' base us uf ut S F T:=
 ⟨own_other' h.s (fun g hg=>hk g (Ol h.s g hg) (h.s.lt g hg).2),h.f.keep (fun g _ _ hg hge=>hk g hge (by rcases hg with hg|hg<;>exact (Jv.1 hg).1)),h.t.keep (fun g _ _ hg hge=>hk g hge (by rcases hg with hg|hg<;>exact (Jv.1 hg).1))⟩
theorem BankN.keepT {g i:Nat}{cs:Array Value}{fz:Nat×Nat}(h:BankN w base us uf ut S F T)(hg:w.heap[g]? = some (.cells cs 31 fz)):BankN (w.setCell ⟨g,i,none⟩ v) base us uf ut S F T:=by
 have d:∀ (k:Nat) c ty z,w.heap[k]? = some (.cells c ty z)->ty≠31->(w.setCell ⟨g,i,none⟩ v).heap[k]? = w.heap[k]? := fun k c ty z hc ht=>Jh w ⟨g,i,none⟩ v k (fun e=>by
  rw[show k=g from e,hg] at hc;cases hc;exact ht rfl)
 refine⟨own_other' h.s (fun b hb=>?_),h.f.keep (fun b c z hb _=>?_),h.t.keep (fun b c z hb _=>?_)⟩
 ·obtain⟨c,z,hc⟩:=Kp h.s b hb;exact d b c _ z hc (by decide)
 ·rcases hb with hb|hb<;>exact d b c _ z hb (by decide)
 rcases hb with hb|hb<;>exact d b c _ z hb (by decide)
theorem BankN.at (h:BankN w base us uf ut S F T):BankAt w us uf ut S F T:=⟨Iq h.s,h.f.at,h.t.at⟩
theorem BankN.lower (h:BankN w base us uf ut S F T)(hb:base'<=base):BankN w base' us uf ut S F T:=⟨Kh h.s hb,h.f.lower hb,h.t.lower hb⟩
theorem Dj (er:Int)(h:BankO w vs vf vt S F T)(hs:SmallB S F T) :
 Calls prog 32 #[.agg #[vs,vf,vt],.int .i64 er] w fun e w'=>∃ us uf ut,e=.returned (.agg #[.int .i64 er,.int .i64 0,us,uf,ut])/\BankN w' w.heap.size us uf ut S F T/\Up w w':=by
 have HC:=Hd (fun W (hb:Up w W)=>Ai (h.bl hb) hs);obtain⟨a1,c1,Z,-,-,-⟩:=h.at'.s;obtain⟨a2,c2,e2,-,-,-⟩:=h.at'.f;obtain⟨a3,c3,e3,-,-,-⟩:=h.at'.t;subst Z e2 e3;clear h hs
 go_in
 go_wp2_with fail
 obtain⟨Y,K,hb2,x1,x2,O⟩:=VO w [.slice a1 S.length c1,.slice a2 F.length c2,.slice a3 T.length c3] [.int .i64 0,.int .i64 0,.slice none 0 0,.slice none 0 0,.slice none 0 0] 31 33;rw[K];clear K;have U:=Hd hb2;have I:=Hd x2;refine (HC.o Y hb2).mono ?_;rintro e w3 ⟨us,uf,ut,rfl,h1,h2,h3,A⟩;have j:Hid (BankAt w3 us uf ut S F T):=⟨Iq h1,h2.at,h3.at⟩;have V:=U.up A;have d:=Hd (I.o.bl I.o.lt A);have HN:Hid (BankN w3 Y.heap.size us uf ut S F T):=⟨h1,h2,h3⟩;have G:=Hd O;obtain⟨p1,q1,rfl,-,-,-⟩:=j.o.s;obtain⟨p2,q2,rfl,-,-,-⟩:=j.o.f;obtain⟨p3,q3,rfl,-,-,-⟩:=j.o.t;have r0:=d.o.cell 0;have r1:=d.o.cell 1;have r2:=d.o.cell 2;have r3:=d.o.cell 3;have r4:=d.o.cell 4;obtain⟨f0,f1,f2,f3,f4⟩:=d.o.f5;clear h1 h2 h3 A x1 x2 O hb2 HC
 go_wp2_with fail
 obtain⟨WE,M,E,J,hh⟩:=YB d.o V.o (Y4 w.heap.size) (.int .i64 er) (.int .i64 0) (.slice p1 S.length q1) (.slice p2 F.length q2) (.slice p3 T.length q3);rw[M];have hN:=(HN.o.keep (w':=WE) (fun k hk _=>hh k (by have:=G.o;omega))).lower (show w.heap.size<=Y.heap.size by have:=G.o;omega);have e0:=E.cell 0;have Z:=E.cell 1;have e2:=E.cell 2;have e3:=E.cell 3;have e4:=E.cell 4;refine Jg (v:=.agg #[.int .i64 er,.int .i64 0,.slice p1 S.length q1,.slice p2 F.length q2,.slice p3 T.length q3]) ?_ rfl ⟨_,_,_,rfl,hN,J⟩;clear E J hh M hN;simp[results,results32,go_sem,e0,Z,e2,e3,e4]
def Ft {α:Type}(cc:α×Value->List Value)(e:TypeId)(n:α->Nat)(r:α->List Value)(N:Nat)(L:List α)(i:Nat)(xs:List Value)(wr:World):Prop:=
 ∃ (X:List (α×Value)) (zs:List Value),X.map Prod.fst=L.take i/\xs=X.flatMap cc++zs/\(∀ x∈X,wr.ownsRow N e 1 x.2 (n x.1) (r x.1))/\X.Pairwise Nq
theorem Fa {l zs:List Value}{k:Nat}(hk:l.length=k)(d:Nat)(a:Value):(l++zs).set (k+d) a=l++zs.set d a:=by
 rw[List.set_append_right _ _ (by omega),hk,Vp]
theorem Ft.next {α:Type}{cc:α×Value->List Value}{n:α->Nat}{r:α->List Value}{L:List α}{i:Nat}{wr:World}(h:Ft cc e n r N L i xs wr)(hi:i<L.length)(hc:∀ x,(cc x).length=s)(hx:xs.length=L.length*s)(S:Value->List Value->List Value)
 (hS:∀ va l zs,l.length=i*s->s<=zs.length->∃ zs',S va (l++zs)=l++cc (L[i],va)++zs') (wr':World) (va:Value) (hk:∀ k,N<=k->k<wr.heap.size->wr'.heap[k]? = wr.heap[k]?) (hva:wr'.ownsRow N e 1 va (n L[i]) (r L[i])) (hf:∀ g,va.ownBlock=some g->wr.heap.size<=g) :
 Ft cc e n r N L (i+1) (S va xs) wr':=by
 obtain⟨X,zs,A,rfl,j,E⟩:=h;have hl:X.length=i:=by have:=congrArg List.length A;simp at this;omega
 have d:(X.flatMap cc).length=i*s:=by rw[Lg hc,hl]
 have I:s<=zs.length:=by
  rw[Yn,d] at hx;have:(i+1)*s<=L.length*s:=Yg _ hi;rw[Zp] at this;omega
 obtain⟨zs',G⟩:=hS va _ zs d I;refine⟨X++[(L[i],va)],zs',?_,?_,fun x hx=>?_,Hb E (fun x hx b hb hb'=>?_)⟩
 ·rw[Yr,A,Ye hi];rfl
 ·rw[G,Zs];simp
 ·rcases Zm.1 hx with hx|hx
  ·exact own_other' (j x hx) (fun g hg=>hk g (Ol (j x hx) g hg) ((j x hx).lt g hg).2)
  obtain rfl:=Zv.1 hx;exact hva
 have J:=((j x hx).lt b hb).2;have h2:=hf b hb';omega
theorem Ft.all {α:Type}{cc:α×Value->List Value}{n:α->Nat}{r:α->List Value}{L:List α}{wr:World}(h:Ft cc e n r N L L.length xs wr)(hc:∀ x,(cc x).length=s)(hx:xs.length=L.length*s) :
 ∃ X:List (α×Value),X.map Prod.fst=L/\xs=X.flatMap cc/\(∀ x∈X,wr.ownsRow N e 1 x.2 (n x.1) (r x.1))/\X.Pairwise Nq:=by
 obtain⟨X,E,d,rfl,A,j⟩:=h;rw[Yk] at d;have hl:X.length=L.length:=by rw[<-d,Zy]
 rw[Yn,Lg hc,hl] at hx;obtain rfl:E=[]:=Jw (by omega);exact⟨X,d,List.append_nil _,A,j⟩
theorem Ec.sho (h:Ec w base v F):∀ g c,v=.slice (some ⟨g,0,none⟩) F.length c->∀ i (h:i<F.length) va,w.cell? ⟨g,i*3+1,none⟩=some va->NW va F[i].args.length:=by
 obtain⟨A,j,-⟩:=h.x leR;intro g c e i E va d;rw[j.at' g c e i (by rw[j.len];exact E)] at d;cases d;exact (j.rows i (by rw[j.len];exact E) E).1.sho
theorem K8.sho (h:K8 w base v T):∀ g c,v=.slice (some ⟨g,0,none⟩) T.length c->∀ i (h:i<T.length) va,w.cell? ⟨g,i*6+5,none⟩=some va->NW va T[i].kids.length:=by
 obtain⟨A,j,-⟩:=h.x leR;intro g c e i E va d;rw[j.at' g c e i (by rw[j.len];exact E)] at d;cases d;exact (j.rows i (by rw[j.len];exact E) E).1.sho
theorem NP {n:Nat}(h:w.ownsRow base e s v n xs):NW v n:=by
 rcases h.2 with⟨rfl,rfl⟩|⟨g,cap,d,rfl,_⟩
 ·exact .inl ⟨rfl,rfl⟩
 exact .inr ⟨g,cap,rfl⟩
theorem BankN.o (h:BankN w base us uf ut S F T):BankO w us uf ut S F T:=⟨h.at,NP h.s,h.f.sho,h.t.sho⟩
theorem CR (v:Value)(F:List Fn)(w:World)(h:X9 w v F)(hs:F.length<=1048576/\∀ f∈F,Qz f) :
 Calls prog 35 #[v] w fun e w'=>∃ v',e=.returned v'/\(∃ p c,v'=.slice p F.length c)/\Ec w' w.heap.size v' F/\Up w w':=by
 obtain⟨a,c,rfl,hc,d4,-,hA⟩:=h;unfold maxLen at d4;obtain⟨i0,b3,d6,d7,d8⟩:=Lr;have f8:=hs.1;have HA:=Hd hA;have d1:=Hd hs.2;clear hA hs
 go_in
 go_wp2_with (at_make;refine wpList_make_full _ rfl _ _ 28 rfl w.heap.size 45 i0 _ 3 underlying28 b3 d6 d7 .i64 .i64 _ _ F.length rfl rfl (by simp) (by simp) (by rw[d8];omega) (by unfold maxLen;omega) leR ?_)
 intro w1 G a8;have b8:Hid (Up w w1):=(Je _ _).grown a8 leR (fun k e=>by cases e);have c8:=Hd G;clear G a8
 go_wp2
 go_loopw [4] (fun iv wr=>∃ (i:Nat) (xs:List Value),i<=F.length/\iv=.int .i64 i/\Ft funC 9 (fun x=>x.args.length) (fun x=>strsC x.args) (w.heap.size+1) F i xs wr/\wr.ownsRow w.heap.size 45 3 (.slice (some ⟨w.heap.size,0,none⟩) F.length F.length) F.length xs/\Up w wr) (fun iv _=>F.length - (intOf iv).toNat)
 case atStart=>exact⟨0,_,Jr _,rfl,⟨[],_,rfl,rfl,(fun x hx=>by cases hx),List.Pairwise.nil⟩,c8.o,b8.o⟩
 obtain⟨i,xs,hi,rfl,A,j,K⟩:=hrel;have HB:=Hd K;have O:=Hd A;have Z:Hid (xs.length=F.length*3):=j.1;have HO:=Hd j;have U:Hid (w.heap.size<wr.heap.size):=(j.lt _ rfl).2
 by_cases E:i<F.length
 ·obtain⟨b,off,rfl,hb,hA⟩:∃ b off,a=some ⟨b,off,none⟩/\b<w.heap.size/\∀ i (h:i<F.length),w.cell? ⟨b,off+i*3,none⟩=some (.string (Oo F[i].name))/\(∃ va,w.cell? ⟨b,off+i*3+1,none⟩=some va/\E3 w va F[i].args)/\w.cell? ⟨b,off+i*3+2,none⟩=some (.string (Oo F[i].sort)):=by
   rcases HA.o with h|h
   ·rw[h] at E;exact absurd E (J2 _)
   exact h
  obtain⟨k0,⟨va,k1,b5⟩,k2⟩:=hA i E;rw[<-K.cell (p:=⟨b,off+i*3,none⟩) hb] at k0;rw[<-K.cell (p:=⟨b,off+i*3+1,none⟩) hb] at k1;rw[<-K.cell (p:=⟨b,off+i*3+2,none⟩) hb] at k2;have J:=Hd (b5.bl K);have Y:=Hd (d1.o _ (Jo E)).2.1;have V:=Hd (O.o.next E (s:=3) (fun _=>rfl) Z.o (fun va xs=>((xs.set (i*3) (.string (Oo F[i].name))).set (i*3+1) va).set (i*3+2) (.string (Oo F[i].sort))) (fun va l zs hl hz=>by
   rcases zs with _|⟨z0,_|⟨z1,_|⟨z2,zs⟩⟩⟩
   all_goals first|(simp at hz;done)|skip
   exact⟨zs,by simp only[Fa hl,show ∀ (q:Value) L,(l++L).set (i*3) q=l++L.set 0 q from fun q L=>Fa hl 0 q,J0,Jz];simp[funC]⟩))
  obtain⟨f,hf⟩:=Oa (F[i]);rw[hf] at k0 k2 J Y V;obtain⟨pa,ca,rfl,-,-,-,-⟩:=b5;rw[hf] at k1;rw[hf] at J;clear hf A j K hA
  go_wp2_with (go_at_call 17;refine (X7 f _ _ J.o Y.o).mono ?_;rintro e w2 ⟨g2,c2,rfl,b4,hb2⟩;have d:=Et HO.o hb2;have b9:=HB.up hb2;obtain⟨x0,e0⟩:=I5 d (i*3) (by omega);obtain⟨x1,e1⟩:=I5 d (i*3+1) (by omega);obtain⟨x2,e2⟩:=I5 d (i*3+2) (by omega);have g0:=d.frozenAt (i*3);have g1:=d.frozenAt (i*3+1);have e8:=d.frozenAt (i*3+2);have d0:=Hd d;have I:=Hd b4;have c6:=Hd hb2;clear hb2 d b4)
  have b6:=(((d0.o.stored (i*3) (.string (Oo f.name))).1.stored (i*3+1) (.slice (some ⟨g2,0,none⟩) f.args.length c2)).1.stored (i*3+2) (.string (Oo f.sort))).1;have d2:=Hd b6;have hh:∀ k,k≠w.heap.size->(((w2.setCell ⟨w.heap.size,i*3,none⟩ (.string (Oo f.name))).setCell ⟨w.heap.size,i*3+1,none⟩ (.slice (some ⟨g2,0,none⟩) f.args.length c2)).setCell ⟨w.heap.size,i*3+2,none⟩ (.string (Oo f.sort))).heap[k]? = w2.heap[k]? := fun k hk=>by rw[Jh _ ⟨w.heap.size,i*3+2,none⟩ _ _ hk,Jh _ ⟨w.heap.size,i*3+1,none⟩ _ _ hk,Jh _ ⟨w.heap.size,i*3,none⟩ _ _ hk]
  have M:=Hd hh;clear b6 hh
  go_roundw
  case rel=>
   refine⟨i+1,_,by omega,by go_num,V.o _ (.slice (some ⟨g2,0,none⟩) f.args.length c2) (fun k hk hk2=>(M.o k (by omega)).trans (c6.o.block k hk2)) ?_ (fun g hg=>Ol I.o g hg),d2.o,((b9.o.sc).sc).sc⟩;exact Kh (own_other' I.o (fun g hg=>M.o g (fun e=>by have:=Ol I.o g hg;have:=U.o;omega))) U.o
  simp[intOf];omega
 have d5:i=F.length:=by omega
 subst d5;clear j K A
 go_wp2
 go_ret
 obtain⟨X,hX,rfl,hr,hp⟩:=O.o.all (s:=3) (fun _=>rfl) Z.o;exact⟨_,rfl,⟨_,_,rfl⟩,⟨X,hX,HO.o,fun x hx=>Kh (hr x hx) (Y4 _),hp⟩,HB.o⟩
theorem QL (v:Value)(T:List Tm)(w:World)(h:Im w v T)(hs:T.length<=1048576/\∀ t∈T,F1 t) :
 Calls prog 36 #[v] w fun e w'=>∃ v',e=.returned v'/\(∃ p c,v'=.slice p T.length c)/\K8 w' w.heap.size v' T/\Up w w':=by
 obtain⟨a,c,rfl,hc,d3,-,hA⟩:=h;unfold maxLen at d3;obtain⟨i0,b3,d5,d6,d7⟩:=Rc;have g7:=hs.1;have HA:=Hd hA;have d0:=Hd hs.2;clear hA hs
 go_in
 go_wp2_with (at_make;refine wpList_make_full _ rfl _ _ 29 rfl w.heap.size 55 i0 _ 6 underlying29 b3 d5 d6 .i64 .i64 _ _ T.length rfl rfl (by simp) (by simp) (by rw[d7];omega) (by unfold maxLen;omega) leR ?_)
 intro w1 G a8;have b7:Hid (Up w w1):=(Je _ _).grown a8 leR (fun k e=>by cases e);have c6:=Hd G;clear G a8
 go_wp2
 go_loopw [4] (fun iv wr=>∃ (i:Nat) (xs:List Value),i<=T.length/\iv=.int .i64 i/\Ft Ho 3 (fun x=>x.kids.length) (fun x=>Nx x.kids) (w.heap.size+1) T i xs wr/\wr.ownsRow w.heap.size 55 6 (.slice (some ⟨w.heap.size,0,none⟩) T.length T.length) T.length xs/\Up w wr) (fun iv _=>T.length - (intOf iv).toNat)
 case atStart=>exact⟨0,_,Jr _,rfl,⟨[],_,rfl,rfl,(fun x hx=>by cases hx),List.Pairwise.nil⟩,c6.o,b7.o⟩
 obtain⟨i,xs,hi,rfl,A,j,I⟩:=hrel;have HB:=Hd I;have M:=Hd A;have Z:Hid (xs.length=T.length*6):=j.1;have HO:=Hd j;have O:Hid (w.heap.size<wr.heap.size):=(j.lt _ rfl).2
 by_cases E:i<T.length
 ·obtain⟨b,off,rfl,hb,hA⟩:∃ b off,a=some ⟨b,off,none⟩/\b<w.heap.size/\∀ i (h:i<T.length),w.cell? ⟨b,off+i*6,none⟩=some (.int .i64 T[i].op)/\w.cell? ⟨b,off+i*6+1,none⟩=some (.string (Oo T[i].sort))/\w.cell? ⟨b,off+i*6+2,none⟩=some (.string (Oo T[i].text))/\w.cell? ⟨b,off+i*6+3,none⟩=some (.int .i64 T[i].a)/\w.cell? ⟨b,off+i*6+4,none⟩=some (.int .i64 T[i].b)/\∃ va,w.cell? ⟨b,off+i*6+5,none⟩=some va/\G2 w va T[i].kids:=by
   rcases HA.o with h|h
   ·rw[h] at E;exact absurd E (J2 _)
   exact h
  obtain⟨k0,k1,k2,k3,k4,va,k5,b5⟩:=hA i E;rw[<-I.cell (p:=⟨b,off+i*6,none⟩) hb] at k0;rw[<-I.cell (p:=⟨b,off+i*6+1,none⟩) hb] at k1;rw[<-I.cell (p:=⟨b,off+i*6+2,none⟩) hb] at k2;rw[<-I.cell (p:=⟨b,off+i*6+3,none⟩) hb] at k3;rw[<-I.cell (p:=⟨b,off+i*6+4,none⟩) hb] at k4;rw[<-I.cell (p:=⟨b,off+i*6+5,none⟩) hb] at k5;have Y:=Hd (b5.bl I);have V:=Hd (d0.o _ (Jo E)).2.2;have U:=Hd (M.o.next E (s:=6) (fun _=>rfl) Z.o (fun va xs=>(((((xs.set (i*6) (.int .i64 T[i].op)).set (i*6+1) (.string (Oo T[i].sort))).set (i*6+2) (.string (Oo T[i].text))).set (i*6+3) (.int .i64 T[i].a)).set (i*6+4) (.int .i64 T[i].b)).set (i*6+5) va) (fun va l zs hl hz=>by
   rcases zs with _|⟨z0,_|⟨z1,_|⟨z2,_|⟨z3,_|⟨z4,_|⟨z5,zs⟩⟩⟩⟩⟩⟩
   all_goals first|(simp at hz;done)|skip
   exact⟨zs,by simp only[Fa hl,show ∀ (q:Value) L,(l++L).set (i*6) q=l++L.set 0 q from fun q L=>Fa hl 0 q,J0,Jz];simp[Ho]⟩))
  obtain⟨pa,ca,rfl,-,-,-⟩:=b5;obtain⟨t,ht⟩:=Oa (T[i]);rw[ht] at k0 k1 k2 k3 k4 k5 Y V U;clear ht A j I hA
  go_wp2_with (go_at_call 23;refine (EL t _ _ Y.o V.o).mono ?_;rintro e w2 ⟨g2,c2,rfl,b4,hb2⟩;have d:=Et HO.o hb2;have b8:=HB.up hb2;obtain⟨x0,e0⟩:=I5 d (i*6) (by omega);have f9:=d.frozenAt (i*6);obtain⟨x1,e1⟩:=I5 d (i*6+1) (by omega);have g0:=d.frozenAt (i*6+1);obtain⟨x2,e2⟩:=I5 d (i*6+2) (by omega);have g1:=d.frozenAt (i*6+2);obtain⟨x3,e3⟩:=I5 d (i*6+3) (by omega);have g3:=d.frozenAt (i*6+3);obtain⟨x4,e4⟩:=I5 d (i*6+4) (by omega);have g4:=d.frozenAt (i*6+4);obtain⟨x5,e5⟩:=I5 d (i*6+5) (by omega);have g5:=d.frozenAt (i*6+5);have c8:=Hd d;have J:=Hd b4;have b9:=Hd hb2;clear hb2 d b4)
  have b6:=((((((c8.o.stored (i*6) (.int .i64 t.op)).1.stored (i*6+1) (.string (Oo t.sort))).1.stored (i*6+2) (.string (Oo t.text))).1.stored (i*6+3) (.int .i64 t.a)).1.stored (i*6+4) (.int .i64 t.b)).1.stored (i*6+5) (.slice (some ⟨g2,0,none⟩) t.kids.length c2)).1;have d1:=Hd b6;have hh:∀ k,k≠w.heap.size->((((((w2.setCell ⟨w.heap.size,i*6,none⟩ (.int .i64 t.op)).setCell ⟨w.heap.size,i*6+1,none⟩ (.string (Oo t.sort))).setCell ⟨w.heap.size,i*6+2,none⟩ (.string (Oo t.text))).setCell ⟨w.heap.size,i*6+3,none⟩ (.int .i64 t.a)).setCell ⟨w.heap.size,i*6+4,none⟩ (.int .i64 t.b)).setCell ⟨w.heap.size,i*6+5,none⟩ (.slice (some ⟨g2,0,none⟩) t.kids.length c2)).heap[k]? = w2.heap[k]? := fun k hk=>by rw[Jh _ ⟨w.heap.size,i*6+5,none⟩ _ _ hk,Jh _ ⟨w.heap.size,i*6+4,none⟩ _ _ hk,Jh _ ⟨w.heap.size,i*6+3,none⟩ _ _ hk,Jh _ ⟨w.heap.size,i*6+2,none⟩ _ _ hk,Jh _ ⟨w.heap.size,i*6+1,none⟩ _ _ hk,Jh _ ⟨w.heap.size,i*6,none⟩ _ _ hk]
  have K:=Hd hh;clear b6 hh
  go_roundw
  case rel=>
   refine⟨i+1,_,by omega,by go_num,U.o _ (.slice (some ⟨g2,0,none⟩) t.kids.length c2) (fun k hk hk2=>(K.o k (by omega)).trans (b9.o.block k hk2)) ?_ (fun g hg=>Ol J.o g hg),d1.o,((((((b8.o.sc).sc).sc).sc).sc).sc)⟩;exact Kh (own_other' J.o (fun g hg=>K.o g (fun e=>by have:=Ol J.o g hg;have:=O.o;omega))) O.o
  simp[intOf];omega
 have d4:i=T.length:=by omega
 subst d4;clear j I A
 go_wp2
 go_ret
 obtain⟨X,hX,rfl,hr,hp⟩:=M.o.all (s:=6) (fun _=>rfl) Z.o;exact⟨_,rfl,⟨_,_,rfl⟩,⟨X,hX,HO.o,fun x hx=>Kh (hr x hx) (Y4 _),hp⟩,HB.o⟩
theorem Dd (w:World)(h:ArgBank w vs vf vt S F T)(hs:SmallB S F T) :
 Calls prog 8 #[.agg #[vs,vf,vt]] w fun e w'=>∃ p1 c1 p2 c2 p3 c3,e=.returned (.agg #[.slice (some p1) S.length c1,.slice p2 F.length c2,.slice p3 T.length c3])/\BankN w' w.heap.size (.slice (some p1) S.length c1) (.slice p2 F.length c2) (.slice p3 T.length c3) S F T/\(∃ A B,BankX w' w.heap.size w'.heap.size (.slice (some p1) S.length c1) (.slice p2 F.length c2) (.slice p3 T.length c3) S F T A B/\∀ b,PB (.slice (some p1) S.length c1) (.slice p2 F.length c2) (.slice p3 T.length c3) A B b->w.heap.size<=b)/\Up w w':=by
 obtain⟨a1,c1,e1,-,-,-,-⟩:=h.s;obtain⟨a2,c2,e2,-,-,-,-⟩:=h.f;obtain⟨a3,c3,e3,-,-,-,-⟩:=h.t;have HH:=Hd h;subst e1 e2 e3;clear h
 go_in
 go_wp2_with fail
 obtain⟨W3,g9,h0,x1,x2,x3,h1⟩:=GK w [.slice a1 S.length c1,.slice a2 F.length c2,.slice a3 T.length c3] [.slice none 0 0,.slice none 0 0,.slice none 0 0] [.slice none 0 0,.slice none 0 0,.slice none 0 0] 26 31 31;rw[g9];clear g9;have e7:=Hd h0;have g2:=Hd x1;have g3:=Hd x2;have g5:=Hd x3;have b7:=Hd h1;clear h0 x1 x2 x3 h1;refine (R9 _ S W3 (HH.o.bl e7.o).s hs.s).mono ?_;rintro e w4 ⟨G,c4,rfl,a8,M⟩;have i1:=e7.up M;have f8:=Hd a8;have U:=Hd (g2.o.bl g2.o.lt M);have E:=Hd (g3.o.bl g3.o.lt M);have d:=Hd (g5.o.bl g5.o.lt M);have j3:Hid (w.heap.size+1+1+1<=w4.heap.size):=by have:=M.size;have:=b7.o;unfold Hid;omega
 clear a8 M;obtain⟨b0,b1,b2⟩:=U.o.c3;have q0:=d.o.c3.1;have r0:=d.o.fz 0;obtain⟨W5,J⟩:=Oa (w4.setCell ⟨w.heap.size+1+1,0,none⟩ (.slice (some ⟨G,0,none⟩) S.length c4));have h5:∀ k,k≠w.heap.size+1+1->W5.heap[k]? = w4.heap[k]? := fun k hk=>by rw[<-J];exact Jh _ ⟨w.heap.size+1+1,0,none⟩ _ _ hk
 have d5:Hid (Bx W5 w.heap.size [.slice a1 S.length c1,.slice a2 F.length c2,.slice a3 T.length c3]):=by
  obtain⟨ty,I⟩:=U.o;exact⟨ty,(h5 _ (by omega)).trans I⟩
 have V:Hid (Bx W5 (w.heap.size+1) [.slice none 0 0,.slice none 0 0,.slice none 0 0]):=by
  obtain⟨ty,I⟩:=E.o;exact⟨ty,(h5 _ (by omega)).trans I⟩
 have Y:Hid (Bx W5 (w.heap.size+1+1) [.slice (some ⟨G,0,none⟩) S.length c4,.slice none 0 0,.slice none 0 0]):=by unfold Hid;rw[<-J];exact d.o.set 0 _
 have e8:Hid (Up w W5):=by unfold Hid;rw[<-J];exact i1.o.setCell (p:=⟨w.heap.size+1+1,0,none⟩) (by show _<=w.heap.size+1+1;omega) _
 have f9:Hid (W5.ownsRow W3.heap.size 9 1 (.slice (some ⟨G,0,none⟩) S.length c4) S.length (strsC S)):=own_other' f8.o (fun g hg=>h5 g (fun e=>by have:=Ol f8.o g hg;have:=b7.o;omega));have d4:Hid (w.heap.size+1+1+1<=W5.heap.size):=by have:=j3.o;unfold Hid;rw[<-J];simpa[World.setCell] using this
 have j7:=Hd J;clear J h5
 go_wp2_with fail
 clear b0 b1 b2 q0 r0;rw[j7.o];refine (CR _ F W5 (HH.o.bl e8.o).f hs.f).mono ?_;rintro e w6 ⟨uf,rfl,⟨p6,Z,rfl⟩,c8,j⟩;have i8:=Hd c8;have i6:=e8.up j;have l0:=Hd j;have U:=Hd (d5.o.bl d5.o.lt j);have E:=Hd (V.o.bl V.o.lt j);have d:=Hd (Y.o.bl Y.o.lt j);have g0:=Hd (Et f9.o j);have j4:Hid (w.heap.size+1+1+1<=w6.heap.size):=by have:=j.size;have:=d4.o;unfold Hid;omega
 clear c8 j;obtain⟨b0,b1,b2⟩:=U.o.c3;have q1:=d.o.c3.2.1;have r1:=d.o.fz 1;obtain⟨W7,K⟩:=Oa (w6.setCell ⟨w.heap.size+1+1,1,none⟩ (.slice p6 F.length Z));have h7:∀ k,k≠w.heap.size+1+1->W7.heap[k]? = w6.heap[k]? := fun k hk=>by rw[<-K];exact Jh _ ⟨w.heap.size+1+1,1,none⟩ _ _ hk
 have d5:Hid (Bx W7 w.heap.size [.slice a1 S.length c1,.slice a2 F.length c2,.slice a3 T.length c3]):=by
  obtain⟨ty,I⟩:=U.o;exact⟨ty,(h7 _ (by omega)).trans I⟩
 have V:Hid (Bx W7 (w.heap.size+1) [.slice none 0 0,.slice none 0 0,.slice none 0 0]):=by
  obtain⟨ty,I⟩:=E.o;exact⟨ty,(h7 _ (by omega)).trans I⟩
 have Y:Hid (Bx W7 (w.heap.size+1+1) [.slice (some ⟨G,0,none⟩) S.length c4,.slice p6 F.length Z,.slice none 0 0]):=by unfold Hid;rw[<-K];exact d.o.set 1 _
 have e9:Hid (Up w W7):=by unfold Hid;rw[<-K];exact i6.o.setCell (p:=⟨w.heap.size+1+1,1,none⟩) (by show _<=w.heap.size+1+1;omega) _
 have j2:Hid (W7.ownsRow W3.heap.size 9 1 (.slice (some ⟨G,0,none⟩) S.length c4) S.length (strsC S)):=own_other' g0.o (fun g hg=>h7 g (fun e=>by have:=Ol g0.o g hg;have:=b7.o;omega));have j5:Hid (w6.heap.size=W7.heap.size):=by unfold Hid;rw[<-K];simp[World.setCell]
 have j0:Hid (Ec W7 W5.heap.size (.slice p6 F.length Z) F):=i8.o.keep (fun g _ _ _ hg=>h7 g (by have:=d4.o;omega));have j8:=Hd K;clear K h7
 go_wp2_with fail
 clear b0 b1 b2 q1 r1;rw[j8.o];refine (QL _ T W7 (HH.o.bl e9.o).t hs.t).mono ?_;rintro e w8 ⟨ut,rfl,⟨p8,d8,rfl⟩,d3,O⟩;have j6:=Hd d3;have i7:=e9.up O;have b9:=Hd O;have E:=Hd (V.o.bl V.o.lt O);have d:=Hd (Y.o.bl Y.o.lt O);have g1:=Hd (Et j2.o O);clear d3 O;obtain⟨d0,d1,d2⟩:=E.o.c3;obtain⟨q0,q1,q2⟩:=d.o.c3;obtain⟨f0,f1,f2⟩:=E.o.f3;have r2:=d.o.fz 2
 go_wp2_with fail
 clear d0 d1 d2 q0 q1 q2 f0 f1 f2 r2;have k7:w.heap.size+1≠w.heap.size+1+1:=by omega
 have hA:Bx (w8.setCell ⟨w.heap.size+1+1,2,none⟩ (.slice p8 T.length d8)) (w.heap.size+1) [.slice none 0 0,.slice none 0 0,.slice none 0 0]:=by
  obtain⟨ty,I⟩:=E.o;refine⟨ty,?_⟩;rw[Jh _ ⟨w.heap.size+1+1,2,none⟩ _ _ k7];exact I
 have hE:=((hA.set 0 (.slice (some ⟨G,0,none⟩) S.length c4)).set 1 (.slice p6 F.length Z)).set 2 (.slice p8 T.length d8);have d7:=(((i7.o.setCell (p:=⟨w.heap.size+1+1,2,none⟩) (by show _<=w.heap.size+1+1;omega) (.slice p8 T.length d8)).setCell (p:=⟨w.heap.size+1,0,none⟩) (by show _<=w.heap.size+1;omega) (.slice (some ⟨G,0,none⟩) S.length c4)).setCell (p:=⟨w.heap.size+1,1,none⟩) (by show _<=w.heap.size+1;omega) (.slice p6 F.length Z)).setCell (p:=⟨w.heap.size+1,2,none⟩) (by show _<=w.heap.size+1;omega) (.slice p8 T.length d8);generalize e6:(((w8.setCell ⟨w.heap.size+1+1,2,none⟩ (.slice p8 T.length d8)).setCell ⟨w.heap.size+1,0,none⟩ (.slice (some ⟨G,0,none⟩) S.length c4)).setCell ⟨w.heap.size+1,1,none⟩ (.slice p6 F.length Z)).setCell ⟨w.heap.size+1,2,none⟩ (.slice p8 T.length d8)=WE at hE d7 ⊢;have I:∀ k,k≠w.heap.size+1->k≠w.heap.size+1+1->WE.heap[k]? = w8.heap[k]? := fun k hk hk2=>by rw[<-e6,Jh _ ⟨w.heap.size+1,2,none⟩ _ _ hk,Jh _ ⟨w.heap.size+1,1,none⟩ _ _ hk,Jh _ ⟨w.heap.size+1,0,none⟩ _ _ hk,Jh _ ⟨w.heap.size+1+1,2,none⟩ _ _ hk2]
 have n0:WE.heap.size=w8.heap.size:=by rw[<-e6];simp[World.setCell]
 have m7:=d4.o;have m8:=j4.o;have m9:=j5.o;have l2:=b9.o.size;have m6:=b7.o;have e4:WE.ownsRow W3.heap.size 9 1 (.slice (some ⟨G,0,none⟩) S.length c4) S.length (strsC S):=own_other' g1.o (fun g hg=>by
  have:=Ol g1.o g hg;exact I g (by omega) (by omega))
 have d9:Ec WE W5.heap.size (.slice p6 F.length Z) F:=j0.o.keep (fun g _ _ hc hg=>by
  rw[I g (by omega) (by omega)];exact b9.o.block g (by rcases hc with hc|hc<;>exact (Jv.1 hc).1))
 have e5:K8 WE W7.heap.size (.slice p8 T.length d8) T:=j6.o.keep (fun g _ _ _ hg=>I g (by omega) (by omega));have g7:BankN WE w.heap.size (.slice (some ⟨G,0,none⟩) S.length c4) (.slice p6 F.length Z) (.slice p8 T.length d8) S F T:=⟨Kh e4 (by omega),d9.lower (by omega),e5.lower (by omega)⟩;have g8:∃ A B,BankX WE w.heap.size WE.heap.size (.slice (some ⟨G,0,none⟩) S.length c4) (.slice p6 F.length Z) (.slice p8 T.length d8) S F T A B/\∀ b,PB (.slice (some ⟨G,0,none⟩) S.length c4) (.slice p6 F.length Z) (.slice p8 T.length d8) A B b->w.heap.size<=b:=by
  have k1:=(f9.o.lt G rfl).2;exact Wz e4 d9 e5 (by omega) (by omega) (by omega) (fun b hb=>by cases hb;exact k1)
 obtain⟨e0,e1,e2⟩:=hE.c3;refine Jg (v:=.agg #[.slice (some ⟨G,0,none⟩) S.length c4,.slice p6 F.length Z,.slice p8 T.length d8]) ?_ rfl ⟨_,_,_,_,_,_,rfl,g7,g8,d7⟩;clear hA hE d7 g7 g8 e4 d9 e5 I e6;simp[results,results8,go_sem,e0,e1,e2]
end Go.Proofs.YtdmdmgfjpomdbaaGreatDoor
