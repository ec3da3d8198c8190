import Derived.Test.YtjjgilacnocigaaGreatDoorP25
import Derived.Deep.AppendLies
set_option maxRecDepth 100000
namespace Go.Proofs.YtjjgilacnocigaaGreatDoor
open ChangeShapes WideShapes ChangeAt RowKit Proofs.Tryz
open Q (Kh)
variable {W W' w:World}{base g n:Nat}{e:TypeId}{v:Value}
theorem XG {B:Nat}{l:List Nat}(h:Q.Kn B W v l)(hs:W.heap.size<=W'.heap.size)(hk:∀ b,b<W.heap.size->W'.heap[b]? = W.heap[b]? ∨ Kh W b):Q.Kn B W' v l:=by
 obtain⟨a,cap,e,I,J,h3,h4⟩:=h;refine⟨a,cap,e,I,J,h3,?_⟩
 rcases h4 with h4|⟨b,j,H,D,d,G⟩
 ·exact .inl h4
 by_cases F:l=[]
 ·exact .inl F
 have hl:0<l.length:=Zz.2 F
 rcases hk b d with E|E
 ·exact .inr ⟨b,j,H,D,Js d hs,fun i hi=>(Zg (a:=⟨b,j+i,none⟩) E).trans (G i hi)⟩
 exact absurd (G 0 hl) (E _ _)
theorem C8 {B:Nat}{z:Value}{x:Int}(h:Q.N8 B W z x n)(hs:W.heap.size<=W'.heap.size)(hk:∀ b,b<W.heap.size->W'.heap[b]? = W.heap[b]? ∨ Kh W b):Q.N8 B W' z x n:=by
 obtain⟨neg,v,t,e,d,r⟩:=h;exact⟨neg,v,t,e,XG d hs hk,r⟩
theorem PV.kept {k:SK}{s:ByteArray}(h:PV k W v s)(hs:W.heap.size<=W'.heap.size)(hk:∀ b,b<W.heap.size->W'.heap[b]? = W.heap[b]? ∨ Kh W b):PV k W' v s:=by
 obtain⟨F,d⟩:=h;refine⟨F,?_⟩
 by_cases j:k.kind=1
 ·rw[if_pos j] at d ⊢;exact d
 rw[if_neg j] at d ⊢
 by_cases k2:k.kind=2
 ·rw[if_pos k2] at d ⊢;obtain⟨z,e,H⟩:=d;exact⟨z,e,C8 H hs hk⟩
 rw[if_neg k2] at d ⊢
 by_cases k3:k.kind=3
 ·rw[if_pos k3] at d ⊢;obtain⟨z,m,x,y,e,D,E,I,K,J,v2,rfl,ha,G⟩:=d;exact⟨_,m,x,y,e,D,E,I,K,J,v2,rfl,C8 ha hs hk,C8 G hs hk⟩
 rw[if_neg k3] at d ⊢;exact d
theorem PV.form {k:SK}{s:ByteArray}(h:PV k W v s):∃ t x,v=.iface t x:=by
 obtain⟨_,d⟩:=h
 by_cases j:k.kind=1
 ·rw[if_pos j] at d;exact⟨_,_,d⟩
 rw[if_neg j] at d
 by_cases k2:k.kind=2
 ·rw[if_pos k2] at d;obtain⟨z,e,_⟩:=d;exact⟨_,_,e⟩
 rw[if_neg k2] at d
 by_cases k3:k.kind=3
 ·rw[if_pos k3] at d;obtain⟨z,m,x,y,e,_⟩:=d;exact⟨_,_,e⟩
 rw[if_neg k3] at d
 by_cases k4:k.kind=4
 ·rw[if_pos k4] at d;exact⟨_,_,d⟩
 rw[if_neg k4] at d;exact⟨_,_,d⟩
theorem G5 {cur:Array Value}{fz:Nat×Nat}(h:w.heap[g]? = some (.cells cur e fz))(hc:∀ u∈cur.toList,∀ x,u≠.int .u32 x):Kh w g:=fun i x=>by
 rw[cell_of_row w g i cur e fz h]
 intro d
 exact hc _ (by rw[<-Array.getElem?_toList] at d;exact Ug d) x rfl
theorem Nm {cur:Array Value}{fz:Nat×Nat}(h:w.heap[g]? = some (.cells cur e fz))(hn:Kh w g):∀ u∈cur.toList,∀ x,u≠.int .u32 x:=fun u hu x hx=>by
 obtain⟨i,d,rfl⟩:=Ym hu
 refine hn i x ?_
 rw[cell_of_row w g i cur e fz h,<-Array.getElem?_toList,Jl d,hx]
theorem G0:∃ i:TypeInfo,prog.info? 79=some i/\i.zero=some (.agg #[.nilIface,.nilIface])/\i.size=2/\i.bytes=32:=⟨_,rfl,rfl,rfl,rfl⟩
theorem Ha (n:Nat):∀ u∈(Builtin.zeroCells (Value.cells (.agg #[.nilIface,.nilIface])) n).toList,∀ x,u≠.int .u32 x:=by
 intro u d x E;subst E;simp[Builtin.zeroCells,Value.cells] at d;obtain⟨a,_,h⟩:=d;have j:=Zy a (show 0<2 by decide);generalize a % 2=k at h j;have D:k=0∨k=1:=by omega
 rcases D with rfl|rfl<;>simp at h
theorem GM {w':World}{cap:Nat}{xs:List Value}(hown:w.ownsRow base 79 2 v n xs)(hno:∀ g,v.ownBlock=some g->Kh w g)(ty:TypeId)(a:Addr)(news:List Value)(hl:news.length=1*2)(hnews:∀ j u,news[j]? = some u->w.cell? (a.add j)=some u)(h1:∀ u∈news,u.oneCell'=true)(hnn:∀ u∈news,∀ x,u≠.int .u32 x)(hn:n<=1000000000)
 (hr:(Builtin.append_ #[48,48] ty #[v,.slice (some a) 1 1]).run prog w=.ok (.slice (some ⟨g,0,none⟩) (n+1) cap) w'):Kh w' g:=by
 obtain⟨i0,D,O,E,T⟩:=G0
 rcases hown.2 with⟨rfl,rfl⟩|⟨F,d,cur,rfl,V,K,Z,Y,U,I⟩
 ·have h:=run_append_nil (P:=prog) w 48 ty 79 i0 _ underlying48 D O a 1 1 news (by rw[E];exact hl) hnews (by decide) (by decide) (by rw[T];decide);rw[h] at hr;simp only[Result.ok.injEq,Value.slice.injEq,Option.some.injEq,Addr.mk.injEq,and_true] at hr;obtain⟨⟨rfl,-⟩,rfl⟩:=hr;refine G5 (heap_alloc_new w.drew _) ?_;intro u hu x;rw[Zr,J5] at hu
  rcases hu with hu|hu
  ·exact hnn u (by simpa using hu) x
  exact Ha _ u hu x
 have hx:∀ u∈xs,∀ x,u≠.int .u32 x:=fun u hu=>Nm K (hno F rfl) u (by rw[<-I] at hu;exact Ya hu)
 by_cases H:n+1<=d
 ·have J:n*i0.size+news.length<=cur.size:=by rw[E,hl,U];omega
  have h:=run_append_room (P:=prog) w 48 ty 79 i0 underlying48 D F n d cur K a 1 1 news (by rw[E];exact hl) hnews h1 H J;rw[h] at hr;simp only[Result.ok.injEq,Value.slice.injEq,Option.some.injEq,Addr.mk.injEq,and_true] at hr;obtain⟨⟨rfl,-⟩,rfl⟩:=hr;refine G5 (setRow_heap w F cur _ _ _ K) ?_;intro u hu x;simp only[J5] at hu
  rcases hu with (hu|hu)|hu
  ·exact Nm K (hno F rfl) u (Ya hu) x
  ·exact hnn u hu x
  exact Nm K (hno F rfl) u (Yp hu) x
 have G:∀ j u,xs[j]? = some u->w.cell? ((⟨F,0,none⟩:Addr).add j)=some u:=hown.cells (g:=F) rfl;have h:=run_append_grow (P:=prog) w 48 ty 79 i0 _ underlying48 D O ⟨F,0,none⟩ n d xs (by rw[E];exact hown.1) G a 1 1 news (by rw[E];exact hl) hnews (by omega) (by omega) (growslice_fits (by omega) (by rw[T];omega));rw[h] at hr;simp only[Result.ok.injEq,Value.slice.injEq,Option.some.injEq,Addr.mk.injEq,and_true] at hr;obtain⟨⟨rfl,-⟩,rfl⟩:=hr;refine G5 (heap_alloc_new w.drew _) ?_;intro u hu x;simp only[Zr,J5] at hu
 rcases hu with (hu|hu)|hu
 ·exact hx u (by simpa using hu) x
 ·exact hnn u (by simpa using hu) x
 exact Ha _ u hu x
theorem F9 (h:Kh W g)(hg:g<W.heap.size)(hb:Up W W'):Kh W' g:=fun i x=>by
 rw[hb.cell (p:=⟨g,i,none⟩) hg]
 exact h i x
structure ERow (ki ke:SK)(base:Nat)(W:World)(v:Value)(L:List Kd):Prop where
 ex:∃ xs,W.ownsRow base 79 2 v L.length xs/\∀ i (_:i<L.length),∃ x y,xs[i*2]? = some x/\xs[i*2+1]? = some y/\PV ki W x L[i].1/\PV ke W y L[i].2
 no:∀ g,v.ownBlock=some g->Kh W g
theorem ERow.nil (ki ke:SK)(base:Nat)(W:World):ERow ki ke base W (.slice none 0 0) []:=⟨⟨[],Vi _ _ _ _,fun _ hi=>absurd hi (Ve _)⟩,fun _ h=>by cases h⟩
theorem ET {xs:List Value}{sz:Nat}(h:W.ownsRow base e sz v n xs)(hb:Up W W'):W'.ownsRow base e sz v n xs:=
 h.kept (row:=none) ⟨hb.os,hb.tape,hb.output,hb.size,fun k hk _=>hb.block k hk⟩ (by cases v.ownBlock<;>simp)
theorem ERow.bl {ki ke:SK}{L:List Kd}(h:ERow ki ke base W v L)(hb:Up W W'):ERow ki ke base W' v L:=by
 obtain⟨xs,d,G⟩:=h.ex;refine⟨⟨xs,ET d hb,fun i hi=>?_⟩,fun g hg=>F9 (h.no g hg) (d.lt g hg).2 hb⟩;obtain⟨x,y,j,D,E,F⟩:=G i hi;exact⟨x,y,j,D,E.next hb,F.next hb⟩
theorem ERow.form {ki ke:SK}{L:List Kd}(h:ERow ki ke base W v L):∃ p c,v=.slice p L.length c:=by
 obtain⟨xs,d,_⟩:=h.ex
 rcases d.2 with⟨rfl,e⟩|⟨g,cap,cur,rfl,_⟩
 ·exact⟨none,0,by rw[e]⟩
 exact⟨_,_,rfl⟩
theorem ERow.at {ki ke:SK}{L:List Kd}(h:ERow ki ke base W v L):Ex ki ke W v L:=by
 obtain⟨xs,F,K⟩:=h.ex;have d:=F
 rcases F.2 with⟨rfl,e⟩|⟨g,cap,cur,rfl,O,U,D,j,T,E⟩
 ·exact⟨none,0,by rw[e],by omega,by unfold maxLen;omega,.inl (Jo e)⟩
 refine⟨_,_,rfl,D,j,.inr ⟨g,rfl,(d.lt g rfl).2,fun i hi=>?_⟩⟩;obtain⟨x,y,G,H,I,J⟩:=K i hi;refine⟨x,y,?_,?_,I,J⟩
 ·rw[d.cellAt (i*2) (by omega)];exact G
 rw[d.cellAt (i*2+1) (by omega)];exact H
theorem Ln {ops:Array Oper}{rest:List Oper}{o:Oper}{a:Act}{Q:Exit->Act->World->Prop}{W:World}{ki ke:SK}{base:Nat}{v:Value}{L:List Kd}(hgd:o.guard=none)(s y:Operand)
 (ho:o.op=.call { callee:=.builtin .append,args:=#[s,y],argTypes:=#[48,48] }) (hs:a.eval s=v) (hown:ERow ki ke base W v L) {x1 x2:Value} {f:Kd} (hz1:PV ki W x1 f.1) (hz2:PV ke W x2 f.2)
 (H:Nat) (hx:a.eval y=.slice (some ⟨H,0,none⟩) 1 1) (hH:W.heap.size=H) (n:Nat) (hnl:L.length=n) (hn:n<=1000000) (hbase:base<=W.heap.size)
 (h:∀ g cap W',ERow ki ke base W' (.slice (some ⟨g,0,none⟩) (n+1) cap) (L++[f])->W.grownBy W' v.ownBlock->wpList prog ops Q rest (a.put o.dst (.slice (some ⟨g,0,none⟩) (n+1) cap)) W') :
 wpList prog ops Q (o::rest) a (W.alloc (.cells #[x1,x2] 79)):=by
 subst hH;subst hnl;obtain⟨i0,K,b3,U,V⟩:=G0;obtain⟨xs,Y,h2⟩:=hown.ex;obtain⟨t1,D,rfl⟩:=hz1.form;obtain⟨t2,E,rfl⟩:=hz2.form;have I:∀ u∈[Value.iface t1 D,Value.iface t2 E],u.oneCell'=true:=by simp[Value.oneCell']
 have a7:∀ u∈[Value.iface t1 D,Value.iface t2 E],∀ x,u≠.int .u32 x:=by intro u hu x;simp at hu;rcases hu with rfl|rfl<;>simp
 have d:∀ j u,[Value.iface t1 D,Value.iface t2 E][j]? = some u->(W.alloc (.cells #[.iface t1 D,.iface t2 E] 79)).cell? ((⟨W.heap.size,0,none⟩:Addr).add j)=some u:=fun j u hj=>
  World.news_of_block (cs:=#[.iface t1 D,.iface t2 E]) (t:=79) (fr:=(0,0)) (heap_alloc_new W _) j u (by simpa using hj)
 have Z:=Oo W (.cells #[.iface t1 D,.iface t2 E] 79);refine wpList_plain hgd fun _ hK=>?_;obtain⟨g,cap,W',hr,k1,k2,k3,k4⟩:=run_append_lies (P:=prog) (W.alloc (.cells #[.iface t1 D,.iface t2 E] 79)) 48 o.type base 79 i0 _ 2 32 underlying48 K b3 U V rfl (by decide) v L.length xs (Y.alloc _) ⟨W.heap.size,0,none⟩ 1 1 [.iface t1 D,.iface t2 E] (by rfl) d I (by decide) (by unfold maxLen;omega) (by omega) (by simp;omega) _ rfl;have a8:=GM (Y.alloc _) (fun g hg=>F9 (hown.no g hg) (Y.lt g hg).2 Z) o.type ⟨W.heap.size,0,none⟩ [.iface t1 D,.iface t2 E] (by rfl) d I a7 (by omega) hr;have J:W.grownBy W' v.ownBlock:=(World.grownBy_alloc W _ v.ownBlock).trans k2;have G:W.heap.size<=W'.heap.size:=J.size;have F:∀ b,b<W.heap.size->W'.heap[b]? = W.heap[b]? ∨ Kh W b:=fun b hb=>by
  by_cases O:v.ownBlock=some b
  ·exact .inr (hown.no b O)
  exact .inl (J.block b hb (fun e=>O e.symm))
 unfold Oper.wp execOp;simp only[ho,resolve,invoke,builtin,Sem.run_bind,Sem.run_pure,Result.andThen_ok,Uq,Vc,Vs,hs,hx,hr];refine hK _ _ (h g cap W' ⟨⟨xs++[.iface t1 D,.iface t2 E],by rw[Jq];exact k1,fun i hi=>?_⟩,fun g' hg'=>by cases hg';exact a8⟩ J);have T:xs.length=L.length*2:=Y.1;rw[Jq] at hi
 by_cases e:i<L.length
 ·obtain⟨x,y,e1,e2,e3,e4⟩:=h2 i e;refine⟨x,y,?_,?_,?_,?_⟩
  ·rw[Zk (by omega)];exact e1
  ·rw[Zk (by omega)];exact e2
  ·rw[Vy e];exact e3.kept G F
  rw[Vy e];exact e4.kept G F
 have a6:i=L.length:=by simp at hi;omega
 subst a6;refine⟨.iface t1 D,.iface t2 E,?_,?_,?_,?_⟩
 ·rw[Zp (by omega),T];simp
 ·rw[Zp (by omega),T,show L.length*2+1 - L.length*2=1 by omega];rfl
 ·rw[Vx O1];simp only[V9,J0];exact hz1.kept G F
 rw[Vx O1];simp only[V9,J0];exact hz2.kept G F
end Go.Proofs.YtjjgilacnocigaaGreatDoor
namespace Go.Proofs.YtjjgilacnocigaaGreatDoor
open RowKit
variable {T2 r:ByteArray}
def P7 (e:Kd):ByteArray:=Q.Kq (e.1.data.toList++61::e.2.data.toList)
theorem Do (r:ByteArray):∀ L:List Kd,H7 (r::L.map P7)=Hu r L
 | []=>by simp[H7,Hu]
 | e::L=>by
   have d:=Do (P7 e) L
   show r.data.toList++59::H7 (P7 e::L.map P7)=_
   rw[d]
   simp[Hu,Ie,P7,Q.Kq]
def CB (p:ByteArray):Prop:=∀ c∈p.data.toList,c≠59
theorem Sc:∀ {P R:List ByteArray},P≠[]->R≠[]->(∀ p∈P,CB p)->(∀ p∈R,CB p)->H7 P=H7 R->P=R
 | [],_,h,_,_,_,_=>absurd rfl h
 | _,[],_,h,_,_,_=>absurd rfl h
 | [p],[q],_,_,_,_,h=>by rw[Kz (show p.data.toList=q.data.toList from h)]
 | [p],q::q2::r,_,_,hp,_,h=>by
   have d:p.data.toList=q.data.toList++59::H7 (q2::r):=h
   exact absurd rfl (hp p (by simp) 59 (by rw[d];simp))
 | p::p2::l,[q],_,_,_,hq,h=>by
   have d:p.data.toList++59::H7 (p2::l)=q.data.toList:=h
   exact absurd rfl (hq q (by simp) 59 (by rw[<-d];simp))
 | p::p2::l,q::q2::r,_,_,hp,hq,h=>by
   have d:p.data.toList++59::H7 (p2::l)=q.data.toList++59::H7 (q2::r):=h
   obtain⟨j,D⟩:=Hz (hp p (by simp)) (hq q (by simp)) d
   rw[Kz j,Sc (by simp) (by simp) (fun x hx=>hp x (by simp[hx])) (fun x hx=>hq x (by simp[hx])) D]
theorem MX {e:Kd}{ki ke:SK}(h1:Kg ki e.1)(h2:Kg ke e.2):CB (P7 e):=by
 intro c j;have d:c∈e.1.data.toList++61::e.2.data.toList:=j
 rcases J5.1 d with h|h
 ·exact (Gt h1 c h).1
 rcases Yn.1 h with rfl|h
 ·decide
 exact (Gt h2 c h).1
theorem TU {t T1:ByteArray}(h1:t.data.toList.take 1=[123])(e1:T1.data.toList=t.data.toList.drop 1)(h2:T1.data.toList.getLast? = some 125)(e2:T2.data.toList=T1.data.toList.dropLast):t.data.toList=123::(T2.data.toList++[125]):=by
 have a:T1.data.toList=T2.data.toList++[125]:=by
  rw[e2];have d:T1.data.toList≠[]:=by intro e;rw[e] at h2;cases h2
  rw[List.getLast?_eq_some_getLast d] at h2;have:=Zu d;rw[Option.some.inj h2] at this;exact this.symm
 rw[<-J9 1 t.data.toList,h1,<-e1,a];rfl
theorem Me {t:ByteArray}{L:List Kd}(h:t.data.toList=E8 r L):t.data.toList.take 1=[123]/\(t.data.toList.drop 1).getLast? = some 125:=by
 rw[h];unfold E8;exact⟨rfl,by simp⟩
structure RdS (ki ke:SK)(r:ByteArray)(ps:List ByteArray)(L:List Kd):Prop where
 parts:ps.take L.length=L.map P7
 len:L.length<=ps.length
 srt:SrtA ki ke r L
theorem RdS.zero (ki ke:SK)(r:ByteArray)(ps:List ByteArray):RdS ki ke r ps []:=⟨rfl,J7 _,⟨fun _ h=>(by cases h),List.Pairwise.nil⟩⟩
theorem FJ {ki ke:SK}{i s:ByteArray}{L:List Kd}(h:SrtA ki ke r L)(hi:Kg ki i)(hs:Kg ke s)(he:OY ki r L i s):SrtA ki ke r (L++[(i,s)]):=by
 constructor
 ·intro e hm
  rcases J5.1 hm with hm|hm
  ·exact h.ents e hm
  rcases Ye.1 hm with rfl
  exact⟨hi,hs,he.2.1,he.1⟩
 rw[V4];refine⟨h.sort,by simp,fun a ha b hb=>?_⟩
 rcases Ye.1 hb with rfl
 obtain⟨k,d,rfl⟩:=Ym ha;have hl:=he.2.2 L[L.length - 1] (by rw[Uc,Jl (by omega)]);have:=Mv h.sort d (show L.length - 1<L.length by omega) (by omega)
 show key ki L[k].1<key ki i
 omega
theorem RdS.more {ki ke:SK}{i s:ByteArray}{ps:List ByteArray}{L:List Kd}(h:RdS ki ke r ps L)(hj:L.length<ps.length)(hE:PU ki ke (ps[L.length]).data.toList i s)(he:OY ki r L i s):RdS ki ke r ps (L++[(i,s)]):=by
 refine⟨?_,by simp;omega,FJ h.srt hE.2.1 hE.2.2 he⟩;rw[Jq,Vk,Jt hj,h.parts,Zc]
 congr 1
 simp only[Vc,Vs,List.cons.injEq,and_true];exact Kz hE.1
theorem GB {ki ke:SK}{t:ByteArray}{P:List ByteArray}(ht:t.data.toList=123::(T2.data.toList++[125]))(hP:H7 P=T2.data.toList)(hne:P≠[])(hno:∀ p∈P,CB p){L:List Kd}(h:K1 ki ke t r L):P=r::L.map P7:=by
 have e:Hu r L=T2.data.toList:=by
  have:=h.1.symm.trans ht;unfold E8 at this;simp only[List.cons.injEq,true_and] at this;exact List.append_cancel_right this
 refine Sc hne (by simp) hno (fun p hp=>?_) (by rw[hP,Do,e])
 rcases Yn.1 hp with rfl|hp
 ·exact fun c hc=>(Gt h.2.2.rest c hc).1
 obtain⟨e,d,rfl⟩:=Z5.1 hp;exact MX (h.2.2.ents e d).1 (h.2.2.ents e d).2.1
theorem PI {ki ke:SK}{t:ByteArray}{ps:List ByteArray}{L:List Kd}(ht:t.data.toList=123::(T2.data.toList++[125]))(hP:H7 (r::ps)=T2.data.toList)(h:RdS ki ke r ps L)(hl:L.length=ps.length)(hr:Kg ke r)(hs:t.size<=2000)(h60:ps.length<=60):K1 ki ke t r L:=by
 have e:ps=L.map P7:=by
  have:=h.parts;rw[Jf (by omega)] at this;exact this
 refine⟨?_,hs,hr,by omega,h.srt.ents,h.srt.sort⟩;rw[ht,<-hP,e,Do];rfl
theorem YE {ki:SK}{e f:Kd}(h1:Kg ki e.1)(h2:Kg ki f.1)(h:P7 e=P7 f):e=f:=by
 have d:e.1.data.toList++61::e.2.data.toList=f.1.data.toList++61::f.2.data.toList:=congrArg (fun x=>x.data.toList) h;obtain⟨a,b⟩:=Hz (fun x hx=>(Gt h1 x hx).2) (fun x hx=>(Gt h2 x hx).2) d;exact Prod.ext (Kz a) (Kz b)
theorem RdS.same {ki ke:SK}{q:ByteArray}{ps:List ByteArray}{L M:List Kd}(h:RdS ki ke r ps L)(hM:GoodA ki ke q M)(hp:ps=M.map P7):L=M.take L.length:=by
 have d:=h.parts;rw[hp,<-List.map_take] at d;have j:L.length<=M.length:=by have:=h.len;rw[hp,Yq] at this;exact this
 refine List.ext_getElem (by rw[Jm];omega) fun k h2 h3=>?_;have h4:=congrArg (fun l=>l[k]?) d;simp only[Zh] at h4;rw[Jl h2,Jl h3] at h4;simp only[Option.map_some,Option.some.injEq] at h4;have hm:(M.take L.length)[k]∈M:=Ya (Yl h3);exact (YE (ki:=ki) (hM.ents _ hm).1 (h.srt.ents _ (Yl h2)).1 h4).symm
theorem RdS.next_of {ki ke:SK}{q:ByteArray}{ps:List ByteArray}{L M:List Kd}(h:RdS ki ke r ps L)(hj:L.length<ps.length)(hM:GoodA ki ke q M)(hp:ps=M.map P7)(hq:q=r):∃ i s,PU ki ke (ps[L.length]).data.toList i s/\OY ki r L i s:=by
 have j:L.length<M.length:=by rw[hp,Yq] at hj;exact hj
 have d:=h.same hM hp;obtain⟨D,E,h3,h4⟩:=hM.ents _ (Yl j);refine⟨M[L.length].1,M[L.length].2,⟨?_,D,E⟩,h4,by rw[<-hq];exact h3,fun e he=>?_⟩
 ·have:ps[L.length]=P7 M[L.length]:=by simp[hp]
  rw[this];rfl
 have hm:e∈L:=List.mem_of_getLast? he;rw[d] at hm;obtain⟨k,F,rfl⟩:=Ym hm;rw[Zn];rw[Jm] at F;exact Zl.1 hM.sort k L.length (by omega) j (by omega)
end Go.Proofs.YtjjgilacnocigaaGreatDoor
namespace Go.Proofs.YtjjgilacnocigaaGreatDoor
open ChangeShapes WideShapes ChangeAt RowKit
open Q (Kh)
variable {W W' W4:World}{g:Nat}{r:ByteArray}{v x:Value}
def GF (ki ke:SK)(t:ByteArray)(w w':World)(e:Ending):Prop:=∃ x v ok,e=.returned (.tuple #[.agg #[x,v],.bool ok])/\MY x/\(∃ p n c,v=.slice p n c)/\(ok=true->∃ r L,K1 ki ke t r L/\PV ke w' x r/\Ex ki ke w' v L)/\(ok=false->¬ ∃ r L,K1 ki ke t r L)/\Up w w'
theorem GF.no {ki ke:SK}{t:ByteArray}{w w':World}(h:¬ ∃ r L,K1 ki ke t r L)(hb:Up w w'):GF ki ke t w w' (.returned (.tuple #[.agg #[.nilIface,.slice none 0 0],.bool false])):=⟨_,_,false,rfl,.inl rfl,⟨_,_,_,rfl⟩,fun e=>(by cases e),fun _=>h,hb⟩
theorem ERow.kept {ki ke:SK}{base:Nat}{L:List Kd}(h:ERow ki ke base W v L)(hs:W.heap.size<=W'.heap.size)(hk:∀ b,b<W.heap.size->W'.heap[b]? = W.heap[b]? ∨ (Kh W b/\v.ownBlock≠some b)):ERow ki ke base W' v L:=by
 obtain⟨xs,d,J⟩:=h.ex;have D:∀ b,b<W.heap.size->W'.heap[b]? = W.heap[b]? ∨ Kh W b:=fun b hb=>(hk b hb).imp id (fun h=>h.1);have j:∀ g,v.ownBlock=some g->W'.heap[g]? = W.heap[g]? := fun g hg=>by
  rcases hk g (d.lt g hg).2 with h|h
  ·exact h
  exact absurd hg h.2
 refine⟨⟨xs,⟨d.1,?_⟩,fun i hi=>?_⟩,fun g hg=>?_⟩
 ·rcases d.2 with I|⟨g,cap,cur,rfl,K,k2,k3⟩
  ·exact .inl I
  exact .inr ⟨g,cap,cur,rfl,K,(j g rfl).trans k2,k3⟩
 ·obtain⟨x,y,E,F,G,H⟩:=J i hi;exact⟨x,y,E,F,G.kept hs D,H.kept hs D⟩
 intro i x;have:=h.no g hg i x
 rwa [<-Zg (a:=⟨g,i,none⟩) (j g hg)] at this
theorem S1 {t:TypeId}(h:W.heap[g]? = some (.cells #[x,v] t (0,0)))(hx:MY x)(hv:∃ p n c,v=.slice p n c):Kh W g:=
 Hk (l:=[x,v]) ⟨t,h⟩ fun u hu=>by
  rcases Yn.1 hu with rfl|hu
  ·exact .inl hx
  rcases Ye.1 hu with rfl;exact .inr hv
theorem Sx {t:TypeId}{fz:Nat×Nat}(h:W.heap[g]? = some (.cells #[x,v] t fz))(v':Value):(W.setCell ⟨g,1,none⟩ v').heap[g]? = some (.cells #[x,v'] t fz):=by
 obtain⟨d,j⟩:=Yr.1 h
 show (W.heap.modify g _)[g]? = _
 rw[Vv (by rw[U6];exact d),Vw,j];simp
structure LI (ki ke:SK)(g:Nat)(W4:World)(x:Value)(r:ByteArray)(ps:List ByteArray)(L:List Kd)(v:Value)(W:World):Prop where
 glt:g<W4.heap.size
 bar:Q.Bar g W4 W
 box:W.heap[g]? = some (.cells #[x,v] 50 (0,0))
 row:ERow ki ke W4.heap.size W v L
 pv:PV ke W x r
 rd:RdS ki ke r ps L
theorem LI.bl {ki ke:SK}{ps:List ByteArray}{L:List Kd}(h:LI ki ke g W4 x r ps L v W)(hb:Up W W'):LI ki ke g W4 x r ps L v W':=
 ⟨h.glt,h.bar.trans (Q.Bar.of hb),(hb.block g (Js h.glt h.bar.size)).trans h.box,h.row.bl hb,h.pv.next hb,h.rd⟩
theorem LI.own {ki ke:SK}{ps:List ByteArray}{L:List Kd}(h:LI ki ke g W4 x r ps L v W){b:Nat}(hb:v.ownBlock=some b):W4.heap.size<=b:=by
 obtain⟨xs,d,_⟩:=h.row.ex;exact (d.lt b hb).1
theorem LI.more {ki ke:SK}{ps:List ByteArray}{L M:List Kd}{v':Value}(h:LI ki ke g W4 x r ps L v W)(hg:W.grownBy W' v.ownBlock)(hr:ERow ki ke W4.heap.size W' v' M)(hM:RdS ki ke r ps M):LI ki ke g W4 x r ps M v' (W'.setCell ⟨g,1,none⟩ v'):=by
 have F:=h.glt;have I:=h.bar.size;have E:∀ k,k<W4.heap.size->W'.heap[k]? = W.heap[k]? := fun k hk=>hg.block k (by omega) (fun e=>by have:=h.own (b:=k) e.symm;omega);have d:W'.heap[g]? = some (.cells #[x,v] 50 (0,0)):=(E g F).trans h.box;have U:MY x:=h.pv.iface;obtain⟨p,c,O⟩:=h.row.form;obtain⟨Y,V,T⟩:=hr.form;have G:Kh W' g:=S1 d U ⟨_,_,_,O⟩;have j:∀ b,b≠g->(W'.setCell ⟨g,1,none⟩ v').heap[b]? = W'.heap[b]? := fun b hb=>J1 _ ⟨g,1,none⟩ _ _ hb;have D:(W'.setCell ⟨g,1,none⟩ v').heap.size=W'.heap.size:=by simp
 have H:v'.ownBlock≠some g:=fun e=>by
  obtain⟨xs,J,_⟩:=hr.ex;have:=(J.lt g e).1;omega
 refine⟨F,?_,?_,?_,?_,hM⟩
 ·refine⟨?_,?_,?_,by rw[D];exact Yt I hg.size,fun k hk hkg=>(j k hkg).trans ((E k hk).trans (h.bar.block k hk hkg))⟩
  ·exact hg.os.trans h.bar.os
  ·exact hg.tape.trans h.bar.tape
  exact hg.output.trans h.bar.output
 ·exact Sx d v'
 ·refine hr.kept (by rw[D];exact O1) fun b _=>?_
  by_cases e:b=g
  ·subst e;exact .inr ⟨G,H⟩
  exact .inl (j b e)
 have K:PV ke W' x r:=h.pv.kept hg.size fun b hb=>by
  by_cases e:v.ownBlock=some b
  ·exact .inr (h.row.no b e)
  exact .inl (hg.block b hb (fun e2=>e e2.symm))
 refine K.kept (by rw[D];exact O1) fun b _=>?_
 by_cases e:b=g
 ·subst e;exact .inr G
 exact .inl (j b e)
end Go.Proofs.YtjjgilacnocigaaGreatDoor
