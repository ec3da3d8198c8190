import Derived.Test.YtjjgilacnocigaaGreatDoorP30
import Derived.Deep.RegionLaw
import Derived.Laws.CopyRow
import Derived.Lib.Overlaps
import Derived.Lib.AppendZerosOnto
import Derived.Laws.Externs
set_option linter.all false
set_option maxRecDepth 100000
set_option maxHeartbeats 8000000
namespace Go.Proofs.YtjjgilacnocigaaGreatDoor
open ChangeShapes WideShapes ChangeAt RowKit Proofs.Tryz
open Q (Kh)
variable {W:World}{found:Bool}{i r s:ByteArray}{p:Nat}
theorem Dw (W:World)(ty:TypeId)(g o dl dc:Nat)(a:Addr)(sl sc:Nat)(cur:Array Value)(t:TypeId)(cs:List Value)(hg:W.heap[g]? = some (.cells cur t (0,0)))(hn:cs.length=Nat.min sl dl*2)
 (hsrc:∀ j v,cs[j]? = some v->W.cell? (a.add j)=some v) (hfit:o+cs.length<=cur.size) (h1:∀ v∈cs,v.oneCell'=true) :
 (Builtin.copy_ #[48,48] ty #[.slice (some ⟨g,o,none⟩) dl dc,.slice (some a) sl sc]).run prog W=.ok (goInt (Nat.min sl dl)) (W.setRow g (cur.toList.take o++cs++cur.toList.drop (o+cs.length)).toArray):=by
 obtain⟨i0,d,G,F,H⟩:=G0;have hl:=run_loadCells_list (P:=prog) W a cs hsrc;have E:=run_storeCells_at prog g o t cs 0 cur W hg (by simpa using hfit) h1;have D:(loadCells a (Nat.min sl dl*i0.size)).run prog W=.ok cs.toArray W:=by rw[F,<-hn];exact hl
 simp[Builtin.copy_,run_underlying underlying48,Builtin.lenOf,Builtin.firstCells,sizeOf,typeInfo,d,D,E]
theorem IN (W:World)(ty:TypeId)(g o n c:Nat)(cur:Array Value)(t:TypeId)(hn:n=1)(hg:W.heap[g]? = some (.cells cur t (0,0)))(hfit:o+2<=cur.size) :
 (Builtin.clear_ #[48] ty #[.slice (some ⟨g,o,none⟩) n c]).run prog W=.ok (.tuple #[]) (W.setRow g (cur.toList.take o++[Value.nilIface,Value.nilIface]++cur.toList.drop (o+2)).toArray):=by
 subst hn;have D:∀ w,(zeroValue 79).run prog w=.ok (.agg #[.nilIface,.nilIface]) w:=Tryz.zeroValue79;have d:=run_storeCells_at prog g o t [.nilIface,.nilIface] 0 cur W hg (by simpa using hfit) (by simp[Value.oneCell']);have j:(Builtin.zeroCells (Value.cells (.agg #[.nilIface,.nilIface])) 1).toList=[.nilIface,.nilIface]:=by simp[Builtin.zeroCells,Value.cells];rfl
 simp only[Vt,J8,Zo] at d;simp[Builtin.clear_,run_underlying underlying48,D,j,d]
theorem S9 {P:Program}{w:World}{ops:Array Oper}{o:Oper}{a:Act}{K:Act->World->Prop}{Q:Exit->Act->World->Prop}{E:Prop}(hgd:o.guard=none)(s x:Operand)(ts:Array TypeId)
 (ho:o.op=.call { callee:=.builtin .append,args:=#[s,x],argTypes:=ts }) (v u:Value) (hs:a.eval s=v) (hx:a.eval x=u) {v':Value} {w':World} (hr:(Builtin.append_ ts o.type #[v,u]).run P w=.ok v' w') (h:K (a.put o.dst v') w') :
 if Region.wanted o (yielded ops a.tmps)=true then Oper.wp P o a w K Q else E:=by
 have d:Region.wanted o (yielded ops a.tmps)=true:=by simp[Region.wanted,hgd]
 rw[if_pos d];unfold Oper.wp execOp;simp only[ho,resolve,invoke,builtin,Sem.run_bind,Sem.run_pure,Result.andThen_ok,Uq,Vc,Vs,hs,hx,hr];exact h
theorem VW {P:Program}{w:World}{ops:Array Oper}{o:Oper}{a:Act}{K:Act->World->Prop}{Q:Exit->Act->World->Prop}{E:Prop}(hgd:o.guard=none)(s x:Operand)(ts:Array TypeId)
 (ho:o.op=.call { callee:=.builtin .copy,args:=#[s,x],argTypes:=ts }) (v u:Value) (hs:a.eval s=v) (hx:a.eval x=u) {v':Value} {w':World} (hr:(Builtin.copy_ ts o.type #[v,u]).run P w=.ok v' w') (h:K (a.put o.dst v') w') :
 if Region.wanted o (yielded ops a.tmps)=true then Oper.wp P o a w K Q else E:=by
 have d:Region.wanted o (yielded ops a.tmps)=true:=by simp[Region.wanted,hgd]
 rw[if_pos d];unfold Oper.wp execOp;simp only[ho,resolve,invoke,builtin,Sem.run_bind,Sem.run_pure,Result.andThen_ok,Uq,Vc,Vs,hs,hx,hr];exact h
theorem UG {P:Program}{W:World}{ops:Array Oper}{rest:List Oper}{o:Oper}{a:Act}{Q:Exit->Act->World->Prop}(hgd:o.guard=none)(s x:Operand)(ts:Array TypeId)
 (ho:o.op=.call { callee:=.builtin .append,args:=#[s,x],argTypes:=ts }) (v u:Value) (hs:a.eval s=v) (hx:a.eval x=u) {v':Value} {W':World} (hr:(Builtin.append_ ts o.type #[v,u]).run P W=.ok v' W') (h:wpList P ops Q rest (a.put o.dst v') W') :
 wpList P ops Q (o::rest) a W:=by
 refine wpList_plain hgd fun _ hK=>?_;unfold Oper.wp execOp;simp only[ho,resolve,invoke,builtin,Sem.run_bind,Sem.run_pure,Result.andThen_ok,Uq,Vc,Vs,hs,hx,hr];exact hK _ _ h
theorem ERow.laid {ki ke:SK}{base:Nat}{W':World}{b c:Nat}{cur:Array Value}{L:List Kd}{xs:List Value}(hg:W'.heap[b]? = some (.cells cur 79 (0,0)))(hb:base<=b)(hn:L.length<=c)(hc:c<=maxLen)(hs:cur.size=c*2)(ht:cur.toList.take (L.length*2)=xs)(hl:xs.length=L.length*2)(hp:Dq ki ke W xs L)(hsz:W.heap.size<=W'.heap.size)(hk:∀ k,k<W.heap.size->W'.heap[k]? = W.heap[k]? ∨ Kh W k)(hno:∀ u∈cur.toList,∀ x,u≠.int .u32 x):ERow ki ke base W' (.slice (some ⟨b,0,none⟩) L.length c) L:=by
 refine⟨⟨xs,⟨hl,.inr ⟨b,c,cur,rfl,hb,hg,hn,hc,hs,ht⟩⟩,hp.kept hsz hk⟩,fun g e=>?_⟩
 cases e
 exact G5 hg hno
theorem Ng (W:World)(g k:Nat)(cs:Array Value)(h:k≠g):(W.setRow g cs).heap[k]? = W.heap[k]? := by
 unfold World.setRow;rw[U3,if_neg (fun e=>h e.symm)]
theorem Gg (W:World)(g:Nat)(cs:Array Value):(W.setRow g cs).heap.size=W.heap.size:=by
 unfold World.setRow;simp
theorem Na {B:Nat}{W':World}(h:Below B W W'){g:Nat}(hg:B<=g)(cs:Array Value):Below B W (W'.setRow g cs):=
 ⟨h.os,h.tape,h.output,by rw[Gg];exact h.size,fun k hk=>(Ng W' g k cs (by omega)).trans (h.block k hk)⟩
theorem UT (ki ke:SK)(base p:Nat)(W:World)(v:Value)(L:List Kd)(h:ERow ki ke base W v L)(hp:p<L.length)(hn:L.length<=1000) :
 Calls prog 55 #[v,.int .i64 p,.int .i64 ((p:Int)+1)] W fun e w'=>∃ v',e=.returned v'/\ERow ki ke base w' v' (L.take p++L.drop (p+1))/\Below base W w'/\v'.ownBlock=v.ownBlock:=by
 obtain⟨xs,h1,h2⟩:=h.ex;have V:Dq ki ke W xs L:=h2;have b5:=h.no
 rcases h1.2 with⟨rfl,e0⟩|⟨g,c,cur,rfl,U,hg,d4,b8,d2,T⟩
 ·omega
 obtain⟨q,hq⟩:∃ q,L.length=p+1+q:=⟨L.length - (p+1),by omega⟩;have c6:=h1.1;have O:=Nm hg (b5 g rfl);have d3:=(h1.lt g rfl).2;obtain⟨news,D⟩:∃ news,news=xs.drop ((p+1)*2):=⟨_,rfl⟩;have b4:news.length=q*2:=by rw[D,Jr];omega
 obtain⟨cur1,E⟩:∃ cur1:Array Value,cur1=(cur.toList.take (p*2)++news++cur.toList.drop (p*2+news.length)).toArray:=⟨_,rfl⟩;obtain⟨W1,J⟩:∃ W1,W1=W.drew.setRow g cur1:=⟨_,rfl⟩;have d6:cur1.size=c*2:=by rw[E];simp;omega
 have a7:W1.heap[g]? = some (.cells cur1 79 (0,0)):=by rw[J];exact setRow_heap W.drew g cur _ _ _ hg
 obtain⟨cur2,F⟩:∃ cur2:Array Value,cur2=(cur1.toList.take ((p+q)*2)++[Value.nilIface,Value.nilIface]++cur1.toList.drop ((p+q)*2+2)).toArray:=⟨_,rfl⟩;obtain⟨W2,K⟩:∃ W2,W2=W1.setRow g cur2:=⟨_,rfl⟩;have Y:∀ j u,xs[j]? = some u->W.cell? ⟨g,j,none⟩=some u:=fun j u hj=>by
  have:=(Y8.1 hj).1;rw[h1.cellAt j (by omega)];exact hj
 have a8:=V.ifs c6
 have I:Hid (ERow ki ke base W2 (.slice (some ⟨g,0,none⟩) (p+q) c) (L.take p++L.drop (p+1))/\Below base W W2):=by
  have b3:(L.take p++L.drop (p+1)).length=p+q:=by simp;omega
  constructor
  ·rw[<-b3];refine ERow.laid (W:=W) (cur:=cur2) (xs:=xs.take (p*2)++xs.drop ((p+1)*2)) ?_ U (by omega) b8 ?_ ?_ ?_ ((V.take p).app (by simp;omega) (V.drop (p+1))) ?_ ?_ ?_
   ·rw[K];exact setRow_heap W1 g cur1 _ _ _ a7
   ·rw[F];simp;omega
   ·rw[b3,F,E,<-D];have e1:cur.toList.take (p*2)=xs.take (p*2):=by rw[<-T,List.take_take,Vd (by omega)]
    have e3:(xs.take (p*2)++news).length=(p+q)*2:=by rw[Jq,Jm,b4];omega
    have e2:(cur.toList.take (p*2)++news++cur.toList.drop (p*2+news.length)).take ((p+q)*2)=xs.take (p*2)++news:=by rw[e1,Yx (by omega),Jf (by omega)]
    rw[e2,Yo _ [Value.nilIface,Value.nilIface] _,Yx (by omega),Jf (by omega)]
   ·rw[Jq,Jm,Jr,b3];omega
   ·rw[K,Gg,J,Gg];exact O1
   ·intro k _
    by_cases e:k=g
    ·subst e;exact .inr (b5 _ rfl)
    refine .inl ?_;rw[K,Ng _ _ _ _ e,J,Ng _ _ _ _ e];rfl
   intro u hu x;have o1:∀ u∈cur1.toList,∀ x,u≠.int .u32 x:=by
    intro u hu x;rw[E] at hu;simp only[J5] at hu
    rcases hu with (hu|hu)|hu
    ·exact O u (Ya hu) x
    ·rw[D] at hu;exact (a8 u (Yp hu)).no x
    exact O u (Yp hu) x
   rw[F] at hu;simp only[J5] at hu
   rcases hu with (hu|hu)|hu
   ·exact o1 u (Ya hu) x
   ·simp at hu;subst hu;intro e;cases e
   exact o1 u (Yp hu) x
  rw[K,J];exact Na (Na (Jj base W).drew U _) U _
 have H:Hid (∀ ty n d,n=1->(Builtin.clear_ #[48] ty #[.slice (some ⟨g,(p+q)*2,none⟩) n d]).run prog W1=.ok (.tuple #[]) W2):=by
  intro ty n d hn;rw[K,F];exact IN W1 ty g _ n d cur1 _ hn a7 (by omega)
 have G:Hid (∀ ty A d,(∀ j u,news[j]? = some u->W.cell? (A.add j)=some u)->(Builtin.append_ #[48,48] ty #[.slice (some ⟨g,0,none⟩) p c,.slice (some A) q d]).run prog W.drew=.ok (.slice (some ⟨g,0,none⟩) (p+q) c) W1):=by
  intro ty A d hA;obtain⟨i0,b9,f9,b6,g0⟩:=G0;have h:=run_append_room (P:=prog) W.drew 48 ty 79 i0 underlying48 b9 g p c cur hg A q d news (by rw[b6];exact b4) hA (fun u hu=>(a8 u (by rw[D] at hu;exact Yp hu)).one) (by omega) (by rw[b6];omega);rw[b6,<-E,<-J] at h;exact h
 have a6:Hid (∀ j u,news[j]? = some u->W.cell? ((⟨g,(p+1)*2,none⟩:Addr).add j)=some u):=by
  intro j u hj;rw[D,Vl] at hj;rw[Addr.add_lit];exact Y _ u hj
 have Z:Hid (q=0->∀ j u,news[j]? = some u->W.cell? ((⟨g,0,none⟩:Addr).add j)=some u):=by
  intro h0 j u hj;have:=(Y8.1 hj).1;omega
 have f7:p+1+q<=c:=by omega
 have c8:p+1+q<=1000:=by omega
 unfold maxLen at b8;rw[hq];clear h1 h2 V b5 O c6 d3 D b4 E J d6 a7 F K Y a8 d2 T hg U hq hp hn d4 h;have f5:(0:Int)<=(p:Int)+1:=by omega
 by_cases d0:c=p+1
 ·have d5:q=0:=by omega
  subst d5;subst d0;have f8:(p:Int)<=(p:Int)+1:=by omega
  have d1:∀ ty,(Builtin.clear_ #[48] ty #[.slice (some ⟨g,p*2,none⟩) 1 1]).run prog W1=.ok (.tuple #[]) W2:=fun ty=>H.o ty 1 1 rfl
  go_in
  go_wp2
  go_region_law (refine S9 (by rfl) _ _ _ (by rfl) (.slice (some ⟨g,0,none⟩) p (p+1)) (.slice (some ⟨g,0,none⟩) 0 0) (by rfl) (by rfl) (G.o _ ⟨g,0,none⟩ 0 (Z.o trivial)) ?_)
  all_goals
   clear H G a6 Z
   go_wp2
   go_ret
   exact⟨_,rfl,I.o.1,I.o.2,rfl⟩
 have d8:p<=c:=by omega
 have d9:p+1<=c:=by omega
 have e4:(p:Int)+1<=(p:Int)+1+(q:Int):=by omega
 have d1:∀ ty,(Builtin.clear_ #[48] ty #[.slice (some ⟨g,(p+q)*2,none⟩) (p+1+q - (p+q)) (c - (p+q))]).run prog W1=.ok (.tuple #[]) W2:=fun ty=>H.o ty _ _ (by omega)
 go_in
 go_wp2
 go_region_law (refine S9 (by rfl) _ _ _ (by rfl) (.slice (some ⟨g,0,none⟩) p c) (.slice (some ⟨g,(p+1)*2,none⟩) q (c - (p+1))) (by rfl) (by rfl) (G.o _ ⟨g,(p+1)*2,none⟩ (c - (p+1)) a6.o) ?_)
 all_goals
  clear H G a6 Z
  go_wp2
  go_ret
  exact⟨_,rfl,I.o.1,I.o.2,rfl⟩
def UH (ki ke:SK)(base:Nat)(W:World)(L:List Kd)(i:Nat)(f:Kd)(e:Ending)(w':World):Prop:=∃ v',e=.returned v'/\ERow ki ke base w' v' (L.take i++f::L.drop i)/\Below base W w'
theorem KR (ki ke:SK)(base H:Nat)(W:World)(v:Value)(L:List Kd)(x1 x2:Value)(f:Kd)(h:ERow ki ke base W v L)(hH:Bx W H [x1,x2])(hb:base<=W.heap.size)(hp1:PV ki W x1 f.1)(hp2:PV ke W x2 f.2)(hn:L.length<=1000) :
 Calls prog 57 #[v,.int .i64 (L.length:Nat),.slice (some ⟨H,0,none⟩) 1 1] W fun e w'=>UH ki ke base W L L.length f e w':=by
 have E:=Hd h;have Y:Hid (Dq ki ke W [x1,x2] [f]):=Dq.one hp1 hp2;have U:Hid (∀ j u,[x1,x2][j]? = some u->W.cell? ((⟨H,0,none⟩:Addr).add j)=some u):=fun j u hj=>by rw[Addr.add_lit,Y3,hH.cell];exact hj
 have I:=Hd hb;have F:Hid (∀ g cap W',ERow ki ke base W' (.slice (some ⟨g,0,none⟩) (L.length+1) cap) (L++[f])->W.grownBy W' v.ownBlock->UH ki ke base W L L.length f (.returned (.slice (some ⟨g,0,none⟩) (L.length+1) cap)) W'):=fun g cap W' hr hg=>by
  refine⟨_,rfl,?_,?_⟩
  ·rw[Zi,List.drop_length];exact hr
  exact (Jj base W).grown hg (by have:=I.o;omega) (fun k e=>by obtain⟨xs,T,_⟩:=E.o.ex;exact (T.lt k e).1)
 obtain⟨p,c,rfl⟩:=h.form;have hc:L.length<=c:=by
  obtain⟨p',c',e,T,h2,_⟩:=h.at
  cases e
  exact T
 obtain⟨n,G⟩:=O2 L.length;have V:=Hd G;rw[G] at F E hc hn;rw[G];clear h hH hb hp1 hp2 G
 cases p with
 | none=>
   go_in
   go_wp2_with (at_builtin;refine R7 (ki:=ki) (ke:=ke) (base:=base) (L:=L) (M:=[f]) rfl _ _ rfl rfl E.o ⟨H,0,none⟩ n 1 1 [x1,x2] rfl rfl rfl U.o Y.o V.o (by omega) (.inl (by decide)) I.o ?_;intro g9 J Z d D)
   have O:=Hd d;have K:=Hd D;clear d D
   go_wp2
   go_ret
   exact F.o _ _ _ O.o K.o
 | some a=>
   go_in
   go_wp2_with (at_builtin;refine R7 (ki:=ki) (ke:=ke) (base:=base) (L:=L) (M:=[f]) rfl _ _ rfl rfl E.o ⟨H,0,none⟩ n 1 1 [x1,x2] rfl rfl rfl U.o Y.o V.o (by omega) (.inl (by decide)) I.o ?_;intro g9 J Z d D)
   all_goals
    have O:=Hd d;have K:=Hd D;clear d D
    go_wp2
    go_ret
    exact F.o _ _ _ O.o K.o
theorem T0 (ki ke:SK)(base H i:Nat)(W:World)(g c:Nat)(L:List Kd)(x1 x2:Value)(f:Kd)(h:ERow ki ke base W (.slice (some ⟨g,0,none⟩) L.length c) L)(hH:Bx W H [x1,x2])(hne:H≠g)(hb:base<=W.heap.size)(hp1:PV ki W x1 f.1)(hp2:PV ke W x2 f.2)(hn:L.length<=1000)(hi:i<L.length)(hroom:L.length+1<=c) :
 Calls prog 57 #[.slice (some ⟨g,0,none⟩) L.length c,.int .i64 (i:Nat),.slice (some ⟨H,0,none⟩) 1 1] W fun e w'=>UH ki ke base W L i f e w':=by
 obtain⟨xs,h1,h2⟩:=h.ex;have T:Dq ki ke W xs L:=h2;have b8:=h.no
 rcases h1.2 with⟨e,e0⟩|⟨g0,c0,cur,e,K,hg,d6,c7,d5,J⟩
 ·cases e
 cases e
 have d3:=h1.1;have a6:=Nm hg (b8 g rfl);have O:=T.ifs d3;have b3:=hp1.form;have b4:=hp2.form;obtain⟨tH,I⟩:=hH;obtain⟨cs,E⟩:∃ cs,cs=xs.drop (i*2):=⟨_,rfl⟩;have c6:cs.length=(L.length - i)*2:=by rw[E,Jr];omega
 obtain⟨cur1,d⟩:∃ cur1:Array Value,cur1=(cur.toList.take ((i+1)*2)++cs++cur.toList.drop ((i+1)*2+cs.length)).toArray:=⟨_,rfl⟩;obtain⟨W1,F⟩:∃ W1,W1=W.drew.setRow g cur1:=⟨_,rfl⟩;have d7:cur1.size=c*2:=by rw[d];simp;omega
 have b5:W1.heap[g]? = some (.cells cur1 79 (0,0)):=by rw[F];exact setRow_heap W.drew g cur _ _ _ hg
 obtain⟨cur2,D⟩:∃ cur2:Array Value,cur2=(cur1.toList.take (i*2)++[x1,x2]++cur1.toList.drop (i*2+[x1,x2].length)).toArray:=⟨_,rfl⟩;obtain⟨W2,G⟩:∃ W2,W2=W1.setRow g cur2:=⟨_,rfl⟩;have a7:∀ j u,cs[j]? = some u->W.cell? ((⟨g,i*2,none⟩:Addr).add j)=some u:=fun j u hj=>by
  have:=(Y8.1 hj).1;rw[Addr.add_lit,h1.cellAt (i*2+j) (by omega)];rw[E,Vl] at hj;exact hj
 have Y:Hid (UH ki ke base W L i f (.returned (.slice (some ⟨g,0,none⟩) (L.length+1) c)) W2):=by
  have b6:(L.take i++f::L.drop i).length=L.length+1:=by simp;omega
  have e1:cur.toList.take (i*2)=xs.take (i*2):=by rw[<-J,List.take_take,Vd (by omega)]
  have e2:cur1.toList.take (i*2)=xs.take (i*2):=by
   rw[d,<-e1]
   show (cur.toList.take ((i+1)*2)++cs++cur.toList.drop ((i+1)*2+cs.length)).take (i*2)=_
   rw[Yo,Yx (by rw[Jm];simp;omega),List.take_take,Vd (by omega)]
  have e3:cur1.toList.drop (i*2+2)=cs++cur.toList.drop ((i+1)*2+cs.length):=by
   rw[d]
   show (cur.toList.take ((i+1)*2)++cs++cur.toList.drop ((i+1)*2+cs.length)).drop (i*2+2)=_
   rw[Yo,Uu (by rw[Jm];simp;omega),Uw (by rw[Jm];simp;omega),Zv]
  refine⟨_,rfl,?_,?_⟩
  ·rw[<-b6];refine ERow.laid (W:=W) (cur:=cur2) (xs:=xs.take (i*2)++([x1,x2]++xs.drop (i*2))) ?_ K (by omega) c7 ?_ ?_ ?_ ((T.take i).app (by simp;omega) ((Dq.one hp1 hp2).app rfl (T.drop i))) ?_ ?_ ?_
   ·rw[G];exact setRow_heap W1 g cur1 _ _ _ b5
   ·rw[D];simp;omega
   ·rw[b6,D]
    show (cur1.toList.take (i*2)++[x1,x2]++cur1.toList.drop (i*2+2)).take _=_
    rw[e2,e3,<-E,<-Yo,<-Yo,Yx (by simp;omega),Jf (by simp;omega)]
   ·rw[Jq,Jq,Jm,Jr,b6];simp;omega
   ·rw[G,Gg,F,Gg];exact O1
   ·intro k _
    by_cases e:k=g
    ·subst e;exact .inr (b8 _ rfl)
    refine .inl ?_;rw[G,Ng _ _ _ _ e,F,Ng _ _ _ _ e];rfl
   intro u hu x;rw[D] at hu
   replace hu:u∈cur1.toList.take (i*2)++[x1,x2]++cur1.toList.drop (i*2+2):=hu
   rw[e2,e3] at hu;simp only[J5] at hu
   rcases hu with (hu|hu)|(hu|hu)
   ·exact (O u (Ya hu)).no x
   ·simp only[Yn,Oc,or_false] at hu
    rcases hu with rfl|rfl
    ·exact GN.no b3 x
    exact GN.no b4 x
   ·rw[E] at hu;exact (O u (Yp hu)).no x
   exact a6 u (Yp hu) x
  rw[G,F];exact Na (Na (Jj base W).drew K _) K _
 have a8:Hid (∀ ty dl dc sl sc,Nat.min sl dl=L.length - i->(Builtin.copy_ #[48,48] ty #[.slice (some ⟨g,(i+1)*2,none⟩) dl dc,.slice (some ⟨g,i*2,none⟩) sl sc]).run prog W.drew=.ok (goInt (L.length - i:Nat)) W1):=by
  intro ty dl dc sl sc hm;rw[F,d,<-hm];exact Dw W.drew ty g _ dl dc _ sl sc cur _ cs hg (by rw[hm];exact c6) a7 (by omega) (fun u hu=>(O u (by rw[E] at hu;exact Yp hu)).one)
 have b9:Hid (∀ ty dl dc,0<dl->(Builtin.copy_ #[48,48] ty #[.slice (some ⟨g,i*2,none⟩) dl dc,.slice (some ⟨H,0,none⟩) 1 1]).run prog W1=.ok (goInt (1:Nat)) W2):=by
  intro ty dl dc hd;rw[G,D];have d1:Nat.min 1 dl=1:=by simp only[Nat.min_def];split<;>omega
  have h:=Dw W1 ty g (i*2) dl dc ⟨H,0,none⟩ 1 1 cur1 _ [x1,x2] b5 (by rw[d1];rfl) (fun j u hj=>by
   rw[Addr.add_lit,Y3,F];have:((W.drew.setRow g cur1).heap[H]? )=W.heap[H]? := Ng W.drew g H cur1 hne;unfold World.cell?;simp only[this,I]
   simpa using hj) (by simp;omega) (fun u hu=>by
   simp only[Yn,Oc,or_false] at hu
   rcases hu with rfl|rfl
   ·exact GN.one b3
   exact GN.one b4)
  rw[d1] at h;exact h
 have d2:∀ lb cb,(callFunc 100 #[.slice (some ⟨H,0,none⟩) 1 1,.slice (some ⟨g,(i+1)*2,none⟩) lb cb]).run prog W=.ok (.value (.bool false)) W:=fun lb cb=>by
  rw[run_callFunc_extern func100 (by kernel_rfl) (by kernel_rfl) (by kernel_rfl) (e:=Extern.SlicesOverlaps.overlaps #[48,48] #[4]) (by kernel_rfl),
   Lib.run_overlaps_apart W 48 4 79 underlying48 2 Tryz.sizeOf79 ⟨H,0,none⟩ ⟨g,(i+1)*2,none⟩ 1 1 lb cb hne tH 79 2 cur.size (by simp[World.shape?,I]) (by simp[World.shape?,hg]) (by omega) (by simp[World.frozen?,I]) (by simp[World.frozen?,I])]
  rfl
 unfold maxLen at c7;obtain⟨n,b7⟩:=O2 L.length;rw[b7] at a8 Y hi hn hroom;rw[b7];have f9:((i:Int)==(n:Int))=false:=by rw[Jd];omega
 have g1:¬ ((c:Int)<(n:Int)+1):=by omega
 have e7:(0:Int)<=(i:Int)+1:=by omega
 have e8:¬ (c=i+1):=by omega
 have e9:(i:Int)<=(n:Int)+1:=by omega
 have f5:¬ (c=i):=by omega
 have f7:(i:Int)+1<=(n:Int)+1:=by omega
 have f8:i<=n:=by omega
 have g3:IntKind.i64.wrap ((i:Int)+1)=(i:Int)+1:=by rw[IntKind.wrap_i64];omega
 have g2:((i:Int)+1).toNat=i+1:=by omega
 clear h h1 h2 T b8 a6 d3 O b3 b4 E c6 d F d7 b5 D G a7 d5 J hg K hp1 hp2 d6 I b7 hne
 go_in
 go_wp2_with (simp only[d2])
 obtain⟨cv,c8⟩:∃ cv,cv=goInt (n - i:Nat):=⟨_,rfl⟩;obtain⟨cv2,Z⟩:∃ cv2,cv2=goInt (1:Nat):=⟨_,rfl⟩;have U:Hid (∀ ty,(Builtin.copy_ #[48,48] ty #[.slice (some ⟨g,(i+1)*2,none⟩) (n - i) (c - (i+1)),.slice (some ⟨g,i*2,none⟩) (n+1 - i) (c - i)]).run prog W.drew=.ok cv W1):=by
  intro ty;rw[c8];exact a8.o ty (n - i) (c - (i+1)) (n+1 - i) (c - i) (by simp only[Nat.min_def];split<;>omega)
 have V:Hid (∀ ty,(Builtin.copy_ #[48,48] ty #[.slice (some ⟨g,i*2,none⟩) (n+1 - i) (c - i),.slice (some ⟨H,0,none⟩) 1 1]).run prog W1=.ok cv2 W2):=by
  intro ty;rw[Z];exact b9.o ty (n+1 - i) (c - i) (by omega)
 clear c8 Z a8 b9 d2
 go_region_law (refine VW rfl _ _ _ rfl (.slice (some ⟨g,(i+1)*2,none⟩) (n - i) (c - (i+1))) (.slice (some ⟨g,i*2,none⟩) (n+1 - i) (c - i)) (by simp[Act.eval,Act.put]) (by simp[Act.eval,Act.put]) (U.o _) ?_)
 all_goals
  clear U;have e5:=V.o;clear V
  go_wp2
  go_ret
  exact Y.o
theorem YF (ki ke:SK)(base H i:Nat)(W:World)(g c:Nat)(L:List Kd)(x1 x2:Value)(f:Kd)(h:ERow ki ke base W (.slice (some ⟨g,0,none⟩) L.length c) L)(hH:Bx W H [x1,x2])(hb:base<=W.heap.size)(hp1:PV ki W x1 f.1)(hp2:PV ke W x2 f.2)(hn:L.length<=1000)(hi:i<L.length)(hroom:c<L.length+1) :
 Calls prog 57 #[.slice (some ⟨g,0,none⟩) L.length c,.int .i64 (i:Nat),.slice (some ⟨H,0,none⟩) 1 1] W fun e w'=>UH ki ke base W L i f e w':=by
 obtain⟨xs,h1,h2⟩:=h.ex;have Z:Dq ki ke W xs L:=h2
 rcases h1.2 with⟨e,e0⟩|⟨g0,c0,cur,e,g4,hg,e7,g5,g6,d4⟩
 ·cases e
 cases e
 have e9:=h1.1;have d0:=Z.ifs e9;have b9:=hp1.form;have c6:=hp2.form;have g7:=(h1.lt g rfl).2;have g3:=hH.lt;obtain⟨tH,e1⟩:=hH;obtain⟨i0,b6,f7,d5,d6⟩:=G0;obtain⟨n,d3⟩:=O2 L.length;obtain⟨k,hk⟩:∃ k,n+1=i+k:=⟨n+1 - i,by omega⟩;obtain⟨G,hG⟩:∃ G,G=W.heap.size:=⟨_,rfl⟩;obtain⟨gc,Y⟩:∃ gc,gc=grownCap W (i+k) c 79:=⟨_,rfl⟩;have e6:n+1<=gc:=by rw[Y,hk];exact grownCap_ge W _ _ _
 have b5:gc<=maxLen:=by rw[Y];exact grownCap_le_maxLen W (i+k) c 79 (by unfold maxLen;omega)
 obtain⟨zs,a7⟩:∃ zs:List Value,zs=(Builtin.zeroCells (Value.cells (.agg #[.nilIface,.nilIface])) k).toList++(Builtin.zeroCells (Value.cells (.agg #[.nilIface,.nilIface])) (gc - (i+k))).toList:=⟨_,rfl⟩;have f8:zs.length=(gc - i)*2:=by
  rw[a7,Jq];simp[Builtin.zeroCells,Value.cells];rw[hk] at e6;omega
 have f9:∀ u∈zs,∀ x,u≠.int .u32 x:=by
  intro u hu x;rw[a7] at hu
  rcases J5.1 hu with hu|hu
  ·exact Ha _ u hu x
  exact Ha _ u hu x
 obtain⟨row0,d⟩:∃ row0:List Value,row0=xs.take (i*2)++zs:=⟨_,rfl⟩;have a6:(xs.take (i*2)).length=i*2:=by rw[Jm];omega
 have g8:row0.length=gc*2:=by rw[d,Jq,a6,f8];omega
 obtain⟨W1,O⟩:∃ W1,W1=W.drew.alloc (.cells row0.toArray 79):=⟨_,rfl⟩;have c7:W1.heap[G]? = some (.cells row0.toArray 79 (0,0)):=by rw[O,hG];exact heap_alloc_new W.drew _
 have J:∀ b,b<G->W1.heap[b]? = W.heap[b]? := fun b hb=>by rw[O];exact (Oo W.drew _).block b (by rw[hG] at hb;exact hb)
 have b3:∀ ty,(Builtin.append_ #[48,3] ty #[.slice (some ⟨g,0,none⟩) i c,.int .i64 ((n:Int)+1 - (i:Int))]).run prog W=.ok (.slice (some ⟨G,0,none⟩) (n+1) gc) W1:=by
  intro ty;have e8:(Builtin.firstCells i0.size i (.slice (some ⟨g,0,none⟩) i c)).run prog W.drew=.ok (xs.take (i*2)).toArray W.drew:=run_firstCells_some W.drew i0.size i ⟨g,0,none⟩ i c (xs.take (i*2)) (by rw[d5];exact a6) (fun j v hj=>by
   have d1:=(Y8.1 hj).1;rw[a6] at d1;rw[Addr.add_lit,Y3]
   show W.cell? _=_
   rw[h1.cellAt j (by omega)];rw[Oi,if_pos d1] at hj;exact hj)
  have h:=Lib.run_append_grow_zeros W 48 3 ty 79 i0 _ .i64 .i64 underlying48 underlying3 b6 f7 (some ⟨g,0,none⟩) i c (xs.take (i*2)) e8 k (by omega) (by rw[d5];decide) (by omega) (by omega) (by rw[d6];omega) (growslice_fits (by omega) (by rw[d6];omega));rw[<-Y,<-hG] at h;rw[show (n:Int)+1 - (i:Int)=(k:Int) by omega,h,O,d,a7,hk]
  congr 2
  simp
 obtain⟨row2,D⟩:∃ row2:Array Value,row2=(row0.take (i*2)++[x1,x2]++row0.drop (i*2+[x1,x2].length)).toArray:=⟨_,rfl⟩;obtain⟨W2,T⟩:∃ W2,W2=W1.setRow G row2:=⟨_,rfl⟩;have g9:row2.size=gc*2:=by rw[D];simp;omega
 have c8:W2.heap[G]? = some (.cells row2 79 (0,0)):=by rw[T];exact setRow_heap W1 G _ _ _ _ c7
 obtain⟨cs,I⟩:∃ cs,cs=xs.drop (i*2):=⟨_,rfl⟩;have e3:cs.length=(n - i)*2:=by rw[I,Jr];omega
 obtain⟨row3,E⟩:∃ row3:Array Value,row3=(row2.toList.take ((i+1)*2)++cs++row2.toList.drop ((i+1)*2+cs.length)).toArray:=⟨_,rfl⟩;obtain⟨W3,U⟩:∃ W3,W3=W2.drew.setRow G row3:=⟨_,rfl⟩;have K:∀ b,b<G->W2.heap[b]? = W.heap[b]? := fun b hb=>by rw[T,Ng _ _ _ _ (by omega)];exact J b hb
 have b7:Hid (∀ ty,(Builtin.copy_ #[48,48] ty #[.slice (some ⟨G,i*2,none⟩) (n+1 - i) (gc - i),.slice (some ⟨H,0,none⟩) 1 1]).run prog W1=.ok (goInt (1:Nat)) W2):=by
  intro ty;rw[T,D];have V:Nat.min 1 (n+1 - i)=1:=by simp only[Nat.min_def];split<;>omega
  have h:=Dw W1 ty G (i*2) (n+1 - i) (gc - i) ⟨H,0,none⟩ 1 1 row0.toArray _ [x1,x2] c7 (by rw[V];rfl) (fun j u hj=>by
   rw[Addr.add_lit,Y3];have:=J H (by omega);unfold World.cell?;simp only[this,e1]
   simpa using hj) (by simp;omega) (fun u hu=>by
   simp only[Yn,Oc,or_false] at hu
   rcases hu with rfl|rfl
   ·exact GN.one b9
   exact GN.one c6)
  rw[V] at h;exact h
 have b8:Hid (∀ ty,(Builtin.copy_ #[48,48] ty #[.slice (some ⟨G,(i+1)*2,none⟩) (n - i) (gc - (i+1)),.slice (some ⟨g,i*2,none⟩) (n - i) (c - i)]).run prog W2.drew=.ok (goInt (n - i:Nat)) W3):=by
  intro ty;rw[U,E];have V:Nat.min (n - i) (n - i)=n - i:=by simp only[Nat.min_def];split<;>omega
  have h:=Dw W2.drew ty G ((i+1)*2) (n - i) (gc - (i+1)) ⟨g,i*2,none⟩ (n - i) (c - i) row2 _ cs c8 (by rw[V];exact e3) (fun j u hj=>by
   have d1:=(Y8.1 hj).1;rw[Addr.add_lit];have h9:=h1.cellAt (i*2+j) (by omega);rw[I,Vl] at hj;rw[hj] at h9;exact (Zg (a:=⟨g,i*2+j,none⟩) (K g (by omega))).trans h9) (by omega) (fun u hu=>(d0 u (by rw[I] at hu;exact Yp hu)).one)
  rw[V] at h;exact h
 have d8:Hid (UH ki ke base W L i f (.returned (.slice (some ⟨G,0,none⟩) (n+1) gc)) W3):=by
  have d2:(L.take i++f::L.drop i).length=n+1:=by simp;omega
  have e2:row2.toList.take ((i+1)*2)=xs.take (i*2)++[x1,x2]:=by
   rw[D,d]
   show ((xs.take (i*2)++zs).take (i*2)++[x1,x2]++(xs.take (i*2)++zs).drop (i*2+2)).take ((i+1)*2)=_
   rw[Yx (l₁:=xs.take (i*2)) (by omega),Jf (l:=xs.take (i*2)) (by omega),Yx (by simp;omega),Jf (by simp;omega)]
  refine⟨_,rfl,?_,?_⟩
  ·rw[<-d2];refine ERow.laid (W:=W) (cur:=row3) (xs:=xs.take (i*2)++([x1,x2]++xs.drop (i*2))) ?_ (by omega) (by omega) b5 ?_ ?_ ?_ ((Z.take i).app (by simp;omega) ((Dq.one hp1 hp2).app rfl (Z.drop i))) ?_ ?_ ?_
   ·rw[U];exact setRow_heap W2.drew G row2 _ _ _ c8
   ·rw[E];simp;omega
   ·rw[d2,E]
    show (row2.toList.take ((i+1)*2)++cs++row2.toList.drop ((i+1)*2+cs.length)).take _=_
    rw[e2,<-I,<-Yo,Yx (by simp;omega),Jf (by simp;omega)]
   ·rw[Jq,Jq,Jm,Jr,d2];simp;omega
   ·rw[U,Gg];show W.heap.size<=W2.heap.size;rw[T,Gg,O];simp
   ·intro b hb;exact .inl (by rw[U,Ng _ _ _ _ (by omega)];exact K b (by omega))
   intro u hu x;rw[E] at hu
   replace hu:u∈row2.toList.take ((i+1)*2)++cs++row2.toList.drop ((i+1)*2+cs.length):=hu
   rw[e2] at hu;have hx:∀ u,u∈xs->u≠.int .u32 x:=fun u hu=>(d0 u hu).no x;have d9:∀ u,u∈[x1,x2]->u≠.int .u32 x:=fun u hu=>by
    simp only[Yn,Oc,or_false] at hu
    rcases hu with rfl|rfl
    ·exact GN.no b9 x
    exact GN.no c6 x
   simp only[J5] at hu
   rcases hu with ((hu|hu)|hu)|hu
   ·exact hx u (Ya hu)
   ·exact d9 u hu
   ·rw[I] at hu;exact hx u (Yp hu)
   have F:=Yp hu;rw[D,d] at F
   replace F:u∈(xs.take (i*2)++zs).take (i*2)++[x1,x2]++(xs.take (i*2)++zs).drop (i*2+[x1,x2].length):=F
   have f5:∀ u,u∈xs.take (i*2)++zs->u≠.int .u32 x:=fun u hu=>by
    rcases J5.1 hu with hu|hu
    ·exact hx u (Ya hu)
    exact f9 u hu x
   simp only[J5] at F
   rcases F with (F|F)|F
   ·exact f5 u (Ya F)
   ·exact d9 u F
   exact f5 u (Yp F)
  rw[U,T,O];exact Na (Na ((Jj base W).drew.alloc hb _) (by omega) _).drew (by omega) _
 obtain⟨cv,e5⟩:∃ cv,cv=goInt (n - i:Nat):=⟨_,rfl⟩;obtain⟨cv2,b4⟩:∃ cv2,cv2=goInt (1:Nat):=⟨_,rfl⟩;rw[<-e5] at b8;rw[<-b4] at b7;unfold maxLen at g5 b5;have a8:=Hd b3;rw[d3] at hi hn hroom e7;rw[d3];have j5:((i:Int)==(n:Int))=false:=by rw[Jd];omega
 have j6:(c:Int)<(n:Int)+1:=by omega
 have i1:(0:Int)<=(i:Int)+1:=by omega
 have i6:¬ (gc=i+1):=by omega
 have i7:(i:Int)<=(n:Int)+1:=by omega
 have i8:¬ (gc=i):=by omega
 have j0:(i:Int)+1<=(n:Int)+1:=by omega
 have j1:i<=n:=by omega
 have j2:¬ (c=i):=by omega
 have j3:i<=c:=by omega
 have j8:IntKind.i64.wrap ((i:Int)+1)=(i:Int)+1:=by rw[IntKind.wrap_i64];omega
 have j7:((i:Int)+1).toNat=i+1:=by omega
 clear h h1 h2 Z e9 d0 b9 c6 I e3 O c7 T g6 d4 hg g4 hp1 hp2 e7 e1 d3 b3 e5 b4 J K g9 c8 E U D d g8 a6 f9 f8 a7 Y hG hk b6 f7 d5 d6 g3 g7 hb
 go_in
 have e4:=b7.o;clear b7
 go_wp2_with (at_builtin;refine UG rfl _ _ _ rfl (.slice (some ⟨g,0,none⟩) i c) (.int .i64 ((n:Int)+1 - (i:Int))) (by simp[Act.eval]) (by simp[Act.eval]) (a8.o _) ?_)
 clear a8 e4
 go_region_law (refine VW rfl _ _ _ rfl (.slice (some ⟨G,(i+1)*2,none⟩) (n - i) (gc - (i+1))) (.slice (some ⟨g,i*2,none⟩) (n - i) (c - i)) (by simp[Act.eval,Act.put]) (by simp[Act.eval,Act.put]) (b8.o _) ?_)
 all_goals
  clear b8
  go_wp2
  go_ret
  exact d8.o
theorem KQ (ki ke:SK)(base H i:Nat)(W:World)(v:Value)(L:List Kd)(x1 x2:Value)(f:Kd)(h:ERow ki ke base W v L)(hH:Bx W H [x1,x2])(hne:v.ownBlock≠some H)(hb:base<=W.heap.size)(hp1:PV ki W x1 f.1)(hp2:PV ke W x2 f.2)(hn:L.length<=1000)(hi:i<=L.length) :
 Calls prog 57 #[v,.int .i64 (i:Nat),.slice (some ⟨H,0,none⟩) 1 1] W fun e w'=>UH ki ke base W L i f e w':=by
 by_cases e:i=L.length
 ·subst e;exact KR ki ke base H W v L x1 x2 f h hH hb hp1 hp2 hn
 have d:i<L.length:=by omega
 obtain⟨xs,j,_⟩:=h.ex
 rcases j.2 with⟨_,E⟩|⟨g,c,cur,rfl,_,_,_,_,_,_⟩
 ·omega
 by_cases D:L.length+1<=c
 ·exact T0 ki ke base H i W g c L x1 x2 f h hH (fun e=>hne (by rw[e];rfl)) hb hp1 hp2 hn d D
 exact YF ki ke base H i W g c L x1 x2 f h hH hb hp1 hp2 hn d (by omega)
def Rl (found:Bool)(p:Nat)(L:List Kd):List Kd:=if found then L.take p++L.drop (p+1) else L
theorem BH {L:List Kd}(hp:p<=L.length)(hf:found=true->p<L.length):p<=(Rl found p L).length/\(Rl found p L).length<=L.length:=by
 unfold Rl
 cases found
 ·simpa using hp
 have:=hf rfl;simp;omega
theorem ZC {L:List Kd}(hp:p<=L.length):(Rl found p L).take p=L.take p:=by
 unfold Rl
 cases found
 ·rfl
 simp only[if_true];rw[Yx (by rw[Jm];omega),List.take_take,Nat.min_self]
theorem ZD {L:List Kd}(hp:p<=L.length):(Rl found p L).drop p=L.drop (if found then p+1 else p):=by
 unfold Rl
 cases found
 ·rfl
 simp only[if_true];rw[Uu (by rw[Jm];omega),Uw (by rw[Jm];omega),Zv]
theorem CQ {ki:SK}{L:List Kd}(hz:¬ E7 ki i)(hS:L.Pairwise fun e f=>key ki e.1<key ki f.1)(hK:∀ e∈L,key ki e.1=key ki i->e.1=i)(h:OZ ki L i p found)(hs:s=r):OV ki r L i s r (Rl found p L):=by
 refine .inl (.inr (.inr ⟨hz,rfl,_,_,_,NL hS hK h,?_⟩));have d:=h.1;unfold newE;rw[if_pos hs,Z3,<-ZC (found:=found) d,<-ZD (found:=found) d,J9]
theorem CR {ki:SK}{L:List Kd}(hz:¬ E7 ki i)(hS:L.Pairwise fun e f=>key ki e.1<key ki f.1)(hK:∀ e∈L,key ki e.1=key ki i->e.1=i)(h:OZ ki L i p found)(hs:s≠r):OV ki r L i s r ((Rl found p L).take p++(i,s)::(Rl found p L).drop p):=by
 refine .inl (.inr (.inr ⟨hz,rfl,_,_,_,NL hS hK h,?_⟩));have d:=h.1;unfold newE;rw[if_neg hs,ZC d,ZD d,Yo];rfl
theorem GP {ki ke:SK}{L:List Kd}{w:World}{G base:Nat}{tx:TypeId}{zx v:Value}{M:List Kd}(hQ:OV ki r L i s r M)(hM:M.length<=100)(hG:w.heap.size<=G)(hB:Up w W)(hX:Bx W G [.nilIface,.slice none 0 0])(hR:ERow ki ke base W v M)(hP:PV ke W (.iface tx zx) r) :
 ∃ x' v' r' L',Ending.returned (.agg #[.iface tx zx,v])=.returned (.agg #[x',v'])/\PV ke ((W.setCell ⟨G,0,none⟩ (.iface tx zx)).setCell ⟨G,1,none⟩ v) x' r'/\Ex ki ke ((W.setCell ⟨G,0,none⟩ (.iface tx zx)).setCell ⟨G,1,none⟩ v) v' L'/\L'.length<=100/\OV ki r L i s r' L'/\Up w ((W.setCell ⟨G,0,none⟩ (.iface tx zx)).setCell ⟨G,1,none⟩ v):=by
 refine⟨_,_,r,M,rfl,?_,hR.at.box hX _ _,hM,hQ,(hB.setCell (p:=⟨G,0,none⟩) hG _).setCell (p:=⟨G,1,none⟩) hG _⟩;have d:Kh W G:=Hk hX (fun u hu=>by rcases Yn.1 hu with rfl|hu;exact .inl (.inl rfl);rcases Ye.1 hu with rfl;exact .inr ⟨_,_,_,rfl⟩);refine hP.kept (by simp) fun k _=>?_
 by_cases e:k=G
 ·subst e;exact .inr d
 exact .inl ((J1 _ ⟨G,1,none⟩ _ _ e).trans (J1 _ ⟨G,0,none⟩ _ _ e))
theorem FH (ki ke:SK)(x v u y:Value)(r i s:ByteArray)(L:List Kd)(w:World)(hK:Gm ki)(hki:Wt ki)(hke:Wt ke)(hx:PV ke w x r)(h:Ex ki ke w v L)(hS:SrtA ki ke r L)(hn:L.length<=60)(hu:PV ki w u i)(hy:PV ke w y s)(hT:VT w)(hz:¬ E7 ki i) :
 Calls prog 22 #[.agg #[x,v],u,y] w fun e w'=>∃ x' v' r' L',e=.returned (.agg #[x',v'])/\PV ke w' x' r'/\Ex ki ke w' v' L'/\L'.length<=100/\OV ki r L i s r' L'/\Up w w':=by
 have HT:=Hd hT;have HZ:=Hd hz;obtain⟨W1,b5⟩:=O2 ((w.alloc (.cells #[x,v] 50)).alloc (.cells #[.nilIface,.slice none 0 0] 50));have O:Up w W1:=by rw[<-b5];exact (Oo _ _).trans ((Oo _ _).mono (by simp))
 have e7:=Hd O;have e3:Hid (Bx W1 w.heap.size [x,v]):=by unfold Hid;rw[<-b5];exact (Ox w [x,v] _).alloc _
 have e4:Hid (Bx W1 (w.heap.size+1) [.nilIface,.slice none 0 0]):=by
  unfold Hid;rw[<-b5];rw[show w.heap.size+1=(w.alloc (.cells #[x,v] 50)).heap.size from (by simp)];exact Ox _ [.nilIface,.slice none 0 0] _
 have g6:=Hd (hx.next O);have g7:=Hd (hy.next O);have d9:=Hd (hu.next O);have HE:=Hd (h.next O);have g4:=Hd (G2 ki u i W1 (hu.next O));have HW:=Hd b5;have HS:=Hd hS;have HK:=Hd hK;have b9:Hid (∀ e∈L,key ki e.1=key ki i->e.1=i):=fun e he hk=>Qw hK (hS.ents e he).1 hu.1 hk;obtain⟨tx,zx,rfl⟩:=hx.form;obtain⟨ty,zy,rfl⟩:=hy.form;obtain⟨tu,zu,rfl⟩:=hu.form;obtain⟨p0,c0,rfl,_,_,_⟩:=h;clear hT b5 O hx hy hu hz hS hK
 go_in
 go_upto_region 1 with fail
 rw[HW.o]
 go_wp2_with fail
 refine g4.o.mono ?_;rintro e w2 ⟨b,rfl,hb,F⟩;obtain rfl:b=false:=by
  cases b
  ·rfl
  exact absurd (hb.1 rfl) HZ.o
 have e8:=e7.up F;have Y:=Hd (e3.o.bl e3.o.lt F);have b4:=Hd (e4.o.bl e4.o.lt F);have d5:=Hd (g6.o.next F);have d6:=Hd (g7.o.next F);have d4:=Hd (d9.o.next F);have f9:=Hd (HE.o.next F);have g2:=Hd (YG ki ke (.iface tx zx) _ _ L i w2 (HE.o.next F) HS.o.sort (d9.o.next F) hki HK.o (HT.o.next e8.o) (by omega));clear F hb g4 g6 g7 d9 HE e3 e4 HW e7;obtain⟨e0,e1⟩:=Y.o.c2
 go_wp2_with fail
 refine g2.o.mono ?_;rintro e w3 ⟨p,found,rfl,h6,K⟩;have I:=e8.up K;have j:=Hd (Y.o.bl Y.o.lt K);have E:=Hd (b4.o.bl b4.o.lt K);have G:=Hd (d5.o.next K);have J:=Hd (d6.o.next K);have b3:=Hd (d4.o.next K);have f7:=Hd (IH ki ke w3 _ L (f9.o.next K) (by omega));have H:=Hd h6;clear K h6 g2 d5 d6 d4 f9 Y b4 e0 e1;obtain⟨e0,e1⟩:=j.o.c2
 go_wp2_with fail
 refine f7.o.mono ?_;rintro e w4 ⟨v4,rfl,b6,h7⟩;have l3:Hid (w.heap.size+1<w3.heap.size):=E.o.lt;have c8:=Hd b6;have U:=Hd h7;have l4:p<=60:=by have:=H.o.1;omega
 clear h7 b6 f7 e0 e1;obtain⟨fb,a7⟩:∃ fb,fb=found:=⟨_,rfl⟩;rw[<-a7] at H
 cases found
 case' true=>
  have f8:Hid (Calls prog 55 #[v4,.int .i64 p,.int .i64 ((p:Int)+1)] w4 fun e w'=>∃ v',e=.returned v'/\ERow ki ke w3.heap.size w' v' (Rl fb p L)/\Below w3.heap.size w4 w'/\v'.ownBlock=v4.ownBlock):=by unfold Hid;rw[a7];exact UT ki ke w3.heap.size p w4 v4 L c8.o (H.o.2.2.2.1 a7).1 (by omega)
  clear a7
  go_wp2_with fail
  refine f8.o.mono ?_;rintro e w5 ⟨v5,rfl,b7,h8,_⟩;have e2:=Hd b7;have d:Hid (Up w3 w5):=U.o.trans h8;clear b7 h8 f8 c8 U;have e1:w5.cell? ⟨w.heap.size,0,none⟩=some (.iface tx zx):=((j.o.bl j.o.lt d.o).c2).1;have d8:=Hd (I5 ke _ _ s r w5 (J.o.next d.o) (G.o.next d.o) hke (HT.o.next (I.o.trans (d.o.mono I.o.size))))
  go_wp2_with fail
 case' false=>
  obtain⟨v5,rfl⟩:∃ v5,v5=v4:=⟨_,rfl⟩;obtain⟨w5,rfl⟩:∃ w5,w5=w4:=⟨_,rfl⟩;have e2:Hid (ERow ki ke w3.heap.size w5 v5 (Rl fb p L)):=by unfold Hid;rw[a7];exact c8.o
  clear a7;have d:=U;clear c8 U;have e1:w5.cell? ⟨w.heap.size,0,none⟩=some (.iface tx zx):=((j.o.bl j.o.lt d.o).c2).1;have d8:=Hd (I5 ke _ _ s r w5 (J.o.next d.o) (G.o.next d.o) hke (HT.o.next (I.o.trans (d.o.mono I.o.size))))
  go_wp2_with fail
 all_goals
  refine d8.o.mono ?_;rintro e w6 ⟨c,rfl,hc,e6⟩;have b8:=Hd hc.1;have D:=d.up e6;have a6:=Hd (e2.o.bl e6);clear hc e6 d8 e2 d e1;have e1:w6.cell? ⟨w.heap.size,0,none⟩=some (.iface tx zx):=((j.o.bl j.o.lt D.o).c2).1;have d1:=E.o.bl E.o.lt D.o;have e5:=Hd d1;have e9:Hid (Up w w6):=I.o.trans (D.o.mono I.o.size);have Z:=Hd (BH H.o.1 (fun e=>(H.o.2.2.2.1 e).1));obtain⟨g0,g1⟩:=d1.c2;obtain⟨f0,f1⟩:=d1.f2;clear d1;obtain⟨m6,i1⟩:∃ m6,m6=List.length (Rl fb p L):=⟨_,rfl⟩;obtain⟨p6,c6,i7⟩:=a6.o.form;rw[<-i1] at i7;subst i7;clear i1
  by_cases h0:c=0
  ·have HQ:=Hd (CQ (r:=r) (s:=s) HZ.o HS.o.sort b9.o H.o (b8.o.1 h0));have a8:=Hd (GP (tx:=tx) (zx:=zx) HQ.o (by have:=Z.o;omega) (by omega) e9.o e5.o a6.o (G.o.next D.o));clear b8 Z a6 HQ e5 E j G J b3 H b9;subst h0
   go_wp2_with fail
   refine Jh ?_ rfl a8.o;have h5:=(World.cell?_setCell_same _ _ (.iface tx zx) g0);simp[results,results22,go_sem,g0,g1]
  have hq:(c==0)=false:=by rw[Jd];exact h0
  have g3:=Hd (KQ ki ke w3.heap.size w6.heap.size p (w6.alloc (.cells #[.iface tu zu,.iface ty zy] 79)) _ _ _ _ (i,s) (a6.o.bl (Oo w6 _)) (Ox w6 [.iface tu zu,.iface ty zy] _) (fun e=>by obtain⟨xs,j9,_⟩:=a6.o.ex;have:=(j9.lt _ e).2;omega) (by simp;have:=D.o.size;omega) ((b3.o.next D.o).next (Oo w6 _)) ((J.o.next D.o).next (Oo w6 _)) (by have:=Z.o;omega) Z.o.1);have HQ:=Hd (CR (r:=r) (s:=s) HZ.o HS.o.sort b9.o H.o (fun e=>h0 (b8.o.2 e)));have g5:Hid (((Rl fb p L).take p++(i,s)::(Rl fb p L).drop p).length<=100):=by have:=Z.o;unfold Hid;simp;omega
  clear b8 Z e5 b3 H b9 g0 g1 f0 f1
  go_wp2_with fail
  refine g3.o.mono ?_;rintro e w7 ⟨v7,rfl,T,h9⟩;have V:Hid (Up w3 w7):=(D.o.alloc D.o.size _).trans h9;have g9:=Hd T;have d2:=E.o.bl E.o.lt V.o;have h1:=Hd d2;have f5:Hid (Up w w7):=I.o.trans (V.o.mono I.o.size);clear e1;have e1:w7.cell? ⟨w.heap.size,0,none⟩=some (.iface tx zx):=((j.o.bl j.o.lt V.o).c2).1;obtain⟨g0,g1⟩:=d2.c2;obtain⟨f0,f1⟩:=d2.f2;obtain⟨m7,i6⟩:∃ m7,m7=List.length ((Rl fb p L).take p++(i,s)::(Rl fb p L).drop p):=⟨_,rfl⟩;obtain⟨p7,c7,i8⟩:=T.form;rw[<-i6] at i8;subst i8;have a8:=Hd (GP (tx:=tx) (zx:=zx) HQ.o g5.o (by omega) f5.o h1.o g9.o (G.o.next V.o));clear i6 d2 h9 T g3 a6 g9 HQ g5 h1 E j G J
  go_wp2_with fail
  refine Jh ?_ rfl a8.o;simp[results,results22,go_sem,g0,g1]
theorem EM:WG:=fun ki ke x v u y r i s L w hK hki hke hx h hS hn hu hy hT=>by
 by_cases d:E7 ki i
 ·exact FI ki ke x v u y r i s L w hki hke hx h hS hn hu hy hT d
 exact FH ki ke x v u y r i s L w hK hki hke hx h hS hn hu hy hT d
end Go.Proofs.YtjjgilacnocigaaGreatDoor
