import Derived.Test.YtdmdmgfjpomdbaaGreatDoorP00
import Derived.Test.YtdmdmgfjpomdbaaGreatDoorP35
import Derived.Test.YtdmdmgfjpomdbaaGreatDoorP14
import Derived.HandedShaped
import Derived.Shelf.Vars
import Derived.Deep.Slices
import Derived.Stop.LaidErr
import Derived.Stop.Texts
import Derived.WalkSmall
import Derived.ChangeVars
set_option maxRecDepth 100000
namespace Go.Proofs.YtdmdmgfjpomdbaaGreatDoor
open ChangeShapes WideShapes ChangeAt RowKit Proofs.Tryz
variable {W w:World}{cs:List Value}{fuel:Nat}{v:Value}
theorem BA:prog.globalNamed "strconv.ErrSyntax" = some 4:=by kernel_rfl
theorem BB:prog.globalNamed "strconv.ErrRange" = some 5:=by kernel_rfl
theorem AS:(prog.globals[4]?).map (·.type)=some 179:=by kernel_rfl
theorem AA:(prog.globals[5]?).map (·.type)=some 179:=by kernel_rfl
theorem CV : "*" ++ "errors.errorString" = "*errors.errorString" := by decide
theorem MZ (u:TypeId)(h:prog.typeName? 3 u=some "*errors.errorString"):u=258:=
 typeName_ptr_named (nm:= "errors.errorString") (by rw[CV];kernel_rfl) (by kernel_rfl) (by decide) u (by rw[CV];exact h)
theorem VI {L:List (String×DataW Unit)}(h:laidMet prog (("strconv.ErrRange",Rows.laid_strconv_ErrRange)::("strconv.ErrSyntax",Rows.laid_strconv_ErrSyntax)::L) W):EV W:=by
 obtain⟨a0,A,d,-,-,-⟩:=laid_sentinel h BB AA underlying179 MZ underlying258 underlying260 rfl rfl underlying9 (by kernel_rfl) (by kernel_rfl);obtain⟨a1,E,j,-,-,-⟩:=laid_sentinel h.tail BA AS underlying179 MZ underlying258 underlying260 rfl rfl underlying9 (by kernel_rfl) (by kernel_rfl);have c0:=Uk BB d 0;have c1:=Uk BA j 0;exact⟨⟨_,by simpa using c1,.inr ⟨_,_,rfl⟩⟩,⟨_,by simpa using c0,.inr ⟨_,_,rfl⟩⟩⟩
def XJ {H:Type}(r:Rule):DataW H:=.agg [.lit (.int .u8 (r.last:Nat)),.lit (.int .u8 (r.least:Nat)),.lit (.int .u8 (r.most:Nat)),.lit (.int .u8 (r.sort:Nat)),.agg [.lit (.int .u8 (r.r0:Nat)),.lit (.int .u8 (r.r1:Nat)),.lit (.int .u8 (r.r2:Nat))]]
theorem KC:(Rows.laid_loop_example_g00007_impl_termRules:DataW Unit)=.agg (rules.map XJ):=rfl
theorem MP:prog.globalNamed "loop.example/g00007/impl.termRules" = some 0:=by kernel_rfl
theorem BY:(prog.globals[0]?).map (·.type)=some 139:=by kernel_rfl
theorem Bi (h:cs.length=3):∃ v0 v1 v2,cs=[v0,v1,v2]:=by
 match cs,h with
 | [v0,v1,v2],_=>exact⟨v0,v1,v2,rfl⟩
theorem DB (h:cs.length=7):∃ v0 v1 v2 v3 v4 v5 v6,cs=[v0,v1,v2,v3,v4,v5,v6]:=by
 match cs,h with
 | [v0,v1,v2,v3,v4,v5,v6],_=>exact⟨v0,v1,v2,v3,v4,v5,v6,rfl⟩
theorem Sc {H:Type}{enc:TypeId×Value->H}{base:Nat}{spare:Nat->Bool}{held:Bool}{a b c:Int}{x:DataW H×List MemPlace}
 (h:DataW.trod enc prog w base spare held fuel 123 cs=some x) (hx:x.1=.agg [.lit (.int .u8 a),.lit (.int .u8 b),.lit (.int .u8 c)]):cs=[.int .u8 a,.int .u8 b,.int .u8 c]:=by
 obtain⟨xs,m,_,rfl,hl,hn,d⟩:=DataW.trod_array underlying123 h;have c1:prog.cellsOf 5=1:=by kernel_rfl
 have c3:prog.cellsOf 123=3:=by kernel_rfl
 rw[c3] at hl;obtain⟨v0,U,v2,rfl⟩:=Bi hl;have j:=d 0 (by decide);have A:=d 1 (by decide);have e2:=d 2 (by decide);rw[c1] at j A e2
 match xs,hn with
 | [y0,y1,y2],_=>
   obtain⟨K,i0,G,_⟩:=DataW.trod_int underlying5 (show DataW.trod _ prog w base spare held m 5 _=some y0 from j);obtain⟨M,E,I,_⟩:=DataW.trod_int underlying5 (show DataW.trod _ prog w base spare held m 5 _=some y1 from A);obtain⟨O,i2,J,_⟩:=DataW.trod_int underlying5 (show DataW.trod _ prog w base spare held m 5 _=some y2 from e2);subst G I J;simp only[Vh,Vt,DataW.agg.injEq,List.cons.injEq,DataW.lit.injEq,Lit.int.injEq,true_and,and_true] at hx;obtain⟨rfl,rfl,rfl⟩:=hx;simp at i0 E i2;rw[i0,E,i2]
theorem Th {H:Type}{enc:TypeId×Value->H}{base:Nat}{spare:Nat->Bool}{held:Bool}{r:Rule}{x:DataW H×List MemPlace}
 (h:DataW.trod enc prog w base spare held fuel 125 cs=some x) (hx:x.1=XJ r):cs=[.int .u8 (r.last:Nat),.int .u8 (r.least:Nat),.int .u8 (r.most:Nat),.int .u8 (r.sort:Nat),.int .u8 (r.r0:Nat),.int .u8 (r.r1:Nat),.int .u8 (r.r2:Nat)]:=by
 obtain⟨xs,k,_,rfl,d,J,j⟩:=DataW.trod_struct underlying125 h;have c1:prog.cellsOf 5=1:=by kernel_rfl
 have c3:prog.cellsOf 123=3:=by kernel_rfl
 have c7:prog.cellsOf 125=7:=by kernel_rfl
 rw[c7] at d;obtain⟨v0,E,v2,v3,v4,v5,G,rfl⟩:=DB d;have A:xs.length=5:=J;have f0:DataW.trod enc prog w base spare held k 5 (List.take (prog.cellsOf 5) (List.drop 0 [v0,E,v2,v3,v4,v5,G]))=xs[0]? := j 0 _ rfl;have f1:DataW.trod enc prog w base spare held k 5 (List.take (prog.cellsOf 5) (List.drop 1 [v0,E,v2,v3,v4,v5,G]))=xs[1]? := j 1 _ rfl;have f2:DataW.trod enc prog w base spare held k 5 (List.take (prog.cellsOf 5) (List.drop 2 [v0,E,v2,v3,v4,v5,G]))=xs[2]? := j 2 _ rfl;have f3:DataW.trod enc prog w base spare held k 5 (List.take (prog.cellsOf 5) (List.drop 3 [v0,E,v2,v3,v4,v5,G]))=xs[3]? := j 3 _ rfl;have f4:DataW.trod enc prog w base spare held k 123 (List.take (prog.cellsOf 123) (List.drop 4 [v0,E,v2,v3,v4,v5,G]))=xs[4]? := j 4 _ rfl;rw[c1] at f0 f1 f2 f3;rw[c3] at f4
 match xs,A with
 | [y0,y1,y2,y3,y4],_=>
   obtain⟨n0,i0,M,_⟩:=DataW.trod_int underlying5 (show DataW.trod _ prog w base spare held k 5 _=some y0 from f0);obtain⟨n1,K,O,_⟩:=DataW.trod_int underlying5 (show DataW.trod _ prog w base spare held k 5 _=some y1 from f1);obtain⟨n2,i2,U,_⟩:=DataW.trod_int underlying5 (show DataW.trod _ prog w base spare held k 5 _=some y2 from f2);obtain⟨n3,i3,V,_⟩:=DataW.trod_int underlying5 (show DataW.trod _ prog w base spare held k 5 _=some y3 from f3);subst M O U V;simp only[XJ,Vh,Vt,DataW.agg.injEq,List.cons.injEq,DataW.lit.injEq,Lit.int.injEq,true_and,and_true] at hx;obtain⟨rfl,rfl,rfl,rfl,h4⟩:=hx;have I:=Sc (show DataW.trod _ prog w base spare held k 123 _=some y4 from f4) h4;simp at i0 K i2 i3 I;obtain⟨I,Y,Z⟩:=I;rw[i0,K,i2,i3,I,Y,Z]
theorem KQ {L:List (String×DataW Unit)}(h:laidMet prog (("loop.example/g00007/impl.termRules",Rows.laid_loop_example_g00007_impl_termRules)::L) W):RT W:=by
 obtain⟨ps,⟨g0,t0,G,f0,p0,q0,E,K,M,I,_,_⟩,_⟩:=h;obtain rfl:=Option.some.inj (MP.symm.trans E);obtain rfl:=Option.some.inj (BY.symm.trans K);have A:=Uk E M;obtain⟨xs,m,_,Y,hl,hn,J⟩:=DataW.trod_array underlying139 I;have c7:prog.cellsOf 125=7:=by kernel_rfl
 rw[KC] at Y;have hm:rules.map XJ=xs.map (·.1):=DataW.agg.inj (Prod.mk.inj Y).1;have V:rules.length=25:=rfl;intro i Z;have e:=J i (by omega);rw[c7,Jd (by omega)] at e;have O:xs[i].1=XJ rules[i]:=by
  have U:(rules.map (XJ (H:=Unit)))[i]? = (xs.map (·.1))[i]? := by rw[hm]
  rw[Y6,Y6,Jd Z,Jd (by omega)] at U
  simpa using U.symm
 have p:=Th e O;have j:∀ d v,d<7->(List.take 7 (List.drop (i*7) G.toList))[d]? = some v->W.cell? ⟨0,i*7+d,none⟩=some v:=fun d v hd hv=>by
  rw[List.getElem?_take_of_lt hd,Uz] at hv;rw[A (i*7+d)]
  simpa using hv
 rw[p] at j;exact⟨j 0 _ (by decide) rfl,j 1 _ (by decide) rfl,j 2 _ (by decide) rfl,j 3 _ (by decide) rfl,j 4 _ (by decide) rfl,j 5 _ (by decide) rfl,j 6 _ (by decide) rfl⟩
theorem Pu {H:Type}{enc:TypeId×Value->H}{a:Assume}{C:Checked}{os:Os}{f:FuncId}{fn:Func}{s:ChangeSpec}{conds:List PathCond}{apart fresh handsOn again:Bool}{X:World->Array Value->Prop}
 (hX:∀ (w w':World) (args:Array Value),w.heap=w'.heap->X w args->X w' args)
 (own:ownKnob C.prog.godebug=none) (started:os.Started) (noInit:C.prog.inits.idxOf? f=none) (hfn:C.prog.funcs[f]? = some fn)
 (witness:∃ (w:World) (tape:Tape) (i:Input),w.os=os/\(w.forCall tape i).Shaped C.prog/\i.vars=[]/\Input.okWide C.prog (w.forCall tape i) .any w.heap.size f i /\
   ((s.pre enc C.prog fn conds apart (w.forCall tape i).memory i.args/\X (w.forCall tape i).memory i.args)/\sizedMet enc C.prog fn (OpenSpec.ofChange s) apart (w.forCall tape i).memory i.args)/\a.holds C.prog (lone (Frame.enter C.prog f i.args .normal) [] (w.forCall tape i)))
 (contract:∀ (W:World) (base:Nat) (args:Array Value) (ds gs:List (DataW H)) (before:List MemPlace),
   (∀ (j:Nat) t v,fn.params[j]? = some t->args[j]? = some v->Value.okWide C.prog W .any base t v) ->
   DataW.Whole enc C.prog fn.params.toList s.vars apart W args.toList ds gs before ->
   conds.all (PathCond.test C.prog ⟨fn.params.toList,ds,s.plain.varTypes C.prog,gs⟩)=true ->
   (DataW.weightsEach C.prog (fn.params.toList++s.plain.varTypes C.prog) (ds++gs)).all (·<=reachBytes)=true->X W args->W.ShapedOpen C.prog ->
   a.holds C.prog (lone (Frame.enter C.prog f args .normal) [] W) ->
   Calls C.prog f args W fun e W'=>∃ v,e=.returned v/\s.post enc C.prog fn apart fresh handsOn again W args v W') :
 ReturnsInHanded a C os f .any (fun w args=>(s.pre enc C.prog fn conds apart w args/\X w args)/\sizedMet enc C.prog fn (OpenSpec.ofChange s) apart w args) (s.post enc C.prog fn apart fresh handsOn again):=by
 refine returnsInHanded_of_calls own started noInit witness ?_;intro w tape i _ K _ J E d;obtain⟨_,_,_,I,A,_,_,_,_,G⟩:=J;obtain rfl:I=fn:=Option.some.inj (A.symm.trans hfn);obtain⟨⟨⟨ds,gs,before,M,hc⟩,U⟩,V⟩:=E;refine (contract (w.forCall tape i) w.heap.size i.args ds gs before G (DataW.Whole.of_heap (w':=w.forCall tape i) (by rfl) M) hc (V.weights M) (hX _ _ _ (by rfl) U) K d).mono fun e W' h=>?_;obtain⟨v,rfl,O⟩:=h;exact ChangeSpec.post_blind O
theorem UJ (h:w.ShapedOpen prog):∃ m,w.cell? ⟨1,0,none⟩=some (.int .i64 m):=
 cell_of_shapedOpen_int (t:=3) (zero:=#[.int .i64 0]) h (by decide +kernel) (by kernel_rfl) rfl (by kernel_rfl) (by kernel_rfl) underlying3
theorem Du {α:Type}{Q:Nat->α->Prop}:∀ n:Nat,(∀ i,i<n->∃ x,Q i x)->∃ l:List α,l.length=n/\∀ i (h:i<l.length),Q i l[i]
 | 0,_=>⟨[],rfl,fun i h=>absurd h (J2 _)⟩
 | n+1,h=>by
   obtain⟨l,hl,j⟩:=Du n (fun i hi=>h i (by omega))
   obtain⟨x,A⟩:=h n (by omega)
   refine⟨l++[x],by simp[hl],fun i hi=>?_⟩
   by_cases e:i<l.length
   ·rw[V9 e];exact j i e
   have d:i=l.length:=by simp at hi;omega
   subst d
   rw[Vy leR]
   simp only[Nat.sub_self,Yp]
   rw[hl];exact A
theorem MW (h:cs.length=6):∃ v0 v1 v2 v3 v4 v5,cs=[v0,v1,v2,v3,v4,v5]:=by
 match cs,h with
 | [v0,v1,v2,v3,v4,v5],_=>exact⟨v0,v1,v2,v3,v4,v5,rfl⟩
theorem CJ (b off k:Nat):(⟨b,off,none⟩:Addr).add k=⟨b,off+k,none⟩:=by simp[Addr.add]
theorem NL {H:Type}{enc:TypeId×Value->H}{x:DataW H×List MemPlace}
 (h:DataW.trod enc prog W 0 (fun _=>true) true fuel 22 [v]=some x):∃ L,E3 W v L:=by
 rcases Go.Deep.open_slice underlying22 h with⟨d,_⟩|⟨A,l,c,m,n,D,Pl,d,_,hl,hm,U,_,hx⟩
 ·simp only[List.cons.injEq,and_true] at d;subst d;exact⟨[],_,_,rfl,Jr _,Jr _,fun s hs=>(by cases hs),.inl rfl⟩
 simp only[List.cons.injEq,and_true] at d;subst d;have O:prog.cellsOf 9=1:=by kernel_rfl
 simp only[if_true] at U;rw[O] at hx;have J:∀ i,i<l->∃ s:List UInt8,W.cell? (A.add i)=some (.string (Oo s))/\s.length<=maxLen:=by
  intro i hi;obtain⟨cs,h1,h2⟩:=hx i (by omega);obtain⟨_,a7,G⟩:=World.cells?_some h1;obtain⟨s,e,_,hw⟩:=DataW.trod_string underlying9 h2;subst e;have E:=G 0 (by decide);refine⟨s.data.toList,?_,Yc (U4 Vr) hw⟩;rw[Kq]
  simpa[Addr.add] using E
 obtain⟨L,hL,V⟩:=Du l J;subst hL;refine⟨L,_,_,rfl,by omega,hm,fun s hs=>?_,?_⟩
 ·obtain⟨j,hj,rfl⟩:=J6 hs;exact (V j hj).2
 by_cases Z:L=[]
 ·exact .inl Z
 right
 have K:0<L.length:=Zj.2 Z;obtain⟨b,Y,M⟩:=A;have E:=(V 0 K).1;have I:M=none:=by simpa[Addr.add] using World.cell?_spot E
 subst I;refine⟨b,Y,rfl,?_,fun i hi=>?_⟩
 ·have:=J5 W _ E
  simpa[Addr.add] using this
 have:=(V i hi).1
 rwa [CJ] at this
theorem FC {H:Type}{enc:TypeId×Value->H}{x:DataW H×List MemPlace}
 (h:DataW.trod enc prog W 0 (fun _=>true) true fuel 50 [v]=some x):∃ L,G2 W v L:=by
 rcases Go.Deep.open_slice underlying50 h with⟨d,_⟩|⟨A,l,c,m,n,D,Pl,d,_,hl,hm,O,_,hx⟩
 ·simp only[List.cons.injEq,and_true] at d;subst d;exact⟨[],_,_,rfl,Jr _,Jr _,.inl rfl⟩
 simp only[List.cons.injEq,and_true] at d;subst d;have M:prog.cellsOf 3=1:=by kernel_rfl
 simp only[if_true] at O;rw[M] at hx;have I:∀ i,i<l->∃ z:Int,W.cell? (A.add i)=some (.int .i64 z):=by
  intro i hi;obtain⟨cs,h1,h2⟩:=hx i (by omega);obtain⟨_,Y,E⟩:=World.cells?_some h1;obtain⟨z,e,_,_⟩:=DataW.trod_int underlying3 h2;subst e;have j:=E 0 (by decide);exact⟨z,by simpa[Addr.add] using j⟩
 obtain⟨L,hL,Z⟩:=Du l I;subst hL;refine⟨L,_,_,rfl,by omega,hm,?_⟩
 by_cases V:L=[]
 ·exact .inl V
 right
 have J:0<L.length:=Zj.2 V;obtain⟨b,U,K⟩:=A;have j:=Z 0 J;have G:K=none:=by simpa[Addr.add] using World.cell?_spot j
 subst G;refine⟨b,U,rfl,?_,fun i hi=>?_⟩
 ·have:=J5 W _ j
  simpa[Addr.add] using this
 have:=Z i hi
 rwa [CJ] at this
theorem PZ {H:Type}{enc:TypeId×Value->H}{x:DataW H×List MemPlace}
 (h:DataW.trod enc prog W 0 (fun _=>true) true fuel 42 cs=some x):∃ (f:Fn) (va:Value),cs=[.string (Oo f.name),va,.string (Oo f.sort)]/\E3 W va f.args/\f.name.length<=maxLen/\f.sort.length<=maxLen:=by
 obtain⟨xs,k,_,_,d,G,E⟩:=DataW.trod_struct underlying42 h;have c3:prog.cellsOf 42=3:=by kernel_rfl
 have c9:prog.cellsOf 9=1:=by kernel_rfl
 have A:prog.cellsOf 22=1:=by kernel_rfl
 rw[c3] at d;obtain⟨v0,j,v2,rfl⟩:=Bi d;have J:xs.length=3:=G;have f0:DataW.trod enc prog W 0 (fun _=>true) true k 9 (List.take (prog.cellsOf 9) (List.drop 0 [v0,j,v2]))=xs[0]? := E 0 _ rfl;have f1:DataW.trod enc prog W 0 (fun _=>true) true k 22 (List.take (prog.cellsOf 22) (List.drop 1 [v0,j,v2]))=xs[1]? := E 1 _ rfl;have f2:DataW.trod enc prog W 0 (fun _=>true) true k 9 (List.take (prog.cellsOf 9) (List.drop 2 [v0,j,v2]))=xs[2]? := E 2 _ rfl;rw[c9,Jd (by omega)] at f0 f2;rw[A,Jd (by omega)] at f1;obtain⟨M,I,_,w0⟩:=DataW.trod_string underlying9 f0;obtain⟨O,e2,_,w2⟩:=DataW.trod_string underlying9 f2;obtain⟨L,K⟩:=NL (v:=j) (by simpa using f1);simp at I e2;subst I e2;exact⟨⟨M.data.toList,L,O.data.toList⟩,j,by rw[Kq,Kq],K,Yc (U4 Vr) w0,Yc (U4 Vr) w2⟩
theorem FH {H:Type}{enc:TypeId×Value->H}{x:DataW H×List MemPlace}
 (h:DataW.trod enc prog W 0 (fun _=>true) true fuel 23 [v]=some x):∃ F,X9 W v F:=by
 rcases Go.Deep.open_slice underlying23 h with⟨E,_⟩|⟨A,l,c,m,n,D,Pl,E,_,hl,hm,V,_,hx⟩
 ·simp only[List.cons.injEq,and_true] at E;subst E;exact⟨[],_,_,rfl,Jr _,Jr _,fun s hs=>(by cases hs),.inl rfl⟩
 simp only[List.cons.injEq,and_true] at E;subst E;have U:prog.cellsOf 42=3:=by kernel_rfl
 simp only[if_true] at V;rw[U] at hx;have J:∀ i,i<l->∃ f:Fn,(W.cell? ((A.add (i*3)).add 0)=some (.string (Oo f.name))/\(∃ va,W.cell? ((A.add (i*3)).add 1)=some va/\E3 W va f.args)/\W.cell? ((A.add (i*3)).add 2)=some (.string (Oo f.sort)))/\f.name.length<=maxLen/\f.sort.length<=maxLen:=by
  intro i hi;obtain⟨cs,h1,h2⟩:=hx i (by omega);obtain⟨_,_,d⟩:=World.cells?_some h1;obtain⟨f,va,rfl,I,hn,hs⟩:=PZ h2;exact⟨f,⟨d 0 (by decide),⟨va,d 1 (by decide),I⟩,d 2 (by decide)⟩,hn,hs⟩
 obtain⟨L,hL,Y⟩:=Du l J;subst hL;refine⟨L,_,_,rfl,by omega,hm,fun s hs=>?_,?_⟩
 ·obtain⟨j,hj,rfl⟩:=J6 hs;exact (Y j hj).2
 by_cases h0:L=[]
 ·exact .inl h0
 right
 have M:0<L.length:=Zj.2 h0;obtain⟨b,Z,O⟩:=A;have K:=(Y 0 M).1.1;have G:O=none:=by simpa[Addr.add] using World.cell?_spot K
 subst G;refine⟨b,Z,rfl,?_,fun i hi=>?_⟩
 ·have:=J5 W _ K
  simpa[Addr.add] using this
 obtain⟨⟨k0,⟨va,k1,I⟩,k2⟩,_⟩:=Y i hi;simp only[CJ] at k0 k1 k2;exact⟨k0,⟨va,k1,I⟩,k2⟩
theorem SK {H:Type}{enc:TypeId×Value->H}{x:DataW H×List MemPlace}
 (h:DataW.trod enc prog W 0 (fun _=>true) true fuel 52 cs=some x):∃ (t:Tm) (va:Value),cs=[.int .i64 t.op,.string (Oo t.sort),.string (Oo t.text),.int .i64 t.a,.int .i64 t.b,va]/\G2 W va t.kids/\t.sort.length<=maxLen/\t.text.length<=maxLen/\BD [t]:=by
 obtain⟨xs,k,_,_,d,I,j⟩:=DataW.trod_struct underlying52 h;have G:prog.cellsOf 52=6:=by kernel_rfl
 rw[G] at d;obtain⟨v0,A,v2,v3,v4,v5,rfl⟩:=MW d;have c3:prog.cellsOf 3=1:=by kernel_rfl
 have c9:prog.cellsOf 9=1:=by kernel_rfl
 have E:prog.cellsOf 50=1:=by kernel_rfl
 have U:xs.length=6:=I;have f0:DataW.trod enc prog W 0 (fun _=>true) true k 3 (List.take (prog.cellsOf 3) (List.drop 0 [v0,A,v2,v3,v4,v5]))=xs[0]? := j 0 _ rfl;have f1:DataW.trod enc prog W 0 (fun _=>true) true k 9 (List.take (prog.cellsOf 9) (List.drop 1 [v0,A,v2,v3,v4,v5]))=xs[1]? := j 1 _ rfl;have f2:DataW.trod enc prog W 0 (fun _=>true) true k 9 (List.take (prog.cellsOf 9) (List.drop 2 [v0,A,v2,v3,v4,v5]))=xs[2]? := j 2 _ rfl;have f3:DataW.trod enc prog W 0 (fun _=>true) true k 3 (List.take (prog.cellsOf 3) (List.drop 3 [v0,A,v2,v3,v4,v5]))=xs[3]? := j 3 _ rfl;have f4:DataW.trod enc prog W 0 (fun _=>true) true k 3 (List.take (prog.cellsOf 3) (List.drop 4 [v0,A,v2,v3,v4,v5]))=xs[4]? := j 4 _ rfl;have f5:DataW.trod enc prog W 0 (fun _=>true) true k 50 (List.take (prog.cellsOf 50) (List.drop 5 [v0,A,v2,v3,v4,v5]))=xs[5]? := j 5 _ rfl;rw[c3,Jd (by omega)] at f0 f3 f4;rw[c9,Jd (by omega)] at f1 f2;rw[E,Jd (by omega)] at f5;obtain⟨Y,J,_,w0⟩:=DataW.trod_int underlying3 f0;obtain⟨s1,K,_,w1⟩:=DataW.trod_string underlying9 f1;obtain⟨s2,e2,_,w2⟩:=DataW.trod_string underlying9 f2;obtain⟨Z,M,_,w3⟩:=DataW.trod_int underlying3 f3;obtain⟨n4,O,_,w4⟩:=DataW.trod_int underlying3 f4;obtain⟨L,V⟩:=FC (v:=v5) (by simpa using f5);simp at J K e2 M O;subst J K e2 M O;exact⟨⟨Y,s1.data.toList,s2.data.toList,Z,n4,L⟩,v5,by rw[Kq,Kq],V,Yc (U4 Vr) w1,Yc (U4 Vr) w2,fun u hu=>by obtain rfl:=Zv.1 hu;exact⟨w0,w3,w4⟩⟩
theorem CI {H:Type}{enc:TypeId×Value->H}{x:DataW H×List MemPlace}
 (h:DataW.trod enc prog W 0 (fun _=>true) true fuel 24 [v]=some x):∃ T,Im W v T/\BD T:=by
 rcases Go.Deep.open_slice underlying24 h with⟨E,_⟩|⟨A,l,c,m,n,D,Pl,E,_,hl,hm,Z,_,hx⟩
 ·simp only[List.cons.injEq,and_true] at E;subst E;exact⟨[],⟨_,_,rfl,Jr _,Jr _,fun s hs=>(by cases hs),.inl rfl⟩,fun t ht=>(by cases ht)⟩
 simp only[List.cons.injEq,and_true] at E;subst E;have V:prog.cellsOf 52=6:=by kernel_rfl
 simp only[if_true] at Z;rw[V] at hx;have J:∀ i,i<l->∃ t:Tm,(W.cell? ((A.add (i*6)).add 0)=some (.int .i64 t.op)/\W.cell? ((A.add (i*6)).add 1)=some (.string (Oo t.sort))/\W.cell? ((A.add (i*6)).add 2)=some (.string (Oo t.text))/\W.cell? ((A.add (i*6)).add 3)=some (.int .i64 t.a)/\W.cell? ((A.add (i*6)).add 4)=some (.int .i64 t.b)/\∃ va,W.cell? ((A.add (i*6)).add 5)=some va/\G2 W va t.kids)/\(t.sort.length<=maxLen/\t.text.length<=maxLen)/\(Lit.int .i64 t.op).wf=true/\(Lit.int .i64 t.a).wf=true/\(Lit.int .i64 t.b).wf=true:=by
  intro i hi;obtain⟨cs,h1,h2⟩:=hx i (by omega);obtain⟨_,_,d⟩:=World.cells?_some h1;obtain⟨t,va,rfl,I,hn,hs,hw⟩:=SK h2;exact⟨t,⟨d 0 (by decide),d 1 (by decide),d 2 (by decide),d 3 (by decide),d 4 (by decide),va,d 5 (by decide),I⟩,⟨hn,hs⟩,hw t (Zv.2 rfl)⟩
 obtain⟨L,hL,U⟩:=Du l J;subst hL;refine⟨L,⟨_,_,rfl,by omega,hm,fun s hs=>?_,?_⟩,fun s hs=>?_⟩
 ·obtain⟨j,Y,rfl⟩:=J6 hs;exact (U j Y).2.1
 ·by_cases h0:L=[]
  ·exact .inl h0
  right
  have M:0<L.length:=Zj.2 h0;obtain⟨b,a7,O⟩:=A;have K:=(U 0 M).1.1;have G:O=none:=by simpa[Addr.add] using World.cell?_spot K
  subst G;refine⟨b,a7,rfl,?_,fun i hi=>?_⟩
  ·have:=J5 W _ K
   simpa[Addr.add] using this
  obtain⟨⟨k0,k1,k2,k3,k4,va,k5,I⟩,_⟩:=U i hi;simp only[CJ] at k0 k1 k2 k3 k4 k5;exact⟨k0,k1,k2,k3,k4,va,k5,I⟩
 obtain⟨j,Y,rfl⟩:=J6 hs;exact (U j Y).2.2
theorem FO {H:Type}{enc:TypeId×Value->H}{x:DataW H×List MemPlace}
 (h:DataW.trod enc prog W 0 (fun _=>true) true fuel 26 cs=some x):∃ vs vf vt S F T,cs=[vs,vf,vt]/\ArgBank W vs vf vt S F T/\BD T:=by
 obtain⟨xs,k,_,_,d,E,A⟩:=DataW.trod_struct underlying26 h;have c3:prog.cellsOf 26=3:=by kernel_rfl
 have I:prog.cellsOf 22=1:=by kernel_rfl
 have J:prog.cellsOf 23=1:=by kernel_rfl
 have K:prog.cellsOf 24=1:=by kernel_rfl
 rw[c3] at d;obtain⟨v0,j,v2,rfl⟩:=Bi d;have G:xs.length=3:=E;have f0:DataW.trod enc prog W 0 (fun _=>true) true k 22 (List.take (prog.cellsOf 22) (List.drop 0 [v0,j,v2]))=xs[0]? := A 0 _ rfl;have f1:DataW.trod enc prog W 0 (fun _=>true) true k 23 (List.take (prog.cellsOf 23) (List.drop 1 [v0,j,v2]))=xs[1]? := A 1 _ rfl;have f2:DataW.trod enc prog W 0 (fun _=>true) true k 24 (List.take (prog.cellsOf 24) (List.drop 2 [v0,j,v2]))=xs[2]? := A 2 _ rfl;rw[I,Jd (by omega)] at f0;rw[J,Jd (by omega)] at f1;rw[K,Jd (by omega)] at f2;obtain⟨S,O⟩:=NL (v:=v0) (by simpa using f0);obtain⟨F,M⟩:=FH (v:=j) (by simpa using f1);obtain⟨T,U,V⟩:=CI (v:=v2) (by simpa using f2);exact⟨v0,j,v2,S,F,T,rfl,⟨O,M,U⟩,V⟩
def MY (P:Program)(n:String):Bool:=match P.globalNamed n with
 | none=>false
 | some g=>match (P.globals[g]?).map (·.type) with
   | none=>false
   | some t=>P.readableRec t&&decide (t<P.types.size)
theorem Rg {H:Type}{enc:TypeId×Value->H}{P:Program}{W W':World}(hl:laidOutB P=true)(hb:Up W W'):∀ {ns:List String} {gs:List (DataW H)} {ps:List MemPlace},ns.all (MY P)=true->DataW.TrodVars enc P W (fun _=>true) ns gs ps->DataW.TrodVars enc P W' (fun b=>decide (b<W.heap.size)) ns gs ps
 | [],gs,ps,_,h=>by
   cases gs with
   | nil=>exact h
   | cons d ds=>simp[DataW.TrodVars] at h
 | n::ns,gs,ps,hok,h=>by
   cases gs with
   | nil=>simp[DataW.TrodVars] at h
   | cons d ds=>
     simp only[List.all_cons,J3] at hok
     obtain⟨g,t,cs,j,p,q,G,O,U,K,Z,e⟩:=h
     have I:g<W.heap.size:=by
      have A:=U
      simp only[World.var?,G,Option.bind_some] at A
      cases M:W.heap[g]? with
      | none=>rw[M] at A;simp at A
      | some o=>exact (Jv.1 M).1
     have E:=hok.1
     unfold MY at E
     rw[G] at E
     simp only[O,J3,Yi] at E
     have J:∀ x∈p,x.block<W.heap.size:=DataW.trod_lt j _ _ _ K
     obtain⟨V,Y⟩:=Below.trod hl E.1 E.2 (v:=.agg cs) (⟨j,by simpa[Value.cells] using K⟩:DataW.Trod enc P W 0 (fun _=>true) true t (.agg cs) d p) hb J
     exact⟨g,t,cs,V,p,q,G,O,var?_below hb G I U,by simpa[Value.cells] using Y,Rg hl hb hok.2 Z,e⟩
theorem AI {H:Type}{enc:TypeId×Value->H}{P:Program}{spare:Nat->Bool}{n0 n1 n2 n3:String}{gs:List (DataW H)}{ps:List MemPlace}(h:DataW.TrodVars enc P w spare [n0,n1,n2,n3] gs ps):∃ a b c d,gs=[a,b,c,d]:=by
 cases gs with
 | nil=>exact absurd h (by simp[DataW.TrodVars])
 | cons a g1=>
   obtain⟨_,_,_,_,_,_,_,_,_,_,h,_⟩:=h
   cases g1 with
   | nil=>exact absurd h (by simp[DataW.TrodVars])
   | cons b g2=>
     obtain⟨_,_,_,_,_,_,_,_,_,_,h,_⟩:=h
     cases g2 with
     | nil=>exact absurd h (by simp[DataW.TrodVars])
     | cons c g3=>
       obtain⟨_,_,_,_,_,_,_,_,_,_,h,_⟩:=h
       cases g3 with
       | nil=>exact absurd h (by simp[DataW.TrodVars])
       | cons d g4=>
         obtain⟨_,_,_,_,_,_,_,_,_,_,h,_⟩:=h
         cases g4 with
         | nil=>exact⟨a,b,c,d,rfl⟩
         | cons e g5=>exact absurd h (by simp[DataW.TrodVars])
theorem RH {a b c:Value}(hc:v.cells.toList=[a,b,c]):v=.agg #[a,b,c]:=by
 unfold Value.cells at hc
 split at hc
 ·rename_i cs;obtain⟨l⟩:=cs;rw[show l=[a,b,c] from hc]
 simp at hc
theorem LF {x0 x1 x2 x3:String×DataW Unit}{L:List (String×DataW Unit)}(h:laidMet prog (x0::x1::x2::x3::("strconv.ErrRange",Rows.laid_strconv_ErrRange)::("strconv.ErrSyntax",Rows.laid_strconv_ErrSyntax)::("loop.example/g00007/impl.limbTens",Rows.laid_loop_example_g00007_impl_limbTens)::("loop.example/g00007/impl.signPairs",Rows.laid_loop_example_g00007_impl_signPairs)::("loop.example/g00007/impl.noSteps",Rows.laid_loop_example_g00007_impl_noSteps)::("loop.example/g00007/impl.termRules",Rows.laid_loop_example_g00007_impl_termRules)::L) W)(hm:∃ m,W.cell? ⟨1,0,none⟩=some (.int .i64 m)):Vars W:=by
 have h4:=h.tail.tail.tail.tail;exact⟨VI h4,KQ h4.tail.tail.tail.tail.tail,hm,Q.sp_of_laid h4.tail.tail.tail,Q.ns_of_laid h4.tail.tail.tail.tail,Q.lt_of_laid h4.tail⟩
end Go.Proofs.YtdmdmgfjpomdbaaGreatDoor
