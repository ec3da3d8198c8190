import Derived.Test.YtipgjenolpofpaaGreatDoorP43
import Derived.HandedShaped
import Derived.Shelf.Vars
import Derived.Deep.Slices
import Derived.Stop.LaidErr
import Derived.Stop.Texts
set_option maxRecDepth 100000
namespace Go.Proofs.YtipgjenolpofpaaGreatDoor
open Go.ChangeShapes Go.WideShapes Go.ChangeAt Go.RowKit Go.Proofs.Tryz
theorem FB:prog.globalNamed "strconv.ErrSyntax" = some 5:=by kernel_rfl
theorem FS:prog.globalNamed "strconv.ErrRange" = some 6:=by kernel_rfl
theorem FJ:(prog.globals[5]?).map (·.type)=some 191:=by kernel_rfl
theorem FT:(prog.globals[6]?).map (·.type)=some 191:=by kernel_rfl
theorem RV : "*" ++ "errors.errorString" = "*errors.errorString" := by decide
theorem DQ (u:TypeId)(h:prog.typeName? 3 u=some "*errors.errorString"):u=264:=
 typeName_ptr_named (nm:= "errors.errorString") (by rw[RV];kernel_rfl) (by kernel_rfl) (by decide) u (by rw[RV];exact h)
theorem ZX {W:World}{L:List (String×DataW Unit)}(h:laidMet prog (("strconv.ErrRange",Rows.laid_strconv_ErrRange)::("strconv.ErrSyntax",Rows.laid_strconv_ErrSyntax)::L) W):EV W:=by
 obtain⟨a0,E,d,-,-,-⟩:=laid_sentinel h FS FT underlying191 DQ underlying264 underlying266 rfl rfl underlying9 (by kernel_rfl) (by kernel_rfl);obtain⟨a1,A,j,-,-,-⟩:=laid_sentinel h.tail FB FJ underlying191 DQ underlying264 underlying266 rfl rfl underlying9 (by kernel_rfl) (by kernel_rfl);have c0:=Ud FS d 0;have c1:=Ud FB j 0;exact⟨⟨_,by simpa using c1,.inr ⟨_,_,rfl⟩⟩,⟨_,by simpa using c0,.inr ⟨_,_,rfl⟩⟩⟩
def EZ {H:Type}(r:Rule):DataW H:=.agg [.lit (.int .u8 (r.last:Nat)),.lit (.int .u8 (r.least:Nat)),.lit (.int .u8 (r.most:Nat)),.lit (.int .u8 (r.sort:Nat)),.agg [.lit (.int .u8 (r.r0:Nat)),.lit (.int .u8 (r.r1:Nat)),.lit (.int .u8 (r.r2:Nat))]]
theorem VB:(Rows.laid_loop_example_g00007_impl_termRules:DataW Unit)=.agg (rules.map EZ):=rfl
theorem CE:prog.globalNamed "loop.example/g00007/impl.termRules" = some 0:=by kernel_rfl
theorem CT:(prog.globals[0]?).map (·.type)=some 147:=by kernel_rfl
theorem Fv {cs:List Value}(h:cs.length=3):∃ v0 v1 v2,cs=[v0,v1,v2]:=by
 match cs,h with
 | [v0,v1,v2],_=>exact⟨v0,v1,v2,rfl⟩
theorem XT {cs:List Value}(h:cs.length=7):∃ v0 v1 v2 v3 v4 v5 v6,cs=[v0,v1,v2,v3,v4,v5,v6]:=by
 match cs,h with
 | [v0,v1,v2,v3,v4,v5,v6],_=>exact⟨v0,v1,v2,v3,v4,v5,v6,rfl⟩
theorem Bp {H:Type}{enc:TypeId×Value->H}{w:World}{base:Nat}{spare:Nat->Bool}{held:Bool}{fuel:Nat}{cs:List Value}{a b c:Int}{x:DataW H×List MemPlace}
 (h:DataW.trod enc prog w base spare held fuel 131 cs=some x) (hx:x.1=.agg [.lit (.int .u8 a),.lit (.int .u8 b),.lit (.int .u8 c)]):cs=[.int .u8 a,.int .u8 b,.int .u8 c]:=by
 obtain⟨xs,m,_,rfl,hl,hn,d⟩:=DataW.trod_array underlying131 h;have c1:prog.cellsOf 5=1:=by kernel_rfl
 have c3:prog.cellsOf 131=3:=by kernel_rfl
 rw[c3] at hl;obtain⟨v0,V,v2,rfl⟩:=Fv hl;have G:=d 0 (by decide);have A:=d 1 (by decide);have E:=d 2 (by decide);rw[c1] at G A E
 match xs,hn with
 | [y0,y1,y2],_=>
   obtain⟨O,i0,I,_⟩:=DataW.trod_int underlying5 (show DataW.trod _ prog w base spare held m 5 _=some y0 from G);obtain⟨U,j,J,_⟩:=DataW.trod_int underlying5 (show DataW.trod _ prog w base spare held m 5 _=some y1 from A);obtain⟨M,i2,K,_⟩:=DataW.trod_int underlying5 (show DataW.trod _ prog w base spare held m 5 _=some y2 from E);subst I J K;simp only[Vy,Ua,DataW.agg.injEq,List.cons.injEq,DataW.lit.injEq,Lit.int.injEq,true_and,and_true] at hx;obtain⟨rfl,rfl,rfl⟩:=hx;simp at i0 j i2;rw[i0,j,i2]
theorem Bn {H:Type}{enc:TypeId×Value->H}{w:World}{base:Nat}{spare:Nat->Bool}{held:Bool}{fuel:Nat}{cs:List Value}{r:Rule}{x:DataW H×List MemPlace}
 (h:DataW.trod enc prog w base spare held fuel 133 cs=some x) (hx:x.1=EZ r):cs=[.int .u8 (r.last:Nat),.int .u8 (r.least:Nat),.int .u8 (r.most:Nat),.int .u8 (r.sort:Nat),.int .u8 (r.r0:Nat),.int .u8 (r.r1:Nat),.int .u8 (r.r2:Nat)]:=by
 obtain⟨xs,k,_,rfl,d,J,E⟩:=DataW.trod_struct underlying133 h;have c1:prog.cellsOf 5=1:=by kernel_rfl
 have c3:prog.cellsOf 131=3:=by kernel_rfl
 have c7:prog.cellsOf 133=7:=by kernel_rfl
 rw[c7] at d;obtain⟨v0,j,v2,v3,v4,v5,A,rfl⟩:=XT d;have G:xs.length=5:=J;have f0:DataW.trod enc prog w base spare held k 5 (List.take (prog.cellsOf 5) (List.drop 0 [v0,j,v2,v3,v4,v5,A]))=xs[0]? := E 0 _ rfl;have f1:DataW.trod enc prog w base spare held k 5 (List.take (prog.cellsOf 5) (List.drop 1 [v0,j,v2,v3,v4,v5,A]))=xs[1]? := E 1 _ rfl;have f2:DataW.trod enc prog w base spare held k 5 (List.take (prog.cellsOf 5) (List.drop 2 [v0,j,v2,v3,v4,v5,A]))=xs[2]? := E 2 _ rfl;have f3:DataW.trod enc prog w base spare held k 5 (List.take (prog.cellsOf 5) (List.drop 3 [v0,j,v2,v3,v4,v5,A]))=xs[3]? := E 3 _ rfl;have f4:DataW.trod enc prog w base spare held k 131 (List.take (prog.cellsOf 131) (List.drop 4 [v0,j,v2,v3,v4,v5,A]))=xs[4]? := E 4 _ rfl;rw[c1] at f0 f1 f2 f3;rw[c3] at f4
 match xs,G with
 | [y0,y1,y2,y3,y4],_=>
   obtain⟨n0,i0,M,_⟩:=DataW.trod_int underlying5 (show DataW.trod _ prog w base spare held k 5 _=some y0 from f0);obtain⟨n1,K,O,_⟩:=DataW.trod_int underlying5 (show DataW.trod _ prog w base spare held k 5 _=some y1 from f1);obtain⟨n2,i2,V,_⟩:=DataW.trod_int underlying5 (show DataW.trod _ prog w base spare held k 5 _=some y2 from f2);obtain⟨n3,i3,Z,_⟩:=DataW.trod_int underlying5 (show DataW.trod _ prog w base spare held k 5 _=some y3 from f3);subst M O V Z;simp only[EZ,Vy,Ua,DataW.agg.injEq,List.cons.injEq,DataW.lit.injEq,Lit.int.injEq,true_and,and_true] at hx;obtain⟨rfl,rfl,rfl,rfl,h4⟩:=hx;have I:=Bp (show DataW.trod _ prog w base spare held k 131 _=some y4 from f4) h4;simp at i0 K i2 i3 I;obtain⟨I,U,Y⟩:=I;rw[i0,K,i2,i3,I,U,Y]
theorem OU {W:World}{L:List (String×DataW Unit)}(h:laidMet prog (("loop.example/g00007/impl.termRules",Rows.laid_loop_example_g00007_impl_termRules)::L) W):RT W:=by
 obtain⟨ps,⟨g0,t0,I,f0,p0,q0,E,O,M,G,_,_⟩,_⟩:=h;obtain rfl:=Option.some.inj (CE.symm.trans E);obtain rfl:=Option.some.inj (CT.symm.trans O);have A:=Ud E M;obtain⟨xs,m,_,U,hl,hn,J⟩:=DataW.trod_array underlying147 G;have c7:prog.cellsOf 133=7:=by kernel_rfl
 rw[VB] at U;have Z:rules.map EZ=xs.map (·.1):=DataW.agg.inj (Prod.mk.inj U).1;have V:rules.length=25:=rfl;intro i hi;have e:=J i (by omega);rw[c7,Jf (by omega)] at e;have K:xs[i].1=EZ rules[i]:=by
  have Y:(rules.map (EZ (H:=Unit)))[i]? = (xs.map (·.1))[i]? := by rw[Z]
  rw[Y2,Y2,Jf hi,Jf (by omega)] at Y
  simpa using Y.symm
 have p:=Bn e K;have j:∀ d v,d<7->(List.take 7 (List.drop (i*7) I.toList))[d]? = some v->W.cell? ⟨0,i*7+d,none⟩=some v:=fun d v hd hv=>by
  rw[List.getElem?_take_of_lt hd,Ut] at hv;rw[A (i*7+d)]
  simpa using hv
 rw[p] at j;exact⟨j 0 _ (by decide) rfl,j 1 _ (by decide) rfl,j 2 _ (by decide) rfl,j 3 _ (by decide) rfl,j 4 _ (by decide) rfl,j 5 _ (by decide) rfl,j 6 _ (by decide) rfl⟩
theorem Rh {H:Type}{enc:TypeId×Value->H}{a:Assume}{C:Checked}{os:Os}{f:FuncId}{fn:Func}{s:ChangeSpec}{conds:List PathCond}{apart fresh handsOn again:Bool}{X:World->Array Value->Prop}
 (hX:∀ (w w':World) (args:Array Value),w.heap=w'.heap->X w args->X w' args)
 (own:ownKnob C.prog.godebug=none) (started:os.Started) (noInit:C.prog.inits.idxOf? f=none) (hfn:C.prog.funcs[f]? = some fn)
 (witness:∃ (w:World) (tape:Tape) (i:Input),w.os=os/\(w.forCall tape i).Shaped C.prog/\i.vars=[]/\Input.okWide C.prog (w.forCall tape i) .any w.heap.size f i /\
   ((s.pre enc C.prog fn conds apart (w.forCall tape i).memory i.args/\X (w.forCall tape i).memory i.args)/\sizedMet enc C.prog fn (OpenSpec.ofChange s) apart (w.forCall tape i).memory i.args)/\a.holds C.prog (lone (Frame.enter C.prog f i.args .normal) [] (w.forCall tape i)))
 (contract:∀ (W:World) (base:Nat) (args:Array Value) (ds gs:List (DataW H)) (before:List MemPlace),
   (∀ (j:Nat) t v,fn.params[j]? = some t->args[j]? = some v->Value.okWide C.prog W .any base t v) ->
   DataW.Whole enc C.prog fn.params.toList s.vars apart W args.toList ds gs before ->
   conds.all (PathCond.test C.prog ⟨fn.params.toList,ds,s.plain.varTypes C.prog,gs⟩)=true ->
   (DataW.weightsEach C.prog (fn.params.toList++s.plain.varTypes C.prog) (ds++gs)).all (·<=reachBytes)=true->X W args->W.ShapedOpen C.prog ->
   a.holds C.prog (lone (Frame.enter C.prog f args .normal) [] W) ->
   Calls C.prog f args W fun e W'=>∃ v,e=.returned v/\s.post enc C.prog fn apart fresh handsOn again W args v W') :
 ReturnsInHanded a C os f .any (fun w args=>(s.pre enc C.prog fn conds apart w args/\X w args)/\sizedMet enc C.prog fn (OpenSpec.ofChange s) apart w args) (s.post enc C.prog fn apart fresh handsOn again):=by
 refine returnsInHanded_of_calls own started noInit witness ?_;intro w tape i _ K _ I A d;obtain⟨_,_,_,J,G,_,_,_,_,E⟩:=I;obtain rfl:J=fn:=Option.some.inj (G.symm.trans hfn);obtain⟨⟨⟨ds,gs,before,M,hc⟩,O⟩,U⟩:=A;refine (contract (w.forCall tape i) w.heap.size i.args ds gs before E (DataW.Whole.of_heap (w':=w.forCall tape i) (by rfl) M) hc (U.weights M) (hX _ _ _ (by rfl) O) K d).mono fun e W' h=>?_;obtain⟨v,rfl,V⟩:=h;exact ChangeSpec.post_blind V
theorem VR {w:World}(h:w.ShapedOpen prog):∃ m,w.cell? ⟨1,0,none⟩=some (.int .i64 m):=
 cell_of_shapedOpen_int (t:=3) (zero:=#[.int .i64 0]) h (by decide +kernel) (by kernel_rfl) rfl (by kernel_rfl) (by kernel_rfl) underlying3
theorem R7 {α:Type}{Q:Nat->α->Prop}:∀ n:Nat,(∀ i,i<n->∃ x,Q i x)->∃ l:List α,l.length=n/\∀ i (h:i<l.length),Q i l[i]
 | 0,_=>⟨[],rfl,fun i h=>absurd h (J1 _)⟩
 | n+1,h=>by
   obtain⟨l,hl,j⟩:=R7 n (fun i hi=>h i (by omega))
   obtain⟨x,A⟩:=h n (by omega)
   refine⟨l++[x],by simp[hl],fun i hi=>?_⟩
   by_cases e:i<l.length
   ·rw[Vz e];exact j i e
   ·have d:i=l.length:=by simp at hi;omega
    subst d
    rw[Vn Of]
    simp only[Nat.sub_self,Ym]
    rw[hl];exact A
theorem CL {cs:List Value}(h:cs.length=6):∃ v0 v1 v2 v3 v4 v5,cs=[v0,v1,v2,v3,v4,v5]:=by
 match cs,h with
 | [v0,v1,v2,v3,v4,v5],_=>exact⟨v0,v1,v2,v3,v4,v5,rfl⟩
theorem PT (b off k:Nat):(⟨b,off,none⟩:Addr).add k=⟨b,off+k,none⟩:=by simp[Addr.add]
theorem VW {H:Type}{enc:TypeId×Value->H}{W:World}{v:Value}{fuel:Nat}{x:DataW H×List MemPlace}
 (h:DataW.trod enc prog W 0 (fun _=>true) true fuel 22 [v]=some x):∃ L,Nw W v L:=by
 rcases Go.Deep.open_slice underlying22 h with⟨d,_⟩|⟨A,l,c,m,n,D,Pl,d,_,hl,hm,V,_,Z⟩
 ·simp only[List.cons.injEq,and_true] at d;subst d;exact⟨[],_,_,rfl,Jy _,Jy _,fun s hs=>(by cases hs),.inl rfl⟩
 simp only[List.cons.injEq,and_true] at d;subst d;have Y:prog.cellsOf 9=1:=by kernel_rfl
 simp only[if_true] at V;rw[Y] at Z;have M:∀ i,i<l->∃ s:List UInt8,W.cell? (A.add i)=some (.string (Oo s))/\s.length<=maxLen:=by
  intro i hi;obtain⟨cs,h1,h2⟩:=Z i (by omega);obtain⟨_,a8,G⟩:=World.cells?_some h1;obtain⟨s,e,_,hw⟩:=DataW.trod_string underlying9 h2;subst e;have E:=G 0 (by decide);refine⟨s.data.toList,?_,Yk (Nat.le_of_eq Vh) hw⟩;rw[Ko]
  simpa[Addr.add] using E
 obtain⟨L,hL,O⟩:=R7 l M;subst hL;refine⟨L,_,_,rfl,by omega,hm,fun s hs=>?_,?_⟩
 ·obtain⟨j,hj,rfl⟩:=Ya hs;exact (O j hj).2
 by_cases h0:L=[]
 ·exact .inl h0
 right
 have J:0<L.length:=Zf.2 h0;obtain⟨b,U,K⟩:=A;have E:=(O 0 J).1;have I:K=none:=by simpa[Addr.add] using World.cell?_spot E
 subst I;refine⟨b,U,rfl,?_,fun i hi=>?_⟩
 ·have:=Yd W _ E
  simpa[Addr.add] using this
 have:=(O i hi).1
 rwa [PT] at this
theorem PI {H:Type}{enc:TypeId×Value->H}{W:World}{v:Value}{fuel:Nat}{x:DataW H×List MemPlace}
 (h:DataW.trod enc prog W 0 (fun _=>true) true fuel 52 [v]=some x):∃ L,N9 W v L:=by
 rcases Go.Deep.open_slice underlying52 h with⟨d,_⟩|⟨A,l,c,m,n,D,Pl,d,_,hl,hm,O,_,V⟩
 ·simp only[List.cons.injEq,and_true] at d;subst d;exact⟨[],_,_,rfl,Jy _,Jy _,.inl rfl⟩
 simp only[List.cons.injEq,and_true] at d;subst d;have U:prog.cellsOf 3=1:=by kernel_rfl
 simp only[if_true] at O;rw[U] at V;have K:∀ i,i<l->∃ z:Int,W.cell? (A.add i)=some (.int .i64 z):=by
  intro i hi;obtain⟨cs,h1,h2⟩:=V i (by omega);obtain⟨_,a7,E⟩:=World.cells?_some h1;obtain⟨z,e,_,_⟩:=DataW.trod_int underlying3 h2;subst e;have j:=E 0 (by decide);exact⟨z,by simpa[Addr.add] using j⟩
 obtain⟨L,hL,Y⟩:=R7 l K;subst hL;refine⟨L,_,_,rfl,by omega,hm,?_⟩
 by_cases Z:L=[]
 ·exact .inl Z
 right
 have I:0<L.length:=Zf.2 Z;obtain⟨b,M,J⟩:=A;have j:=Y 0 I;have G:J=none:=by simpa[Addr.add] using World.cell?_spot j
 subst G;refine⟨b,M,rfl,?_,fun i hi=>?_⟩
 ·have:=Yd W _ j
  simpa[Addr.add] using this
 have:=Y i hi
 rwa [PT] at this
theorem PO {H:Type}{enc:TypeId×Value->H}{W:World}{v:Value}{fuel:Nat}{x:DataW H×List MemPlace}
 (h:DataW.trod enc prog W 0 (fun _=>true) true fuel 23 [v]=some x):∃ F,Xx W v F:=by
 rcases Go.Deep.open_slice underlying23 h with⟨E,_⟩|⟨A,l,c,m,n,D,Pl,E,_,hl,hm,b5,_,hx⟩
 ·simp only[List.cons.injEq,and_true] at E;subst E;exact⟨[],_,_,rfl,Jy _,Jy _,fun s hs=>(by cases hs),.inl rfl⟩
 simp only[List.cons.injEq,and_true] at E;subst E;have b6:prog.cellsOf 44=3:=by kernel_rfl
 simp only[if_true] at b5;rw[b6] at hx;have K:∀ i,i<l->∃ f:Fn,(W.cell? ((A.add (i*3)).add 0)=some (.string (Oo f.name))/\(∃ va,W.cell? ((A.add (i*3)).add 1)=some va/\Nw W va f.args)/\W.cell? ((A.add (i*3)).add 2)=some (.string (Oo f.sort)))/\f.name.length<=maxLen/\f.sort.length<=maxLen:=by
  intro i hi;obtain⟨cs,h1,h2⟩:=hx i (by omega);obtain⟨_,O,d⟩:=World.cells?_some h1;obtain⟨xs,k,_,_,_,a7,Z⟩:=DataW.trod_struct underlying44 h2;obtain⟨v0,U,v2,rfl⟩:=Fv O;have c9:prog.cellsOf 9=1:=by kernel_rfl
  have b4:prog.cellsOf 22=1:=by kernel_rfl
  have b9:xs.length=3:=a7;have f0:DataW.trod enc prog W 0 (fun _=>true) true k 9 (List.take (prog.cellsOf 9) (List.drop 0 [v0,U,v2]))=xs[0]? := Z 0 _ rfl;have f1:DataW.trod enc prog W 0 (fun _=>true) true k 22 (List.take (prog.cellsOf 22) (List.drop 1 [v0,U,v2]))=xs[1]? := Z 1 _ rfl;have f2:DataW.trod enc prog W 0 (fun _=>true) true k 9 (List.take (prog.cellsOf 9) (List.drop 2 [v0,U,v2]))=xs[2]? := Z 2 _ rfl;rw[c9,Jf (by omega)] at f0 f2;rw[b4,Jf (by omega)] at f1;obtain⟨s0,e0,_,w0⟩:=DataW.trod_string underlying9 f0;obtain⟨s2,e2,_,w2⟩:=DataW.trod_string underlying9 f2;obtain⟨L,V⟩:=VW (v:=U) (by simpa using f1);simp at e0 e2;subst e0 e2;refine⟨⟨s0.data.toList,L,s2.data.toList⟩,⟨?_,⟨U,d 1 (by decide),V⟩,?_⟩,Yk (Nat.le_of_eq Vh) w0,Yk (Nat.le_of_eq Vh) w2⟩
  ·rw[Ko];exact d 0 (by decide)
  rw[Ko];exact d 2 (by decide)
 obtain⟨L,V,Y⟩:=R7 l K;subst V;refine⟨L,_,_,rfl,by omega,hm,fun s hs=>?_,?_⟩
 ·obtain⟨j,hj,rfl⟩:=Ya hs;exact (Y j hj).2
 by_cases h0:L=[]
 ·exact .inl h0
 right
 have I:0<L.length:=Zf.2 h0;obtain⟨b,b3,J⟩:=A;have M:=(Y 0 I).1.1;have G:J=none:=by simpa[Addr.add] using World.cell?_spot M
 subst G;refine⟨b,b3,rfl,?_,fun i hi=>?_⟩
 ·have:=Yd W _ M
  simpa[Addr.add] using this
 obtain⟨⟨k0,⟨va,k1,a8⟩,k2⟩,_⟩:=Y i hi;simp only[PT] at k0 k1 k2;exact⟨k0,⟨va,k1,a8⟩,k2⟩
theorem GJ {H:Type}{enc:TypeId×Value->H}{W:World}{v:Value}{fuel:Nat}{x:DataW H×List MemPlace}
 (h:DataW.trod enc prog W 0 (fun _=>true) true fuel 24 [v]=some x):∃ T,Ht W v T/\FU T:=by
 rcases Go.Deep.open_slice underlying24 h with⟨E,_⟩|⟨A,l,c,m,n,D,Pl,E,_,hl,hm,b5,_,hx⟩
 ·simp only[List.cons.injEq,and_true] at E;subst E;exact⟨[],⟨_,_,rfl,Jy _,Jy _,fun s hs=>(by cases hs),.inl rfl⟩,fun t ht=>(by cases ht)⟩
 simp only[List.cons.injEq,and_true] at E;subst E;have b7:prog.cellsOf 54=6:=by kernel_rfl
 simp only[if_true] at b5;rw[b7] at hx;have O:∀ i,i<l->∃ t:Tm,(W.cell? ((A.add (i*6)).add 0)=some (.int .i64 t.op)/\W.cell? ((A.add (i*6)).add 1)=some (.string (Oo t.sort))/\W.cell? ((A.add (i*6)).add 2)=some (.string (Oo t.text))/\W.cell? ((A.add (i*6)).add 3)=some (.int .i64 t.a)/\W.cell? ((A.add (i*6)).add 4)=some (.int .i64 t.b)/\∃ va,W.cell? ((A.add (i*6)).add 5)=some va/\N9 W va t.kids)/\(t.sort.length<=maxLen/\t.text.length<=maxLen)/\(Lit.int .i64 t.op).wf=true/\(Lit.int .i64 t.a).wf=true/\(Lit.int .i64 t.b).wf=true:=by
  intro i hi;obtain⟨cs,h1,h2⟩:=hx i (by omega);obtain⟨_,V,d⟩:=World.cells?_some h1;obtain⟨xs,k,_,_,_,a7,I⟩:=DataW.trod_struct underlying54 h2;obtain⟨v0,J,v2,v3,v4,v5,rfl⟩:=CL V;have c3:prog.cellsOf 3=1:=by kernel_rfl
  have c9:prog.cellsOf 9=1:=by kernel_rfl
  have b6:prog.cellsOf 52=1:=by kernel_rfl
  have c8:xs.length=6:=a7;have f0:DataW.trod enc prog W 0 (fun _=>true) true k 3 (List.take (prog.cellsOf 3) (List.drop 0 [v0,J,v2,v3,v4,v5]))=xs[0]? := I 0 _ rfl;have f1:DataW.trod enc prog W 0 (fun _=>true) true k 9 (List.take (prog.cellsOf 9) (List.drop 1 [v0,J,v2,v3,v4,v5]))=xs[1]? := I 1 _ rfl;have f2:DataW.trod enc prog W 0 (fun _=>true) true k 9 (List.take (prog.cellsOf 9) (List.drop 2 [v0,J,v2,v3,v4,v5]))=xs[2]? := I 2 _ rfl;have f3:DataW.trod enc prog W 0 (fun _=>true) true k 3 (List.take (prog.cellsOf 3) (List.drop 3 [v0,J,v2,v3,v4,v5]))=xs[3]? := I 3 _ rfl;have f4:DataW.trod enc prog W 0 (fun _=>true) true k 3 (List.take (prog.cellsOf 3) (List.drop 4 [v0,J,v2,v3,v4,v5]))=xs[4]? := I 4 _ rfl;have f5:DataW.trod enc prog W 0 (fun _=>true) true k 52 (List.take (prog.cellsOf 52) (List.drop 5 [v0,J,v2,v3,v4,v5]))=xs[5]? := I 5 _ rfl;rw[c3,Jf (by omega)] at f0 f3 f4;rw[c9,Jf (by omega)] at f1 f2;rw[b6,Jf (by omega)] at f5;obtain⟨n0,e0,_,w0⟩:=DataW.trod_int underlying3 f0;obtain⟨s1,e1,_,w1⟩:=DataW.trod_string underlying9 f1;obtain⟨s2,e2,_,w2⟩:=DataW.trod_string underlying9 f2;obtain⟨n3,e3,_,w3⟩:=DataW.trod_int underlying3 f3;obtain⟨n4,e4,_,w4⟩:=DataW.trod_int underlying3 f4;obtain⟨L,Z⟩:=PI (v:=v5) (by simpa using f5);simp at e0 e1 e2 e3 e4;subst e0 e1 e2 e3 e4;refine⟨⟨n0,s1.data.toList,s2.data.toList,n3,n4,L⟩,⟨d 0 (by decide),?_,?_,d 3 (by decide),d 4 (by decide),v5,d 5 (by decide),Z⟩,⟨Yk (Nat.le_of_eq Vh) w1,Yk (Nat.le_of_eq Vh) w2⟩,w0,w3,w4⟩
  ·rw[Ko];exact d 1 (by decide)
  rw[Ko];exact d 2 (by decide)
 obtain⟨L,Z,Y⟩:=R7 l O;subst Z;refine⟨L,⟨_,_,rfl,by omega,hm,fun s hs=>?_,?_⟩,fun s hs=>?_⟩
 ·obtain⟨j,hj,rfl⟩:=Ya hs;exact (Y j hj).2.1
 ·by_cases h0:L=[]
  ·exact .inl h0
  right
  have K:0<L.length:=Zf.2 h0;obtain⟨b,b4,M⟩:=A;have U:=(Y 0 K).1.1;have G:M=none:=by simpa[Addr.add] using World.cell?_spot U
  subst G;refine⟨b,b4,rfl,?_,fun i hi=>?_⟩
  ·have:=Yd W _ U
   simpa[Addr.add] using this
  obtain⟨⟨k0,k1,k2,k3,k4,va,k5,a8⟩,_⟩:=Y i hi;simp only[PT] at k0 k1 k2 k3 k4 k5;exact⟨k0,k1,k2,k3,k4,va,k5,a8⟩
 obtain⟨j,hj,rfl⟩:=Ya hs;exact (Y j hj).2.2
theorem PA {H:Type}{enc:TypeId×Value->H}{W:World}{cs:List Value}{fuel:Nat}{x:DataW H×List MemPlace}
 (h:DataW.trod enc prog W 0 (fun _=>true) true fuel 26 cs=some x):∃ vs vf vt S F T,cs=[vs,vf,vt]/\ArgBank W vs vf vt S F T/\FU T:=by
 obtain⟨xs,k,_,_,d,E,A⟩:=DataW.trod_struct underlying26 h;have c3:prog.cellsOf 26=3:=by kernel_rfl
 have M:prog.cellsOf 22=1:=by kernel_rfl
 have J:prog.cellsOf 23=1:=by kernel_rfl
 have O:prog.cellsOf 24=1:=by kernel_rfl
 rw[c3] at d;obtain⟨v0,j,v2,rfl⟩:=Fv d;have G:xs.length=3:=E;have f0:DataW.trod enc prog W 0 (fun _=>true) true k 22 (List.take (prog.cellsOf 22) (List.drop 0 [v0,j,v2]))=xs[0]? := A 0 _ rfl;have f1:DataW.trod enc prog W 0 (fun _=>true) true k 23 (List.take (prog.cellsOf 23) (List.drop 1 [v0,j,v2]))=xs[1]? := A 1 _ rfl;have f2:DataW.trod enc prog W 0 (fun _=>true) true k 24 (List.take (prog.cellsOf 24) (List.drop 2 [v0,j,v2]))=xs[2]? := A 2 _ rfl;rw[M,Jf (by omega)] at f0;rw[J,Jf (by omega)] at f1;rw[O,Jf (by omega)] at f2;obtain⟨S,U⟩:=VW (v:=v0) (by simpa using f0);obtain⟨F,V⟩:=PO (v:=j) (by simpa using f1);obtain⟨T,K,I⟩:=GJ (v:=v2) (by simpa using f2);exact⟨v0,j,v2,S,F,T,rfl,⟨U,V,K⟩,I⟩
def DB (P:Program)(n:String):Bool:=match P.globalNamed n with
 | none=>false
 | some g=>match (P.globals[g]?).map (·.type) with
   | none=>false
   | some t=>P.readableRec t&&decide (t<P.types.size)
theorem Qo {H:Type}{enc:TypeId×Value->H}{P:Program}{W W':World}(hl:laidOutB P=true)(hb:Up W W'):∀ {ns:List String} {gs:List (DataW H)} {ps:List MemPlace},ns.all (DB P)=true->DataW.TrodVars enc P W (fun _=>true) ns gs ps->DataW.TrodVars enc P W' (fun b=>decide (b<W.heap.size)) ns gs ps
 | [],gs,ps,_,h=>by
   cases gs with
   | nil=>exact h
   | cons d ds=>simp[DataW.TrodVars] at h
 | n::ns,gs,ps,hok,h=>by
   cases gs with
   | nil=>simp[DataW.TrodVars] at h
   | cons d ds=>
     simp only[List.all_cons,J4] at hok
     obtain⟨g,t,cs,j,p,q,G,M,U,K,Z,e⟩:=h
     have J:g<W.heap.size:=by
      have A:=U
      simp only[World.var?,G,Option.bind_some] at A
      cases O:W.heap[g]? with
      | none=>rw[O] at A;simp at A
      | some o=>exact (J2.1 O).1
     have E:=hok.1
     unfold DB at E
     rw[G] at E
     simp only[M,J4,Yg] at E
     have I:∀ x∈p,x.block<W.heap.size:=DataW.trod_lt j _ _ _ K
     obtain⟨V,Y⟩:=Below.trod hl E.1 E.2 (v:=.agg cs) (⟨j,by simpa[Value.cells] using K⟩:DataW.Trod enc P W 0 (fun _=>true) true t (.agg cs) d p) hb I
     exact⟨g,t,cs,V,p,q,G,M,var?_below hb G J U,by simpa[Value.cells] using Y,Qo hl hb hok.2 Z,e⟩
theorem FM {H:Type}{enc:TypeId×Value->H}{P:Program}{w:World}{spare:Nat->Bool}{n0 n1 n2 n3:String}{gs:List (DataW H)}{ps:List MemPlace}(h:DataW.TrodVars enc P w spare [n0,n1,n2,n3] gs ps):∃ a b c d,gs=[a,b,c,d]:=by
 cases gs with
 | nil=>exact absurd h (by simp[DataW.TrodVars])
 | cons a g1=>
   obtain⟨_,_,_,_,_,_,_,_,_,_,h,_⟩:=h
   cases g1 with
   | nil=>exact absurd h (by simp[DataW.TrodVars])
   | cons b g2=>
     obtain⟨_,_,_,_,_,_,_,_,_,_,h,_⟩:=h
     cases g2 with
     | nil=>exact absurd h (by simp[DataW.TrodVars])
     | cons c g3=>
       obtain⟨_,_,_,_,_,_,_,_,_,_,h,_⟩:=h
       cases g3 with
       | nil=>exact absurd h (by simp[DataW.TrodVars])
       | cons d g4=>
         obtain⟨_,_,_,_,_,_,_,_,_,_,h,_⟩:=h
         cases g4 with
         | nil=>exact⟨a,b,c,d,rfl⟩
         | cons e g5=>exact absurd h (by simp[DataW.TrodVars])
theorem CH {v:Value}{a b c:Value}(hc:v.cells.toList=[a,b,c]):v=.agg #[a,b,c]:=by
 unfold Value.cells at hc
 split at hc
 ·rename_i cs;obtain⟨l⟩:=cs;rw[show l=[a,b,c] from hc]
 simp at hc
theorem DO {W:World}{x0 x1 x2 x3:String×DataW Unit}{L:List (String×DataW Unit)}(h:laidMet prog (x0::x1::x2::x3::("strconv.ErrRange",Rows.laid_strconv_ErrRange)::("strconv.ErrSyntax",Rows.laid_strconv_ErrSyntax)::("loop.example/g00007/impl.limbTens",Rows.laid_loop_example_g00007_impl_limbTens)::("loop.example/g00007/impl.signPairs",Rows.laid_loop_example_g00007_impl_signPairs)::("loop.example/g00007/impl.noSteps",Rows.laid_loop_example_g00007_impl_noSteps)::("loop.example/g00007/impl.termRules",Rows.laid_loop_example_g00007_impl_termRules)::L) W)(hm:∃ m,W.cell? ⟨1,0,none⟩=some (.int .i64 m)):Vars W:=by
 have h4:=h.tail.tail.tail.tail;exact⟨ZX h4,OU h4.tail.tail.tail.tail.tail,hm,Q.sp_of_laid h4.tail.tail.tail,Q.ns_of_laid h4.tail.tail.tail.tail,Q.lt_of_laid h4.tail⟩
end Go.Proofs.YtipgjenolpofpaaGreatDoor
