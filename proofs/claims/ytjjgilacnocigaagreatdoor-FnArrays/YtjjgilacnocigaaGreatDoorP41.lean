import Derived.Test.YtjjgilacnocigaaGreatDoorP40
import Derived.HandedShaped
import Derived.Shelf.Vars
import Derived.Deep.Slices
import Derived.Stop.LaidErr
import Derived.Stop.Texts
import Derived.ChangeOld
namespace Go.Proofs.YtjjgilacnocigaaGreatDoor
open ChangeShapes WideShapes ChangeAt RowKit Proofs.Tryz
variable {W:World}
theorem WB:prog.globalNamed "strconv.ErrSyntax" = some 3:=by kernel_rfl
theorem WL:prog.globalNamed "strconv.ErrRange" = some 4:=by kernel_rfl
theorem oV:(prog.globals[3]?).map (·.type)=some 111:=by kernel_rfl
theorem oZ:(prog.globals[4]?).map (·.type)=some 111:=by kernel_rfl
theorem LV : "*" ++ "errors.errorString" = "*errors.errorString" := by decide
theorem AL (u:TypeId)(h:prog.typeName? 3 u=some "*errors.errorString"):u=246:=
 typeName_ptr_named (nm:= "errors.errorString") (by rw[LV];kernel_rfl) (by kernel_rfl) (by decide) u (by rw[LV];exact h)
theorem KU {L:List (String×DataW Unit)}(h:laidMet prog (("strconv.ErrRange",Rows.laid_strconv_ErrRange)::("strconv.ErrSyntax",Rows.laid_strconv_ErrSyntax)::L) W):EV W:=by
 obtain⟨a0,D,d,-,-,-⟩:=laid_sentinel h WL oZ underlying111 AL underlying246 underlying248 rfl rfl underlying9 (by kernel_rfl) (by kernel_rfl);obtain⟨a1,E,j,-,-,-⟩:=laid_sentinel h.tail WB oV underlying111 AL underlying246 underlying248 rfl rfl underlying9 (by kernel_rfl) (by kernel_rfl);have c0:=Oh WL d 0;have c1:=Oh WB j 0;exact⟨⟨_,by simpa using c1,.inr ⟨_,_,rfl⟩⟩,⟨_,by simpa using c0,.inr ⟨_,_,rfl⟩⟩⟩
theorem P8 {H:Type}{enc:TypeId×Value->H}{a:Assume}{C:Checked}{os:Os}{f:FuncId}{fn:Func}{s:ChangeSpec}{conds:List PathCond}{apart fresh handsOn again:Bool}{X:World->Array Value->Prop}
 (hX:∀ (w w':World) (args:Array Value),w.heap=w'.heap->X w args->X w' args)
 (own:ownKnob C.prog.godebug=none) (started:os.Started) (noInit:C.prog.inits.idxOf? f=none) (hfn:C.prog.funcs[f]? = some fn)
 (witness:∃ (w:World) (tape:Tape) (i:Input),w.os=os/\(w.forCall tape i).Shaped C.prog/\i.vars=[]/\Input.okWide C.prog (w.forCall tape i) .any w.heap.size f i /\
   ((s.pre enc C.prog fn conds apart (w.forCall tape i).memory i.args/\X (w.forCall tape i).memory i.args)/\sizedMet enc C.prog fn (OpenSpec.ofChange s) apart (w.forCall tape i).memory i.args)/\a.holds C.prog (lone (Frame.enter C.prog f i.args .normal) [] (w.forCall tape i)))
 (contract:∀ (W:World) (base:Nat) (args:Array Value) (ds gs:List (DataW H)) (before:List MemPlace),
   (∀ (j:Nat) t v,fn.params[j]? = some t->args[j]? = some v->Value.okWide C.prog W .any base t v) ->
   DataW.Whole enc C.prog fn.params.toList s.vars apart W args.toList ds gs before ->
   conds.all (PathCond.test C.prog ⟨fn.params.toList,ds,s.plain.varTypes C.prog,gs⟩)=true ->
   (DataW.weightsEach C.prog (fn.params.toList++s.plain.varTypes C.prog) (ds++gs)).all (·<=reachBytes)=true->X W args->W.ShapedOpen C.prog ->
   a.holds C.prog (lone (Frame.enter C.prog f args .normal) [] W) ->
   Calls C.prog f args W fun e W'=>∃ v,e=.returned v/\s.post enc C.prog fn apart fresh handsOn again W args v W') :
 ReturnsInHanded a C os f .any (fun w args=>(s.pre enc C.prog fn conds apart w args/\X w args)/\sizedMet enc C.prog fn (OpenSpec.ofChange s) apart w args) (s.post enc C.prog fn apart fresh handsOn again):=by
 refine returnsInHanded_of_calls own started noInit witness ?_;intro w tape i _ J _ I E d;obtain⟨_,_,_,G,D,_,_,_,_,F⟩:=I;obtain rfl:G=fn:=Option.some.inj (D.symm.trans hfn);obtain⟨⟨⟨ds,gs,before,K,O⟩,U⟩,V⟩:=E;refine (contract (w.forCall tape i) w.heap.size i.args ds gs before F (DataW.Whole.of_heap (w':=w.forCall tape i) (by rfl) K) O (V.weights K) (hX _ _ _ (by rfl) U) J d).mono fun e W' h=>?_;obtain⟨v,rfl,T⟩:=h;exact ChangeSpec.post_blind T
theorem EE {w:World}(h:w.ShapedOpen prog):∃ m,w.cell? ⟨1,0,none⟩=some (.int .i64 m):=
 cell_of_shapedOpen_int (t:=3) (zero:=#[.int .i64 0]) h (by decide +kernel) (by kernel_rfl) rfl (by kernel_rfl) (by kernel_rfl) underlying3
def AF (P:Program)(n:String):Bool:=match P.globalNamed n with
 | none=>false
 | some g=>match (P.globals[g]?).map (·.type) with
   | none=>false
   | some t=>P.readableRec t&&decide (t<P.types.size)
theorem R2 {H:Type}{enc:TypeId×Value->H}{P:Program}{W W':World}(hl:laidOutB P=true)(hb:Up W W'):∀ {ns:List String} {gs:List (DataW H)} {ps:List MemPlace},ns.all (AF P)=true->DataW.TrodVars enc P W (fun _=>true) ns gs ps->DataW.TrodVars enc P W' (fun b=>decide (b<W.heap.size)) ns gs ps
 | [],gs,ps,_,h=>by
   cases gs with
   | nil=>exact h
   | cons d ds=>simp[DataW.TrodVars] at h
 | n::ns,gs,ps,hok,h=>by
   cases gs with
   | nil=>simp[DataW.TrodVars] at h
   | cons d ds=>
     simp only[List.all_cons,Yd] at hok
     obtain⟨g,t,cs,j,p,q,F,O,T,J,Y,e⟩:=h
     have G:g<W.heap.size:=by
      have D:=T
      simp only[World.var?,F,Option.bind_some] at D
      cases K:W.heap[g]? with
      | none=>rw[K] at D;simp at D
      | some o=>exact (Yr.1 K).1
     have E:=hok.1
     unfold AF at E
     rw[F] at E
     simp only[O,Yd,Y7] at E
     have I:∀ x∈p,x.block<W.heap.size:=DataW.trod_lt j _ _ _ J
     obtain⟨U,V⟩:=Below.trod hl E.1 E.2 (v:=.agg cs) (⟨j,by simpa[Value.cells] using J⟩:DataW.Trod enc P W 0 (fun _=>true) true t (.agg cs) d p) hb I
     exact⟨g,t,cs,U,p,q,F,O,var?_below hb F G T,by simpa[Value.cells] using V,R2 hl hb hok.2 Y,e⟩
theorem JS:prog.globalNamed "internal/strconv.uint64pow10" = some 8:=by kernel_rfl
theorem oY:(prog.globals[8]?).map (·.type)=some 259:=by kernel_rfl
theorem FN:(Rows.laid_internal_strconv_uint64pow10:DataW Unit)=Lib.tabData .u64 Lib.pow10Tab:=rfl
theorem EB {L:List (String×DataW Unit)}(h:laidMet prog (("internal/strconv.uint64pow10",Rows.laid_internal_strconv_uint64pow10)::L) W):Lib.TabIs prog W "internal/strconv.uint64pow10" .u64 Lib.pow10Tab:=by
 rw[FN] at h;exact Lib.tabIs_of_head JS oY underlying259 underlying32 (by kernel_rfl) (by kernel_rfl) h
theorem oE:prog.globalNamed "math/bits.deBruijn64tab" = some 10:=by kernel_rfl
theorem oQ:(prog.globals[10]?).map (·.type)=some 266:=by kernel_rfl
theorem US {L:List (String×DataW Unit)}(h:laidMet prog (("math/bits.deBruijn64tab",Rows.laid_math_bits_deBruijn64tab)::L) W):W.cell? ⟨10,1,none⟩=some (.int .u8 1):=by
 obtain⟨zs,D,hl,d⟩:∃ zs:List Int,(Rows.laid_math_bits_deBruijn64tab:DataW Unit)=Lib.tabData .u8 zs/\1<zs.length/\zs.getD 1 0=1:=⟨[0,1,56,2,57,49,28,3,61,58,42,50,38,29,17,4,62,47,59,36,45,43,51,22,53,39,33,30,24,18,12,5,63,55,48,27,60,41,37,16,46,35,44,21,52,32,23,11,54,26,40,15,34,20,31,10,25,14,19,9,13,8,7,6],rfl,by decide,rfl⟩;rw[D] at h;have j:Lib.TabIs prog W "math/bits.deBruijn64tab" .u8 zs:=Lib.tabIs_of_head oE oQ underlying266 underlying5 (by kernel_rfl) (by kernel_rfl) h;rw[j.cell oE 1 hl,d]
theorem NP {x0 x3:String×DataW Unit}{L:List (String×DataW Unit)}(h:laidMet prog (x0::("math/bits.deBruijn64tab",Rows.laid_math_bits_deBruijn64tab)::("internal/strconv.uint64pow10",Rows.laid_internal_strconv_uint64pow10)::x3::("strconv.ErrRange",Rows.laid_strconv_ErrRange)::("strconv.ErrSyntax",Rows.laid_strconv_ErrSyntax)::("loop.example/g00007/impl.limbTens",Rows.laid_loop_example_g00007_impl_limbTens)::("loop.example/g00007/impl.signPairs",Rows.laid_loop_example_g00007_impl_signPairs)::("loop.example/g00007/impl.noSteps",Rows.laid_loop_example_g00007_impl_noSteps)::L) W)(hm:∃ m,W.cell? ⟨1,0,none⟩=some (.int .i64 m)):VT W:=by
 have h4:=h.tail.tail.tail.tail;exact⟨Q.NK h4.tail.tail.tail,Q.EI h4.tail.tail.tail.tail,Q.EK h4.tail,KU h4,hm,EB h.tail.tail,US h.tail⟩
theorem JI {H:Type}{enc:TypeId×Value->H}{P:Program}{w:World}{spare:Nat->Bool}{n0 n1 n2:String}{gs:List (DataW H)}{ps:List MemPlace}(h:DataW.TrodVars enc P w spare [n0,n1,n2] gs ps):∃ a b c,gs=[a,b,c]:=by
 cases gs with
 | nil=>exact absurd h (by simp[DataW.TrodVars])
 | cons a g1=>
   obtain⟨_,_,_,_,_,_,_,_,_,_,h,_⟩:=h
   cases g1 with
   | nil=>exact absurd h (by simp[DataW.TrodVars])
   | cons b g2=>
     obtain⟨_,_,_,_,_,_,_,_,_,_,h,_⟩:=h
     cases g2 with
     | nil=>exact absurd h (by simp[DataW.TrodVars])
     | cons c g3=>
       obtain⟨_,_,_,_,_,_,_,_,_,_,h,_⟩:=h
       cases g3 with
       | nil=>exact⟨a,b,c,rfl⟩
       | cons e g5=>exact absurd h (by simp[DataW.TrodVars])
theorem OD {H:Type}{enc:TypeId×Value->H}{a0:Option Addr}{len0 cap0:Nat}{d:DataW H}{p:List MemPlace}(h0:DataW.Trod enc prog W 0 (fun _=>true) true 22 (.slice a0 len0 cap0) d p):Q.Ir W a0 len0 cap0:=by
 obtain⟨O,U⟩:=h0
 rcases open_ints underlying22 underlying5 (by kernel_rfl) U with⟨j,_⟩|⟨x,l,c,E,j,_,hl,hm,V,_,D,K⟩
 ·simp[Value.cells] at j;obtain⟨rfl,rfl,rfl⟩:=j;exact⟨O1,J7 _,fun i hi=>absurd hi (Ve _)⟩
 simp[Value.cells] at j;obtain⟨rfl,rfl,rfl⟩:=j;have Y:E.length=cap0:=by simpa using V
 refine⟨hl,hm,fun i hi=>?_⟩;obtain⟨b,I,rfl,T⟩:=ints_at D (by omega);have F:=T i (by omega);have G:E.getD i 0∈E:=by
  rw[Ji,Jl (by omega)];exact Yl _
 have J:=bounds_u8 (K _ G);refine⟨b,I,(E.getD i 0).toNat,rfl,Zb W ⟨b,I+i,none⟩ F,by omega,?_⟩;rw[F];have:((E.getD i 0).toNat:Int)=E.getD i 0:=Int.toNat_of_nonneg J.1;rw[this]
end Go.Proofs.YtjjgilacnocigaaGreatDoor
