import Derived.Test.YtnhbmpnhijgpmaaGreatDoorRows
import Derived.Test.YtnhbmpnhijgpmaaGreatDoorCards
import Derived.Test.YtnhbmpnhijgpmaaGreatDoorTie
import Derived.Test.YtnhbmpnhijgpmaaGreatDoorU7p
import Derived.Test.YtnhbmpnhijgpmaaGreatDoorSimWp
import Derived.WalkKit
import Derived.ProofKit
import Derived.OpenShut
import Derived.ShutString
import Derived.ChangeOld
import Derived.ChangeVars
import Derived.Below
import Derived.WalkSmall
import Derived.LaidMore
import Derived.Lay
import Derived.Stop.Joined
import Derived.SevenTiedAt
set_option maxRecDepth 100000
namespace Go.Proofs.YtnhbmpnhijgpmaaGreatDoor.fnExactSimplest
open Go.ChangeShapes Go.WideShapes Go.ChangeAt Go.RowKit
open Go.ChangeMaps (open_string shut_string)
set_option linter.unusedVariables false
theorem own:ownKnob Tryz.prog.godebug=none:=by kernel_rfl
theorem laidOut:laidOutB Tryz.prog=true:=by kernel_rfl
theorem cellsB:Tryz.prog.cellsOf 33=3:=by kernel_rfl
theorem cellsBool:Tryz.prog.cellsOf 4=1:=by kernel_rfl
theorem cellsStr:Tryz.prog.cellsOf 9=1:=by kernel_rfl
theorem open_bound {H:Type} {enc:TypeId×Value→H} {W:World} {base:Nat} {v:Value} {d:DataW H} {p:List MemPlace} (hval:Value.okWide Tryz.prog W .any base 33 v) (hd:DataW.Trod enc Tryz.prog W 0 (fun _=>true) true 33 v d p):∃ (h o:Bool) (t:ByteArray),v=.agg #[.bool h,.bool o,.string t]∧t.size≤maxLen:=by
 obtain ⟨A,rfl,j⟩:=okWide_struct Tryz.underlying33 hval; rw [cellsB] at j; obtain ⟨u,K⟩:=hd; obtain ⟨L,n,rfl,M,hl,s,i⟩:=DataW.trod_struct Tryz.underlying33 K; obtain ⟨l⟩:=A
 match l,j,L,s with
 | [c0,c1,c2],_,[x0,x1,x2],_=>
   have f0:DataW.trod enc Tryz.prog W 0 (fun _=>true) true n 4 (([c0,c1,c2].drop 0).take (Tryz.prog.cellsOf 4))=some x0:=i 0 _ rfl; have f1:DataW.trod enc Tryz.prog W 0 (fun _=>true) true n 4 (([c0,c1,c2].drop 1).take (Tryz.prog.cellsOf 4))=some x1:=i 1 _ rfl; have f2:DataW.trod enc Tryz.prog W 0 (fun _=>true) true n 9 (([c0,c1,c2].drop 2).take (Tryz.prog.cellsOf 9))=some x2:=i 2 _ rfl; rw [cellsBool] at f0 f1; rw [cellsStr] at f2; obtain ⟨b0,D,_⟩:=DataW.trod_bool Tryz.underlying4 f0; obtain ⟨b1,E,_⟩:=DataW.trod_bool Tryz.underlying4 f1; obtain ⟨s2,F,_,m⟩:=DataW.trod_string Tryz.underlying9 f2; have G:c0=.bool b0:=by simpa using D
   have I:c1=.bool b1:=by simpa using E
   have J:c2=.string s2:=by simpa using F
   exact ⟨b0,b1,s2,by rw [G,I,J],m⟩
theorem lifted (os:Os) (started:os.Started) (H:Type) (enc:TypeId×Value→H) :
 ReturnsInHanded {} Tryz.checked os 4 .any (fun w args=>(Rows.fnExactSimplestSpec.pre enc Tryz.prog Tryz.f4 [] false w args∧laidMetH Tryz.prog Rows.fnExactSimplestRow.laid w)∧sizedMet enc Tryz.prog Tryz.f4 (OpenSpec.ofChange Rows.fnExactSimplestSpec) false w args)
  (Rows.fnExactSimplestSpec.post enc Tryz.prog Tryz.f4 false true false false):=by
 refine returnsInHanded_of_change_and (C:=Tryz.checked) (X:=fun w _=>laidMetH Tryz.prog Rows.fnExactSimplestRow.laid w) (fun _ _ _ hh h=>h.of_heap hh) own started (by kernel_rfl) Tryz.func4
  (ChangeSpec.witness_shaped (enc:=enc) (C:=Tryz.checked) (os:=os) (X:=fun w _=>laidMetH Tryz.prog Rows.fnExactSimplestRow.laid w) false (World.laidAll Tryz.prog os Rows.fnExactSimplestRow.laid) #[.agg #[.bool false,.bool false,.string ByteArray.empty],.agg #[.bool false,.bool false,.string ByteArray.empty]] 8 (World.laidAll_os _ _ _)
    (World.shaped_of_ZipB (by kernel_rfl) (by kernel_rfl)) (by kernel_rfl) (by kernel_rfl) (by kernel_rfl)
    (by rw [MakeChecks.laidMetH_plain _ _ _ (by kernel_rfl)]; exact laidMet_laidAll _ (by kernel_rfl) (by kernel_rfl))) ?_
 intro W Z args ds gs b9 F hW _ _ hL _; have E:∀ (j:Nat) t v,Tryz.f4.params[j]? = some t→args[j]? = some v→Value.okWide Tryz.prog W .any Z t v:=F; have d7:=hW; obtain ⟨p,q,a8,hV,rfl,i6,i8⟩:=hW; have hA:DataW.TrodAll enc Tryz.prog W 0 (fun _=>true) true Tryz.f4.params.toList args.toList ds p:=a8; rw [Tryz.params4] at hA E; obtain ⟨v0,j2,d0,i2,p0,q0,d8,rfl,rfl,h0,r0⟩:=trodAll_cons hA; obtain ⟨v1,j3,d1,i3,p1,q1,rfl,rfl,rfl,h1,r1⟩:=trodAll_cons r0; obtain ⟨rfl,rfl,rfl⟩:=trodAll_nil r1; obtain rfl:args=#[v0,v1]:=by cases args; simp_all
 obtain ⟨g,t,L,D,d,V,g2,t2,i,u,d2,U,g3,t3,s,A,d3,Y,rfl,hg,ht,b5,hd,e1,e7,S,d9,e2,e8,T,e0,rfl⟩:=trodVars_three hV; have k0:=h0; have k1:=h1; have g4:∀ x∈p0,x.block<W.heap.size:=by obtain ⟨m,hm⟩:=k0; exact DataW.trod_lt m _ _ _ hm
 have g6:∀ x∈p1,x.block<W.heap.size:=by obtain ⟨m,hm⟩:=k1; exact DataW.trod_lt m _ _ _ hm
 obtain ⟨c6,c8,d4,rfl,w0⟩:=open_bound (E 0 33 v0 rfl rfl) h0; obtain ⟨c7,c9,d5,rfl,w1⟩:=open_bound (E 1 33 v1 rfl rfl) h1; rw [MakeChecks.laidMetH_plain _ _ _ (by kernel_rfl)] at hL; have G:LT W∧SP W∧NS W:=all3_of_laid hL; clear a8 F; refine (exactSimplest_any c6 c8 d4 c7 c9 d5 W w0 w1 G).mono fun e W' ⟨he,bel⟩=>?_; subst he; have a9:1<W.heap.size:=cell_lt G.2.2.1; have b3:0<W.heap.size:=cell_lt G.2.1.1.1; have b4:2<W.heap.size:=block_lt G.1; obtain rfl:=Option.some.inj (gSteps.symm.trans hg); obtain rfl:=Option.some.inj (tSteps.symm.trans ht); obtain rfl:=Option.some.inj (gSigns.symm.trans e1); obtain rfl:=Option.some.inj (tSigns.symm.trans e7); obtain rfl:=Option.some.inj (gTens.symm.trans e2); obtain rfl:=Option.some.inj (tTens.symm.trans e8); have I:DataW.trod enc Tryz.prog W 0 (fun _=>true) true D 150 L.toList=some (d,V):=hd; have b6:W.var? Tryz.prog "loop.example/g00007/impl.noSteps" = some L:=b5; have M:∀ x∈V,x.block<W.heap.size:=DataW.trod_lt D _ _ _ I; obtain ⟨a6,e4⟩:=Below.trod laidOut (by kernel_rfl) (of_decide_eq_true (by kernel_rfl)) (v:=.agg L) (⟨D,by simpa [Value.cells] using I⟩:DataW.Trod enc Tryz.prog W 0 (fun _=>true) true 150 (.agg L) d V) bel M; have f9:DataW.trod enc Tryz.prog W' 0 (fun b=>decide (b<W.heap.size)) true a6 150 L.toList=some (d,V):=by simpa [Value.cells] using e4
 have J:DataW.trod enc Tryz.prog W 0 (fun _=>true) true u 140 i.toList=some (d2,U):=d9; have b7:W.var? Tryz.prog "loop.example/g00007/impl.signPairs" = some i:=S; have O:∀ x∈U,x.block<W.heap.size:=DataW.trod_lt u _ _ _ J; obtain ⟨a7,e5⟩:=Below.trod laidOut (by kernel_rfl) (of_decide_eq_true (by kernel_rfl)) (v:=.agg i) (⟨u,by simpa [Value.cells] using J⟩:DataW.Trod enc Tryz.prog W 0 (fun _=>true) true 140 (.agg i) d2 U) bel O; have g0:DataW.trod enc Tryz.prog W' 0 (fun b=>decide (b<W.heap.size)) true a7 140 i.toList=some (d2,U):=by simpa [Value.cells] using e5
 have K:DataW.trod enc Tryz.prog W 0 (fun _=>true) true A 160 s.toList=some (d3,Y):=e0; have b8:W.var? Tryz.prog "loop.example/g00007/impl.limbTens" = some s:=T; have Q:∀ x∈Y,x.block<W.heap.size:=DataW.trod_lt A _ _ _ K; obtain ⟨d6,e6⟩:=Below.trod laidOut (by kernel_rfl) (of_decide_eq_true (by kernel_rfl)) (v:=.agg s) (⟨A,by simpa [Value.cells] using K⟩:DataW.Trod enc Tryz.prog W 0 (fun _=>true) true 160 (.agg s) d3 Y) bel Q; have g1:DataW.trod enc Tryz.prog W' 0 (fun b=>decide (b<W.heap.size)) true d6 160 s.toList=some (d3,Y):=by simpa [Value.cells] using e6
 have f7:=trodVars_mk1 (enc:=enc) (spare:=fun b=>decide (b<W.heap.size)) gTens tTens (var?_below bel gTens b4 b8) g1; have f5:DataW.TrodVars enc Tryz.prog W' (fun b=>decide (b<W.heap.size)) ["loop.example/g00007/impl.signPairs", "loop.example/g00007/impl.limbTens"] [d2,d3] (MemPlace.row ⟨0,0,none⟩ i.size++U++(MemPlace.row ⟨2,0,none⟩ s.size++Y)):=
  ⟨_,_,i,a7,U,_,gSigns,tSigns,var?_below bel gSigns b3 b7,g0,f7,rfl⟩
 have e9:DataW.TrodVars enc Tryz.prog W' (fun b=>decide (b<W.heap.size)) ["loop.example/g00007/impl.noSteps", "loop.example/g00007/impl.signPairs", "loop.example/g00007/impl.limbTens"] [d,d2,d3] (MemPlace.row ⟨1,0,none⟩ L.size++V++(MemPlace.row ⟨0,0,none⟩ i.size++U++(MemPlace.row ⟨2,0,none⟩ s.size++Y))):=
  ⟨_,_,L,a6,V,_,gSteps,tSteps,var?_below bel gSteps a9 b6,f9,f5,rfl⟩
 exact ⟨_,rfl,_,_,_,[],_,_,d7,trodAll_mk1 (shut_bool Tryz.underlying4 _),(trodAll_cons_mk (Below.trod laidOut (by kernel_rfl) (of_decide_eq_true (by kernel_rfl)) k0 bel g4) (trodAll_cons_mk (Below.trod laidOut (by kernel_rfl) (of_decide_eq_true (by kernel_rfl)) k1 bel g6) trodAll_mk0)),e9,bel.frame _,fun h=>by cases h⟩
theorem over:Rows.fnExactSimplestRow.holds Tryz.pinned (OpenSpec.ofChange Rows.fnExactSimplestSpec):=
 OpenClaim.holds_of_wide 4 Tryz.f4 rfl rfl rfl rfl rfl rfl rfl ⟨rfl,rfl,rfl,rfl,rfl⟩ rfl rfl rfl rfl rfl (by kernel_rfl) Tryz.func4 (by kernel_rfl)
  (of_decide_eq_true (by kernel_rfl)) (by unfold Func.isWrapper; first|(rw [if_pos (by decide +kernel)]; kernel_rfl)|(rw [if_neg (by decide +kernel)]; exact ⟨rfl,rfl⟩))
  (fun os started H enc _=>lifted os started H enc)
theorem plain (f:FuncId) (fn:Func) (hf:Tryz.pinned.checked.prog.funcNamed "loop.example/g00007/laws.FnExactSimplest" = some f) (hfn:Tryz.pinned.checked.prog.funcs[f]? = some fn) :
 false=Tryz.pinned.checked.prog.looks []∧∀ (j:Nat) t,fn.params[j]? = some t→Tryz.pinned.checked.prog.wantsStandIn t=false:=by
 obtain rfl:f=4:=Option.some.inj ((show Tryz.prog.funcNamed "loop.example/g00007/laws.FnExactSimplest" = some 4 by kernel_rfl).symm.trans hf) |>.symm; obtain rfl:fn=Tryz.f4:=(Option.some.inj (Tryz.func4.symm.trans hfn)).symm; refine ⟨by kernel_rfl,fun j t ht=>?_⟩; rw [Tryz.params4] at ht; obtain rfl:t=33:=by simpa using Array.mem_of_getElem? ht
 exact (show Tryz.prog.wantsStandIn 33=false by kernel_rfl)
end Go.Proofs.YtnhbmpnhijgpmaaGreatDoor.fnExactSimplest
namespace Go.Proofs.YtnhbmpnhijgpmaaGreatDoor
theorem fnExactSimplest_holds:Rows.FnExactSimplestCardSaid:=
 Claim7.holds_tied_plain_at .later [] _ _ _ _ fnExactSimplest.over (fun _ h=>by cases h) (by kernel_rfl) (fun _ h=>by cases h) fnExactSimplest_row_tie rfl ⟨rfl,rfl⟩ (by kernel_rfl) rfl fnExactSimplest.plain (by kernel_rfl)
#print axioms fnExactSimplest_holds
end Go.Proofs.YtnhbmpnhijgpmaaGreatDoor
