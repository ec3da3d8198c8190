import Derived.Test.YtnhbmpnhijgpmaaGreatDoorRows
import Derived.Test.YtnhbmpnhijgpmaaGreatDoorCards
import Derived.Test.YtnhbmpnhijgpmaaGreatDoorTie
import Derived.Test.YtnhbmpnhijgpmaaGreatDoorU7p
import Derived.Test.YtnhbmpnhijgpmaaGreatDoorSimORp
import Derived.WalkKit
import Derived.ProofKit
import Derived.OpenShut
import Derived.ShutString
import Derived.ChangeOld
import Derived.ChangeVars
import Derived.Below
import Derived.WalkSmall
import Derived.LaidMore
import Derived.Lay
import Derived.Stop.Joined
import Derived.SevenTiedAt
set_option maxRecDepth 100000
namespace Go.Proofs.YtnhbmpnhijgpmaaGreatDoor.fnSimplest
open Go.ChangeShapes Go.WideShapes Go.ChangeAt Go.RowKit
open Go.ChangeMaps (open_string shut_string)
set_option linter.unusedVariables false
theorem own:ownKnob Tryz.prog.godebug=none:=by kernel_rfl
theorem laidOut:laidOutB Tryz.prog=true:=by kernel_rfl
theorem code_arg {H:Type} {enc:TypeId×Value→H} {W:World} {a0:Option Addr} {len0 cap0:Nat} {d:DataW H} {p:List MemPlace} (h0:DataW.Trod enc Tryz.prog W 0 (fun _=>true) true 22 (.slice a0 len0 cap0) d p):CodeArg W a0 len0 cap0:=by
 obtain ⟨F,I⟩:=h0
 rcases open_ints Tryz.underlying22 Tryz.underlying5 (by kernel_rfl) I with ⟨j,_⟩|⟨x,l,c,s,j,_,hl,J,K,_,m,E⟩
 ·simp [Value.cells] at j; obtain ⟨rfl,rfl,rfl⟩:=j; exact ⟨leR,Nat.zero_le _,fun i hi=>absurd hi (Nat.not_lt_zero _)⟩
 simp [Value.cells] at j; obtain ⟨rfl,rfl,rfl⟩:=j; have L:s.length=cap0:=by simpa using K
 refine ⟨hl,J,fun i hi=>?_⟩; obtain ⟨b,A,rfl,G⟩:=ints_at m (by omega); have t:=G i (by omega); have u:s.getD i 0∈s:=by
  rw [List.getD_eq_getElem?_getD,List.getElem?_eq_getElem (by omega)]; exact List.getElem_mem _
 have D:=bounds_u8 (E _ u); refine ⟨b,A,(s.getD i 0).toNat,rfl,World.block_lt_of_cell? W ⟨b,A+i,none⟩ t,by omega,?_⟩; rw [t]; have:((s.getD i 0).toNat:Int)=s.getD i 0:=Int.toNat_of_nonneg D.1; rw [this]
theorem lifted (os:Os) (started:os.Started) (H:Type) (enc:TypeId×Value→H) :
 ReturnsInHanded {} Tryz.checked os 3 .any (fun w args=>(Rows.fnSimplestSpec.pre enc Tryz.prog Tryz.f3 [] false w args∧laidMetH Tryz.prog Rows.fnSimplestRow.laid w)∧sizedMet enc Tryz.prog Tryz.f3 (OpenSpec.ofChange Rows.fnSimplestSpec) false w args)
  (Rows.fnSimplestSpec.post enc Tryz.prog Tryz.f3 false true false false):=by
 refine returnsInHanded_of_change_and (C:=Tryz.checked) (X:=fun w _=>laidMetH Tryz.prog Rows.fnSimplestRow.laid w) (fun _ _ _ hh h=>h.of_heap hh) own started (by kernel_rfl) Tryz.func3
  (ChangeSpec.witness_shaped (enc:=enc) (C:=Tryz.checked) (os:=os) (X:=fun w _=>laidMetH Tryz.prog Rows.fnSimplestRow.laid w) false (World.laidAll Tryz.prog os Rows.fnSimplestRow.laid) #[.slice none 0 0,.slice none 0 0] 8 (World.laidAll_os _ _ _)
    (World.shaped_of_ZipB (by kernel_rfl) (by kernel_rfl)) (by kernel_rfl) (by kernel_rfl) (by kernel_rfl)
    (by rw [MakeChecks.laidMetH_plain _ _ _ (by kernel_rfl)]; exact laidMet_laidAll _ (by kernel_rfl) (by kernel_rfl))) ?_
 intro W Z args ds gs c9 F hW _ _ hL _; have E:∀ (j:Nat) t v,Tryz.f3.params[j]? = some t→args[j]? = some v→Value.okWide Tryz.prog W .any Z t v:=F; have d5:=hW; obtain ⟨p,q,b3,hV,rfl,i4,i6⟩:=hW; have hA:DataW.TrodAll enc Tryz.prog W 0 (fun _=>true) true Tryz.f3.params.toList args.toList ds p:=b3; rw [Tryz.params3] at hA E; obtain ⟨v0,j0,d0,i0,p0,q0,d6,rfl,rfl,h0,r0⟩:=trodAll_cons hA; obtain ⟨v1,j1,d1,i1,p1,q1,rfl,rfl,rfl,h1,r1⟩:=trodAll_cons r0; obtain ⟨rfl,rfl,rfl⟩:=trodAll_nil r1; obtain rfl:args=#[v0,v1]:=by cases args; simp_all
 obtain ⟨g,t,L,D,d,V,g2,t2,i,u,d2,U,g3,t3,s,A,d3,Y,rfl,hg,ht,b7,hd,d9,e5,S,d7,e0,e6,T,d8,rfl⟩:=trodVars_three hV; have k0:=h0; have k1:=h1; have g0:∀ x∈p0,x.block<W.heap.size:=by obtain ⟨m,hm⟩:=k0; exact DataW.trod_lt m _ _ _ hm
 have g1:∀ x∈p1,x.block<W.heap.size:=by obtain ⟨m,hm⟩:=k1; exact DataW.trod_lt m _ _ _ hm
 obtain ⟨a0,c7,a3,rfl⟩:=okWide_slice Tryz.underlying22 (E 0 22 v0 rfl rfl); obtain ⟨a1,c8,a5,rfl⟩:=okWide_slice Tryz.underlying22 (E 1 22 v1 rfl rfl); have w0:=code_arg h0; have w1:=code_arg h1; rw [MakeChecks.laidMetH_plain _ _ _ (by kernel_rfl)] at hL; have G:LT W∧SP W∧NS W:=all3_of_laid hL; clear b3 F; refine (fnSimplest_any a0 c7 a3 a1 c8 a5 W w0 w1 G).mono fun e W' ⟨he,bel⟩=>?_; subst he; have b4:1<W.heap.size:=cell_lt G.2.2.1; have b5:0<W.heap.size:=cell_lt G.2.1.1.1; have b6:2<W.heap.size:=block_lt G.1; obtain rfl:=Option.some.inj (gSteps.symm.trans hg); obtain rfl:=Option.some.inj (tSteps.symm.trans ht); obtain rfl:=Option.some.inj (gSigns.symm.trans d9); obtain rfl:=Option.some.inj (tSigns.symm.trans e5); obtain rfl:=Option.some.inj (gTens.symm.trans e0); obtain rfl:=Option.some.inj (tTens.symm.trans e6); have I:DataW.trod enc Tryz.prog W 0 (fun _=>true) true D 150 L.toList=some (d,V):=hd; have b8:W.var? Tryz.prog "loop.example/g00007/impl.noSteps" = some L:=b7; have M:∀ x∈V,x.block<W.heap.size:=DataW.trod_lt D _ _ _ I; obtain ⟨a8,e2⟩:=Below.trod laidOut (by kernel_rfl) (of_decide_eq_true (by kernel_rfl)) (v:=.agg L) (⟨D,by simpa [Value.cells] using I⟩:DataW.Trod enc Tryz.prog W 0 (fun _=>true) true 150 (.agg L) d V) bel M; have f5:DataW.trod enc Tryz.prog W' 0 (fun b=>decide (b<W.heap.size)) true a8 150 L.toList=some (d,V):=by simpa [Value.cells] using e2
 have J:DataW.trod enc Tryz.prog W 0 (fun _=>true) true u 140 i.toList=some (d2,U):=d7; have b9:W.var? Tryz.prog "loop.example/g00007/impl.signPairs" = some i:=S; have O:∀ x∈U,x.block<W.heap.size:=DataW.trod_lt u _ _ _ J; obtain ⟨a9,e3⟩:=Below.trod laidOut (by kernel_rfl) (of_decide_eq_true (by kernel_rfl)) (v:=.agg i) (⟨u,by simpa [Value.cells] using J⟩:DataW.Trod enc Tryz.prog W 0 (fun _=>true) true 140 (.agg i) d2 U) bel O; have f7:DataW.trod enc Tryz.prog W' 0 (fun b=>decide (b<W.heap.size)) true a9 140 i.toList=some (d2,U):=by simpa [Value.cells] using e3
 have K:DataW.trod enc Tryz.prog W 0 (fun _=>true) true A 160 s.toList=some (d3,Y):=d8; have c6:W.var? Tryz.prog "loop.example/g00007/impl.limbTens" = some s:=T; have Q:∀ x∈Y,x.block<W.heap.size:=DataW.trod_lt A _ _ _ K; obtain ⟨d4,e4⟩:=Below.trod laidOut (by kernel_rfl) (of_decide_eq_true (by kernel_rfl)) (v:=.agg s) (⟨A,by simpa [Value.cells] using K⟩:DataW.Trod enc Tryz.prog W 0 (fun _=>true) true 160 (.agg s) d3 Y) bel Q; have f9:DataW.trod enc Tryz.prog W' 0 (fun b=>decide (b<W.heap.size)) true d4 160 s.toList=some (d3,Y):=by simpa [Value.cells] using e4
 have e9:=trodVars_mk1 (enc:=enc) (spare:=fun b=>decide (b<W.heap.size)) gTens tTens (var?_below bel gTens b6 c6) f9; have e8:DataW.TrodVars enc Tryz.prog W' (fun b=>decide (b<W.heap.size)) ["loop.example/g00007/impl.signPairs", "loop.example/g00007/impl.limbTens"] [d2,d3] (MemPlace.row ⟨0,0,none⟩ i.size++U++(MemPlace.row ⟨2,0,none⟩ s.size++Y)):=
  ⟨_,_,i,a9,U,_,gSigns,tSigns,var?_below bel gSigns b5 b9,f7,e9,rfl⟩
 have e7:DataW.TrodVars enc Tryz.prog W' (fun b=>decide (b<W.heap.size)) ["loop.example/g00007/impl.noSteps", "loop.example/g00007/impl.signPairs", "loop.example/g00007/impl.limbTens"] [d,d2,d3] (MemPlace.row ⟨1,0,none⟩ L.size++V++(MemPlace.row ⟨0,0,none⟩ i.size++U++(MemPlace.row ⟨2,0,none⟩ s.size++Y))):=
  ⟨_,_,L,a8,V,_,gSteps,tSteps,var?_below bel gSteps b4 b8,f5,e8,rfl⟩
 exact ⟨_,rfl,_,_,_,[],_,_,d5,trodAll_mk1 (shut_bool Tryz.underlying4 _),(trodAll_cons_mk (Below.trod laidOut (by kernel_rfl) (of_decide_eq_true (by kernel_rfl)) k0 bel g0) (trodAll_cons_mk (Below.trod laidOut (by kernel_rfl) (of_decide_eq_true (by kernel_rfl)) k1 bel g1) trodAll_mk0)),e7,bel.frame _,fun h=>by cases h⟩
theorem over:Rows.fnSimplestRow.holds Tryz.pinned (OpenSpec.ofChange Rows.fnSimplestSpec):=
 OpenClaim.holds_of_wide 3 Tryz.f3 rfl rfl rfl rfl rfl rfl rfl ⟨rfl,rfl,rfl,rfl,rfl⟩ rfl rfl rfl rfl rfl (by kernel_rfl) Tryz.func3 (by kernel_rfl)
  (of_decide_eq_true (by kernel_rfl)) (by unfold Func.isWrapper; first|(rw [if_pos (by decide +kernel)]; kernel_rfl)|(rw [if_neg (by decide +kernel)]; exact ⟨rfl,rfl⟩))
  (fun os started H enc _=>lifted os started H enc)
theorem plain (f:FuncId) (fn:Func) (hf:Tryz.pinned.checked.prog.funcNamed "loop.example/g00007/laws.FnSimplest" = some f) (hfn:Tryz.pinned.checked.prog.funcs[f]? = some fn) :
 false=Tryz.pinned.checked.prog.looks []∧∀ (j:Nat) t,fn.params[j]? = some t→Tryz.pinned.checked.prog.wantsStandIn t=false:=by
 obtain rfl:f=3:=Option.some.inj ((show Tryz.prog.funcNamed "loop.example/g00007/laws.FnSimplest" = some 3 by kernel_rfl).symm.trans hf) |>.symm; obtain rfl:fn=Tryz.f3:=(Option.some.inj (Tryz.func3.symm.trans hfn)).symm; refine ⟨by kernel_rfl,fun j t ht=>?_⟩; rw [Tryz.params3] at ht; obtain rfl:t=22:=by simpa using Array.mem_of_getElem? ht
 exact (show Tryz.prog.wantsStandIn 22=false by kernel_rfl)
end Go.Proofs.YtnhbmpnhijgpmaaGreatDoor.fnSimplest
namespace Go.Proofs.YtnhbmpnhijgpmaaGreatDoor
theorem fnSimplest_holds:Rows.FnSimplestCardSaid:=
 Claim7.holds_tied_plain_at .later [] _ _ _ _ fnSimplest.over (fun _ h=>by cases h) (by kernel_rfl) (fun _ h=>by cases h) fnSimplest_row_tie rfl ⟨rfl,rfl⟩ (by kernel_rfl) rfl fnSimplest.plain (by kernel_rfl)
#print axioms fnSimplest_holds
end Go.Proofs.YtnhbmpnhijgpmaaGreatDoor
