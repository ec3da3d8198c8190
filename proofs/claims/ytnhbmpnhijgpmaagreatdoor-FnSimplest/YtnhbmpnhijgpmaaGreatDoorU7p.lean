import Derived.Test.YtnhbmpnhijgpmaaGreatDoorRows
import Derived.Test.YtnhbmpnhijgpmaaGreatDoorM6p
import Derived.Test.YtnhbmpnhijgpmaaGreatDoorBATp
import Derived.Test.YtnhbmpnhijgpmaaGreatDoorSpecSump
import Derived.LaidMore
import Derived.Lay
import Derived.ChangeVars
import Derived.OpenShut
import Derived.Test.YtnhbmpnhijgpmaaGreatDoorGcdIp
set_option maxRecDepth 100000
namespace Go.Proofs.YtnhbmpnhijgpmaaGreatDoor
open Go.ChangeShapes Go.WideShapes Go.ChangeAt Go.RowKit
theorem gTens:Tryz.prog.globalNamed "loop.example/g00007/impl.limbTens" = some 2:=by kernel_rfl
theorem tTens:(Tryz.prog.globals[2]?).map (·.type)=some 160:=by kernel_rfl
def tensZ:List Int:=[100000000,10000000,1000000,100000,10000,1000,100,10,1]
theorem tensZ_eq (j:Nat) (h:j<9):tensZ.getD j 0=(tens j:Nat):=by
 match j,h with
 | 0,_|1,_|2,_|3,_|4,_|5,_|6,_|7,_|8,_=>rfl
theorem lt_of_laid {W:World} {n0:String} {d0:DataW Unit} {L:List (String×DataW Unit)} (h:laidMet Tryz.prog ((n0,d0)::("loop.example/g00007/impl.limbTens",Rows.laid_loop_example_g00007_impl_limbTens)::L) W):LT W:=by
 obtain ⟨Y,⟨U,t0,H,f0,V,Z,_,_,_,_,⟨g,t,u,A,p,q,E,Q,S,O,_,_⟩,_⟩,_⟩:=h; obtain rfl:=Option.some.inj (gTens.symm.trans E); obtain rfl:=Option.some.inj (tTens.symm.trans Q); obtain ⟨s,m,_,ex,_,hl,j⟩:=DataW.trod_array Tryz.underlying160 O; have c5:Tryz.prog.cellsOf 85=1:=by kernel_rfl
 intro r G; have D:=j r G; rw [c5,Nat.mul_one,List.getElem?_eq_getElem (by omega)] at D; obtain ⟨z,I,J,_⟩:=DataW.trod_int Tryz.underlying85 D; have F:tensZ.length=9:=rfl; have K:(s.map (·.1))=tensZ.map fun n=>.lit (.int .u32 n):=(DataW.agg.inj (Prod.mk.inj ex).1).symm; have i:(s.map (·.1))[r]? = (tensZ.map fun n=>(DataW.lit (.int .u32 n):DataW Unit))[r]? := by rw [K]
 rw [List.getElem?_map,List.getElem?_map,List.getElem?_eq_getElem (by omega:r<s.length),List.getElem?_eq_getElem (by omega:r<tensZ.length),J] at i; have T:z=tensZ.getD r 0:=by
  simp only [Option.map_some,Option.some.injEq,DataW.lit.injEq,Lit.int.injEq,true_and] at i; rw [i,List.getD,List.getElem?_eq_getElem (by omega:r<tensZ.length)]; rfl
 rw [World.var?_cell E S r,← tensZ_eq r G,← T]; have:u.toList[r]? = some (.int .u32 z):=by
  have M:((u.toList.drop r).take 1)[0]? = some (.int .u32 z):=by rw [I]; rfl
  simpa using M
 simpa using this
theorem laidMet_tail {P:Program} {x:String×DataW Unit} {L:List (String×DataW Unit)} {W:World} (h:laidMet P (x::L) W):laidMet P L W:=by
 obtain ⟨A,⟨g,t,u,m,p,q,_,_,_,_,s,rfl⟩,j,i⟩:=h; exact ⟨q,s,(List.nodup_append.1 j).2.1,fun b off hm=>i b off (List.mem_append_right _ hm)⟩
theorem IsRes.eq {f:Int→Int→Int} {s t u v:ByteArray} (hu:IsRes f s t u) (hv:IsRes f s t v):u=v:=by
 unfold IsRes at hu hv
 split at hu
 ·rename_i h; rw [if_pos h] at hv; exact hu.eq hv
 rename_i h; rw [if_neg h] at hv; rw [hu,hv]
open Go.ChangeShapes Go.WideShapes Go.ChangeAt Go.RowKit Go.Deep
theorem gSteps:Tryz.prog.globalNamed "loop.example/g00007/impl.noSteps" = some 1:=by kernel_rfl
theorem tSteps:(Tryz.prog.globals[1]?).map (·.type)=some 150:=by kernel_rfl
theorem cSteps:Tryz.prog.cellsOf 150=4:=by kernel_rfl
theorem cArr:Tryz.prog.cellsOf 148=2:=by kernel_rfl
theorem cI64:Tryz.prog.cellsOf 2=1:=by kernel_rfl
theorem arr_of_trod {H:Type} {enc:TypeId×Value→H} {w:World} {base:Nat} {spare:Nat→Bool} {held:Bool} {fuel:Nat} {cs:List Value} {a c:Int} {x:DataW H×List MemPlace}
 (h:DataW.trod enc Tryz.prog w base spare held fuel 148 cs=some x) (hx:x.1=.agg [.lit (.int .i64 a),.lit (.int .i64 c)]):cs=[.int .i64 a,.int .i64 c]:=by
 obtain ⟨E,m,_,rfl,hl,hn,i⟩:=DataW.trod_array Tryz.underlying148 h; rw [cArr] at hl; have j:=i 0 (by decide); have s:=i 1 (by decide); rw [cI64] at j s
 match E,hn with
 | [y0,y1],_=>
   obtain ⟨F,t,A,_⟩:=DataW.trod_int Tryz.underlying2 (show DataW.trod _ Tryz.prog w base spare held m 2 _=some y0 from j); obtain ⟨G,u,D,_⟩:=DataW.trod_int Tryz.underlying2 (show DataW.trod _ Tryz.prog w base spare held m 2 _=some y1 from s); subst A D; simp only [List.map_cons,List.map_nil,DataW.agg.injEq,List.cons.injEq,DataW.lit.injEq,Lit.int.injEq,true_and,and_true] at hx; obtain ⟨rfl,rfl⟩:=hx
   match cs,hl with
   | [c0,c1],_=>
     simp at t u; rw [t,u]
theorem ns_of_laid {W:World} {L:List (String×DataW Unit)} (h:laidMet Tryz.prog (("loop.example/g00007/impl.noSteps",Rows.laid_loop_example_g00007_impl_noSteps)::L) W):NS W:=by
 obtain ⟨K,⟨J,t0,s,f0,m,M,j,u,A,t,_,_⟩,_⟩:=h; obtain rfl:=Option.some.inj (gSteps.symm.trans j); obtain rfl:=Option.some.inj (tSteps.symm.trans u); have i:=World.var?_cell j A; obtain ⟨O,Q,n,G,hl,H,I⟩:=trod_struct2 Tryz.underlying150 t; rw [cSteps] at hl; obtain ⟨l⟩:=s; simp only [Rows.laid_loop_example_g00007_impl_noSteps,Prod.mk.injEq,DataW.agg.injEq,List.cons.injEq,and_true] at G; obtain ⟨⟨D,E⟩,_⟩:=G; have m:=arr_of_trod H D.symm; have F:=arr_of_trod I E.symm; rw [cArr] at m F
 match l,hl with
 | [c0,c1,c2,c3],_=>
   simp at m F; obtain ⟨rfl,rfl⟩:=m; obtain ⟨rfl,rfl⟩:=F; exact ⟨i 0,i 1,i 2,i 3⟩
theorem trodVars_three {H:Type} {enc:TypeId×Value→H} {P:Program} {w:World} {spare:Nat→Bool} {n0 n1 n2:String} {gs:List (DataW H)} {ps:List MemPlace} (h:DataW.TrodVars enc P w spare [n0,n1,n2] gs ps) :
 ∃ g0 t0 cs0 f0 d0 p0 g1 t1 cs1 f1 d1 p1 g2 t2 cs2 f2 d2 p2,gs=[d0,d1,d2]∧P.globalNamed n0=some g0∧(P.globals[g0]?).map (·.type)=some t0∧w.var? P n0=some cs0∧DataW.trod enc P w 0 spare true f0 t0 cs0.toList=some (d0,p0) ∧
  P.globalNamed n1=some g1∧(P.globals[g1]?).map (·.type)=some t1∧w.var? P n1=some cs1∧DataW.trod enc P w 0 spare true f1 t1 cs1.toList=some (d1,p1) ∧
  P.globalNamed n2=some g2∧(P.globals[g2]?).map (·.type)=some t2∧w.var? P n2=some cs2∧DataW.trod enc P w 0 spare true f2 t2 cs2.toList=some (d2,p2) ∧
  ps=MemPlace.row ⟨g0,0,none⟩ cs0.size++p0++(MemPlace.row ⟨g1,0,none⟩ cs1.size++p1++(MemPlace.row ⟨g2,0,none⟩ cs2.size++p2)):=by
 cases gs with
 | nil=>simp [DataW.TrodVars] at h
 | cons d ds=>
   obtain ⟨g0,t0,cs0,f0,p0,t,i,j,h3,h4,m,e⟩:=h; obtain ⟨g1,t1,cs1,f1,d1,p1,g2,t2,cs2,f2,d2,p2,rfl,s,k2,k3,k4,m1,m2,m3,m4,rfl⟩:=trodVars_two m; exact ⟨g0,t0,cs0,f0,d,p0,g1,t1,cs1,f1,d1,p1,g2,t2,cs2,f2,d2,p2,rfl,i,j,h3,h4,s,k2,k3,k4,m1,m2,m3,m4,e⟩
theorem all3_of_laid {W:World} {x:String×DataW Unit} {L:List (String×DataW Unit)} (h:laidMet Tryz.prog (x::("loop.example/g00007/impl.limbTens",Rows.laid_loop_example_g00007_impl_limbTens)::("loop.example/g00007/impl.signPairs",Rows.laid_loop_example_g00007_impl_signPairs)::("loop.example/g00007/impl.noSteps",Rows.laid_loop_example_g00007_impl_noSteps)::L) W):LT W∧SP W∧NS W:=
 ⟨lt_of_laid h,sp_of_laid (laidMet_tail (laidMet_tail h)),ns_of_laid (laidMet_tail (laidMet_tail (laidMet_tail h)))⟩
end Go.Proofs.YtnhbmpnhijgpmaaGreatDoor
