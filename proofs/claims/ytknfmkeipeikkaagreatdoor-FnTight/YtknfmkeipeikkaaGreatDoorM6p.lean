import Derived.Test.YtknfmkeipeikkaaGreatDoorM2p
import Derived.Deep.RegionWith
import Derived.Test.YtknfmkeipeikkaaGreatDoorRows
import Derived.ProofKit
import Derived.LaidMore
import Derived.OpenShut
import Derived.Deep.Strs
import Derived.Stop.Joined
set_option maxRecDepth 100000
set_option maxHeartbeats 2000000
namespace Go.Proofs.YtknfmkeipeikkaaGreatDoor
open Go.ChangeShapes Go.WideShapes Go.ChangeAt Go.RowKit
def sgSum (na nb:Bool):Int:=if na=nb then 0 else 1
def sgOrd (na nb:Bool):Int:=if na=nb then 0 else if na then -1 else 1
def SP (w:World):Prop:=
 (w.cell? ⟨1,0,none⟩=some (.int .i64 0)∧w.cell? ⟨1,1,none⟩=some (.bool false)∧w.cell? ⟨1,2,none⟩=some (.int .i64 0)) ∧
 (w.cell? ⟨1,3,none⟩=some (.int .i64 1)∧w.cell? ⟨1,4,none⟩=some (.bool true)∧w.cell? ⟨1,5,none⟩=some (.int .i64 1)) ∧
 (w.cell? ⟨1,6,none⟩=some (.int .i64 1)∧w.cell? ⟨1,7,none⟩=some (.bool true)∧w.cell? ⟨1,8,none⟩=some (.int .i64 (-1))) ∧
 (w.cell? ⟨1,9,none⟩=some (.int .i64 0)∧w.cell? ⟨1,10,none⟩=some (.bool false)∧w.cell? ⟨1,11,none⟩=some (.int .i64 0))
theorem cell_lt {w:World} {b o:Nat} {v:Value} (h:w.cell? ⟨b,o,none⟩=some v):b<w.heap.size:=by
 apply Classical.byContradiction; intro hn; have e:w.heap[b]? = none:=Array.getElem?_eq_none (by omega); simp [World.cell?,e] at h
theorem SP.below {w w':World} (h:SP w) (hb:Up w w'):SP w':=by
 have j:=cell_lt h.1.1; unfold SP at *; simp only [fun o=>hb.cell (p:=⟨1,o,none⟩) j]; exact h
theorem signNumber_any (n:Bool) (a:Option Addr) (l c:Nat) (w:World) :
 Calls Tryz.prog 107 #[.agg #[.bool n,.slice a l c]] w fun e w'=>e=.returned (.int .i64 (if n then 1 else 0))∧w'=w.alloc (.cells #[.bool n,.slice a l c] 67):=by
 cases n
 all_goals
  go_enter Tryz.func107,Tryz.ntmps107
  go_wp2
  go_ret
  exact ⟨rfl,rfl⟩
theorem signsOf_any (na nb:Bool) (a:Option Addr) (la ca:Nat) (b:Option Addr) (lb cb:Nat) (w:World) (h:SP w) :
 Calls Tryz.prog 87 #[.agg #[.bool na,.slice a la ca],.agg #[.bool nb,.slice b lb cb]] w fun e w'=>e=.returned (.agg #[.int .i64 (sgSum na nb),.bool (na != nb),.int .i64 (sgOrd na nb)])∧Up w w':=by
 have T:=cell_lt h.1.1; have H:0<w.heap.size:=by omega
 have I:1 - 1<w.heap.size:=by omega
 have J:1<w.heap.size+1:=by omega
 have K:1<w.heap.size+1+1:=by omega
 have M:1<w.heap.size+1+1+1:=by omega
 have O:1<w.heap.size+1+1+1+1:=by omega
 obtain ⟨j,m,s,u⟩:=h
 cases na<;>cases nb
 case' _=>
  obtain ⟨y,D,E⟩:=j; clear m s u
 rotate_left
 ·obtain ⟨y,D,E⟩:=m; clear j s u
  go_enter Tryz.func87,Tryz.ntmps87
  go_wp2
  go_region_with (go_at_call 107; refine (signNumber_any _ _ _ _ _).mono ?_; rintro e w' ⟨rfl,rfl⟩)
  all_goals
   go_wp2
   refine bodyPost_ret (v:=.agg #[.int .i64 (1),.bool true,.int .i64 (1)]) ?_ rfl ⟨rfl,?_⟩
   ·simp [results,Tryz.results87,go_sem]
   exact ((((((Below.refl _ w).alloc leR _).alloc (by simp) _).alloc (by simp; omega) _).alloc (by simp; omega) _).alloc (by simp; omega) _).drew
 ·obtain ⟨y,D,E⟩:=s; clear j m u
  go_enter Tryz.func87,Tryz.ntmps87
  go_wp2
  go_region_with (go_at_call 107; refine (signNumber_any _ _ _ _ _).mono ?_; rintro e w' ⟨rfl,rfl⟩)
  all_goals
   go_wp2
   refine bodyPost_ret (v:=.agg #[.int .i64 (1),.bool true,.int .i64 (-1)]) ?_ rfl ⟨rfl,?_⟩
   ·simp [results,Tryz.results87,go_sem]
   exact ((((((Below.refl _ w).alloc leR _).alloc (by simp) _).alloc (by simp; omega) _).alloc (by simp; omega) _).alloc (by simp; omega) _).drew
 case' _=>
  obtain ⟨y,D,E⟩:=u; clear j m s
 rotate_left
 all_goals
  go_enter Tryz.func87,Tryz.ntmps87
  go_wp2
  go_region_with (go_at_call 107; refine (signNumber_any _ _ _ _ _).mono ?_; rintro e w' ⟨rfl,rfl⟩)
  all_goals
   go_wp2
   refine bodyPost_ret (v:=.agg #[.int .i64 (0),.bool false,.int .i64 (0)]) ?_ rfl ⟨rfl,?_⟩
   ·simp [results,Tryz.results87,go_sem]
   exact ((((((Below.refl _ w).alloc leR _).alloc (by simp) _).alloc (by simp; omega) _).alloc (by simp; omega) _).alloc (by simp; omega) _).drew
open Go.ChangeShapes Go.WideShapes Go.ChangeAt Go.RowKit Go.Deep
theorem gSigns:Tryz.prog.globalNamed "loop.example/g00007/impl.signPairs" = some 1:=by kernel_rfl
theorem tSigns:(Tryz.prog.globals[1]?).map (·.type)=some 135:=by kernel_rfl
theorem cSigns:Tryz.prog.cellsOf 135=12:=by kernel_rfl
theorem cSigns1:Tryz.prog.cellsOf 134=6:=by kernel_rfl
theorem cSigns2:Tryz.prog.cellsOf 115=3:=by kernel_rfl
theorem cInt:Tryz.prog.cellsOf 3=1:=by kernel_rfl
theorem cBool:Tryz.prog.cellsOf 4=1:=by kernel_rfl
theorem pair_of_trod {H:Type} {enc:TypeId×Value→H} {w:World} {base:Nat} {spare:Nat→Bool} {held:Bool} {fuel:Nat} {cs:List Value} {a c:Int} {b:Bool} {x:DataW H×List MemPlace}
 (h:DataW.trod enc Tryz.prog w base spare held fuel 115 cs=some x) (hx:x.1=.agg [.lit (.int .i64 a),.lit (.bool b),.lit (.int .i64 c)]):cs=[.int .i64 a,.bool b,.int .i64 c]:=by
 obtain ⟨I,J,K,n,rfl,hl,s,u,h2⟩:=trod_struct3 Tryz.underlying115 h; rw [cSigns2] at hl; obtain ⟨y,j,rfl,_⟩:=DataW.trod_int Tryz.underlying3 s; obtain ⟨D,e1,rfl⟩:=DataW.trod_bool Tryz.underlying4 u; obtain ⟨E,m,rfl,_⟩:=DataW.trod_int Tryz.underlying3 h2; rw [cInt] at j m; rw [cBool] at e1; simp only [DataW.agg.injEq,List.cons.injEq,DataW.lit.injEq,Lit.int.injEq,Lit.bool.injEq,true_and,and_true] at hx; obtain ⟨rfl,rfl,rfl⟩:=hx
 match cs,hl with
 | [c0,c1,c2],_=>
   simp at j e1 m; rw [j,e1,m]
theorem sp_of_laid {W:World} {L:List (String×DataW Unit)} (h:laidMet Tryz.prog (("loop.example/g00007/impl.signPairs",Rows.laid_loop_example_g00007_impl_signPairs)::L) W):SP W:=by
 obtain ⟨ps,⟨g0,t0,I,f0,p0,q0,H,Y,Z,T,_,_⟩,_⟩:=h; obtain rfl:=Option.some.inj (gSigns.symm.trans H); obtain rfl:=Option.some.inj (tSigns.symm.trans Y); have j:=World.var?_cell H Z; obtain ⟨xs,m,_,hx,hl,hn,E⟩:=DataW.trod_array Tryz.underlying135 T; rw [cSigns] at hl; obtain ⟨l⟩:=I; have e0:=E 0 (by decide); have e1:=E 1 (by decide); rw [cSigns1] at e0 e1
 match xs,hn with
 | [x0,x1],_=>
   simp only [Rows.laid_loop_example_g00007_impl_signPairs,List.map_cons,List.map_nil,Prod.mk.injEq,DataW.agg.injEq,List.cons.injEq,and_true] at hx; obtain ⟨⟨y,D⟩,_⟩:=hx; obtain ⟨ys,m0,_,hy,_,U,s⟩:=DataW.trod_array Tryz.underlying134 (show DataW.trod _ Tryz.prog W 0 _ false m 134 _=some x0 from e0); obtain ⟨zs,m1,_,hz,_,V,u⟩:=DataW.trod_array Tryz.underlying134 (show DataW.trod _ Tryz.prog W 0 _ false m 134 _=some x1 from e1); have y0:=s 0 (by decide); have y1:=s 1 (by decide); have z0:=u 0 (by decide); have z1:=u 1 (by decide); rw [cSigns2] at y0 y1 z0 z1
   match ys,U,zs,V with
   | [a0,a1],_,[b0,b1],_=>
     rw [hy] at y; rw [hz] at D; simp only [List.map_cons,List.map_nil,DataW.agg.injEq,List.cons.injEq,and_true] at y D; obtain ⟨J,K⟩:=y; obtain ⟨M,O⟩:=D; have p0:=pair_of_trod (show DataW.trod _ Tryz.prog W 0 _ false m0 115 _=some a0 from y0) J.symm; have p1:=pair_of_trod (show DataW.trod _ Tryz.prog W 0 _ false m0 115 _=some a1 from y1) K.symm; have p2:=pair_of_trod (show DataW.trod _ Tryz.prog W 0 _ false m1 115 _=some b0 from z0) M.symm; have p3:=pair_of_trod (show DataW.trod _ Tryz.prog W 0 _ false m1 115 _=some b1 from z1) O.symm
     match l,hl with
     | [c0,c1,c2,c3,c4,c5,c6,c7,c8,c9,c10,c11],_=>
       simp at p0 p1 p2 p3; obtain ⟨rfl,rfl,rfl⟩:=p0; obtain ⟨rfl,rfl,rfl⟩:=p1; obtain ⟨rfl,rfl,rfl⟩:=p2; obtain ⟨rfl,rfl,rfl⟩:=p3; exact ⟨⟨j 0,j 1,j 2⟩,⟨j 3,j 4,j 5⟩,⟨j 6,j 7,j 8⟩,⟨j 9,j 10,j 11⟩⟩
end Go.Proofs.YtknfmkeipeikkaaGreatDoor
