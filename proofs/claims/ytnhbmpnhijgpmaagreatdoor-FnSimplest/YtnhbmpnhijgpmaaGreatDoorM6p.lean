import Derived.Test.YtnhbmpnhijgpmaaGreatDoorM2p
import Derived.Deep.RegionWith
import Derived.Test.YtnhbmpnhijgpmaaGreatDoorRows
import Derived.ProofKit
import Derived.LaidMore
import Derived.OpenShut
import Derived.Deep.Strs
import Derived.Stop.Joined
set_option maxRecDepth 100000
set_option maxHeartbeats 2000000
namespace Go.Proofs.YtnhbmpnhijgpmaaGreatDoor
open Go.ChangeShapes Go.WideShapes Go.ChangeAt Go.RowKit
def sgSum (na nb:Bool):Int:=if na=nb then 0 else 1
def sgOrd (na nb:Bool):Int:=if na=nb then 0 else if na then -1 else 1
def SP (w:World):Prop:=
 (w.cell? ⟨0,0,none⟩=some (.int .i64 0)∧w.cell? ⟨0,1,none⟩=some (.bool false)∧w.cell? ⟨0,2,none⟩=some (.int .i64 0)) ∧
 (w.cell? ⟨0,3,none⟩=some (.int .i64 1)∧w.cell? ⟨0,4,none⟩=some (.bool true)∧w.cell? ⟨0,5,none⟩=some (.int .i64 1)) ∧
 (w.cell? ⟨0,6,none⟩=some (.int .i64 1)∧w.cell? ⟨0,7,none⟩=some (.bool true)∧w.cell? ⟨0,8,none⟩=some (.int .i64 (-1))) ∧
 (w.cell? ⟨0,9,none⟩=some (.int .i64 0)∧w.cell? ⟨0,10,none⟩=some (.bool false)∧w.cell? ⟨0,11,none⟩=some (.int .i64 0))
theorem cell_lt {w:World} {b o:Nat} {v:Value} (h:w.cell? ⟨b,o,none⟩=some v):b<w.heap.size:=by
 apply Classical.byContradiction; intro hn; have e:w.heap[b]? = none:=Array.getElem?_eq_none (by omega); simp [World.cell?,e] at h
theorem SP.below {w w':World} (h:SP w) (hb:Up w w'):SP w':=by
 have i:=cell_lt h.1.1; unfold SP at *; simp only [fun o=>hb.cell (p:=⟨0,o,none⟩) i]; exact h
theorem signNumber_any (n:Bool) (a:Option Addr) (l c:Nat) (w:World) :
 Calls Tryz.prog 114 #[.agg #[.bool n,.slice a l c]] w fun e w'=>e=.returned (.int .i64 (if n then 1 else 0))∧w'=w.alloc (.cells #[.bool n,.slice a l c] 55):=by
 cases n
 all_goals
  go_enter Tryz.func114,Tryz.ntmps114
  go_wp2
  go_ret
  exact ⟨rfl,rfl⟩
theorem signsOf_any (na nb:Bool) (a:Option Addr) (la ca:Nat) (b:Option Addr) (lb cb:Nat) (w:World) (h:SP w) :
 Calls Tryz.prog 99 #[.agg #[.bool na,.slice a la ca],.agg #[.bool nb,.slice b lb cb]] w fun e w'=>e=.returned (.agg #[.int .i64 (sgSum na nb),.bool (na != nb),.int .i64 (sgOrd na nb)])∧Up w w':=by
 have G:=cell_lt h.1.1; have t:0<w.heap.size:=by omega
 have u:0 - 1<w.heap.size:=by omega
 have A:0<w.heap.size+1:=by omega
 have D:0<w.heap.size+1+1:=by omega
 have E:0<w.heap.size+1+1+1:=by omega
 have F:0<w.heap.size+1+1+1+1:=by omega
 obtain ⟨i,s1,s2,s3⟩:=h
 cases na<;>cases nb
 case' _=>
  obtain ⟨j,m,s⟩:=i; clear s1 s2 s3
 rotate_left
 ·obtain ⟨j,m,s⟩:=s1; clear i s2 s3
  go_enter Tryz.func99,Tryz.ntmps99
  go_wp2
  go_region_with (go_at_call 114; refine (signNumber_any _ _ _ _ _).mono ?_; rintro e w' ⟨rfl,rfl⟩)
  all_goals
   go_wp2
   refine bodyPost_ret (v:=.agg #[.int .i64 (1),.bool true,.int .i64 (1)]) ?_ rfl ⟨rfl,?_⟩
   ·simp [results,Tryz.results99,go_sem]
   exact ((((((Below.refl _ w).alloc leR _).alloc (by simp) _).alloc (by simp; omega) _).alloc (by simp; omega) _).alloc (by simp; omega) _).drew
 ·obtain ⟨j,m,s⟩:=s2; clear i s1 s3
  go_enter Tryz.func99,Tryz.ntmps99
  go_wp2
  go_region_with (go_at_call 114; refine (signNumber_any _ _ _ _ _).mono ?_; rintro e w' ⟨rfl,rfl⟩)
  all_goals
   go_wp2
   refine bodyPost_ret (v:=.agg #[.int .i64 (1),.bool true,.int .i64 (-1)]) ?_ rfl ⟨rfl,?_⟩
   ·simp [results,Tryz.results99,go_sem]
   exact ((((((Below.refl _ w).alloc leR _).alloc (by simp) _).alloc (by simp; omega) _).alloc (by simp; omega) _).alloc (by simp; omega) _).drew
 case' _=>
  obtain ⟨j,m,s⟩:=s3; clear i s1 s2
 rotate_left
 all_goals
  go_enter Tryz.func99,Tryz.ntmps99
  go_wp2
  go_region_with (go_at_call 114; refine (signNumber_any _ _ _ _ _).mono ?_; rintro e w' ⟨rfl,rfl⟩)
  all_goals
   go_wp2
   refine bodyPost_ret (v:=.agg #[.int .i64 (0),.bool false,.int .i64 (0)]) ?_ rfl ⟨rfl,?_⟩
   ·simp [results,Tryz.results99,go_sem]
   exact ((((((Below.refl _ w).alloc leR _).alloc (by simp) _).alloc (by simp; omega) _).alloc (by simp; omega) _).alloc (by simp; omega) _).drew
open Go.ChangeShapes Go.WideShapes Go.ChangeAt Go.RowKit Go.Deep
theorem gSigns:Tryz.prog.globalNamed "loop.example/g00007/impl.signPairs" = some 0:=by kernel_rfl
theorem tSigns:(Tryz.prog.globals[0]?).map (·.type)=some 140:=by kernel_rfl
theorem cSigns:Tryz.prog.cellsOf 140=12:=by kernel_rfl
theorem cSigns1:Tryz.prog.cellsOf 139=6:=by kernel_rfl
theorem cSigns2:Tryz.prog.cellsOf 133=3:=by kernel_rfl
theorem cInt:Tryz.prog.cellsOf 3=1:=by kernel_rfl
theorem cBool:Tryz.prog.cellsOf 4=1:=by kernel_rfl
theorem pair_of_trod {H:Type} {enc:TypeId×Value→H} {w:World} {base:Nat} {spare:Nat→Bool} {held:Bool} {fuel:Nat} {cs:List Value} {a c:Int} {b:Bool} {x:DataW H×List MemPlace}
 (h:DataW.trod enc Tryz.prog w base spare held fuel 133 cs=some x) (hx:x.1=.agg [.lit (.int .i64 a),.lit (.bool b),.lit (.int .i64 c)]):cs=[.int .i64 a,.bool b,.int .i64 c]:=by
 obtain ⟨F,G,I,n,rfl,hl,s,t,u⟩:=trod_struct3 Tryz.underlying133 h; rw [cSigns2] at hl; obtain ⟨A,i,rfl,_⟩:=DataW.trod_int Tryz.underlying3 s; obtain ⟨D,j,rfl⟩:=DataW.trod_bool Tryz.underlying4 t; obtain ⟨E,m,rfl,_⟩:=DataW.trod_int Tryz.underlying3 u; rw [cInt] at i m; rw [cBool] at j; simp only [DataW.agg.injEq,List.cons.injEq,DataW.lit.injEq,Lit.int.injEq,Lit.bool.injEq,true_and,and_true] at hx; obtain ⟨rfl,rfl,rfl⟩:=hx
 match cs,hl with
 | [c0,c1,c2],_=>
   simp at i j m; rw [i,j,m]
theorem sp_of_laid {W:World} {L:List (String×DataW Unit)} (h:laidMet Tryz.prog (("loop.example/g00007/impl.signPairs",Rows.laid_loop_example_g00007_impl_signPairs)::L) W):SP W:=by
 obtain ⟨ps,⟨g0,t0,E,f0,S,q0,D,O,Q,J,_,_⟩,_⟩:=h; obtain rfl:=Option.some.inj (gSigns.symm.trans D); obtain rfl:=Option.some.inj (tSigns.symm.trans O); have i:=World.var?_cell D Q; obtain ⟨xs,m,_,V,hl,hn,A⟩:=DataW.trod_array Tryz.underlying140 J; rw [cSigns] at hl; obtain ⟨l⟩:=E; have T:=A 0 (by decide); have U:=A 1 (by decide); rw [cSigns1] at T U
 match xs,hn with
 | [x0,x1],_=>
   simp only [Rows.laid_loop_example_g00007_impl_signPairs,List.map_cons,List.map_nil,Prod.mk.injEq,DataW.agg.injEq,List.cons.injEq,and_true] at V; obtain ⟨⟨t,u⟩,_⟩:=V; obtain ⟨ys,m0,_,hy,_,K,j⟩:=DataW.trod_array Tryz.underlying139 (show DataW.trod _ Tryz.prog W 0 _ false m 139 _=some x0 from T); obtain ⟨zs,m1,_,hz,_,M,s⟩:=DataW.trod_array Tryz.underlying139 (show DataW.trod _ Tryz.prog W 0 _ false m 139 _=some x1 from U); have y0:=j 0 (by decide); have y1:=j 1 (by decide); have z0:=s 0 (by decide); have z1:=s 1 (by decide); rw [cSigns2] at y0 y1 z0 z1
   match ys,K,zs,M with
   | [a0,a1],_,[b0,b1],_=>
     rw [hy] at t; rw [hz] at u; simp only [List.map_cons,List.map_nil,DataW.agg.injEq,List.cons.injEq,and_true] at t u; obtain ⟨F,G⟩:=t; obtain ⟨H,I⟩:=u; have S:=pair_of_trod (show DataW.trod _ Tryz.prog W 0 _ false m0 133 _=some a0 from y0) F.symm; have Y:=pair_of_trod (show DataW.trod _ Tryz.prog W 0 _ false m0 133 _=some a1 from y1) G.symm; have Z:=pair_of_trod (show DataW.trod _ Tryz.prog W 0 _ false m1 133 _=some b0 from z0) H.symm; have p3:=pair_of_trod (show DataW.trod _ Tryz.prog W 0 _ false m1 133 _=some b1 from z1) I.symm
     match l,hl with
     | [c0,c1,c2,c3,c4,c5,c6,c7,c8,c9,c10,c11],_=>
       simp at S Y Z p3; obtain ⟨rfl,rfl,rfl⟩:=S; obtain ⟨rfl,rfl,rfl⟩:=Y; obtain ⟨rfl,rfl,rfl⟩:=Z; obtain ⟨rfl,rfl,rfl⟩:=p3; exact ⟨⟨i 0,i 1,i 2⟩,⟨i 3,i 4,i 5⟩,⟨i 6,i 7,i 8⟩,⟨i 9,i 10,i 11⟩⟩
end Go.Proofs.YtnhbmpnhijgpmaaGreatDoor
