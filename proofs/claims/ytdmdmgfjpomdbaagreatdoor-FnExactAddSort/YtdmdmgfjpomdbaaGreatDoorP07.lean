import Derived.LaidMore
import Derived.Deep.Strs
import Derived.Stop.Joined
import Derived.Test.YtdmdmgfjpomdbaaGreatDoorP04
set_option maxRecDepth 100000
set_option maxHeartbeats 2000000
namespace Go.Proofs.YtdmdmgfjpomdbaaGreatDoor.Q
open ChangeShapes WideShapes ChangeAt RowKit Proofs.Tryz
variable {w:World}
def ZU (na nb:Bool):Int:=if na=nb then 0 else 1
def ZV (na nb:Bool):Int:=if na=nb then 0 else if na then -1 else 1
def SP (w:World):Prop:=
 (w.cell? ⟨3,0,none⟩=some (.int .i64 0)/\w.cell? ⟨3,1,none⟩=some (.bool false)/\w.cell? ⟨3,2,none⟩=some (.int .i64 0)) /\
 (w.cell? ⟨3,3,none⟩=some (.int .i64 1)/\w.cell? ⟨3,4,none⟩=some (.bool true)/\w.cell? ⟨3,5,none⟩=some (.int .i64 1)) /\
 (w.cell? ⟨3,6,none⟩=some (.int .i64 1)/\w.cell? ⟨3,7,none⟩=some (.bool true)/\w.cell? ⟨3,8,none⟩=some (.int .i64 (-1))) /\
 (w.cell? ⟨3,9,none⟩=some (.int .i64 0)/\w.cell? ⟨3,10,none⟩=some (.bool false)/\w.cell? ⟨3,11,none⟩=some (.int .i64 0))
theorem Pb {b o:Nat}{v:Value}(h:w.cell? ⟨b,o,none⟩=some v):b<w.heap.size:=by
 apply Classical.byContradiction;intro hn;have e:w.heap[b]? = none:=Array.getElem?_eq_none (by omega);simp[World.cell?,e] at h
theorem SP.bl {w':World}(h:SP w)(hb:Up w w'):SP w':=by
 have d:=Pb h.1.1;unfold SP at *;simp only[fun o=>hb.cell (p:=⟨3,o,none⟩) d];exact h
theorem I7 (n:Bool)(a:Option Addr)(l c:Nat)(w:World) :
 Calls prog 226 #[.agg #[.bool n,.slice a l c]] w fun e w'=>e=.returned (.int .i64 (if n then 1 else 0))/\w'=w.alloc (.cells #[.bool n,.slice a l c] 155):=by
 cases n
 all_goals
  go_in
  go_wp2
  go_ret
  exact⟨rfl,rfl⟩
theorem Xq (na nb:Bool)(a:Option Addr)(la ca:Nat)(b:Option Addr)(lb cb:Nat)(w:World)(h:SP w) :
 Calls prog 200 #[.agg #[.bool na,.slice a la ca],.agg #[.bool nb,.slice b lb cb]] w fun e w'=>e=.returned (.agg #[.int .i64 (ZU na nb),.bool (na != nb),.int .i64 (ZV na nb)])/\Up w w':=by
 have Z:=Pb h.1.1;have K:0<w.heap.size:=by omega
 have M:3 - 1<w.heap.size:=by omega
 have O:3<w.heap.size+1:=by omega
 have U:3<w.heap.size+1+1:=by omega
 have V:3<w.heap.size+1+1+1:=by omega
 have Y:3<w.heap.size+1+1+1+1:=by omega
 obtain⟨d,j,A,E⟩:=h
 cases na<;>cases nb
 case' _=>
  obtain⟨G,I,J⟩:=d;clear j A E
 rotate_left
 ·obtain⟨G,I,J⟩:=j;clear d A E
  go_in
  go_wp2
  go_region_with (go_at_call 226;refine (I7 _ _ _ _ _).mono ?_;rintro e w' ⟨rfl,rfl⟩)
  all_goals
   go_wp2
   refine Jg (v:=.agg #[.int .i64 (1),.bool true,.int .i64 (1)]) ?_ rfl ⟨rfl,?_⟩
   ·simp[results,results200,go_sem]
   exact ((((((Je _ w).alloc leR _).alloc (by simp) _).alloc (by simp;omega) _).alloc (by simp;omega) _).alloc (by simp;omega) _).drew
 ·obtain⟨G,I,J⟩:=A;clear d j E
  go_in
  go_wp2
  go_region_with (go_at_call 226;refine (I7 _ _ _ _ _).mono ?_;rintro e w' ⟨rfl,rfl⟩)
  all_goals
   go_wp2
   refine Jg (v:=.agg #[.int .i64 (1),.bool true,.int .i64 (-1)]) ?_ rfl ⟨rfl,?_⟩
   ·simp[results,results200,go_sem]
   exact ((((((Je _ w).alloc leR _).alloc (by simp) _).alloc (by simp;omega) _).alloc (by simp;omega) _).alloc (by simp;omega) _).drew
 case' _=>
  obtain⟨G,I,J⟩:=E;clear d j A
 rotate_left
 all_goals
  go_in
  go_wp2
  go_region_with (go_at_call 226;refine (I7 _ _ _ _ _).mono ?_;rintro e w' ⟨rfl,rfl⟩)
  all_goals
   go_wp2
   refine Jg (v:=.agg #[.int .i64 (0),.bool false,.int .i64 (0)]) ?_ rfl ⟨rfl,?_⟩
   ·simp[results,results200,go_sem]
   exact ((((((Je _ w).alloc leR _).alloc (by simp) _).alloc (by simp;omega) _).alloc (by simp;omega) _).alloc (by simp;omega) _).drew
open ChangeShapes WideShapes ChangeAt RowKit Deep Proofs.Tryz
theorem MD:prog.globalNamed "loop.example/g00007/impl.signPairs" = some 3:=by kernel_rfl
theorem BZ:(prog.globals[3]?).map (·.type)=some 234:=by kernel_rfl
theorem MX:prog.cellsOf 234=12:=by kernel_rfl
theorem FV:prog.cellsOf 233=6:=by kernel_rfl
theorem NU:prog.cellsOf 209=3:=by kernel_rfl
theorem AD:prog.cellsOf 3=1:=by kernel_rfl
theorem BM:prog.cellsOf 4=1:=by kernel_rfl
theorem Ix {H:Type}{enc:TypeId×Value->H}{base:Nat}{spare:Nat->Bool}{held:Bool}{fuel:Nat}{cs:List Value}{a c:Int}{b:Bool}{x:DataW H×List MemPlace}
 (h:DataW.trod enc prog w base spare held fuel 209 cs=some x) (hx:x.1=.agg [.lit (.int .i64 a),.lit (.bool b),.lit (.int .i64 c)]):cs=[.int .i64 a,.bool b,.int .i64 c]:=by
 obtain⟨K,M,O,n,rfl,hl,A,E,h2⟩:=trod_struct3 underlying209 h;rw[NU] at hl;obtain⟨G,d,rfl,_⟩:=DataW.trod_int underlying3 A;obtain⟨I,j,rfl⟩:=DataW.trod_bool underlying4 E;obtain⟨J,e2,rfl,_⟩:=DataW.trod_int underlying3 h2;rw[AD] at d e2;rw[BM] at j;simp only[DataW.agg.injEq,List.cons.injEq,DataW.lit.injEq,Lit.int.injEq,Lit.bool.injEq,true_and,and_true] at hx;obtain⟨rfl,rfl,rfl⟩:=hx
 match cs,hl with
 | [c0,c1,c2],_=>
   simp at d j e2;rw[d,j,e2]
theorem sp_of_laid {W:World}{L:List (String×DataW Unit)}(h:laidMet prog (("loop.example/g00007/impl.signPairs",Rows.laid_loop_example_g00007_impl_signPairs)::L) W):SP W:=by
 obtain⟨ps,⟨g0,t0,K,f0,p0,q0,J,a8,b3,Y,_,_⟩,_⟩:=h;obtain rfl:=Option.some.inj (MD.symm.trans J);obtain rfl:=Option.some.inj (BZ.symm.trans a8);have d:=Uk J b3;obtain⟨xs,m,_,hx,hl,hn,I⟩:=DataW.trod_array underlying234 Y;rw[MX] at hl;obtain⟨l⟩:=K;have e0:=I 0 (by decide);have e1:=I 1 (by decide);rw[FV] at e0 e1
 match xs,hn with
 | [x0,x1],_=>
   simp only[Rows.laid_loop_example_g00007_impl_signPairs,Vh,Vt,Prod.mk.injEq,DataW.agg.injEq,List.cons.injEq,and_true] at hx;obtain⟨⟨E,G⟩,_⟩:=hx;obtain⟨ys,m0,_,hy,_,Z,j⟩:=DataW.trod_array underlying233 (show DataW.trod _ prog W 0 _ false m 233 _=some x0 from e0);obtain⟨zs,m1,_,hz,_,a7,A⟩:=DataW.trod_array underlying233 (show DataW.trod _ prog W 0 _ false m 233 _=some x1 from e1);have y0:=j 0 (by decide);have y1:=j 1 (by decide);have z0:=A 0 (by decide);have z1:=A 1 (by decide);rw[NU] at y0 y1 z0 z1
   match ys,Z,zs,a7 with
   | [a0,a1],_,[b0,b1],_=>
     rw[hy] at E;rw[hz] at G;simp only[Vh,Vt,DataW.agg.injEq,List.cons.injEq,and_true] at E G;obtain⟨M,O⟩:=E;obtain⟨U,V⟩:=G;have p0:=Ix (show DataW.trod _ prog W 0 _ false m0 209 _=some a0 from y0) M.symm;have p1:=Ix (show DataW.trod _ prog W 0 _ false m0 209 _=some a1 from y1) O.symm;have p2:=Ix (show DataW.trod _ prog W 0 _ false m1 209 _=some b0 from z0) U.symm;have p3:=Ix (show DataW.trod _ prog W 0 _ false m1 209 _=some b1 from z1) V.symm
     match l,hl with
     | [c0,c1,c2,c3,c4,c5,c6,c7,c8,c9,c10,c11],_=>
       simp at p0 p1 p2 p3;obtain⟨rfl,rfl,rfl⟩:=p0;obtain⟨rfl,rfl,rfl⟩:=p1;obtain⟨rfl,rfl,rfl⟩:=p2;obtain⟨rfl,rfl,rfl⟩:=p3;exact⟨⟨d 0,d 1,d 2⟩,⟨d 3,d 4,d 5⟩,⟨d 6,d 7,d 8⟩,⟨d 9,d 10,d 11⟩⟩
end Go.Proofs.YtdmdmgfjpomdbaaGreatDoor.Q
namespace Go.Proofs.YtdmdmgfjpomdbaaGreatDoor.Q
open ChangeShapes WideShapes ChangeAt RowKit
theorem St (L A:List Nat)(k j:Nat)(h:L.drop k=A.drop k)(hj:k<=j):L.getD j 0=A.getD j 0:=by
 have e:∀ M:List Nat,M.getD j 0=(M.drop k).getD (j - k) 0:=fun M=>by rw[Ji,Ji,Uz,Nat.add_sub_cancel' hj]
 rw[e L,e A,h]
theorem C1 (L:List Nat)(k j x:Nat)(h:k≠j):(L.set k x).getD j 0=L.getD j 0:=by
 rw[Ji,Ji,J9 h]
theorem Io (n:Nat):val (List.replicate n 0)=0:=by
 induction n with
 | zero=>rfl
 | succ n ih=>simp[List.replicate_succ,val,ih]
end Go.Proofs.YtdmdmgfjpomdbaaGreatDoor.Q
