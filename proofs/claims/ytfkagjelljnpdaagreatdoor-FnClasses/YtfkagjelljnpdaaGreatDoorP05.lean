import Derived.LaidMore
import Derived.Deep.Strs
import Derived.Stop.Joined
import Derived.Test.YtfkagjelljnpdaaGreatDoorP02
set_option maxRecDepth 100000
set_option maxHeartbeats 1000000
namespace Go.Proofs.YtfkagjelljnpdaaGreatDoor.Q
open ChangeShapes WideShapes ChangeAt RowKit Proofs.Tryz
variable {w:World}
def SP(w:World):Prop:=
 (w.cell? ⟨3,0,none⟩=some (.int .i64 0)/\w.cell? ⟨3,1,none⟩=some (.bool false)/\w.cell? ⟨3,2,none⟩=some (.int .i64 0)) /\
 (w.cell? ⟨3,3,none⟩=some (.int .i64 1)/\w.cell? ⟨3,4,none⟩=some (.bool true)/\w.cell? ⟨3,5,none⟩=some (.int .i64 1)) /\
 (w.cell? ⟨3,6,none⟩=some (.int .i64 1)/\w.cell? ⟨3,7,none⟩=some (.bool true)/\w.cell? ⟨3,8,none⟩=some (.int .i64 (-1))) /\
 (w.cell? ⟨3,9,none⟩=some (.int .i64 0)/\w.cell? ⟨3,10,none⟩=some (.bool false)/\w.cell? ⟨3,11,none⟩=some (.int .i64 0))
theorem UV{b o:Nat}{v:Value}(h:w.cell? ⟨b,o,none⟩=some v):b<w.heap.size:=by
 apply Classical.byContradiction;intro hn;have e:w.heap[b]? = none:=Array.getElem?_eq_none (by omega);simp[World.cell?,e]at h
theorem SP.bl{w':World}(h:SP w)(hb:Up w w'):SP w':=by
 have j:=UV h.1.1;unfold SP at *;simp only[fun o=>hb.cell (p:=⟨3,o,none⟩) j];exact h
open ChangeShapes WideShapes ChangeAt RowKit Deep Proofs.Tryz
theorem FQ:prog.globalNamed "loop.example/g00007/impl.signPairs" = some 3:=by kernel_rfl
theorem FW:(prog.globals[3]?).map (·.type)=some 270:=by kernel_rfl
theorem FG:prog.cellsOf 270=12:=by kernel_rfl
theorem PT:prog.cellsOf 269=6:=by kernel_rfl
theorem UZ:prog.cellsOf 246=3:=by kernel_rfl
theorem MW:prog.cellsOf 3=1:=by kernel_rfl
theorem LS:prog.cellsOf 4=1:=by kernel_rfl
theorem Ho{H:Type}{enc:TypeId×Value->H}{base:Nat}{spare:Nat->Bool}{held:Bool}{fuel:Nat}{cs:List Value}{a c:Int}{b:Bool}{x:DataW H×List MemPlace}
 (h:DataW.trod enc prog w base spare held fuel 246 cs=some x) (hx:x.1=.agg [.lit (.int .i64 a),.lit (.bool b),.lit (.int .i64 c)]):cs=[.int .i64 a,.bool b,.int .i64 c]:=by
 obtain⟨Y,Z,y2,n,rfl,hl,G,J,K⟩:=trod_struct3 underlying246 h;rw[UZ]at hl;obtain⟨O,j,rfl,_⟩:=DataW.trod_int underlying3 G;obtain⟨R,q,rfl⟩:=DataW.trod_bool underlying4 J;obtain⟨V,E,rfl,_⟩:=DataW.trod_int underlying3 K;rw[MW]at j E;rw[LS]at q;simp only[DataW.agg.injEq,List.cons.injEq,DataW.lit.injEq,Lit.int.injEq,Lit.bool.injEq,true_and,and_true]at hx;obtain⟨rfl,rfl,rfl⟩:=hx
 match cs,hl with
 | [c0,c1,c2],_=>
   simp at j q E;rw[j,q,E]
theorem VK {W:World}{L:List (String×DataW Unit)}(h:laidMet prog (("loop.example/g00007/impl.signPairs",Rows.laid_loop_example_g00007_impl_signPairs)::L) W):SP W:=by
 obtain⟨ps,⟨g0,t0,R,f0,p0,q0,O,b4,b5,a8,_,_⟩,_⟩:=h;obtain rfl:=Option.some.inj (FQ.symm.trans O);obtain rfl:=Option.some.inj (FW.symm.trans b4);have j:=Vp O b5;obtain⟨xs,m,_,hx,hl,hn,K⟩:=DataW.trod_array underlying270 a8;rw[FG]at hl;obtain⟨l⟩:=R;have e0:=K 0 (by decide);have e1:=K 1 (by decide);rw[PT]at e0 e1
 match xs,hn with
 | [x0,x1],_=>
   simp only[Rows.laid_loop_example_g00007_impl_signPairs,Za,Zq,Prod.mk.injEq,DataW.agg.injEq,List.cons.injEq,and_true]at hx;obtain⟨⟨G,J⟩,_⟩:=hx;obtain⟨ys,m0,_,hy,_,b2,q⟩:=DataW.trod_array underlying269 (show DataW.trod _ prog W 0 _ false m 269 _=some x0 from e0);obtain⟨zs,m1,_,hz,_,b3,E⟩:=DataW.trod_array underlying269 (show DataW.trod _ prog W 0 _ false m 269 _=some x1 from e1);have y0:=q 0 (by decide);have y1:=q 1 (by decide);have z0:=E 0 (by decide);have z1:=E 1 (by decide);rw[UZ]at y0 y1 z0 z1
   match ys,b2,zs,b3 with
   | [a0,a1],_,[b0,b1],_=>
     rw[hy]at G;rw[hz]at J;simp only[Za,Zq,DataW.agg.injEq,List.cons.injEq,and_true]at G J;obtain⟨V,Y⟩:=G;obtain⟨Z,a7⟩:=J;have p0:=Ho (show DataW.trod _ prog W 0 _ false m0 246 _=some a0 from y0) V.symm;have p1:=Ho (show DataW.trod _ prog W 0 _ false m0 246 _=some a1 from y1) Y.symm;have p2:=Ho (show DataW.trod _ prog W 0 _ false m1 246 _=some b0 from z0) Z.symm;have p3:=Ho (show DataW.trod _ prog W 0 _ false m1 246 _=some b1 from z1) a7.symm
     match l,hl with
     | [c0,c1,c2,c3,c4,c5,c6,c7,c8,c9,c10,c11],_=>
       simp at p0 p1 p2 p3;obtain⟨rfl,rfl,rfl⟩:=p0;obtain⟨rfl,rfl,rfl⟩:=p1;obtain⟨rfl,rfl,rfl⟩:=p2;obtain⟨rfl,rfl,rfl⟩:=p3;exact⟨⟨j 0,j 1,j 2⟩,⟨j 3,j 4,j 5⟩,⟨j 6,j 7,j 8⟩,⟨j 9,j 10,j 11⟩⟩
end Go.Proofs.YtfkagjelljnpdaaGreatDoor.Q
namespace Go.Proofs.YtfkagjelljnpdaaGreatDoor.Q
open ChangeShapes WideShapes ChangeAt RowKit
end Go.Proofs.YtfkagjelljnpdaaGreatDoor.Q
namespace Go.Proofs.YtfkagjelljnpdaaGreatDoor.Q
open ChangeShapes WideShapes ChangeAt RowKit Proofs.Tryz
theorem CL(n k:Nat)(h0:n / 1000000000 ^ k=0)(h1:k=0∨n / 1000000000 ^ (k - 1)≠0):Kl (wl n k):=by
 intro j
 cases k with
 | zero=>exact absurd rfl j
 | succ k=>
   have q:n / 1000000000 ^ k≠0:=by
    rcases h1 with h|h
    ·omega
    rwa [Nat.add_sub_cancel]at h
   have e:(wl n (k+1)).getLast j=n / 1000000000 ^ k % 1000000000:=by simp[Ap]
   rw[e];rw[Vt,<-Z1]at h0;omega
theorem Lx(n:Nat)(w:World)(hn:n<18446744073709551616) :
 Calls prog 215 #[.int .u64 (n:Nat)] w fun e w'=>∃v k,e=.returned v/\k<=3/\Gc w.heap.size w' v (wl n k)/\val (wl n k)=n/\(n / 1000000000 ^ k=0/\(k=0∨n / 1000000000 ^ (k - 1)≠0))/\Up w w':=by
 obtain⟨i0,O,a7,a8,b0⟩:=info_parts info_u32;have HN:=Hd hn;clear hn
 go_in
 go_wp2
 go_loopw [0,3] (fun q v wr=>∃k:Nat,(k<=3/\(k=0∨n / 1000000000 ^ (k - 1)≠0))/\q=.int .u64 (n / 1000000000 ^ k:Nat) /\
  wr.ownsRow w.heap.size 152 1 v k ((wl n k).map (fun x=>Value.int .u32 (x:Nat)))/\Up w wr) (fun q _ _=>(intOf q).toNat)
 case atStart=>exact⟨0,⟨by omega,.inl rfl⟩,V0 (by simp),World.ownsRow_nil _ _ _ _,Ji _ _⟩
 obtain⟨k,⟨hk,R⟩,rfl,h,J⟩:=hrel;have V:=Hd R;clear R;obtain⟨q,hq⟩:=O2 (n / 1000000000 ^ k);have G:=Hd hq;rw[hq];clear hq
 by_cases K:q=0
 ·have HV:Hid (val (wl n k)=n):=by
   unfold Hid
   have:=LU n k;rw[G.o,K]at this
   simpa using this
  have hL:Gc w.heap.size wr u3 (wl n k):=Hc (e:=152) (by rw[Pn];exact h) (MD n k);have HL:=Hd hL;have HB:=Hd J;have Z:Hid (n / 1000000000 ^ k=0):=G.o.trans K;clear hL h J;subst K
  go_wp2
  go_ret
  exact⟨_,k,rfl,hk,HL.o,HV.o,⟨Z.o,V.o⟩,HB.o⟩
 have d2:k<3:=by
  apply Classical.byContradiction;intro hc;obtain rfl:k=3:=by omega
  have:=G.o;have h3:(1000000000:Nat) ^ 3=1000000000000000000000000000:=by decide
  rw[h3]at this;have:=HN.o;omega
 obtain⟨x,hx⟩:∃x:Int,(q:Int)=x:=⟨_,rfl⟩;have HX:=Hd hx;rw[hx];have x0:0<x:=by omega
 have x1:x<18446744073709551616:=by
  have h1:=Nat.div_le_self n (1000000000 ^ k);rw[G.o]at h1;have:=HN.o;omega
 have HM:Hid (x % 1000000000=(n / 1000000000 ^ k % 1000000000:Nat)):=by unfold Hid;rw[G.o,<-HX.o];rfl
 have HD:Hid (x / 1000000000=(n / 1000000000 ^ (k+1):Nat)):=by
  unfold Hid
  rw[Vt,<-Z1,G.o,<-HX.o];rfl
 have Y:Hid (n / 1000000000 ^ k≠0):=by unfold Hid;rw[G.o];exact K
 clear hx K
 go_wp2_with (at_builtin;refine wpList_append_own _ rfl _ _ 129 rfl w.heap.size 152 i0 (.int .u32 0) 1 4 underlying129 O a7 a8 b0 rfl (by decide) _ _ _ rfl (h.alloc _) ⟨wr.heap.size,0,none⟩ 1 1 [_] rfl rfl (cell_one_new _ _ _) ?c2 ?c3 ?c4 ?c5 ?_)
 case c2=>first|rfl|(intro u hu;simp at hu;subst hu;rfl)
 case c3=>unfold maxLen;omega
 case c4=>omega
 case c5=>have:=J.size;simp;omega
 intro v' w1 E j _;have a1:Up w w1:=(J.alloc J.size _).grown j (by have:=J.size;simp;omega) (fun q hq=>(h.lt q hq).1);have HO:Hid (w1.ownsRow w.heap.size 152 1 v' (k+1) ((wl n (k+1)).map (fun x=>Value.int .u32 (x:Nat)))):=by
  unfold Hid
  rw[Ap,Yk,Za,Zq,<-HM.o];exact E
 clear j h J E
 go_wp2
 go_roundw
 case rel=>exact⟨k+1,⟨by omega,.inr (by rw[Nat.add_sub_cancel];exact Y.o)⟩,V0 HD.o,HO.o,a1⟩
 simp[intOf];omega
theorem B4(n:Nat)(w:World)(hn:n<18446744073709551616) :
 Calls prog 215 #[.int .u64 (n:Nat)] w fun e w'=>∃v t,e=.returned v/\Gc w.heap.size w' v t/\Kl t/\val t=n/\t.length<=3/\Up w w':=by
 refine(Lx n w hn).mono ?_;rintro e w' ⟨v,k,rfl,E,q,G,⟨h,j⟩,hb⟩;exact⟨v,_,rfl,q,CL n k h j,G,by rw[Pn];exact E,hb⟩
end Go.Proofs.YtfkagjelljnpdaaGreatDoor.Q
