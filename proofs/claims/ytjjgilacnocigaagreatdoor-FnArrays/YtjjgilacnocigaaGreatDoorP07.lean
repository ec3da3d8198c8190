import Derived.LaidMore
import Derived.Deep.Strs
import Derived.Stop.Joined
import Derived.Test.YtjjgilacnocigaaGreatDoorP06
set_option maxRecDepth 100000
set_option maxHeartbeats 2000000
namespace Go.Proofs.YtjjgilacnocigaaGreatDoor.Q
open ChangeShapes WideShapes ChangeAt RowKit Proofs.Tryz
variable {w:World}
def VC (na nb:Bool):Int:=if na=nb then 0 else 1
def VD (na nb:Bool):Int:=if na=nb then 0 else if na then -1 else 1
def SP (w:World):Prop:=
 (w.cell? ⟨0,0,none⟩=some (.int .i64 0)/\w.cell? ⟨0,1,none⟩=some (.bool false)/\w.cell? ⟨0,2,none⟩=some (.int .i64 0)) /\
 (w.cell? ⟨0,3,none⟩=some (.int .i64 1)/\w.cell? ⟨0,4,none⟩=some (.bool true)/\w.cell? ⟨0,5,none⟩=some (.int .i64 1)) /\
 (w.cell? ⟨0,6,none⟩=some (.int .i64 1)/\w.cell? ⟨0,7,none⟩=some (.bool true)/\w.cell? ⟨0,8,none⟩=some (.int .i64 (-1))) /\
 (w.cell? ⟨0,9,none⟩=some (.int .i64 0)/\w.cell? ⟨0,10,none⟩=some (.bool false)/\w.cell? ⟨0,11,none⟩=some (.int .i64 0))
theorem Da {b o:Nat}{v:Value}(h:w.cell? ⟨b,o,none⟩=some v):b<w.heap.size:=by
 apply Classical.byContradiction;intro hn;have e:w.heap[b]? = none:=Array.getElem?_eq_none (by omega);simp[World.cell?,e] at h
theorem SP.bl {w':World}(h:SP w)(hb:Up w w'):SP w':=by
 have d:=Da h.1.1;unfold SP at *;simp only[fun o=>hb.cell (p:=⟨0,o,none⟩) d];exact h
theorem Xy (n:Bool)(a:Option Addr)(l c:Nat)(w:World) :
 Calls prog 181 #[.agg #[.bool n,.slice a l c]] w fun e w'=>e=.returned (.int .i64 (if n then 1 else 0))/\w'=w.alloc (.cells #[.bool n,.slice a l c] 85):=by
 cases n
 all_goals
  go_in
  go_wp2
  go_ret
  exact⟨rfl,rfl⟩
theorem Iz (na nb:Bool)(a:Option Addr)(la ca:Nat)(b:Option Addr)(lb cb:Nat)(w:World)(h:SP w) :
 Calls prog 139 #[.agg #[.bool na,.slice a la ca],.agg #[.bool nb,.slice b lb cb]] w fun e w'=>e=.returned (.agg #[.int .i64 (VC na nb),.bool (na != nb),.int .i64 (VD na nb)])/\Up w w':=by
 have V:=Da h.1.1;have I:0<w.heap.size:=by omega
 have J:0 - 1<w.heap.size:=by omega
 have K:0<w.heap.size+1:=by omega
 have O:0<w.heap.size+1+1:=by omega
 have T:0<w.heap.size+1+1+1:=by omega
 have U:0<w.heap.size+1+1+1+1:=by omega
 obtain⟨d,j,D,E⟩:=h
 cases na<;>cases nb
 case' _=>
  obtain⟨F,G,H⟩:=d;clear j D E
 rotate_left
 ·obtain⟨F,G,H⟩:=j;clear d D E
  go_in
  go_wp2
  go_region_with (go_at_call 181;refine (Xy _ _ _ _ _).mono ?_;rintro e w' ⟨rfl,rfl⟩)
  all_goals
   go_wp2
   refine Jh (v:=.agg #[.int .i64 (1),.bool true,.int .i64 (1)]) ?_ rfl ⟨rfl,?_⟩
   ·simp[results,results139,go_sem]
   exact ((((((Jj _ w).alloc O1 _).alloc (by simp) _).alloc (by simp;omega) _).alloc (by simp;omega) _).alloc (by simp;omega) _).drew
 ·obtain⟨F,G,H⟩:=D;clear d j E
  go_in
  go_wp2
  go_region_with (go_at_call 181;refine (Xy _ _ _ _ _).mono ?_;rintro e w' ⟨rfl,rfl⟩)
  all_goals
   go_wp2
   refine Jh (v:=.agg #[.int .i64 (1),.bool true,.int .i64 (-1)]) ?_ rfl ⟨rfl,?_⟩
   ·simp[results,results139,go_sem]
   exact ((((((Jj _ w).alloc O1 _).alloc (by simp) _).alloc (by simp;omega) _).alloc (by simp;omega) _).alloc (by simp;omega) _).drew
 case' _=>
  obtain⟨F,G,H⟩:=E;clear d j D
 rotate_left
 all_goals
  go_in
  go_wp2
  go_region_with (go_at_call 181;refine (Xy _ _ _ _ _).mono ?_;rintro e w' ⟨rfl,rfl⟩)
  all_goals
   go_wp2
   refine Jh (v:=.agg #[.int .i64 (0),.bool false,.int .i64 (0)]) ?_ rfl ⟨rfl,?_⟩
   ·simp[results,results139,go_sem]
   exact ((((((Jj _ w).alloc O1 _).alloc (by simp) _).alloc (by simp;omega) _).alloc (by simp;omega) _).alloc (by simp;omega) _).drew
open ChangeShapes WideShapes ChangeAt RowKit Deep Proofs.Tryz
theorem TH:prog.globalNamed "loop.example/g00007/impl.signPairs" = some 0:=by kernel_rfl
theorem TB:(prog.globals[0]?).map (·.type)=some 202:=by kernel_rfl
theorem TK:prog.cellsOf 202=12:=by kernel_rfl
theorem MN:prog.cellsOf 201=6:=by kernel_rfl
theorem NW:prog.cellsOf 179=3:=by kernel_rfl
theorem JB:prog.cellsOf 3=1:=by kernel_rfl
theorem WQ:prog.cellsOf 4=1:=by kernel_rfl
theorem Ia {H:Type}{enc:TypeId×Value->H}{base:Nat}{spare:Nat->Bool}{held:Bool}{fuel:Nat}{cs:List Value}{a c:Int}{b:Bool}{x:DataW H×List MemPlace}
 (h:DataW.trod enc prog w base spare held fuel 179 cs=some x) (hx:x.1=.agg [.lit (.int .i64 a),.lit (.bool b),.lit (.int .i64 c)]):cs=[.int .i64 a,.bool b,.int .i64 c]:=by
 obtain⟨O,T,U,n,rfl,hl,E,F,G⟩:=trod_struct3 underlying179 h;rw[NW] at hl;obtain⟨I,d,rfl,_⟩:=DataW.trod_int underlying3 E;obtain⟨J,j,rfl⟩:=DataW.trod_bool underlying4 F;obtain⟨K,D,rfl,_⟩:=DataW.trod_int underlying3 G;rw[JB] at d D;rw[WQ] at j;simp only[DataW.agg.injEq,List.cons.injEq,DataW.lit.injEq,Lit.int.injEq,Lit.bool.injEq,true_and,and_true] at hx;obtain⟨rfl,rfl,rfl⟩:=hx
 match cs,hl with
 | [c0,c1,c2],_=>
   simp at d j D;rw[d,j,D]
theorem NK {W:World}{L:List (String×DataW Unit)}(h:laidMet prog (("loop.example/g00007/impl.signPairs",Rows.laid_loop_example_g00007_impl_signPairs)::L) W):SP W:=by
 obtain⟨ps,⟨g0,t0,I,f0,p0,q0,H,Z,a6,U,_,_⟩,_⟩:=h;obtain rfl:=Option.some.inj (TH.symm.trans H);obtain rfl:=Option.some.inj (TB.symm.trans Z);have d:=Oh H a6;obtain⟨xs,m,_,hx,hl,hn,G⟩:=DataW.trod_array underlying202 U;rw[TK] at hl;obtain⟨l⟩:=I;have e0:=G 0 (by decide);have e1:=G 1 (by decide);rw[MN] at e0 e1
 match xs,hn with
 | [x0,x1],_=>
   simp only[Rows.laid_loop_example_g00007_impl_signPairs,Vc,Vs,Prod.mk.injEq,DataW.agg.injEq,List.cons.injEq,and_true] at hx;obtain⟨⟨E,F⟩,_⟩:=hx;obtain⟨ys,m0,_,hy,_,V,j⟩:=DataW.trod_array underlying201 (show DataW.trod _ prog W 0 _ false m 201 _=some x0 from e0);obtain⟨zs,m1,_,hz,_,Y,D⟩:=DataW.trod_array underlying201 (show DataW.trod _ prog W 0 _ false m 201 _=some x1 from e1);have y0:=j 0 (by decide);have y1:=j 1 (by decide);have z0:=D 0 (by decide);have z1:=D 1 (by decide);rw[NW] at y0 y1 z0 z1
   match ys,V,zs,Y with
   | [a0,a1],_,[b0,b1],_=>
     rw[hy] at E;rw[hz] at F;simp only[Vc,Vs,DataW.agg.injEq,List.cons.injEq,and_true] at E F;obtain⟨J,K⟩:=E;obtain⟨O,T⟩:=F;have p0:=Ia (show DataW.trod _ prog W 0 _ false m0 179 _=some a0 from y0) J.symm;have p1:=Ia (show DataW.trod _ prog W 0 _ false m0 179 _=some a1 from y1) K.symm;have p2:=Ia (show DataW.trod _ prog W 0 _ false m1 179 _=some b0 from z0) O.symm;have p3:=Ia (show DataW.trod _ prog W 0 _ false m1 179 _=some b1 from z1) T.symm
     match l,hl with
     | [c0,c1,c2,c3,c4,c5,c6,c7,c8,c9,c10,c11],_=>
       simp at p0 p1 p2 p3;obtain⟨rfl,rfl,rfl⟩:=p0;obtain⟨rfl,rfl,rfl⟩:=p1;obtain⟨rfl,rfl,rfl⟩:=p2;obtain⟨rfl,rfl,rfl⟩:=p3;exact⟨⟨d 0,d 1,d 2⟩,⟨d 3,d 4,d 5⟩,⟨d 6,d 7,d 8⟩,⟨d 9,d 10,d 11⟩⟩
theorem IJ (x z:Int)(y:Bool)(w:World):(Instr.field 179 (.agg #[.int .i64 x,.bool y,.int .i64 z]) 2).run prog w=.ok (.int .i64 z) w:=by kernel_rfl
theorem Fw (B:Nat)(na nb:Bool)(va vb:Value)(a b:List Nat)(w:World)(ha:Kn B w va a)(hb:Kn B w vb b)(h:SP w) :
 Calls prog 95 #[.agg #[.bool na,va],.agg #[.bool nb,vb]] w fun e w'=>e=.returned (.int .i64 (OQ na nb a b))/\Up w w':=by
 obtain⟨T,J,rfl,_⟩:=id ha;obtain⟨U,K,rfl,_⟩:=id hb;obtain⟨F,d⟩:=O2 ((w.alloc (.cells #[.bool na,.slice T a.length J] 85)).alloc (.cells #[.bool nb,.slice U b.length K] 85));have a6:=Hd d;have j:Up w F:=by rw[<-d];exact ((Jj _ w).alloc O1 _).alloc (by simp) _
 have b6:F.heap.size=w.heap.size+2:=by rw[<-d];simp
 have HA:Hid (Kn B F (.slice T a.length J) a):=ha.bl j;have HB:Hid (Kn B F (.slice U b.length K) b):=hb.bl j;have HS:Hid (SP F):=h.bl j;have Y:=Hd j;have HX:Hid (∀ W,Up F W->W.cell? ⟨w.heap.size,0,none⟩=some (.bool na)/\W.cell? ⟨w.heap.size,1,none⟩=some (.slice T a.length J)/\W.cell? ⟨w.heap.size+1,1,none⟩=some (.slice U b.length K)):=fun W hW=>by
  refine⟨?_,?_,?_⟩
  ·rw[hW.cell (p:=⟨w.heap.size,0,none⟩) (by show w.heap.size<_;omega),<-d,Jk _ _ _ (by simp),Jg _ _ _ _ rfl];rfl
  ·rw[hW.cell (p:=⟨w.heap.size,1,none⟩) (by show w.heap.size<_;omega),<-d,Jk _ _ _ (by simp),Jg _ _ _ _ rfl];rfl
  rw[hW.cell (p:=⟨w.heap.size+1,1,none⟩) (by show w.heap.size+1<_;omega),<-d,Jg _ _ _ _ (by simp)];rfl
 clear ha hb h j d;have b5:=IJ
 go_in
 go_wp2_with fail
 rw[a6.o];refine (Iz na nb T a.length J U b.length K F HS.o).mono ?_;rintro e V ⟨rfl,D⟩;obtain⟨x0,x1,x2⟩:=HX.o V D;have H:Hid (Kn B V (.slice T a.length J) a):=HA.o.bl D;have I:Hid (Kn B V (.slice U b.length K) b):=HB.o.bl D;have E:Hid (Up w V):=Y.o.trans (D.mono (by omega));clear D HA HB HS HX
 cases na<;>cases nb
 case' _=>
  have G:Hid (OQ false false a b=En a b):=rfl;simp only[VD,VC,if_true]
  go_wp2_with fail
  refine (E9 B _ _ a b _ H.o I.o).mono ?_
 rotate_left
 ·have G:Hid (OQ false true a b=1):=rfl;simp only[VD,VC]
  go_wp2
  go_ret
  exact⟨Kw G.o.symm,E.o⟩
 ·have G:Hid (OQ true false a b = -1):=rfl;simp only[VD,VC]
  go_wp2
  go_ret
  exact⟨Kw G.o.symm,E.o⟩
 case' _=>
  have G:Hid (OQ true true a b=En b a):=rfl;simp only[VD,VC,if_true]
  go_wp2_with fail
  refine (E9 B _ _ b a _ I.o H.o).mono ?_
 rotate_left
 all_goals
  rintro e w2 ⟨rfl,O⟩;have Z:=E.up O;clear O
  go_wp2
  go_ret
  exact⟨Kw G.o.symm,Z.o⟩
end Go.Proofs.YtjjgilacnocigaaGreatDoor.Q
namespace Go.Proofs.YtjjgilacnocigaaGreatDoor.Q
open ChangeShapes WideShapes ChangeAt RowKit
def N8 (B:Nat)(w:World)(z:Value)(x:Int)(n:Nat):Prop:=∃ neg v t,z=.agg #[.bool (Ko neg t),v]/\Kn B w v t/\Oq t/\sg neg (val t)=x/\t.length<=n
structure BoxI (g:Nat)(W:World)(x:Bool)(pa:Option Addr)(la ca:Nat)(y:Bool)(pb:Option Addr)(lb cb:Nat):Prop where
 a0:W.cell? ⟨g,0,none⟩=some (.bool x)
 a1:W.cell? ⟨g,1,none⟩=some (.slice pa la ca)
 b0:W.cell? ⟨g+1,0,none⟩=some (.bool y)
 b1:W.cell? ⟨g+1,1,none⟩=some (.slice pb lb cb)
 r0:W.cell? ⟨g+2,0,none⟩=some (.bool false)
 r1:W.cell? ⟨g+2,1,none⟩=some (.slice none 0 0)
 f:∀ k,k<3->∀ i,W.frozen? ⟨g+k,i,none⟩=false
theorem BoxI.bl {g:Nat}{W W':World}{x:Bool}{pa:Option Addr}{la ca:Nat}{y:Bool}{pb:Option Addr}{lb cb:Nat}(h:BoxI g W x pa la ca y pb lb cb){N:Nat}(hN:g+3<=N)(hb:Below N W W'):BoxI g W' x pa la ca y pb lb cb:=by
 have q:∀ k,k<3->∀ i,W'.cell? ⟨g+k,i,none⟩=W.cell? ⟨g+k,i,none⟩:=fun k hk i=>hb.cell (p:=⟨g+k,i,none⟩) (by show g+k<N;omega);have f:∀ k,k<3->∀ i,W'.frozen? ⟨g+k,i,none⟩=W.frozen? ⟨g+k,i,none⟩:=fun k hk i=>hb.frozen (p:=⟨g+k,i,none⟩) (by show g+k<N;omega);exact⟨(q 0 (by omega) 0).trans h.a0,(q 0 (by omega) 1).trans h.a1,(q 1 (by omega) 0).trans h.b0,(q 1 (by omega) 1).trans h.b1,(q 2 (by omega) 0).trans h.r0,(q 2 (by omega) 1).trans h.r1,fun k hk i=>(f k hk i).trans (h.f k hk i)⟩
theorem UL (w:World)(x:Bool)(pa:Option Addr)(la ca:Nat)(y:Bool)(pb:Option Addr)(lb cb:Nat)(ty:TypeId) :
 BoxI w.heap.size (((w.alloc (.cells #[.bool x,.slice pa la ca] ty)).alloc (.cells #[.bool y,.slice pb lb cb] ty)).alloc (.cells #[.bool false,.slice none 0 0] ty)) x pa la ca y pb lb cb:=by
 refine⟨?_,?_,?_,?_,?_,?_,?_⟩
 ·rw[Jk _ _ _ (by simp;omega),Jk _ _ _ (by simp),Jg _ _ _ _ rfl];rfl
 ·rw[Jk _ _ _ (by simp;omega),Jk _ _ _ (by simp),Jg _ _ _ _ rfl];rfl
 ·rw[Jk _ _ _ (by simp),Jg _ _ _ _ (by simp)];rfl
 ·rw[Jk _ _ _ (by simp),Jg _ _ _ _ (by simp)];rfl
 ·rw[Jg _ _ _ _ (by simp)];rfl
 ·rw[Jg _ _ _ _ (by simp)];rfl
 intro k d i
 match k,d with
 | 0,_=>rw[Ys _ _ _ (by simp;omega),Ys _ _ _ (by simp),Jv _ _ _ _ (by simp)]
 | 1,_=>rw[Ys _ _ _ (by simp),Jv _ _ _ _ (by simp)]
 | 2,_=>rw[Jv _ _ _ _ (by simp)]
theorem NJ (a b:List Nat)(ha:Kx a)(hb:Kx b)(ta:Oq a)(tb:Oq b)(hcm:0<=En a b):b.length<=a.length/\val b<=val a:=by
 have h:=Gu a b ha hb ta tb;have d:=hcm;rw[h] at d;refine⟨?_,?_⟩
 ·unfold En at hcm
  by_cases h3:a.length<b.length
  ·simp[h3] at hcm<;>omega
  by_cases h4:b.length<a.length
  ·simp[h3,h4] at hcm<;>omega
  omega
 unfold S3 at d
 split at d<;>(try split at d)<;>omega
end Go.Proofs.YtjjgilacnocigaaGreatDoor.Q
namespace Go.Proofs.YtjjgilacnocigaaGreatDoor.Q
open ChangeShapes WideShapes ChangeAt RowKit Proofs.Tryz
theorem N8.bl {B:Nat}{w w':World}{z:Value}{x:Int}{n:Nat}(h:N8 B w z x n)(hb:Up w w'):N8 B w' z x n:=by
 obtain⟨neg,v,t,d,j,h3⟩:=h;exact⟨neg,v,t,d,j.bl hb,h3⟩
theorem N8.mono {B B':Nat}{w:World}{z:Value}{x:Int}{n n':Nat}(h:N8 B w z x n)(hb:B'<=B)(hn:n<=n'):N8 B' w z x n':=by
 obtain⟨neg,v,t,d,j,h3,h4,h5⟩:=h;exact⟨neg,v,t,d,j.mono hb,h3,h4,by omega⟩
theorem ZL (B:Nat)(z:Value)(x:Int)(n:Nat)(w:World)(h:N8 B w z x n) :
 Calls prog 132 #[z] w fun e w'=>∃ z',e=.returned z'/\N8 B w' z' (-x) n/\Up w w':=by
 obtain⟨neg,v,t,rfl,K,U,V,hl⟩:=h;obtain⟨p,c,rfl,_⟩:=id K;obtain⟨s,J⟩:=O2 (Ko neg t);have HX:Hid (sg (!s) (val t) = -x):=by
  unfold Hid
  rw[<-J,NY,Nr,V]
 have O:Hid (∀ W,Up w W->Kn B W (.slice p t.length c) t):=fun W hW=>K.bl hW;have HT:Hid (Oq t/\t.length<=n):=⟨U,hl⟩;obtain⟨j,d⟩:=O2 ((w.alloc (.cells #[.bool s,.slice p t.length c] 85)).alloc (.cells #[.bool false,.slice none 0 0] 85));have I:=Em d;have E:Hid (Up w j):=by rw[<-d];exact Ou (Oo _ _) _
 have H:j.heap.size=w.heap.size+2:=by rw[<-d];simp
 have Z:Hid (∀ W,Up j W->(W.cell? ⟨w.heap.size+1,0,none⟩=some (.bool false)/\W.cell? ⟨w.heap.size+1,1,none⟩=some (.slice none 0 0)/\W.frozen? ⟨w.heap.size+1,0,none⟩=false/\W.frozen? ⟨w.heap.size+1,1,none⟩=false)/\W.cell? ⟨w.heap.size,0,none⟩=some (.bool s)/\W.cell? ⟨w.heap.size,1,none⟩=some (.slice p t.length c)):=fun W hW=>by
  have q:∀ k,k<2->∀ i,W.cell? ⟨w.heap.size+k,i,none⟩=j.cell? ⟨w.heap.size+k,i,none⟩:=fun k hk i=>hW.cell (p:=⟨w.heap.size+k,i,none⟩) (by show w.heap.size+k<j.heap.size;omega);have f:∀ i,W.frozen? ⟨w.heap.size+1,i,none⟩=j.frozen? ⟨w.heap.size+1,i,none⟩:=fun i=>hW.frozen (p:=⟨w.heap.size+1,i,none⟩) (by show w.heap.size+1<j.heap.size;omega);refine⟨⟨?_,?_,?_,?_⟩,?_,?_⟩
  ·rw[q 1 (by omega),<-d,Jg _ _ _ _ (by simp)];rfl
  ·rw[q 1 (by omega),<-d,Jg _ _ _ _ (by simp)];rfl
  ·rw[f,<-d,Jv _ _ _ _ (by simp)]
  ·rw[f,<-d,Jv _ _ _ _ (by simp)]
  ·refine (q 0 (by omega) 0).trans ?_;rw[<-d,Jk _ _ _ (by simp),Jg _ _ _ _ (by simp)];rfl
  refine (q 0 (by omega) 1).trans ?_;rw[<-d,Jk _ _ _ (by simp),Jg _ _ _ _ (by simp)];rfl
 have a6:=Hd H;rw[J];clear J V U hl K d H
 go_in
 go_wp2_with fail
 rw[I.o];refine (K4 B _ _ t _ (O.o _ E.o)).mono ?_;rintro e Y ⟨v',rfl,hcut,D⟩;have F:=E.up D;have G:Hid (∀ W,Up w W->Kn B W v' (Ov t)):=fun W hW=>hcut _ _ (O.o _ hW);obtain⟨⟨r0,r1,f0,f1⟩,_,_⟩:=Z.o Y D;obtain⟨pw,cw,hw,_⟩:=G.o _ F.o;subst hw;clear hcut D
 go_wp2
 have T:Up w ((Y.setCell ⟨w.heap.size+1,0,none⟩ (.bool (Ko (!s) (Ov t)))).setCell ⟨w.heap.size+1,1,none⟩ (.slice pw (Ov t).length cw)):=(F.o.setCell (by simp) _).setCell (by simp) _;refine Jh ?_ rfl ⟨_,rfl,⟨!s,_,Ov t,rfl,G.o _ T,O8 _,by rw[O9];exact HX.o,by have:=Kl t;have:=HT.o.2;omega⟩,T⟩;simp[results,results132,go_sem,r0,r1]
end Go.Proofs.YtjjgilacnocigaaGreatDoor.Q
namespace Go.Proofs.YtjjgilacnocigaaGreatDoor.Q
open ChangeShapes WideShapes ChangeAt RowKit
theorem N8.shape {B:Nat}{w:World}{z:Value}{x:Int}{n:Nat}(h:N8 B w z x n):∃ (s:Bool) (p:Option Addr) (l c:Nat),z=.agg #[.bool s,.slice p l c]:=by
 obtain⟨neg,v,t,rfl,⟨p,c,rfl,_⟩,_⟩:=h;exact⟨_,_,_,_,rfl⟩
theorem N8.setCell {B:Nat}{w:World}{z:Value}{x:Int}{n:Nat}(h:N8 B w z x n)(p:Addr)(u:Value)(hp:p.block<B):N8 B (w.setCell p u) z x n:=by
 obtain⟨neg,v,t,d,j,h3⟩:=h;exact⟨neg,v,t,d,j.setCell p u hp,h3⟩
end Go.Proofs.YtjjgilacnocigaaGreatDoor.Q
