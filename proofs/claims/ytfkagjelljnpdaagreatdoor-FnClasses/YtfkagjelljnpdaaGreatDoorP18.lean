import Derived.Test.YtfkagjelljnpdaaGreatDoorP17
import Derived.Deep.RegionWith
import Derived.Deep.RegionLaw
import Derived.Deep.AppendLies
set_option maxRecDepth 100000
set_option maxHeartbeats 4000000
namespace Go.Proofs.YtfkagjelljnpdaaGreatDoor
open ChangeShapes WideShapes ChangeAt RowKit Proofs.Tryz
variable {b n:Nat}{g:List UInt8->Option SI}{v:Value}{w w':World}
def KM(w:World)(b n:Nat)(g:List UInt8->Option SI):Prop:=
 ∃D:DataW Unit,w.ownsMap prog 9 Xw b n D/\∀s,Maps.has D (.string s)=(g s).isSome/\D.atKey (.string s) (ID SI.none)=ID ((g s).getD SI.none)
def CO(g:List UInt8->Option SI)(s:List UInt8)(x:SI):List UInt8->Option SI:=fun t=>if t=s then some x else g t
theorem Gg{s:List UInt8}:WideAt.IsKeyLit (.string s):=by simp[WideAt.IsKeyLit]
theorem KM.put{D:DataW Unit}(hD:∀s,Maps.has D (.string s)=(g s).isSome/\D.atKey (.string s) (ID SI.none)=ID ((g s).getD SI.none))(hm:Maps.IsMap D){s:List UInt8}{x:SI}(hown:w.ownsMap prog 9 Xw b n (D.put (.string s) (ID x))):KM w b n (CO g s x):=by
 refine⟨_,hown,fun t=>?_⟩;unfold CO
 by_cases h:t=s
 ·subst h;rw[if_pos rfl];exact⟨Maps.has_put_same hm Gg _,Maps.atKey_put_same hm Gg _ _⟩
 rw[if_neg h];have j:(Lit.string t)≠Lit.string s:=fun e=>h (by cases e;rfl);rw[Maps.has_put_other j,Maps.atKey_put_other j];exact hD t
theorem KM.bar{c:Nat}(h:KM w b n g)(hb:Bar c w w')(hc:b≠c):KM w' b n g:=by
 obtain⟨D,⟨q,cl,hm,G⟩,E⟩:=h;have j:b<w.heap.size:=(Jo.1 hm).1;exact⟨D,⟨q,cl,(hb.block b j hc).trans hm,G⟩,E⟩
theorem KM.lt(h:KM w b n g):b<w.heap.size:=by
 obtain⟨D,⟨j,cl,hm,E⟩,q⟩:=h;exact(Jo.1 hm).1
theorem KK{w1:World}(h:Bar b w w1)(hg:w1.grownBy w' (some b)):Bar b w w':=
 ⟨hg.os.trans h.os,hg.tape.trans h.tape,hg.output.trans h.output,Jm h.size hg.size,fun k hk hne=>(hg.block k (Jn hk h.size) (by intro e;exact hne (Option.some.inj e))).trans (h.block k hk hne)⟩
theorem KM.low{N:Nat}(h:KM w b n g)(hb:Below N w w')(hN:b<N):KM w' b n g:=by
 obtain⟨D,⟨j,cl,hm,E⟩,q⟩:=h;exact⟨D,⟨j,cl,(hb.block b hN).trans hm,E⟩,q⟩
theorem KM.more(h:KM w b n g):KM w b (n+1) g:=by
 obtain⟨D,q,j⟩:=h;exact⟨D,q.mono (by omega),j⟩
theorem Dm{c:Nat}{l:List Value}(h:Bx w b l)(hg:w.grownBy w' (some c))(hne:b≠c):Bx w' b l:=by
 have j:=h.lt;obtain⟨t,h⟩:=h;exact⟨t,(hg.block b j (by intro e;exact hne (Option.some.inj e))).trans h⟩
def VT(f:List UInt8->Option Nat)(g:List UInt8->Option SI):Prop:=∀s x,g s=some x->x=Ou (Oh f) s
theorem An(kb gb n:Nat)(f:List UInt8->Option Nat)(g:List UInt8->Option SI)(s:ByteArray)(x:SI)(w:World)(hs:s.size<=1048576)(hc6:w.cell? ⟨kb,6,none⟩=some (.map (some gb)))(hk:KM w gb n g)(hok:VT f g)(hg:g s.data.toList=some x) :
 Calls prog 122 #[.pointer (some ⟨kb,0,none⟩),.string s] w fun e w'=>e=.returned (Gu (Ou (Oh f) s.data.toList))/\Up w w':=by
 have V:kb<w.heap.size:=J3 w _ hc6;have R:Hid (x=Ou (Oh f) s.data.toList):=hok _ _ hg;obtain⟨D,h,K⟩:=hk;have q:=Hd (h.alloc (.cells #[.int .i64 0,.int .i64 0,.string ⟨#[]⟩,.string ⟨#[]⟩] 145));have J:=Hd K;have O:=Hd hg;clear h K hok hg
 go_in
 go_wp2_with (at_lookup;refine wpList_lookup_own_ok _ rfl _ _ 135 rfl 9 145 G2 underlying135 Xw (z:=Gu SI.none) ?z (ID SI.none) [] (Py _) gb n D rfl q.o _ _ rfl (Eo s (by unfold maxLen;omega)) ?_)
 case z=>rfl
 intro v Y G;have hh:=(J.o s.data.toList).1;have j:=(J.o s.data.toList).2;rw[O.o]at hh j;rw[j]at G;have E:=Fc G;rw[hh,E,show Gu ((some x:Option SI).getD SI.none)=Value.agg #[.int .i64 x.kind,.int .i64 (x.width:Nat),.string (Oo x.index),.string (Oo x.elem)]from rfl,show(some x:Option SI).isSome=true from rfl];clear G j E hh
 go_wp2_with fail
 refine Jl (v:=.agg #[.int .i64 x.kind,.int .i64 (x.width:Nat),.string (Oo x.index),.string (Oo x.elem)]) ?_ rfl ⟨Oa (by rw[<-R.o];rfl),((Ji _ _).alloc leR _).alloc (by rw[Ju];omega) _⟩;simp[results,results122,go_sem]
theorem VU(kb sb gb n:Nat)(f:List UInt8->Option Nat)(g:List UInt8->Option SI)(s:ByteArray)(w:World)(hs:s.size<=1048576)(hn:n<=1000000000)(hev:EV w)(hc3:w.cell? ⟨kb,3,none⟩=some (.map (some sb)))(hc6:w.cell? ⟨kb,6,none⟩=some (.map (some gb)))(hm:Gk w sb f)(hsb:sb<w.heap.size)(hk:KM w gb n g)(hok:VT f g)(hg:g s.data.toList=none) :
 Calls prog 122 #[.pointer (some ⟨kb,0,none⟩),.string s] w fun e w'=>∃g',e=.returned (Gu (Ou (Oh f) s.data.toList))/\KM w' gb (n+1) g'/\VT f g'/\Bar gb w w':=by
 have d7:kb<w.heap.size:=J3 w _ hc6;have b4:gb<w.heap.size:=hk.lt;obtain⟨D,a1,hD⟩:=hk;have E:=Hd a1;have e8:=Hd (a1.alloc (.cells #[.int .i64 0,.int .i64 0,.string ⟨#[]⟩,.string ⟨#[]⟩] 145));have HD:=Hd hD;have HG:=Hd hg;have e6:=Hd hok;have h7:=Hd hev;have HM:=Hd hm;have h5:=Hd hc3;clear a1 hD hok hg hev hm hc3
 go_in
 go_wp2_with (at_lookup;refine wpList_lookup_own_ok _ rfl _ _ 135 rfl 9 145 G2 underlying135 Xw (z:=Gu SI.none) ?z (ID SI.none) [] (Py _) gb n D rfl e8.o _ _ rfl (Eo s (by unfold maxLen;omega)) ?_)
 case z=>rfl
 intro v ps hv;have hh:=(HD.o s.data.toList).1;have d8:=(HD.o s.data.toList).2;rw[HG.o]at hh d8;rw[d8]at hv;have g5:=Fc hv;rw[hh,g5,show Gu ((none:Option SI).getD SI.none)=Value.agg #[.int .i64 0,.int .i64 0,.string ⟨#[]⟩,.string ⟨#[]⟩]from rfl,show(none:Option SI).isSome=false from rfl];clear hv d8 g5 hh
 go_wp2_with fail
 have O:Hid (Up w ((w.alloc (.cells #[.int .i64 0,.int .i64 0,.string ⟨#[]⟩,.string ⟨#[]⟩] 145)).alloc (.cells #[.int .i64 0,.int .i64 0,.string ⟨#[]⟩,.string ⟨#[]⟩] 145))):=((Ji _ _).alloc leR _).alloc (by rw[Ju];omega) _;refine(Lp kb sb f s _ hs (h7.o.next O.o) ((O.o.cell (p:=⟨kb,3,none⟩) d7).trans h5.o) (HM.o.bl O.o hsb) (Jn hsb O.o.size)).mono ?_;obtain⟨X,hX⟩:=O2 (Ou (Oh f) s.data.toList);have HX:=Hd hX;rw[hX];clear hX;rintro e w1 ⟨rfl,d6⟩;have q:Below (w.heap.size+2) ((w.alloc (.cells #[.int .i64 0,.int .i64 0,.string ⟨#[]⟩,.string ⟨#[]⟩] 145)).alloc (.cells #[.int .i64 0,.int .i64 0,.string ⟨#[]⟩,.string ⟨#[]⟩] 145)) w1:=by rw[Ju,Ju]at d6;exact d6
 have b3:Bx w1 w.heap.size [.int .i64 0,.int .i64 0,.string ⟨#[]⟩,.string ⟨#[]⟩]:=((Oq w [.int .i64 0,.int .i64 0,.string ⟨#[]⟩,.string ⟨#[]⟩] 145).alloc _).bl (N:=w.heap.size+2) (by omega) q;have Y:=Oq (w.alloc (.cells #[.int .i64 0,.int .i64 0,.string ⟨#[]⟩,.string ⟨#[]⟩] 145)) [.int .i64 0,.int .i64 0,.string ⟨#[]⟩,.string ⟨#[]⟩] 145;rw[Ju]at Y;have b2:Bx w1 (w.heap.size+1) [.int .i64 0,.int .i64 0,.string ⟨#[]⟩,.string ⟨#[]⟩]:=Y.bl (N:=w.heap.size+2) (by omega) q;have b7:Up w w1:=O.o.trans (q.mono (by omega));have j7:w.heap.size+2<=w1.heap.size:=by have:=q.size;rw[Ju,Ju]at this;exact this
 clear d6 q Y;obtain⟨r0,r1,r2,r3⟩:=b3.c4;obtain⟨q0,q1,q2,q3⟩:=b3.f4;obtain⟨c0,c1,c2,c3⟩:=b2.c4;obtain⟨f0,f1,f2,f3⟩:=b2.f4;have b5:=((((b2.set 0 (.int .i64 X.kind)).set 1 (.int .i64 (X.width:Nat))).set 2 (.string (Oo X.index))).set 3 (.string (Oo X.elem)));have b8:Up w ((((w1.setCell ⟨w.heap.size+1,0,none⟩ (.int .i64 X.kind)).setCell ⟨w.heap.size+1,1,none⟩ (.int .i64 (X.width:Nat))).setCell ⟨w.heap.size+1,2,none⟩ (.string (Oo X.index))).setCell ⟨w.heap.size+1,3,none⟩ (.string (Oo X.elem))):=(((b7.setCell (p:=⟨w.heap.size+1,0,none⟩) (by show w.heap.size<=w.heap.size+1;omega) _).setCell (p:=⟨w.heap.size+1,1,none⟩) (by show w.heap.size<=w.heap.size+1;omega) _).setCell (p:=⟨w.heap.size+1,2,none⟩) (by show w.heap.size<=w.heap.size+1;omega) _).setCell (p:=⟨w.heap.size+1,3,none⟩) (by show w.heap.size<=w.heap.size+1;omega) _;have b6:Bx ((((w1.setCell ⟨w.heap.size+1,0,none⟩ (.int .i64 X.kind)).setCell ⟨w.heap.size+1,1,none⟩ (.int .i64 (X.width:Nat))).setCell ⟨w.heap.size+1,2,none⟩ (.string (Oo X.index))).setCell ⟨w.heap.size+1,3,none⟩ (.string (Oo X.elem))) w.heap.size [.int .i64 0,.int .i64 0,.string ⟨#[]⟩,.string ⟨#[]⟩]:=
  b3.bl (N:=w.heap.size+1) (by omega) ((((Ji _ _).sc).sc).sc |>.sc)
 have b0:=Hd b5;have b1:=Hd b6;have j:=Hd b8;clear b2 b3 b5 b6 b7 b8;unfold Gu
 by_cases J:X.kind=0
 ·have x0:(X.kind==0)=true:=by rw[J2];exact J
  have x1:=U4 J;clear J
  go_wp2_with fail
  have d9:=((((b1.o.set 0 (.int .i64 X.kind)).set 1 (.int .i64 (X.width:Nat))).set 2 (.string (Oo X.index))).set 3 (.string (Oo X.elem)));obtain⟨e0,e1,e2,e3⟩:=d9.c4;have V:Up w _:=(((j.o.setCell (p:=⟨w.heap.size,0,none⟩) leR (.int .i64 X.kind)).setCell (p:=⟨w.heap.size,1,none⟩) leR (.int .i64 (X.width:Nat))).setCell (p:=⟨w.heap.size,2,none⟩) leR (.string (Oo X.index))).setCell (p:=⟨w.heap.size,3,none⟩) leR (.string (Oo X.elem));refine Jl (v:=.agg #[.int .i64 X.kind,.int .i64 (X.width:Nat),.string (Oo X.index),.string (Oo X.elem)]) ?_ rfl ⟨g,Oa (by rw[HX.o];rfl),?_,e6.o,Bar.of V⟩
  ·clear c0 c1 c2 c3 f0 f1 f2 f3 r0 r1 r2 r3 q0 q1 q2 q3;simp[results,results122,go_sem,e0,e1,e2,e3]
  obtain⟨es,cl,hm,hf⟩:=E.o.mono (n':=n+1) (by omega);exact⟨D,⟨es,cl,(V.block gb b4).trans hm,hf⟩,HD.o⟩
 have x0:(X.kind==0)=false:=by rw[Jc];exact J
 have x1:=Un J;clear J
 go_wp2_with fail
 clear c0 c1 c2 c3 f0 f1 f2 f3 r0 r1 r2 r3 q0 q1 q2 q3;generalize ((((w1.setCell ⟨w.heap.size+1,0,none⟩ (.int .i64 X.kind)).setCell ⟨w.heap.size+1,1,none⟩ (.int .i64 (X.width:Nat))).setCell ⟨w.heap.size+1,2,none⟩ (.string (Oo X.index))).setCell ⟨w.heap.size+1,3,none⟩ (.string (Oo X.elem)))=W2 at b0 b1 j ⊢;have k6:W2.cell? ⟨kb,6,none⟩=some (.map (some gb)):=(j.o.cell (p:=⟨kb,6,none⟩) d7).trans hc6;have e7:Hid (W2.ownsMap prog 9 Xw gb n D):=by
  obtain⟨es,cl,hm,hf⟩:=E.o;exact⟨es,cl,(j.o.block gb b4).trans hm,hf⟩
 obtain⟨d0,d1,d2,d3⟩:=b0.o.c4;have h8:Hid (∀w3,Up W2 w3->w3.cell? ⟨kb,6,none⟩=some (.map (some gb))/\Bx w3 (w.heap.size+1) [.int .i64 X.kind,.int .i64 (X.width:Nat),.string (Oo X.index),.string (Oo X.elem)]/\w3.ownsMap prog 9 Xw gb n D):=fun w3 h3=>
  ⟨(h3.cell (p:=⟨kb,6,none⟩) (Jn d7 j.o.size)).trans k6,b0.o.bl (b0.o.lt) h3,by
   obtain⟨es,cl,hm,hf⟩:=e7.o;exact⟨es,cl,(h3.block gb (Jn b4 j.o.size)).trans hm,hf⟩⟩
 go_region_with (go_at_call 100;refine(Eh s _ (by omega)).mono ?_;rintro e w3 ⟨rfl,K⟩;have R:Up W2 w3:=⟨K.os,K.tape,K.output,K.size,K.block⟩;obtain⟨j3,Z,c8⟩:=h8.o w3 R;obtain⟨g0,g1,g2,g3⟩:=Z.c4;obtain⟨w4,a8,a7,b9⟩:=c8.update G2 underlying135 (by unfold maxLen;omega) (Eo s (by unfold maxLen;omega)) (Py X);unfold Gu at a8;have e4:=Hd R;have h9:=Hd a7;have d5:=Hd b9;have e5:=Hd Z;clear K R c8 a7 b9 Z)
 all_goals (
  have d4:Bx w3 w.heap.size [.int .i64 0,.int .i64 0,.string ⟨#[]⟩,.string ⟨#[]⟩]:=b1.o.bl b1.o.lt e4.o;have G:=Dm d4 d5.o (by omega);have c6:=Dm e5.o d5.o (by omega);obtain⟨r0,r1,r2,r3⟩:=G.c4;obtain⟨q0,q1,q2,q3⟩:=G.f4;obtain⟨t0,t1,t2,t3⟩:=c6.c4;have e9:=Hd G;have h4:Hid (Bar gb w w4):=KK (Bar.of (j.o.trans (e4.o.mono j.o.size))) d5.o;clear d4 G c6 a8 g0 g1 g2 g3 d0 d1 d2 d3 k6 j3
  go_wp2_with fail
  have d9:=((((e9.o.set 0 (.int .i64 X.kind)).set 1 (.int .i64 (X.width:Nat))).set 2 (.string (Oo X.index))).set 3 (.string (Oo X.elem)));obtain⟨e0,e1,e2,e3⟩:=d9.c4;have V:Below w.heap.size w4 _:=((((Ji _ _).setCell (p:=⟨w.heap.size,0,none⟩) leR (.int .i64 X.kind)).setCell (p:=⟨w.heap.size,1,none⟩) leR (.int .i64 (X.width:Nat))).setCell (p:=⟨w.heap.size,2,none⟩) leR (.string (Oo X.index))).setCell (p:=⟨w.heap.size,3,none⟩) leR (.string (Oo X.elem));refine Jl (v:=.agg #[.int .i64 X.kind,.int .i64 (X.width:Nat),.string (Oo X.index),.string (Oo X.elem)]) ?_ rfl ⟨CO g s.data.toList X,Oa (by rw[HX.o];rfl),?_,?_,h4.o.then V⟩
  ·clear r0 r1 r2 r3 q0 q1 q2 q3 t0 t1 t2 t3;simp[results,results122,go_sem,e0,e1,e2,e3]
  ·have f9:=KM.put HD.o E.o.isMap h9.o;exact f9.low V b4
  intro t x ht;unfold CO at ht
  by_cases h:t=s.data.toList
  ·rw[if_pos h]at ht;cases ht;rw[h];exact HX.o.symm
  rw[if_neg h]at ht;exact e6.o t x ht)
theorem Fl(kb sb gb n:Nat)(f:List UInt8->Option Nat)(g:List UInt8->Option SI)(s:ByteArray)(w:World)(hs:s.size<=1048576)(hn:n<=1000000000)(hev:EV w)(hc3:w.cell? ⟨kb,3,none⟩=some (.map (some sb)))(hc6:w.cell? ⟨kb,6,none⟩=some (.map (some gb)))(hm:Gk w sb f)(hsb:sb<w.heap.size)(hk:KM w gb n g)(hok:VT f g) :
 Calls prog 122 #[.pointer (some ⟨kb,0,none⟩),.string s] w fun e w'=>∃g',e=.returned (Gu (Ou (Oh f) s.data.toList))/\KM w' gb (n+1) g'/\VT f g'/\Bar gb w w':=by
 cases h:g s.data.toList with
 | none=>exact VU kb sb gb n f g s w hs hn hev hc3 hc6 hm hsb hk hok h
 | some x=>
   refine(An kb gb n f g s x w hs hc6 hk hok h).mono ?_;rintro e w' ⟨rfl,hb⟩;exact⟨g,rfl,(hk.more).low hb hk.lt,hok,Bar.of hb⟩
def Eb(f1 f2:List UInt8->Option Nat)(n:List UInt8):Bool:=(f1 n).isSome||(f2 n).isSome||!K1 n
def Gj(f1 f2:List UInt8->Option Nat)(n:List UInt8):Int:=if Eb f1 f2 n then 2 else 0
theorem Nv(kb sb fb:Nat)(f1 f2:List UInt8->Option Nat)(s:ByteArray)(w:World)(hc3:w.cell? ⟨kb,3,none⟩=some (.map (some sb)))(hc4:w.cell? ⟨kb,4,none⟩=some (.map (some fb)))(hm1:Gk w sb f1)(hm2:Gk w fb f2)(hs:s.size<=1048576) :
 Calls prog 98 #[.pointer (some ⟨kb,0,none⟩),.string s] w fun e w'=>e=.returned (.int .i64 (Gj f1 f2 s.data.toList))/\w'=w:=by
 obtain⟨n,D,hn,q,hD⟩:=hm1;obtain⟨n2,D2,hn2,h,K⟩:=hm2;have J:=Hd q;have HD:=Hd hD;have E:=Hd h;have Z:=Hd K;clear q hD h K;have hk:=Eo s (by unfold maxLen;omega);have j:Hid (Gj f1 f2 s.data.toList=if(f1 s.data.toList).isSome||(f2 s.data.toList).isSome||!K1 s.data.toList then 2 else 0):=rfl
 go_in
 go_wp2_with (at_lookup;refine wpList_lookup_own_ok_int _ rfl _ _ 56 rfl 9 3 .i64 G2 underlying56 underlying3 ?z sb n D rfl J.o _ _ rfl hk ?_)
 case z=>rfl
 intro c a1 a7;rw[(HD.o s.data.toList).1];clear a1 a7
 go_wp2_with (at_lookup;refine wpList_lookup_own_ok_int _ rfl _ _ 56 rfl 9 3 .i64 G2 underlying56 underlying3 ?z2 fb n2 D2 rfl E.o _ _ rfl hk ?_)
 case z2=>rfl
 intro c2 O R;rw[(Z.o s.data.toList).1];clear O R
 cases G:(f1 s.data.toList).isSome
 ·cases V:(f2 s.data.toList).isSome
  ·rw[G,V]at j;clear G V
   go_wp2_with fail
   refine(Cy s _ (by unfold maxLen;omega)).mono ?_
   cases Y:K1 s.data.toList
   ·rw[Y]at j;rintro e w1 ⟨rfl,rfl⟩;clear Y
    go_wp2
    go_ret
    exact⟨O8 (by rw[j.o];rfl),rfl⟩
   rw[Y]at j;rintro e w1 ⟨rfl,rfl⟩;clear Y
   go_wp2
   go_ret
   exact⟨O8 (by rw[j.o];rfl),rfl⟩
  rw[G,V]at j;clear G V
  go_wp2
  go_ret
  exact⟨O8 (by rw[j.o];rfl),rfl⟩
 rw[G]at j;clear G;generalize (f2 s.data.toList).isSome=B2 at j ⊢
 go_wp2
 go_ret
 exact⟨O8 (by rw[j.o];simp),rfl⟩
theorem Qq(kb:Nat)(p q:Option Addr)(n c m d:Nat)(w:World)(h0:w.cell? ⟨kb,0,none⟩=some (.slice p n c))(h1:w.cell? ⟨kb,1,none⟩=some (.slice q m d))(hn:n<=1000000)(hm:m<=1000000) :
 Calls prog 99 #[.pointer (some ⟨kb,0,none⟩)] w fun e w'=>e=.returned (.bool (decide (300<=n+m)))/\Up w w':=by
 have F:Hid (decide (300<=n+m)=decide ((300:Int)<=(n:Int)+(m:Int))):=by unfold Hid;rw[J8,Jv,Jv];omega
 go_in
 go_wp2
 go_region
 all_goals (go_wp2_with fail)
 all_goals go_ret
 all_goals exact⟨Oz (by rw[F.o]),⟨rfl,rfl,rfl,leR,fun _ _=>rfl⟩⟩
structure Fn where
 name:List UInt8
 args:List (List UInt8)
 sort:List UInt8
variable {F:List Fn}
structure Tm where
 op:Int
 sort:List UInt8
 text:List UInt8
 a:Int
 b:Int
 kids:List Int
variable {T:List Tm}{t u:Tm}
theorem I1(own:List UInt8->Bool)(t:List UInt8):0<=(Ou own t).kind/\(Ou own t).kind<=6:=by
 by_cases j:t.take 7=U0
 ·rcases Ht own j with h|⟨i,e,_,h⟩
  ·rw[h];exact⟨by decide,by decide⟩
  rw[h];exact⟨by show(0:Int)<=6;decide,by show(6:Int)<=6;decide⟩
 have:=Hg own t;unfold Ou;rw[if_neg j];omega
theorem VO(X:SI)(W:World):(Instr.field 145 (.agg #[.int .i64 X.kind,.int .i64 (X.width:Nat),.string (Oo X.index),.string (Oo X.elem)]) 0).run prog W=.ok (.int .i64 X.kind) W:=by
 unfold Instr.field
 go_simp
 rfl
def Ub(own:List UInt8->Bool)(f:Fn):Bool:=decide (f.args.length<=5)&&f.args.all (fun a=>Of (Ou own a))&&decide ((Ou own f.sort).kind≠0)&&(decide ((Ou own f.sort).kind≠6)||decide (f.args.length=0))
theorem Tz(v va:Value)(L:List (List UInt8))(f:Fn)(w:World)(h:O4 w v L)(ha:O4 w va f.args)(hz:∀a∈f.args,a.length<=1048576)(hzs:f.sort.length<=1048576) :
 Calls prog 65 #[v,.agg #[.string (Oo f.name),va,.string (Oo f.sort)]] w fun e w'=>e=.returned (.bool (Ub (On L) f))/\Up w w':=by
 have HS:=Hd h;obtain⟨p,c,rfl,h1,h2,h3⟩:=ha;have HA:=Hd h3;have HZ:=Hd hz;unfold maxLen at h2;clear h h3 hz
 by_cases h5:5<f.args.length
 ·have F:Hid (Ub (On L) f=false):=by unfold Hid Ub;rw[Jd (by omega)];rfl
  go_in
  go_wp2
  go_ret
  exact⟨Oz F.o.symm,Oy _ _⟩
 have HF:Hid (Ub (On L) f=(f.args.all (fun a=>Of (Ou (On L) a))&&(decide ((Ou (On L) f.sort).kind≠0)&&(decide ((Ou (On L) f.sort).kind≠6)||decide (f.args.length=0))))):=by
  unfold Hid Ub;rw[Jb (by omega),Yz,Vz]
 go_in
 go_wp2_with fail
 obtain⟨W1,J⟩:=O2 (w.alloc (.cells #[.string (Oo f.name),.slice p f.args.length c,.string (Oo f.sort)] 75));have d1:Hid (Up w W1):=by unfold Hid;rw[<-J];exact Oy _ _
 have b7:Hid (W1.heap.size=w.heap.size+1):=by unfold Hid;rw[<-J];simp
 have b8:Hid (Bx W1 w.heap.size [.string (Oo f.name),.slice p f.args.length c,.string (Oo f.sort)]):=by unfold Hid;rw[<-J];exact Oq w _ _
 rw[J];clear J
 go_loopw [16] (fun i wr=>∃k:Nat,k<=f.args.length/\i=.int .i64 (k:Nat)/\(∀j (h:j<f.args.length),j<k->Of (Ou (On L) f.args[j])=true)/\Below (w.heap.size+1) W1 wr) (fun i _=>f.args.length - (intOf i).toNat)
 case atStart=>exact⟨0,Jp _,rfl,fun j _ h=>absurd h (Jz _),Ji _ _⟩
 obtain⟨k,hk,rfl,hp,Y⟩:=hrel;have HP:=Hd hp;have R:=Hd Y;have E:Hid (Up w wr):=d1.o.trans (Y.mono (by omega));have O:=b8.o.bl (N:=w.heap.size+1) (by omega) Y;obtain⟨b0,b1,b2⟩:=O.c3;clear hp Y O
 by_cases K:k<f.args.length
 ·rcases HA.o with h0|⟨b,rfl,hb,c6⟩
  ·rw[h0]at K;simp at K
  have hc:=(E.o.cell (p:=⟨b,k,none⟩) hb).trans (c6 k K);clear c6;have Z:(Oo f.args[k]).size<=1048576:=by rw[<-Oc,Ov];exact HZ.o _ (Jj K)
  obtain⟨S,hS⟩:=O2 (Oo f.args[k]);have V:Hid (S.data.toList=f.args[k]):=by unfold Hid;rw[<-hS,Ov]
  rw[hS]at hc Z;clear hS
  go_wp2_with fail
  refine(Ef v L S _ (HS.o.bl E.o) Z).mono ?_;have a7:=I1 (On L) S.data.toList;have hq:Of (Ou (On L) f.args[k])=Of (Ou (On L) S.data.toList):=by rw[V.o]
  have HQ:=Hd hq;clear hq;generalize Ou (On L) S.data.toList=X at a7 HQ ⊢;rintro e w2 ⟨rfl,hb2⟩;have a1:Hid (Below (w.heap.size+1) W1 w2):=R.o.trans (hb2.mono (by have:=R.o.size;have:=b7.o;omega));have q:=E.up hb2;clear hb2;unfold Gu;have c8:=VO X w2
  by_cases hx:X.kind=0∨X.kind=1∨X.kind=6
  ·have HR:Hid (Ub (On L) f=false):=by
    unfold Hid;rw[HF.o];have:f.args.all (fun a=>Of (Ou (On L) a))=false:=by
     rw[Yb];intro h;have h2:=Jx.1 h f.args[k] (Jj K);rw[HQ.o]at h2;simp only[Of,Jw,J1]at h2;omega
    rw[this];rfl
   rcases hx with hx|hx|hx
   ·have x0:(X.kind==0)=true:=by rw[J2];exact hx
    clear hx
    go_wp2
    go_ret
    exact⟨Oz HR.o.symm,q.o⟩
   ·have x0:(X.kind==0)=false:=by rw[Jc];omega
    have x1:(X.kind==1)=true:=by rw[J2];exact hx
    clear hx
    go_wp2
    go_ret
    exact⟨Oz HR.o.symm,q.o⟩
   have x0:(X.kind==0)=false:=by rw[Jc];omega
   have x1:(X.kind==1)=false:=by rw[Jc];omega
   have x6:(X.kind==6)=true:=by rw[J2];exact hx
   clear hx
   go_wp2
   go_ret
   exact⟨Oz HR.o.symm,q.o⟩
  have x0:(X.kind==0)=false:=by rw[Jc];omega
  have x1:(X.kind==1)=false:=by rw[Jc];omega
  have x6:(X.kind==6)=false:=by rw[Jc];omega
  have e2:=Hd hx;have b6:Hid (Of (Ou (On L) f.args[k])=true):=by
   unfold Hid;rw[HQ.o];simp only[Of,Jw,J1];omega
  clear hx
  go_wp2
  go_roundw
  case rel=>exact⟨k+1,by omega,by go_num,fun j hj h2=>by
   rcases J4.1 h2 with h|rfl
   ·exact HP.o j hj h
   exact b6.o,a1.o⟩
  simp[intOf];omega
 have b5:Hid (f.args.all (fun a=>Of (Ou (On L) a))=true):=by
  unfold Hid;rw[Jx];intro a ha;obtain⟨j,hj,rfl⟩:=Ya ha;exact HP.o j hj (by omega)
 obtain⟨S,hS⟩:=O2 (Oo f.sort);have V:Hid (S.data.toList=f.sort):=by unfold Hid;rw[<-hS,Ov]
 have Z:S.size<=1048576:=by rw[<-Oc,V.o];exact hzs
 rw[hS]at b2;have z:decide ((k:Int)<(f.args.length:Int))=false:=dF (by omega)
 go_wp2_with fail
 refine(Ef v L S _ (HS.o.bl E.o) Z).mono ?_;have a7:=I1 (On L) S.data.toList;have G:Hid (Ub (On L) f=(decide ((Ou (On L) S.data.toList).kind≠0)&&(decide ((Ou (On L) S.data.toList).kind≠6)||decide (f.args.length=0)))):=by
  unfold Hid;rw[HF.o,b5.o,V.o];rfl
 generalize Ou (On L) S.data.toList=X at a7 G ⊢;rintro e w2 ⟨rfl,hb2⟩;have a1:Hid (Below (w.heap.size+1) W1 w2):=R.o.trans (hb2.mono (by have:=R.o.size;have:=b7.o;omega));have q:=E.up hb2;have O:=b8.o.bl (N:=w.heap.size+1) (by omega) a1.o;obtain⟨n0,n1,n2⟩:=O.c3;clear hb2 O b0 b1 b2;unfold Gu;have c8:=VO X w2
 by_cases k0:X.kind=0
 ·have y0:=U4 k0;have K0:=Hd k0;clear k0
  go_wp2
  go_ret
  exact⟨Oz (by have:=K0.o;rw[G.o,Jd (by omega)];rfl),q.o⟩
 have y0:=Un k0;have K0:=Hd k0;have p0:=k0;clear k0
 by_cases k6:X.kind=6
 ·have y6:=U4 k6;have K6:=Hd k6;clear k6
  by_cases kn:f.args.length=0
  ·have yn:((f.args.length:Int)==0)=true:=by rw[J2];omega
   go_wp2
   go_ret
   exact⟨Oz (by rw[G.o,Jb K0.o,Jb kn];simp),q.o⟩
  have yn:((f.args.length:Int)==0)=false:=by rw[Jc];omega
  go_wp2
  go_ret
  exact⟨Oz (by have:=K6.o;rw[G.o,Jb K0.o,Jd kn,Jd (by omega)];rfl),q.o⟩
 have y6:=Un k6;have K6:=Hd k6
 go_wp2
 go_ret
 exact⟨Oz (by rw[G.o,Jb K0.o,Jb K6.o];rfl),q.o⟩
def Em(w:World)(v:Value)(F:List Fn):Prop:=
 ∃p c,v=.slice p F.length c/\F.length<=c/\c<=maxLen/\(F=[]∨∃b,p=some ⟨b,0,none⟩/\b<w.heap.size/\∀i (h:i<F.length),w.cell? ⟨b,i*3,none⟩=some (.string (Oo F[i].name))/\(∃va,w.cell? ⟨b,i*3+1,none⟩=some va/\O4 w va F[i].args)/\w.cell? ⟨b,i*3+2,none⟩=some (.string (Oo F[i].sort)))
theorem Em.bl(h:Em w v F)(hb:Up w w'):Em w' v F:=by
 obtain⟨p,c,rfl,q,E,j⟩:=h;refine⟨p,c,rfl,q,E,?_⟩
 rcases j with j|⟨b,e,hl,G⟩
 ·exact .inl j
 refine .inr ⟨b,e,Jn hl hb.size,fun i hi=>?_⟩;obtain⟨J,⟨va,K,ha⟩,k2⟩:=G i hi;exact⟨(hb.cell (p:=⟨b,i*3,none⟩) hl).trans J,⟨va,(hb.cell (p:=⟨b,i*3+1,none⟩) hl).trans K,ha.bl hb⟩,(hb.cell (p:=⟨b,i*3+2,none⟩) hl).trans k2⟩
def IntsAt(w:World)(v:Value)(L:List Int):Prop:=
 ∃p c,v=.slice p L.length c/\L.length<=c/\c<=maxLen/\(L=[]∨∃b,p=some ⟨b,0,none⟩/\b<w.heap.size/\∀i (h:i<L.length),w.cell? ⟨b,i,none⟩=some (.int .i64 L[i]))
theorem IntsAt.bl{L:List Int}(h:IntsAt w v L)(hb:Up w w'):IntsAt w' v L:=by
 obtain⟨p,c,rfl,q,E,j⟩:=h;refine⟨p,c,rfl,q,E,?_⟩
 rcases j with j|⟨b,e,hl,G⟩
 ·exact .inl j
 exact .inr ⟨b,e,Jn hl hb.size,fun i hi=>(hb.cell (p:=⟨b,i,none⟩) hl).trans (G i hi)⟩
def TermsAt(w:World)(v:Value)(T:List Tm):Prop:=
 ∃p c,v=.slice p T.length c/\T.length<=c/\c<=maxLen/\(T=[]∨∃b,p=some ⟨b,0,none⟩/\b<w.heap.size/\∀i (h:i<T.length),w.cell? ⟨b,i*6,none⟩=some (.int .i64 T[i].op)/\w.cell? ⟨b,i*6+1,none⟩=some (.string (Oo T[i].sort))/\w.cell? ⟨b,i*6+2,none⟩=some (.string (Oo T[i].text))/\w.cell? ⟨b,i*6+3,none⟩=some (.int .i64 T[i].a)/\w.cell? ⟨b,i*6+4,none⟩=some (.int .i64 T[i].b)/\∃va,w.cell? ⟨b,i*6+5,none⟩=some va/\IntsAt w va T[i].kids)
theorem TermsAt.bl(h:TermsAt w v T)(hb:Up w w'):TermsAt w' v T:=by
 obtain⟨p,c,rfl,q,E,j⟩:=h;refine⟨p,c,rfl,q,E,?_⟩
 rcases j with j|⟨b,e,hl,G⟩
 ·exact .inl j
 refine .inr ⟨b,e,Jn hl hb.size,fun i hi=>?_⟩;obtain⟨J,K,k2,k3,k4,va,k5,ha⟩:=G i hi;exact⟨(hb.cell (p:=⟨b,i*6,none⟩) hl).trans J,(hb.cell (p:=⟨b,i*6+1,none⟩) hl).trans K,(hb.cell (p:=⟨b,i*6+2,none⟩) hl).trans k2,(hb.cell (p:=⟨b,i*6+3,none⟩) hl).trans k3,(hb.cell (p:=⟨b,i*6+4,none⟩) hl).trans k4,va,(hb.cell (p:=⟨b,i*6+5,none⟩) hl).trans k5,ha.bl hb⟩
def Ox(F:List Fn)(n:List UInt8):Option Nat:=F.findIdx? (fun f=>decide (f.name=n))
def Xi(F:List Fn)(n:List UInt8):Int:=match Ox F n with|none => -1|some i=>(i:Int)
theorem OX{n:List UInt8}(h:∀j (hj:j<F.length),F[j].name≠n):Xi F n = -1:=by
 unfold Xi Ox;rw[Zl.2];intro x hx;obtain⟨j,hj,rfl⟩:=Ya hx
 simpa using h j hj
theorem OQ{n:List UInt8}{k:Nat}(hk:k<F.length)(h:F[k].name=n)(hb:∀j (hj:j<F.length),j<k->F[j].name≠n):Xi F n=(k:Int):=by
 unfold Xi Ox;rw[J9.2 ⟨hk,by simpa using h,fun j hj=>by simpa using hb j (by omega) hj⟩]
theorem YB(vs vf vt:Value)(F:List Fn)(s:ByteArray)(w:World)(h:Em w vf F) :
 Calls prog 68 #[.agg #[vs,vf,vt],.string s] w fun e w'=>e=.returned (.int .i64 (Xi F s.data.toList))/\Up w w':=by
 obtain⟨p,c,rfl,h1,h2,Z⟩:=h;have HF:=Hd Z;unfold maxLen at h2;clear Z
 go_in
 go_wp2_with fail
 obtain⟨Y,q⟩:=O2 (w.alloc (.cells #[vs,.slice p F.length c,vt] 27));have G:Hid (Up w Y):=by unfold Hid;rw[<-q];exact Oy _ _
 have O:Bx Y w.heap.size [vs,.slice p F.length c,vt]:=by rw[<-q];exact Oq w _ _
 obtain⟨b0,b1,b2⟩:=O.c3;rw[q];clear q O
 go_loop [9] (fun i=>∃k:Nat,k<=F.length/\i=.int .i64 (k:Nat)/\∀j (h:j<F.length),j<k->F[j].name≠s.data.toList) (fun i=>F.length - (intOf i).toNat)
 case atStart=>exact⟨0,Jp _,rfl,fun j _ h=>absurd h (Jz _)⟩
 obtain⟨k,hk,rfl,hp⟩:=hrel;have R:=Hd hp;clear hp
 by_cases E:k<F.length
 ·rcases HF.o with h0|⟨b,rfl,hb,K⟩
  ·rw[h0]at E;simp at E
  have hc:=(G.o.cell (p:=⟨b,k*3,none⟩) hb).trans (K k E).1;clear K
  by_cases hx:F[k].name=s.data.toList
  ·have V:Hid (Xi F s.data.toList=(k:Int)):=OQ E hx R.o;rw[hx,Uc]at hc;clear hx
   go_wp2
   go_ret
   exact⟨O8 V.o.symm,G.o⟩
  have HN:=Hd hx;have J:Oo F[k].name≠s:=fun e=>hx (by rw[<-e,Ov]);generalize Oo F[k].name=X at hc J;have zz:=Q1 J;clear hx J
  go_wp2
  go_round
  case rel=>exact⟨k+1,by omega,by go_num,fun j hj h2=>by
   rcases J4.1 h2 with h|rfl
   ·exact R.o j hj h
   exact HN.o⟩
  simp[intOf];omega
 have V:Hid (Xi F s.data.toList = -1):=OX fun j hj=>R.o j hj (by omega);have z:decide ((k:Int)<(F.length:Int))=false:=dF (by omega)
 go_wp2
 go_ret
 exact⟨O8 V.o.symm,G.o⟩
def Uw(L:List (List UInt8))(s:List UInt8):Bool:=L.all (fun x=>decide (x=s))
theorem V5(v:Value)(L:List (List UInt8))(s:ByteArray)(w:World)(h:O4 w v L) :
 Calls prog 67 #[v,.string s] w fun e w'=>e=.returned (.bool (Uw L s.data.toList))/\w'=w:=by
 obtain⟨p,c,rfl,h1,h2,O⟩:=h;have Y:=Hd O;unfold maxLen at h2;clear O
 go_in
 go_wp2
 go_loop [9] (fun i=>∃k:Nat,k<=L.length/\i=.int .i64 k/\∀j (h:j<L.length),j<k->L[j]=s.data.toList) (fun i=>L.length - (intOf i).toNat)
 case atStart=>exact⟨0,Jp _,rfl,fun j _ hj=>absurd hj (Jz _)⟩
 obtain⟨k,hk,rfl,hp⟩:=hrel;have K:=Hd hp;clear hp
 by_cases q:k<L.length
 ·rcases Y.o with Z|⟨b,rfl,hb,G⟩
  ·subst Z;simp at q
  have R:=G k q;clear G
  by_cases hx:L[k]=s.data.toList
  ·have V:=Hd hx;rw[hx,Uc]at R;clear hx
   go_wp2
   go_round
   case rel=>exact⟨k+1,by omega,by go_num,fun j hj hj2=>by
    rcases J4.1 hj2 with h|rfl
    ·exact K.o j hj h
    exact V.o⟩
   simp[intOf];omega
  have J:Hid (Uw L s.data.toList=false):=by
   unfold Hid Uw;rw[Yb];intro h;exact hx (by simpa using Jx.1 h L[k] (Jj q))
  have E:Oo L[k]≠s:=fun e=>hx (by rw[<-e,Ov]);generalize Oo L[k]=X at R E;have zz:=Q1 E;clear hx E
  go_wp2
  go_ret
  exact⟨Oz J.o.symm,rfl⟩
 have J:Hid (Uw L s.data.toList=true):=by
  unfold Hid Uw;rw[Jx];intro x hx;obtain⟨j,hj,rfl⟩:=Ya hx
  simpa using K.o j hj (by omega)
 go_wp2
 go_ret
 exact⟨Oz J.o.symm,rfl⟩
theorem YA(v1 v2:Value)(L M:List Int)(w:World)(h:IntsAt w v1 L)(h':IntsAt w v2 M) :
 Calls prog 90 #[v1,v2] w fun e w'=>e=.returned (.bool (decide (L=M)))/\Up w w':=by
 obtain⟨p,c,rfl,h1,h2,h3⟩:=h;obtain⟨p',c',rfl,b7,Z,K⟩:=h';have HX:=Hd h3;have HY:=Hd K;unfold maxLen at h2 Z;clear h3 K
 by_cases hl:L.length=M.length
 ·have z:((L.length:Int)==(M.length:Int))=true:=by rw[J2];omega
  have HL:=Hd hl;have zn:=U4 (a:=(L.length:Int)) (b:=(M.length:Int)) (by omega);clear hl
  go_in
  go_wp2
  go_loopw [13] (fun i wr=>∃k:Nat,k<=L.length/\i=.int .i64 (k:Nat)/\(∀j (h:j<L.length) (h':j<M.length),j<k->L[j]=M[j])/\Up w wr) (fun i _=>L.length - (intOf i).toNat)
  case atStart=>exact⟨0,Jp _,rfl,fun j _ _ h=>absurd h (Jz _),Ji _ _⟩
  obtain⟨k,hk,rfl,hp,O⟩:=hrel;have HP:=Hd hp;have q:=Hd O;clear hp O
  by_cases J:k<L.length
  ·have E:k<M.length:=by have:=HL.o;omega
   rcases HX.o with V|⟨b,rfl,hb,R⟩
   ·rw[V]at J;simp at J
   rcases HY.o with V|⟨b',rfl,a1,G⟩
   ·rw[V]at E;simp at E
   have c1:=(q.o.cell (p:=⟨b,k,none⟩) hb).trans (R k J);have c2:=(q.o.cell (p:=⟨b',k,none⟩) a1).trans (G k E);clear R G
   by_cases hx:L[k]=M[k]
   ·have HN:=Hd hx;rw[hx]at c1;clear hx;generalize M[k]=X at c1 c2;have i0:(0:Int)<=(k:Int):=by omega
    have i1:(k:Int)<(L.length:Int):=by omega
    have i2:(k:Int)<(M.length:Int):=by omega
    go_wp2
    go_region
    all_goals (go_wp2_with fail)
    all_goals go_roundw
    all_goals (try (case rel=>exact⟨k+1,by omega,by go_num,fun j hj hj' h2=>by
     rcases J4.1 h2 with h|rfl
     ·exact HP.o j hj hj' h
     exact HN.o,⟨q.o.os,q.o.tape,q.o.output,q.o.size,q.o.block⟩⟩))
    all_goals (try (case measure=>simp[intOf];omega))
   have F:Hid (decide (L=M)=false):=by
    unfold Hid;rw[J0];rintro rfl;exact hx rfl
   have x1:=Un hx;have x2:(L[k]==M[k])=false:=by rw[Jc];exact hx
   have i0:(0:Int)<=(k:Int):=by omega
   have i1:(k:Int)<(L.length:Int):=by omega
   have i2:(k:Int)<(M.length:Int):=by omega
   generalize L[k]=X at c1 hx x1 x2;generalize M[k]=Y at c2 hx x1 x2
   go_wp2
   go_region
   all_goals (go_wp2_with fail)
   all_goals go_ret
   all_goals exact⟨Oz F.o.symm,⟨q.o.os,q.o.tape,q.o.output,q.o.size,q.o.block⟩⟩
  have F:Hid (decide (L=M)=true):=by
   unfold Hid;rw[Jv];exact Vi HL.o (fun j h1 h2=>HP.o j h1 h2 (by omega))
  have z3:decide ((k:Int)<(L.length:Int))=false:=dF (by omega)
  go_wp2
  go_ret
  exact⟨Oz F.o.symm,q.o⟩
 have zn:=Un (a:=(L.length:Int)) (b:=(M.length:Int)) (by omega);have z:((L.length:Int)==(M.length:Int))=false:=by rw[Jc];omega
 have F:Hid (decide (L=M)=false):=by unfold Hid;rw[J0];rintro rfl;exact hl rfl
 go_in
 go_wp2
 go_ret
 exact⟨Oz F.o.symm,Ji _ _⟩
theorem Hy{a b:List UInt8}(h:Oo a=Oo b):a=b:=by rw[<-Ov a,h,Ov]
theorem PY:t=u↔t.op=u.op/\t.sort=u.sort/\t.text=u.text/\t.a=u.a/\t.b=u.b/\t.kids=u.kids:=by
 cases t;cases u;simp
def Nl(t u:Tm):Bool:=decide (t.op=u.op/\t.sort=u.sort/\t.text=u.text/\t.a=u.a/\t.b=u.b/\t.kids=u.kids)
theorem Ut:Nl t u=true↔t=u:=by unfold Nl;rw[Jv,PY]
theorem Ga:Nl t u=false↔t≠u:=by rw[<-Bool.not_eq_true,Ut]
theorem Cc(v1 v2:Value)(t u:Tm)(w:World)(h1:IntsAt w v1 t.kids)(h2:IntsAt w v2 u.kids) :
 Calls prog 71 #[.agg #[.int .i64 t.op,.string (Oo t.sort),.string (Oo t.text),.int .i64 t.a,.int .i64 t.b,v1],.agg #[.int .i64 u.op,.string (Oo u.sort),.string (Oo u.text),.int .i64 u.a,.int .i64 u.b,v2]] w fun e w'=>e=.returned (.bool (Nl t u))/\Up w w':=by
 have K:=Hd h1;have O:=Hd h2;have G:=Hd (PY (t:=t) (u:=u));clear h1 h2;have j:Hid (Up w ((w.alloc (.cells #[.int .i64 t.op,.string (Oo t.sort),.string (Oo t.text),.int .i64 t.a,.int .i64 t.b,v1] 38)).alloc (.cells #[.int .i64 u.op,.string (Oo u.sort),.string (Oo u.text),.int .i64 u.a,.int .i64 u.b,v2] 38))):=((Ji _ _).alloc leR _).alloc (by rw[Ju];omega) _
 by_cases q:t.op=u.op
 ·have x0:(t.op==u.op)=true:=by rw[J2];exact q
  by_cases E:t.sort=u.sort
  ·have V:((Oo t.sort).toList==(Oo u.sort).toList)=true:=by rw[E];simp
   by_cases k2:t.text=u.text
   ·have Y:((Oo t.text).toList==(Oo u.text).toList)=true:=by rw[k2];simp
    by_cases k3:t.a=u.a
    ·have Z:(t.a==u.a)=true:=by rw[J2];exact k3
     by_cases k4:t.b=u.b
     ·have x4:(t.b==u.b)=true:=by rw[J2];exact k4
      have R:=Hd (And.intro q (And.intro E (And.intro k2 (And.intro k3 k4))));clear q E k2 k3 k4
      go_in
      go_wp2_with fail
      refine(YA v1 v2 t.kids u.kids _ (K.o.bl j.o) (O.o.bl j.o)).mono ?_;have F:Hid (Nl t u=decide (t.kids=u.kids)):=by
       unfold Hid;rw[J8,Ut,Jv,G.o];have:=R.o;exact⟨fun h=>h.2.2.2.2.2,fun h=>⟨this.1,this.2.1,this.2.2.1,this.2.2.2.1,this.2.2.2.2,h⟩⟩
      generalize decide (t.kids=u.kids)=B at F ⊢;rintro e w2 ⟨rfl,hb2⟩;have J:=j.up hb2;clear hb2
      go_wp2
      go_ret
      exact⟨Oz F.o.symm,J.o⟩
     have x4:(t.b==u.b)=false:=by rw[Jc];exact k4
     have F:Hid (Nl t u=false):=by unfold Hid;rw[Ga,Ne,G.o];exact fun h=>k4 h.2.2.2.2.1
     clear q E k2 k3 k4
     go_in
     go_wp2
     go_ret
     exact⟨Oz F.o.symm,j.o⟩
    have Z:(t.a==u.a)=false:=by rw[Jc];exact k3
    have F:Hid (Nl t u=false):=by unfold Hid;rw[Ga,Ne,G.o];exact fun h=>k3 h.2.2.2.1
    clear q E k2 k3
    go_in
    go_wp2
    go_ret
    exact⟨Oz F.o.symm,j.o⟩
   have Y:((Oo t.text).toList==(Oo u.text).toList)=false:=Q1 (fun e=>k2 (Hy e));have F:Hid (Nl t u=false):=by unfold Hid;rw[Ga,Ne,G.o];exact fun h=>k2 h.2.2.1
   clear q E k2
   go_in
   go_wp2
   go_ret
   exact⟨Oz F.o.symm,j.o⟩
  have V:((Oo t.sort).toList==(Oo u.sort).toList)=false:=Q1 (fun e=>E (Hy e));have F:Hid (Nl t u=false):=by unfold Hid;rw[Ga,Ne,G.o];exact fun h=>E h.2.1
  clear q E
  go_in
  go_wp2
  go_ret
  exact⟨Oz F.o.symm,j.o⟩
 have x0:(t.op==u.op)=false:=by rw[Jc];exact q
 have F:Hid (Nl t u=false):=by unfold Hid;rw[Ga,Ne,G.o];exact fun h=>q h.1
 clear q
 go_in
 go_wp2
 go_ret
 exact⟨Oz F.o.symm,j.o⟩
def Ed(T:List Tm)(t:Tm):Int:=match T.findIdx? (fun u=>Nl u t)with|none => -1|some i=>(i:Int)
theorem ZW(h:∀j (hj:j<T.length),T[j]≠t):Ed T t = -1:=by
 unfold Ed;rw[Zl.2];intro x hx;obtain⟨j,hj,rfl⟩:=Ya hx;exact Ga.2 (h j hj)
theorem ZJ{k:Nat}(hk:k<T.length)(h:T[k]=t)(hb:∀j (hj:j<T.length),j<k->T[j]≠t):Ed T t=(k:Int):=by
 unfold Ed;have:T.findIdx? (fun u=>Nl u t)=some k:=J9.2 ⟨hk,Ut.2 h,fun j hj e=>hb j (by omega) hj (Ut.1 e)⟩;rw[this]
theorem Cf(v vk:Value)(T:List Tm)(t:Tm)(w:World)(h:TermsAt w v T)(hk:IntsAt w vk t.kids) :
 Calls prog 38 #[v,.agg #[.int .i64 t.op,.string (Oo t.sort),.string (Oo t.text),.int .i64 t.a,.int .i64 t.b,vk]] w fun e w'=>e=.returned (.int .i64 (Ed T t))/\Up w w':=by
 obtain⟨p,c,rfl,h1,h2,h3⟩:=h;have HT:=Hd h3;have HK:=Hd hk;unfold maxLen at h2;clear h3 hk
 go_in
 go_wp2_with fail
 obtain⟨W1,G⟩:=O2 (w.alloc (.cells #[.int .i64 t.op,.string (Oo t.sort),.string (Oo t.text),.int .i64 t.a,.int .i64 t.b,vk] 38));have d0:Hid (Up w W1):=by unfold Hid;rw[<-G];exact Oy _ _
 have a7:Hid (W1.heap.size=w.heap.size+1):=by unfold Hid;rw[<-G];simp
 have d3:Hid (Bx W1 w.heap.size [.int .i64 t.op,.string (Oo t.sort),.string (Oo t.text),.int .i64 t.a,.int .i64 t.b,vk]):=by unfold Hid;rw[<-G];exact Oq w _ _
 rw[G];clear G
 go_loopw [8] (fun i wr=>∃k:Nat,k<=T.length/\i=.int .i64 (k:Nat)/\(∀j (h:j<T.length),j<k->T[j]≠t)/\Below (w.heap.size+1) W1 wr) (fun i _=>T.length - (intOf i).toNat)
 case atStart=>exact⟨0,Jp _,rfl,fun j _ h=>absurd h (Jz _),Ji _ _⟩
 obtain⟨k,hk,rfl,hp,O⟩:=hrel;have HP:=Hd hp;have K:=Hd O;have q:Hid (Up w wr):=d0.o.trans (O.mono (by omega));have b8:=d3.o.bl (N:=w.heap.size+1) (by omega) O;obtain⟨b0,b1,b2,b3,b4,b5⟩:=b8.k6;clear hp O b8
 by_cases R:k<T.length
 ·rcases HT.o with h0|⟨b,rfl,hb,b6⟩
  ·rw[h0]at R;simp at R
  obtain⟨k0,k1,k2,k3,k4,va,k5,b7⟩:=b6 k R;have c0:=(q.o.cell (p:=⟨b,k*6,none⟩) hb).trans k0;have c1:=(q.o.cell (p:=⟨b,k*6+1,none⟩) hb).trans k1;have c2:=(q.o.cell (p:=⟨b,k*6+2,none⟩) hb).trans k2;have c3:=(q.o.cell (p:=⟨b,k*6+3,none⟩) hb).trans k3;have c4:=(q.o.cell (p:=⟨b,k*6+4,none⟩) hb).trans k4;have c5:=(q.o.cell (p:=⟨b,k*6+5,none⟩) hb).trans k5;have a1:=Hd (b7.bl q.o);clear b6 k0 k1 k2 k3 k4 k5 b7;have HU:Hid (∃u:Tm,T[k]=u):=⟨_,rfl⟩;obtain⟨u,hu⟩:=HU.o;have Z:=Hd hu;rw[hu]at c0 c1 c2 c3 c4 a1;clear hu HU;have i0:(0:Int)<=(k:Int):=by omega
  have i1:(k:Int)<(T.length:Int):=by omega
  have E:Hid (Up wr wr.drew):=⟨rfl,rfl,rfl,leR,fun _ _=>rfl⟩;have a8:Hid (IntsAt wr vk t.kids):=HK.o.bl q.o
  by_cases ko:u.op=t.op
  ·have x0:(u.op==t.op)=true:=by rw[J2];exact ko
   clear ko
   cases hd:Nl u t
   ·have HN:Hid (T[k]≠t):=by unfold Hid;rw[Z.o];exact Ga.1 hd
    have Y:=Hd hd;clear hd
    go_wp2
    go_region_with (go_at_call 71;refine(Cc va vk u t _ (a1.o.bl E.o) (a8.o.bl E.o)).mono ?_;rw[Y.o];rintro e w3 ⟨rfl,J⟩;have V:=Hd J;clear J)
    all_goals (go_wp2_with fail)
    all_goals go_roundw
    all_goals (try (case rel=>exact⟨k+1,by omega,by go_num,fun j hj h2=>by
     rcases J4.1 h2 with h|rfl
     ·exact HP.o j hj h
     exact HN.o,K.o.trans ((E.o.trans V.o).mono (by have:=K.o.size;have:=a7.o;omega))⟩))
    all_goals (try (case measure=>simp[intOf];omega))
   have HR:Hid (Ed T t=(k:Int)):=ZJ R (by rw[Z.o];exact Ut.1 hd) HP.o;have Y:=Hd hd;clear hd
   go_wp2
   go_region_with (go_at_call 71;refine(Cc va vk u t _ (a1.o.bl E.o) (a8.o.bl E.o)).mono ?_;rw[Y.o];rintro e w3 ⟨rfl,J⟩;have V:=Hd J;clear J)
   all_goals (go_wp2_with fail)
   all_goals go_ret
   all_goals exact⟨O8 HR.o.symm,q.o.trans ((E.o.trans V.o).mono q.o.size)⟩
  have x0:(u.op==t.op)=false:=by rw[Jc];exact ko
  have HN:Hid (T[k]≠t):=by unfold Hid;rw[Z.o];rintro rfl;exact ko rfl
  clear ko
  go_wp2_with fail
  first|go_region|fail "no way"
  all_goals (go_wp2_with fail)
  all_goals go_roundw
  all_goals (try (case rel=>exact⟨k+1,by omega,by go_num,fun j hj h2=>by
   rcases J4.1 h2 with h|rfl
   ·exact HP.o j hj h
   exact HN.o,K.o.trans (E.o.mono (by have:=K.o.size;have:=a7.o;omega))⟩))
  all_goals (try (case measure=>simp[intOf];omega))
 have HR:Hid (Ed T t = -1):=ZW fun j hj=>HP.o j hj (by omega);have z:decide ((k:Int)<(T.length:Int))=false:=dF (by omega)
 go_wp2
 go_ret
 exact⟨O8 HR.o.symm,q.o⟩
end Go.Proofs.YtfkagjelljnpdaaGreatDoor
namespace Go.Proofs.YtfkagjelljnpdaaGreatDoor
open ChangeShapes WideShapes ChangeAt RowKit
def Og(L:List (List UInt8))(n:List UInt8):Option Nat:=L.findIdx? (fun x=>decide (x=n))
theorem idxF_some(L:List (List UInt8))(n:List UInt8):(Og L n).isSome=On L n:=by
 unfold Og On;rw[J8,Jv,List.findIdx?_isSome];simp
theorem QC{L:List (List UInt8)}(h:∀n∈L,K1 n=true):Oh (Og L)=On L:=by
 funext n
 unfold Oh;rw[idxF_some];unfold On
 by_cases hn:n∈L
 ·have:=h n hn;simp only[K1,Jw,Z8]at this;simp[hn,this.2]
 simp[hn]
end Go.Proofs.YtfkagjelljnpdaaGreatDoor
namespace Go.Proofs.YtfkagjelljnpdaaGreatDoor
open ChangeShapes WideShapes ChangeAt RowKit Proofs.Tryz
variable {W w:World}{b n:Nat}{e:TypeId}{v:Value}{xs:List Value}
def strsC(L:List (List UInt8)):List Value:=L.map (fun x=>.string (Oo x))
theorem V6{base:Nat}{size:Nat}(h:w.ownsRow base e size v n xs):∃a c,v=.slice a n c:=by
 rcases h.2 with⟨rfl,rfl⟩|⟨g,j,_,rfl,_⟩
 ·exact⟨_,_,rfl⟩
 exact⟨_,_,rfl⟩
theorem own_other'{W':World}{base:Nat}{sz:Nat}(h:W.ownsRow base e sz v n xs)(hk:∀g,v.ownBlock=some g->W'.heap[g]? = W.heap[g]?):W'.ownsRow base e sz v n xs:=by
 refine⟨h.1,?_⟩
 rcases h.2 with q|⟨g,j,cur,rfl,E,G,J⟩
 ·exact .inl q
 exact .inr ⟨g,j,cur,rfl,E,(hk g rfl).trans G,J⟩
theorem Ob{base:Nat}{sz:Nat}(h:W.ownsRow base e sz v n xs):∀g,v.ownBlock=some g->∃c fz,W.heap[g]? = some (.cells c e fz):=by
 intro g j
 rcases h.2 with⟨rfl,_⟩|⟨G,q,cur,rfl,_,E,_⟩
 ·cases j
 cases j;exact⟨cur,_,E⟩
theorem F6(h:n<=1000000):(Lit.int .i64 (n:Int)).wf=true:=by
 have j:IntKind.i64.min = -9223372036854775808:=rfl;have q:IntKind.i64.max=9223372036854775807:=rfl;simp only[Lit.wf,j,q,Jw,J1];omega
theorem EM:(prog.info? 9).map (fun i=>(i.zero,i.size,i.bytes))=some (some (.string ⟨#[]⟩),1,16):=by kernel_rfl
theorem Xr:∃i:TypeInfo,prog.info? 9=some i/\i.zero=some (.string ⟨#[]⟩)/\i.size=1/\i.bytes=16:=info_parts EM
theorem Nt{ops:Array Oper}{rest:List Oper}{o:Oper}{a:Act}{Q:Exit->Act->World->Prop}{W:World}{t:ByteArray}{base n:Nat}{v:Value}{xs:List Value}(hgd:o.guard=none)(s y:Operand)
 (ho:o.op=.call { callee:=.builtin .append,args:=#[s,y],argTypes:=#[23,23] }) (hs:a.eval s=v) (hown:W.ownsRow base 9 1 v n xs)
 (H:Nat) (hx:a.eval y=.slice (some ⟨H,0,none⟩) 1 1) (hH:W.heap.size=H) (hn:n<=1000000000) (hbase:base<=W.heap.size)
 (h:∀g cap W',W'.ownsRow base 9 1 (.slice (some ⟨g,0,none⟩) (n+1) cap) (n+1) (xs++[.string t])->(W.alloc (.cells #[.string t] 9)).grownBy W' v.ownBlock->(v.ownBlock=some g∨g=W.heap.size+1)->wpList prog ops Q rest (a.put o.dst (.slice (some ⟨g,0,none⟩) (n+1) cap)) W') :
 wpList prog ops Q (o::rest) a (W.alloc (.cells #[.string t] 9)):=by
 subst hH;obtain⟨i0,q,E,G,J⟩:=Xr;refine wpList_append_lies _ hgd s y 23 ho base 9 i0 (.string ⟨#[]⟩) 1 16 underlying23 q E G J rfl (by decide) v n xs hs (hown.alloc _) ⟨W.heap.size,0,none⟩ 1 1 [.string t] hx rfl
  (World.news_of_block (cs:=#[.string t]) (t:=9) (fr:=(0,0)) (heap_alloc_new W _)) (by simp[Value.oneCell']) (by decide) (by unfold maxLen;omega) (by omega) (by simp;omega) _ rfl ?_
 intro g cap W' K O j _;refine h g cap W' K O ?_
 rcases j with j|j
 ·exact .inl j
 refine .inr ?_;rw[j];simp
theorem Bx.c7{g:Nat}{v0 v1 v2 v3 v4 v5 v6:Value}(h:Bx W g [v0,v1,v2,v3,v4,v5,v6]):W.cell? ⟨g,0,none⟩=some v0/\W.cell? ⟨g,1,none⟩=some v1/\W.cell? ⟨g,2,none⟩=some v2/\W.cell? ⟨g,3,none⟩=some v3/\W.cell? ⟨g,4,none⟩=some v4/\W.cell? ⟨g,5,none⟩=some v5/\W.cell? ⟨g,6,none⟩=some v6:=⟨h.cell 0,h.cell 1,h.cell 2,h.cell 3,h.cell 4,h.cell 5,h.cell 6⟩
theorem Gk.lt{f:List UInt8->Option Nat}(h:Gk w b f):b<w.heap.size:=by
 obtain⟨n,D,_,⟨j,cl,hm,_⟩,_⟩:=h;exact(Jo.1 hm).1
theorem UA{g:Nat}{f:List UInt8->Option Nat}{l:List Value}(h:Gk w b f)(hx:Bx w g l):b≠g:=by
 rintro rfl;obtain⟨n,D,_,⟨j,cl,hm,_⟩,_⟩:=h;obtain⟨t,hx⟩:=hx;rw[hm]at hx;cases hx
def Ue(w:World)(b n:Nat)(f:List UInt8->Option Nat):Prop:=
 ∃D:DataW Unit,w.ownsMap prog 9 (plainElem prog 3) b n D/\∀s,Maps.has D (.string s)=(f s).isSome/\∀i,f s=some i->D.atKey (.string s) (.lit (.int .i64 0))=.lit (.int .i64 (i:Nat))
theorem Ue.to{f:List UInt8->Option Nat}(h:Ue w b n f)(hn:n<=1000):Gk w b f:=by
 obtain⟨D,j,q⟩:=h;exact⟨n,D,by omega,j,q⟩
theorem Ue.low{w':World}{N:Nat}{f:List UInt8->Option Nat}(h:Ue w b n f)(hb:Below N w w')(hN:b<N):Ue w' b n f:=by
 obtain⟨D,⟨j,cl,hm,E⟩,q⟩:=h;exact⟨D,⟨j,cl,(hb.block b hN).trans hm,E⟩,q⟩
theorem EQ{L:List (List UInt8)}{s:List UInt8}(h:Og L s=none)(t:List UInt8):Og (L++[s]) t=if t=s then some L.length else Og L t:=by
 unfold Og at h ⊢;rw[List.findIdx?_append]
 by_cases j:t=s
 ·subst j;rw[h,if_pos rfl];simp[List.findIdx?_cons]
 rw[if_neg j];have:s≠t:=fun e=>j e.symm
 cases q:List.findIdx? (fun x=>decide (x=t)) L with
 | none=>simp[List.findIdx?_cons,this]
 | some i=>simp
theorem Ue.put{L:List (List UInt8)}{D:DataW Unit}(hD:∀s,Maps.has D (.string s)=(Og L s).isSome/\∀i,Og L s=some i->D.atKey (.string s) (.lit (.int .i64 0))=.lit (.int .i64 (i:Nat)))(hm:Maps.IsMap D){s:List UInt8}(hs:Og L s=none)(hown:w.ownsMap prog 9 (plainElem prog 3) b n (D.put (.string s) (.lit (.int .i64 (L.length:Nat))))):Ue w b n (Og (L++[s])):=by
 refine⟨_,hown,fun t=>?_⟩;rw[EQ hs]
 by_cases h:t=s
 ·subst h;rw[if_pos rfl];refine⟨Maps.has_put_same hm Gg _,fun i hi=>?_⟩;cases hi;exact Maps.atKey_put_same hm Gg _ _
 rw[if_neg h];have j:(Lit.string t)≠Lit.string s:=fun e=>h (by cases e;rfl);rw[Maps.has_put_other j,Maps.atKey_put_other j];exact hD t
structure AddedS(base kb sb fb n:Nat)(L M:List (List UInt8))(v0 vT v5 v6:Value)(q:Option Addr)(m d:Nat)(w w':World):Prop where
 row:∃v1,Bx w' kb [v1,.slice q m d,vT,.map (some sb),.map (some fb),v5,v6]/\w'.ownsRow base 9 1 v1 M.length (strsC M)/\v1.ownBlock≠some kb
 names:Ue w' sb (n+1) (Og M)
 os:w'.os=w.os
 tape:w'.tape=w.tape
 output:w'.output=w.output
 size:w.heap.size<=w'.heap.size
 block:∀k,k<w.heap.size->k≠kb->k≠sb->v0.ownBlock≠some k->w'.heap[k]? = w.heap[k]?
theorem OO(base kb sb fb n:Nat)(L:List (List UInt8))(f2:List UInt8->Option Nat)(v0 vT v5 v6:Value)(q:Option Addr)(m d:Nat)(s:ByteArray)(w:World)
 (hx:Bx w kb [v0,.slice q m d,vT,.map (some sb),.map (some fb),v5,v6]) (hown:w.ownsRow base 9 1 v0 L.length (strsC L)) (hS:Ue w sb n (Og L)) (hnn:n<=1000) (hF:Gk w fb f2) (hs:s.size<=1048576) (hb:base<=w.heap.size)
 (hrk:v0.ownBlock≠some kb) (hf:Eb (Og L) f2 s.data.toList=false) (hm:L.length+m<300) :
 Calls prog 79 #[.pointer (some ⟨kb,0,none⟩),.string s] w fun e w'=>e=.returned (.tuple #[.int .i64 (L.length:Nat),.int .i64 0])/\AddedS base kb sb fb n L (L++[s.data.toList]) v0 vT v5 v6 q m d w w':=by
 obtain⟨p0,c0,rfl⟩:=V6 hown;have HX:=Hd hx;have b3:=Hd hown;have e6:=Hd hS;have HS:=Hd (hS.to hnn);have HF:=Hd hF;have e3:Hid (Og L s.data.toList=none):=by
  unfold Hid;simp only[Eb,Bool.or_eq_false_iff]at hf
  cases h:Og L s.data.toList with
  | none=>rfl
  | some i=>rw[h]at hf;simp at hf
 have f9:kb<w.heap.size:=hx.lt;have d4:=Hd (hS.to hnn).lt;have g7:=Hd hF.lt;have e1:Hid (Gj (Og L) f2 s.data.toList=0):=by unfold Hid Gj;rw[hf];rfl
 clear hx hown hS hF hf
 go_in
 go_wp2_with fail
 refine(Nv kb sb fb (Og L) f2 s _ HX.o.c7.2.2.2.1 HX.o.c7.2.2.2.2.1 HS.o HF.o hs).mono ?_;rw[e1.o];rintro e w1 ⟨rfl,rfl⟩
 go_wp2_with fail
 refine(Qq kb p0 q L.length c0 m d _ HX.o.c7.1 HX.o.c7.2.1 (by omega) (by omega)).mono ?_;rw[Jd (by omega)];rintro e w2 ⟨rfl,hb2⟩;have b0:=Hd (HX.o.bl f9 hb2);have V:=Hd (own_other' b3.o (fun g hg=>hb2.block g (b3.o.lt g hg).2));have d3:=Hd (HS.o.bl hb2 d4.o);have d0:=Hd hb2;clear hb2;have a0:=b0.o.cell 0;have a3:=b0.o.cell 3;simp only[Jr,Jy]at a0 a3
 go_wp2_with fail
 refine(Eh s _ hs).mono ?_;rintro e w3 ⟨rfl,Y⟩;have b9:=Hd (b0.o.bl b0.o.lt Y);have J:=Hd (own_other' V.o (fun g hg=>Y.block g (V.o.lt g hg).2));have e5:=Hd (d3.o.bl Y d3.o.lt);have j:=Hd (d0.o.trans (Y.mono d0.o.size));clear Y a0 a3;obtain⟨a0,a1,a2,a3,a4,a5,a6⟩:=b9.o.c7;obtain⟨D,a8,hD⟩:=(e6.o.low (j.o) d4.o);have b7:=Hd a8;have e0:=Hd hD;clear a8 hD
 go_wp2_with (at_mapUpdate;refine wpList_mapUpdate_own _ rfl _ _ _ 56 rfl 9 3 G2 underlying56 (plainElem prog 3) sb n D rfl b7.o (by unfold maxLen;omega) _ _ _ rfl rfl (Eo s (by unfold maxLen;omega)) (.lit (.int .i64 (L.length:Nat))) [] (plainElem_int underlying3 ?wf) ?_)
 case wf=>exact F6 (by omega)
 intro w4 Z K;have d9:sb≠kb:=UA e5.o b9.o;have b6:(Value.slice p0 L.length c0).ownBlock≠some sb:=fun e=>by
  obtain⟨cs,fz,hk⟩:=Ob J.o sb e;obtain⟨es,cl,E,_⟩:=b7.o;rw[hk]at E
  cases E
 have b1:=Hd (Dm b9.o K (Ne.symm d9));have b8:=Hd (own_other' J.o (fun g hg=>K.block g (J.o.lt g hg).2 (fun e=>b6 (hg.trans e))));have d1:=Hd Z;have G:=Hd K;clear Z K a0 a1 a2 a3 a4 a5 a6;obtain⟨a0,a1,a2,a3,a4,a5,a6⟩:=b1.o.c7;have r0:=b1.o.fz 0
 go_wp2_with (at_builtin;refine Nt (t:=s) (n:=L.length) (base:=base) (xs:=strsC L) rfl _ _ rfl rfl ?own _ rfl ?hH ?hn ?hb ?_)
 case own=>exact b8.o
 case hH=>rfl
 case hn=>omega
 case hb=>exact Jm (Jm hb j.o.size) G.o.size
 intro g5 c5 w5 a7 O b4;have g3:kb<w4.heap.size:=b1.o.lt;have d8:sb<w4.heap.size:=by
  obtain⟨es,cl,E,_⟩:=d1.o;exact(Jo.1 E).1
 have b2:Bx w5 kb [.slice p0 L.length c0,.slice q m d,vT,.map (some sb),.map (some fb),v5,v6]:=by
  obtain⟨ty,h⟩:=b1.o.alloc (.cells #[.string s] 9);exact⟨ty,(O.block kb (by simp;omega) (fun e=>hrk e.symm)).trans h⟩
 have d7:Ue w5 sb (n+1) (Og (L++[s.data.toList])):=by
  obtain⟨es,cl,E,c6⟩:=d1.o;exact Ue.put e0.o b7.o.isMap e3.o ⟨es,cl,(O.block sb (by simp;omega) (fun e=>b6 e.symm)).trans (((Oy w4 _).block sb d8).trans E),c6⟩
 have b5:(Value.slice (some ⟨g5,0,none⟩) (L.length+1) c5).ownBlock≠some kb:=fun e=>by
  have e':g5=kb:=Option.some.inj e
  rcases b4 with h|h
  ·rw[e']at h;exact hrk h
  omega
 obtain⟨y0,y1,y2,y3,y4,y5,y6⟩:=b2.c7;have z0:=b2.fz 0;have e7:=Hd b2;have e2:=Hd d7;have e4:=Hd a7;have d2:=Hd b5;have R:=Hd O;clear b2 d7 a7 O b4 b5 a0 a1 a2 a3 a4 a5 a6 r0
 go_wp2_with fail
 refine Jl (v:=.tuple #[.int .i64 (L.length:Nat),.int .i64 0]) ?_ rfl ⟨rfl,?_⟩
 ·simp[results,results79,go_sem]
 have hL:(L++[s.data.toList]).length=L.length+1:=by simp
 have hC:strsC (L++[s.data.toList])=strsC L++[.string s]:=by simp[strsC,Uc]
 have c8:∀k,k≠kb->(w5.setCell ⟨kb,0,none⟩ (.slice (some ⟨g5,0,none⟩) (L.length+1) c5)).heap[k]? = w5.heap[k]? := fun k hk=>Jh w5 ⟨kb,0,none⟩ _ k hk;refine⟨⟨_,e7.o.set 0 _,?_,d2.o⟩,?_,?_,?_,?_,?_,?_⟩
 ·rw[hL,hC];exact own_other' e4.o (fun g hg=>c8 g (fun e=>d2.o (by rw[hg,e])))
 ·obtain⟨D',⟨es,cl,E,c6⟩,f0⟩:=e2.o;exact⟨D',⟨es,cl,(c8 sb d9).trans E,c6⟩,f0⟩
 ·exact R.o.os.trans (G.o.os.trans j.o.os)
 ·exact R.o.tape.trans (G.o.tape.trans j.o.tape)
 ·exact R.o.output.trans (G.o.output.trans j.o.output)
 ·have h5:=R.o.size;have h4:=G.o.size;have h3:=j.o.size;simp only[World.setCell,Zf];simp at h5;omega
 intro k hk f1 f5 f8;have h4:=G.o.size;have h3:=j.o.size;rw[c8 k f1,R.o.block k (by simp;omega) (fun e=>f8 e.symm),(Oy w4 _).block k (by omega),G.o.block k (by omega) (fun e=>f5 (Option.some.inj e)),j.o.block k hk]
end Go.Proofs.YtfkagjelljnpdaaGreatDoor
