import Derived.Test.YtfkagjelljnpdaaGreatDoorP11
import Derived.Test.YtfkagjelljnpdaaGreatDoorP10
import Derived.Laws.Strings3
import Derived.Laws.Bits64b
set_option maxRecDepth 100000
set_option maxHeartbeats 4000000
namespace Go.Proofs.YtfkagjelljnpdaaGreatDoor.Q
open ChangeShapes WideShapes ChangeAt RowKit
theorem EK(l:List UInt8)(a:Nat)(h:1<=a):1<=l.foldl (fun a c=>a*10+(c.toNat - 48)) a:=by
 induction l generalizing a with
 | nil=>exact h
 | cons c l ih=>exact ih _ (by show 1<=a*10+(c.toNat - 48);omega)
theorem DT(c:UInt8)(l:List UInt8)(h:49<=c.toNat):1<=num (c::l):=EK l _ (by show 1<=0*10+(c.toNat - 48);omega)
theorem DQ(d:List UInt8)(c:UInt8)(l:List UInt8)(hd:d=c::l)(hc:49<=c.toNat):O0 (Uy d)≠[]:=by
 obtain⟨k,h⟩:∃k,I6 d.length=k+1:=⟨I6 d.length - 1,by rw[hd];unfold I6;simp;omega⟩;have hm:1<=d.length - 9*k/\d.length - 9*k<=9:=by unfold I6 at h;rw[hd]at h ⊢;simp at h ⊢;omega
 have hp:chunk d k≠0:=by
  unfold chunk;rw[show d.length - 9*k - 9=0 by omega,Y9];obtain⟨m,j⟩:∃m,d.length - 9*k=m+1:=⟨d.length - 9*k - 1,by omega⟩;rw[j,hd,List.take_succ_cons];have:=DT c (l.take m) hc;omega
 unfold Uy;rw[h,Yv,Yk,Za,Zq,Ev _ _ hp];simp
theorem IR(t:ByteArray)(h:Ol t=true)(h0:(t.toList==[48])=false):G9 t≠0:=by
 intro K;have hl:UI t=[]:=(Wk _ _ (Gp _)).1 K;unfold Ol at h;rw[h0]at h;simp only[Jw,Bool.or_false,J1,Z8,J0,Jx]at h;obtain⟨⟨⟨O,_⟩,q⟩,E⟩:=h
 cases hd:(dgs t).data.toList with
 | nil=>
   have:(dgs t).size=0:=by show(dgs t).data.size=0;rw[<-Array.length_toList,hd];rfl
   omega
 | cons c l=>
   rw[hd]at q E;have G:=q c (by simp);simp[E5]at G;have j:c≠48:=by simpa using E
   have J:c.toNat≠48:=fun e=>j (UInt8.toNat_inj.1 e);exact DQ _ c l hd (by omega) hl
end Go.Proofs.YtfkagjelljnpdaaGreatDoor.Q
namespace Go.Proofs.YtfkagjelljnpdaaGreatDoor.Q
open ChangeShapes WideShapes ChangeAt RowKit Proofs.Tryz
variable {B n:Nat}{W w:World}{z:Value}
def Wm(B:Nat)(w:World)(z:Value)(x y:Int):Prop:=∃(p0:Int) (pn:Bool) (pa:Option Addr) (pl pc:Nat) (q0:Int) (qn:Bool) (qa:Option Addr) (ql qc:Nat),z=.agg #[.int .i64 p0,.bool pn,.slice pa pl pc,.int .i64 q0,.bool qn,.slice qa ql qc] /\
 Gs B w (.agg #[.int .i64 p0,.bool pn,.slice pa pl pc]) x 1000/\Gs B w (.agg #[.int .i64 q0,.bool qn,.slice qa ql qc]) y 1000
theorem Gs.keeps{x:Int}{g h:Nat}(hl:Gs B w z x n)(n1:Hi w g)(n2:Hi w h)(k:Et g h w W):Gs B W z x n:=by
 obtain⟨neg,t,⟨j,q,E⟩,hx⟩:=hl;refine⟨neg,t,⟨j,q,?_⟩,hx⟩
 rcases E with⟨G,v,K,J⟩|E
 ·exact .inl ⟨G,v,K,J.keeps n1 n2 k⟩
 exact .inr E
theorem Gs.mono'{B':Nat}{x:Int}{n':Nat}(h:Gs B w z x n)(hb:B'<=B)(hn:n<=n'):Gs B' w z x n':=by
 obtain⟨neg,t,j,q,E⟩:=h;exact⟨neg,t,j.mono hb,q,by omega⟩
theorem Gs.shape'{x:Int}(h:Gs B w z x n):∃(z0:Int) (zn:Bool) (za:Option Addr) (zl zc:Nat),z=.agg #[.int .i64 z0,.bool zn,.slice za zl zc]:=by
 obtain⟨neg,t,j,_⟩:=h;exact j.shape
def W6(W:World)(g:Nat)(u0 u1 u2 u3 u4 u5:Value):World:=(((((W.setCell ⟨g,0,none⟩ u0).setCell ⟨g,1,none⟩ u1).setCell ⟨g,2,none⟩ u2).setCell ⟨g,3,none⟩ u3).setCell ⟨g,4,none⟩ u4).setCell ⟨g,5,none⟩ u5
theorem QZ(W:World)(g:Nat)(u0 u1 u2 u3 u4 u5:Value):Et g g W (W6 W g u0 u1 u2 u3 u4 u5):=
 Et.setCell (Et.setCell (Et.setCell (Et.setCell (Et.setCell (Et.setCell (Et.refl g g W) ⟨g,0,none⟩ u0 (Or.inl rfl)) ⟨g,1,none⟩ u1 (Or.inl rfl)) ⟨g,2,none⟩ u2 (Or.inl rfl)) ⟨g,3,none⟩ u3 (Or.inl rfl)) ⟨g,4,none⟩ u4 (Or.inl rfl)) ⟨g,5,none⟩ u5 (Or.inl rfl)
theorem MK{N:Nat}(h:Below N w W)(g:Nat)(hg:N<=g)(u0 u1 u2 u3 u4 u5:Value):Below N w (W6 W g u0 u1 u2 u3 u4 u5):=
 (((((h.setCell (p:=⟨g,0,none⟩) hg u0).setCell (p:=⟨g,1,none⟩) hg u1).setCell (p:=⟨g,2,none⟩) hg u2).setCell (p:=⟨g,3,none⟩) hg u3).setCell (p:=⟨g,4,none⟩) hg u4).setCell (p:=⟨g,5,none⟩) hg u5
theorem Bx.put6{g:Nat}{a b c d e f:Value}(h:Bx W g [a,b,c,d,e,f])(u0 u1 u2 u3 u4 u5:Value):Bx (W6 W g u0 u1 u2 u3 u4 u5) g [u0,u1,u2,u3,u4,u5]:=(((((h.set 0 u0).set 1 u1).set 2 u2).set 3 u3).set 4 u4).set 5 u5
theorem NY(B:Nat)(a0:Int)(an:Bool)(aa:Option Addr)(al ac:Nat)(x:Int)(w:World)(hBw:B<=w.heap.size)(h:Gs B w (.agg #[.int .i64 a0,.bool an,.slice aa al ac]) x 1000) :
 Calls prog 112 #[.agg #[.int .i64 a0,.bool an,.slice aa al ac]] w fun e w'=>∃z,e=.returned z/\Wm B w' z x 1/\Up w w':=by
 have HN:=Hd h;have b2:=Hd hBw;clear h hBw;obtain⟨Z,q⟩:=O2 ((w.alloc (.cells #[.int .i64 a0,.bool an,.slice aa al ac] 131)).alloc (.cells #[.int .i64 0,.bool false,.slice none 0 0,.int .i64 0,.bool false,.slice none 0 0] 149));have b3:=Hd q;have j:Hid (Up w Z):=by
  unfold Hid
  rw[<-q];exact Iy (Oy _ _) _
 have J:Bx Z w.heap.size [.int .i64 a0,.bool an,.slice aa al ac]:=by rw[<-q];exact(Oq w _ _).alloc _
 have a1:Bx Z (w.heap.size+1) [.int .i64 0,.bool false,.slice none 0 0,.int .i64 0,.bool false,.slice none 0 0]:=by
  rw[<-q];have h:=Oq (w.alloc (.cells #[.int .i64 a0,.bool an,.slice aa al ac] 131)) [.int .i64 0,.bool false,.slice none 0 0,.int .i64 0,.bool false,.slice none 0 0] 149;rw[Ju]at h;exact h
 have HX:Hid (∀W,Up Z W->Bx W w.heap.size [.int .i64 a0,.bool an,.slice aa al ac]/\Bx W (w.heap.size+1) [.int .i64 0,.bool false,.slice none 0 0,.int .i64 0,.bool false,.slice none 0 0]):=fun W hW=>⟨J.bl J.lt hW,a1.bl a1.lt hW⟩;clear q;obtain⟨k0,k1,k2⟩:=J.k3;clear J a1
 go_in
 go_upto_region 1 with fail
 rw[b3.o]
 go_region_with (first
  | (go_at_call 76
     refine(Xc 1 _ (by decide) (by decide)).mono ?_;rintro e w1 ⟨z,rfl,hz,a8⟩;have E:Hid (Up Z w1):=(Ji _ Z).drew.trans a8;obtain⟨K,Y,O,V,R,rfl⟩:=hz.shape';have HZ:Hid (Gs Z.heap.size w1 (.agg #[.int .i64 K,.bool Y,.slice O V R]) 1 3):=hz;obtain⟨b1,a7⟩:=HX.o w1 E.o;obtain⟨j0,j1,j2⟩:=b1.k3;obtain⟨r0,r1,r2,r3,r4,r5⟩:=a7.k6;obtain⟨f0,f1,f2,f3,f4,f5⟩:=a7.f6;clear hz a8 b1 a7))
 all_goals
  try simp only[List.getElem_toArray,List.getElem_cons_succ,Vl,Act.put,Ja,Jf,Je]
  go_wp2
  have b0:=(HX.o w1 E.o).2;have G:Hi w1 (w.heap.size+1):=Xm b0 (by simp);have hk:=QZ w1 (w.heap.size+1) (.int .i64 a0) (.bool an) (.slice aa al ac) (.int .i64 K) (.bool Y) (.slice O V R);have b5:=(HN.o.bl (j.o.trans (E.o.mono j.o.size))).keeps G G hk;have b6:=(HZ.o.mono' (B':=B) (n':=1000) (by have:=b2.o;have:=j.o.size;omega) (by omega)).keeps G G hk;have b4:=MK (j.o.trans (E.o.mono j.o.size)) (w.heap.size+1) (Y8 _) (.int .i64 a0) (.bool an) (.slice aa al ac) (.int .i64 K) (.bool Y) (.slice O V R);have hZ:=b0.put6 (.int .i64 a0) (.bool an) (.slice aa al ac) (.int .i64 K) (.bool Y) (.slice O V R);have b7:(((((w1.setCell ⟨w.heap.size+1,0,none⟩ (.int .i64 a0)).setCell ⟨w.heap.size+1,1,none⟩ (.bool an)).setCell ⟨w.heap.size+1,2,none⟩ (.slice aa al ac)).setCell ⟨w.heap.size+1,3,none⟩ (.int .i64 K)).setCell ⟨w.heap.size+1,4,none⟩ (.bool Y)).setCell ⟨w.heap.size+1,5,none⟩ (.slice O V R)=W6 w1 (w.heap.size+1) (.int .i64 a0) (.bool an) (.slice aa al ac) (.int .i64 K) (.bool Y) (.slice O V R):=rfl;rw[b7];generalize W6 w1 (w.heap.size+1) (.int .i64 a0) (.bool an) (.slice aa al ac) (.int .i64 K) (.bool Y) (.slice O V R)=W9 at *;obtain⟨m0,m1,m2,m3,m4,m5⟩:=hZ.k6;refine Jl (v:=.agg #[.int .i64 a0,.bool an,.slice aa al ac,.int .i64 K,.bool Y,.slice O V R]) ?_ rfl ⟨_,rfl,⟨a0,an,aa,al,ac,K,Y,O,V,R,rfl,b5,b6⟩,b4⟩;simp[results,results112,go_sem,m0,m1,m2,m3,m4,m5]
end Go.Proofs.YtfkagjelljnpdaaGreatDoor.Q
namespace Go.Proofs.YtfkagjelljnpdaaGreatDoor.Q
open ChangeShapes WideShapes ChangeAt RowKit
theorem UH{B:Nat}{w:World}{z0:Int}{zn:Bool}{za:Option Addr}{zl zc:Nat}{neg:Bool}{t:List Nat}(hz:Q5 B w (.agg #[.int .i64 z0,.bool zn,.slice za zl zc]) neg t):(zl=0/\t.length<=2)∨(zl=t.length/\2<t.length/\zl<=maxLen):=by
 obtain⟨_,_,h⟩:=hz
 rcases h with⟨h,v,e,p,c,rfl,hl,j,_⟩|⟨h,e⟩
 ·simp at e;exact .inr ⟨e.2.2.2.1,h,by omega⟩
 simp at e;exact .inl ⟨e.2.2.2.1,h⟩
theorem Wm.bl{B:Nat}{w w':World}{z:Value}{x y:Int}(h:Wm B w z x y)(hb:Up w w'):Wm B w' z x y:=by
 obtain⟨E,K,G,pl,J,O,Z,R,Y,V,e,j,q⟩:=h;exact⟨E,K,G,pl,J,O,Z,R,Y,V,e,j.bl hb,q.bl hb⟩
theorem UK(t:List Nat):Il t<=9*t.length+1:=by
 have:=Pz t;unfold Il;split<;>omega
end Go.Proofs.YtfkagjelljnpdaaGreatDoor.Q
namespace Go.Proofs.YtfkagjelljnpdaaGreatDoor.Q
open ChangeShapes WideShapes ChangeAt RowKit Proofs.Tryz
theorem EJ(B:Nat)(p0:Int)(pn:Bool)(pa:Option Addr)(pl pc:Nat)(q0:Int)(qn:Bool)(qa:Option Addr)(ql qc:Nat)(n1 n2:Bool)(t1 t2:List Nat)(w:World)(hBw:B<=w.heap.size)
 (hz1:Q5 B w (.agg #[.int .i64 p0,.bool pn,.slice pa pl pc]) n1 t1) (hz2:Q5 B w (.agg #[.int .i64 q0,.bool qn,.slice qa ql qc]) n2 t2) (h1:t1.length<=600) (h2:t2.length<=600) :
 Calls prog 87 #[.agg #[.int .i64 p0,.bool pn,.slice pa pl pc,.int .i64 q0,.bool qn,.slice qa ql qc],.int .i64 30] w fun e w'=>e=.returned (.bool (decide (Il t1<=30/\Il t2<=30)))/\Up w w':=by
 have b8:=UH hz1;have b9:=UH hz2;have d8:=Hd hz1;have d9:=Hd hz2;have b7:=Hd hBw;clear hz1 hz2 hBw;obtain⟨W0,R⟩:=O2 (w.alloc (.cells #[.int .i64 p0,.bool pn,.slice pa pl pc,.int .i64 q0,.bool qn,.slice qa ql qc] 149));have d7:=Hd R;have h:Hid (Up w W0):=by unfold Hid;rw[<-R];exact Oy _ _
 have Y:Bx W0 w.heap.size [.int .i64 p0,.bool pn,.slice pa pl pc,.int .i64 q0,.bool qn,.slice qa ql qc]:=by rw[<-R];exact Oq w _ _
 have HX:Hid (∀W,Up W0 W->Bx W w.heap.size [.int .i64 p0,.bool pn,.slice pa pl pc,.int .i64 q0,.bool qn,.slice qa ql qc]):=fun W hW=>Y.bl Y.lt hW;obtain⟨k0,k1,k2⟩:=Y.k3;clear R Y;have a1:Hid (Il t1<=9*t1.length+1):=UK t1;have a7:Hid (Il t2<=9*t2.length+1):=UK t2;obtain⟨d1,V⟩:∃d,Il t1=d:=⟨_,rfl⟩;obtain⟨d2,E⟩:∃d,Il t2=d:=⟨_,rfl⟩;have d4:=Hd V;have d5:=Hd E;rw[V]at a1;rw[E]at a7;rw[V,E];have b1:d1<=6000:=by have:=a1.o;omega
 have b2:d2<=6000:=by have:=a7.o;omega
 have HL:=Hd (And.intro b8 b9);clear b8 b9 V E
 have rest:∀W1,Up W0 W1->Hid (Calls prog 110 #[.agg #[.int .i64 p0,.bool pn,.slice pa pl pc]] W1 (fun e w'=>e=.returned (.int .i64 (d1:Nat))/\Up W1 w')):=fun W1 hW1=>by
  show Calls _ _ _ _ _
  refine(Rg B _ n1 t1 W1 (d8.o.bl (h.o.trans (hW1.mono h.o.size))) (by have:=b7.o;have:=h.o.size;have:=hW1.size;omega) h1).mono ?_;rintro e w' ⟨rfl,hb⟩;exact⟨by rw[d4.o],hb⟩
 have O:∀W1,Up W0 W1->Hid (Calls prog 110 #[.agg #[.int .i64 q0,.bool qn,.slice qa ql qc]] W1 (fun e w'=>e=.returned (.int .i64 (d2:Nat))/\Up W1 w')):=fun W1 hW1=>by
  show Calls _ _ _ _ _
  refine(Rg B _ n2 t2 W1 (d9.o.bl (h.o.trans (hW1.mono h.o.size))) (by have:=b7.o;have:=h.o.size;have:=hW1.size;omega) h2).mono ?_;rintro e w' ⟨rfl,hb⟩;exact⟨by rw[d5.o],hb⟩
 have Z:=Hd rest;have K:=Hd O;clear rest O
 go_in
 go_upto_region 1 with fail
 rw[d7.o]
 go_wp2_with fail
 refine(Rh p0 pn pa pl pc W0).mono ?_;rintro e w1 ⟨rfl,c8⟩;have b0:Up W0 w1:=by rw[c8];exact Oy _ _
 have G:=Hd b0;have hx:=HX.o w1 b0;clear c8 b0 k0 k1 k2;obtain⟨k0,k1,k2,k3,k4,k5⟩:=hx.k6;clear hx
 by_cases b3:pl=0
 ·have z:((pl:Int)==0)=true:=by rw[J2];omega
  have d6:=Hd b3;rw[z];clear z b3
  go_wp2_with fail
  refine(Rh q0 qn qa ql qc w1).mono ?_;rintro e w2 ⟨rfl,d0⟩;have hb2:Up w1 w2:=by rw[d0];exact Oy _ _
  have q:=Hd (G.o.trans (hb2.mono G.o.size));have hx:=HX.o w2 q.o;clear d0 hb2 k0 k1 k2 k3 k4 k5;obtain⟨k0,k1,k2,k3,k4,k5⟩:=hx.k6;clear hx
  by_cases c6:ql=0
  ·have z:((ql:Int)==0)=true:=by rw[J2];omega
   have HE:Hid (true=decide (d1<=30/\d2<=30)):=by
    unfold Hid
    have:=HL.o;have:=d6.o;have:=a1.o;have:=a7.o;rw[eq_comm,Jv];omega
   have j:=Hd (h.o.trans (q.o.mono h.o.size));rw[z];clear z c6
   go_wp2
   go_ret
   exact⟨Oz HE.o,j.o⟩
  have z:((ql:Int)==0)=false:=by rw[Jc];omega
  rw[z];clear z c6
  go_wp2_with fail
  refine(Z.o w2 q.o).o.mono ?_;rintro e w3 ⟨rfl,hb⟩;have J:=Hd (q.o.trans (hb.mono q.o.size));have hx:=HX.o w3 J.o;clear hb k0 k1 k2 k3 k4 k5;have k3:=hx.cell 3;have k4:=hx.cell 4;have k5:=hx.cell 5;simp only[Jr,Jy]at k3 k4 k5;clear hx
  by_cases hd:d1<=30
  ·have z1:decide ((d1:Int)<=30)=true:=dT (by omega)
   go_wp2_with fail
   refine(K.o w3 J.o).o.mono ?_;rintro e w4 ⟨rfl,hb⟩;have j:=Hd (h.o.trans ((J.o.trans (hb.mono J.o.size)).mono h.o.size));clear hb k3 k4 k5
   by_cases E:d2<=30
   ·have z2:decide ((d2:Int)<=30)=true:=dT (by omega)
    go_wp2
    go_ret
    exact⟨Oz (by simp[hd,E]),j.o⟩
   have z2:decide ((d2:Int)<=30)=false:=dF (by omega)
   go_wp2
   go_ret
   exact⟨Oz (by simp[E]),j.o⟩
  have z1:decide ((d1:Int)<=30)=false:=dF (by omega)
  have j:=Hd (h.o.trans (J.o.mono h.o.size))
  go_wp2
  go_ret
  exact⟨Oz (by simp[hd]),j.o⟩
 have z:((pl:Int)==0)=false:=by rw[Jc];omega
 rw[z];clear z b3
 go_wp2_with fail
 refine(Z.o w1 G.o).o.mono ?_;rintro e w2 ⟨rfl,hb⟩;have q:=Hd (G.o.trans (hb.mono G.o.size));have hx:=HX.o w2 q.o;clear hb k0 k1 k2 k3 k4 k5;have k3:=hx.cell 3;have k4:=hx.cell 4;have k5:=hx.cell 5;simp only[Jr,Jy]at k3 k4 k5;clear hx
 by_cases hd:d1<=30
 ·have z1:decide ((d1:Int)<=30)=true:=dT (by omega)
  go_wp2_with fail
  refine(K.o w2 q.o).o.mono ?_;rintro e w3 ⟨rfl,hb⟩;have j:=Hd (h.o.trans ((q.o.trans (hb.mono q.o.size)).mono h.o.size));clear hb k3 k4 k5
  by_cases E:d2<=30
  ·have z2:decide ((d2:Int)<=30)=true:=dT (by omega)
   go_wp2
   go_ret
   exact⟨Oz (by simp[hd,E]),j.o⟩
  have z2:decide ((d2:Int)<=30)=false:=dF (by omega)
  go_wp2
  go_ret
  exact⟨Oz (by simp[E]),j.o⟩
 have z1:decide ((d1:Int)<=30)=false:=dF (by omega)
 have j:=Hd (h.o.trans (q.o.mono h.o.size))
 go_wp2
 go_ret
 exact⟨Oz (by simp[hd]),j.o⟩
end Go.Proofs.YtfkagjelljnpdaaGreatDoor.Q
namespace Go.Proofs.YtfkagjelljnpdaaGreatDoor.Q
open ChangeShapes WideShapes ChangeAt RowKit
theorem NF(B:Nat)(w:World)(z:Value)(p:ByteArray)(hp:Ol p=true)(h:Q5 B w z (Ur p) (UI p)):Gs B w z (G9 p) 1000:=
 ⟨_,_,h,rfl,by have:=Cm p hp;omega⟩
end Go.Proofs.YtfkagjelljnpdaaGreatDoor.Q
namespace Go.Proofs.YtfkagjelljnpdaaGreatDoor.Q
open ChangeShapes WideShapes ChangeAt RowKit Proofs.Tryz
variable {N g:Nat}{w w':World}
structure Bar(g:Nat)(w w':World):Prop where
 os:w'.os=w.os
 tape:w'.tape=w.tape
 output:w'.output=w.output
 size:w.heap.size<=w'.heap.size
 block:∀k,k<w.heap.size->k≠g->w'.heap[k]? = w.heap[k]?
theorem Bar.refl(g:Nat)(w:World):Bar g w w:=⟨rfl,rfl,rfl,leR,fun _ _ _=>rfl⟩
theorem Bar.trans{a b c:World}(h:Bar g a b)(k:Bar g b c):Bar g a c:=
 ⟨k.os.trans h.os,k.tape.trans h.tape,k.output.trans h.output,Jm h.size k.size,fun i hi hg=>(k.block i (Jn hi h.size) hg).trans (h.block i hi hg)⟩
theorem Bar.of(h:Up w w'):Bar g w w':=⟨h.os,h.tape,h.output,h.size,fun k hk _=>h.block k hk⟩
theorem Bar.bl(h:Bar g w w')(hN:N<=g)(hw:N<=w.heap.size):Below N w w':=⟨h.os,h.tape,h.output,h.size,fun k hk=>h.block k (by omega) (by omega)⟩
theorem Bar.setCell(g i:Nat)(w:World)(v:Value):Bar g w (w.setCell ⟨g,i,none⟩ v):=
 ⟨rfl,rfl,rfl,by simp[World.setCell],fun k _ hk=>Jh _ _ _ _ hk⟩
theorem Bar.drew(h:Bar g w w'):Bar g w w'.drew:=⟨h.os,h.tape,h.output,h.size,h.block⟩
theorem Bar.cell(h:Bar g w w'){p:Addr}(hp:p.block<w.heap.size)(hg:p.block≠g):w'.cell? p=w.cell? p:=by
 unfold World.cell?;rw[h.block p.block hp hg]
def Dr(g N:Nat)(w:World)(a:Option Addr)(n cap:Nat):Prop:=n<=cap/\cap<=maxLen/\∀i,i<n->∃b off v:Nat,a=some ⟨b,off,none⟩/\b≠g/\b<N/\v<256/\w.cell? ⟨b,off+i,none⟩=some (.int .u8 v)
theorem Dr.bar{a:Option Addr}{n cap:Nat}(h:Dr g N w a n cap)(hN:N<=w.heap.size)(hb:Bar g w w'):Dr g N w' a n cap:=
 ⟨h.1,h.2.1,fun i hi=>by
  obtain⟨b,j,v,e,q,E,G,J⟩:=h.2.2 i hi
  exact⟨b,j,v,e,q,E,G,(hb.cell (p:=⟨b,j+i,none⟩) (Jn E hN) q).trans J⟩⟩
def Ux(g N:Nat)(w:World)(k:Nat):Prop:=g<N/\N<=w.heap.size/\∃a n cap sd,Bx w g [.slice a n cap,.int .i64 (k:Nat),.int .u64 (sd:Nat)]/\sd<18446744073709551616/\Dr g N w a n cap
theorem Ux.bl{k:Nat}(h:Ux g N w k)(hb:Below N w w'):Ux g N w' k:=by
 obtain⟨J,V,a,n,q,Z,hx,Y,E⟩:=h;refine⟨J,Jm V hb.size,a,n,q,Z,hx.bl J hb,Y,E.1,E.2.1,fun i hi=>?_⟩;obtain⟨b,j,v,e,K,G,O,R⟩:=E.2.2 i hi;exact⟨b,j,v,e,K,G,O,(hb.cell (p:=⟨b,j+i,none⟩) G).trans R⟩
theorem P5(x:Int):∃m:Nat,IntKind.u64.wrap x=(m:Int)/\m<18446744073709551616:=by
 refine⟨(IntKind.u64.wrap x).toNat,?_,?_⟩<;>simp only[IntKind.wrap_u64]<;>omega
theorem CE(m:Nat)(hm:m<18446744073709551616):∃r:Nat,wrap64 (bits BinOp.and IntKind.u64 ((m:Int) / 1099511627776) 255)=(r:Int)/\r<256:=by
 have j:((m:Int) / 1099511627776)=((m / 1099511627776:Nat):Int):=by omega
 have h:=bits_and_u64_nat (m / 1099511627776) 255 (by omega) (by decide);have E:(m / 1099511627776) &&& 255<=255:=Nat.and_le_right;obtain⟨x,hx⟩:∃x:Nat,(m / 1099511627776) &&& 255=x:=⟨_,rfl⟩;rw[hx]at E h;refine⟨x,?_,by omega⟩;have q:((255:Nat):Int)=255:=rfl;rw[q]at h;rw[j,h];unfold wrap64;omega
theorem Se{k:Nat}{a:Option Addr}{n cap sd:Nat}(hgN:g<N)(hN:N<=w.heap.size)(hx:Bx w g [.slice a n cap,.int .i64 (k:Nat),.int .u64 (sd:Nat)])(hc:Dr g N w a n cap)(m1 m2 m:Nat)(hm:m<18446744073709551616) :
 Ux g N ((((w.drewN m1).setCell ⟨g,1,none⟩ (.int .i64 ((k:Int)+1))).setCell ⟨g,2,none⟩ (.int .u64 (m:Nat))).drewN m2) (k+1)/\Bar g w ((((w.drewN m1).setCell ⟨g,1,none⟩ (.int .i64 ((k:Int)+1))).setCell ⟨g,2,none⟩ (.int .u64 (m:Nat))).drewN m2):=by
 have hb:Bar g w ((((w.drewN m1).setCell ⟨g,1,none⟩ (.int .i64 ((k:Int)+1))).setCell ⟨g,2,none⟩ (.int .u64 (m:Nat))).drewN m2):=by
  have q:Bar g w (w.drewN m1):=⟨rfl,rfl,rfl,leR,fun _ _ _=>rfl⟩;have j:=(q.trans (Bar.setCell g 1 _ (.int .i64 ((k:Int)+1)))).trans (Bar.setCell g 2 _ (.int .u64 (m:Nat)));exact⟨j.os,j.tape,j.output,j.size,j.block⟩
 refine⟨⟨hgN,Jm hN hb.size,a,n,cap,m,?_,hm,hc.bar hN hb⟩,hb⟩;have q:Bx (w.drewN m1) g [.slice a n cap,.int .i64 (k:Nat),.int .u64 (sd:Nat)]:=by obtain⟨t,h⟩:=hx;exact⟨t,h⟩
 have j:=(q.set 1 (.int .i64 ((k:Int)+1))).set 2 (.int .u64 (m:Nat));obtain⟨t,h⟩:=j;exact⟨t,h⟩
theorem Cs(g N k:Nat)(w:World)(h:Ux g N w k)(hk:k<=1000000000000) :
 Calls prog 47 #[.pointer (some ⟨g,0,none⟩)] w fun e w'=>∃r:Nat,e=.returned (.int .i64 (r:Nat))/\r<256/\Ux g N w' (k+1)/\Bar g w w':=by
 obtain⟨K,G,a,n,b0,sd,hx,b4,E⟩:=h;have j:=Hd (And.intro K G);clear K G;have HX:=Hd hx;have HC:=Hd E;have J:=E.2.1;have hn:=E.1;unfold maxLen at J;obtain⟨k0,k1,k2⟩:=hx.k3;have f1:=hx.frozen 1;have f2:=hx.frozen 2
 by_cases Y:k<n
 ·obtain⟨b,b6,v,ea,b1,b2,hv,V⟩:=E.2.2 k Y;subst ea;have z:decide ((k:Int)<(n:Int))=true:=dT (by omega)
  have z2:decide ((k:Int)+1<=(n:Int))=true:=dT (by omega)
  clear hx E
  go_in
  go_wp2
  go_quiet (fail)
  go_wp2
  go_quiet (fail)
  go_wp2
  go_quiet (fail)
  go_wp2
  obtain⟨m,hm,q⟩:=P5 (IntKind.u64.wrap (IntKind.u64.wrap (↑sd*6364136223846793005)+↑v)+1442695040888963407);rw[hm]
  go_ret
  obtain⟨O,R⟩:=Se j.o.1 j.o.2 HX.o HC.o _ _ m q;exact⟨v,rfl,hv,O,R⟩
 have z:decide ((k:Int)<(n:Int))=false:=dF (by omega)
 have z2:decide ((k:Int)+1<=(n:Int))=false:=dF (by omega)
 clear hx E
 go_in
 go_wp2
 go_quiet (fail)
 go_wp2
 go_quiet (fail)
 go_wp2
 obtain⟨m,hm,q⟩:=P5 (IntKind.u64.wrap (IntKind.u64.wrap (↑sd*6364136223846793005))+1442695040888963407);obtain⟨r,hr,Z⟩:=CE m q;rw[hm,hr]
 go_ret
 obtain⟨O,R⟩:=Se j.o.1 j.o.2 HX.o HC.o _ _ m q;exact⟨r,rfl,Z,O,R⟩
theorem Oj(g N k n:Nat)(w:World)(h:Ux g N w k)(hk:k<=100000000000)(hn:0<n)(hn2:n<=65536) :
 Calls prog 19 #[.pointer (some ⟨g,0,none⟩),.int .i64 (n:Nat)] w fun e w'=>∃r k':Nat,e=.returned (.int .i64 (r:Nat))/\r<n/\k'<=k+2/\Ux g N w' k'/\Bar g w w':=by
 have O:=Hd h;clear h
 by_cases Z:n<=1
 ·have z:decide ((n:Int)<=1)=true:=dT (by omega)
  go_in
  go_wp2
  go_ret
  exact⟨0,k,rfl,hn,by omega,O.o,Bar.refl _ _⟩
 have z:decide ((n:Int)<=1)=false:=dF (by omega)
 by_cases h2:200<n
 ·have z2:decide (200<(n:Int))=true:=dT (by omega)
  go_in
  go_wp2_with fail
  refine(Cs g N k _ O.o (by omega)).mono ?_;rintro e w1 ⟨r1,rfl,V,q,j⟩;have G:=Hd q;have E:=Hd j;clear q j
  go_wp2_with fail
  refine(Cs g N (k+1) _ G.o (by omega)).mono ?_;rintro e w2 ⟨r2,rfl,Y,J,hb2⟩;have R:=Hd J;have K:=Hd (E.o.trans hb2);clear J hb2
  go_wp2
  go_ret
  exact⟨(r1*256+r2) % n,k+1+1,Qz (by push_cast;rfl),Nat.mod_lt _ hn,by omega,R.o,K.o⟩
 have z2:decide (200<(n:Int))=false:=dF (by omega)
 go_in
 go_wp2_with fail
 refine(Cs g N k _ O.o (by omega)).mono ?_;rintro e w1 ⟨r1,rfl,V,q,j⟩;have G:=Hd q;have E:=Hd j;clear q j
 go_wp2
 go_ret
 exact⟨r1 % n,k+1,Qz (by push_cast;rfl),Nat.mod_lt _ hn,by omega,G.o,E.o⟩
theorem Bar.grownBy(h:Bar g w w'):w.grownBy w' (some g):=⟨h.os,h.tape,h.output,h.size,fun k hk hne=>h.block k hk (fun e=>hne (by rw[e]))⟩
theorem Bar.then{a b:World}(h:Bar g w a)(k:Below w.heap.size a b):Bar g w b:=
 ⟨k.os.trans h.os,k.tape.trans h.tape,k.output.trans h.output,Jm h.size k.size,fun i hi hg=>(k.block i hi).trans (h.block i hi hg)⟩
def Am(ds:List Nat):Prop:=∀x∈ds,48<=x/\x<=57
theorem Am.snoc{ds:List Nat}(h:Am ds)(x:Nat)(h1:48<=x)(h2:x<=57):Am (ds++[x]):=fun y hy=>by
 rcases Yc.1 hy with j|j
 ·exact h y j
 simp at j;omega
def drawn(s:Bool)(ds:List Nat):List Nat:=(if s then [45]else [])++ds
theorem L4(s:Bool)(ds:List Nat):(drawn s ds).length=(if s then 1 else 0)+ds.length:=by
 unfold drawn
 cases s<;>simp
 omega
theorem Ej(s:Bool)(ds:List Nat)(x:Nat):drawn s (ds++[x])=drawn s ds++[x]:=by unfold drawn;rw[Ys]
theorem Im(ds:List Nat)(x:Nat)(h:49<=ds.headD 0):49<=(ds++[x]).headD 0:=by
 cases ds with
 | nil=>simp at h
 | cons a l=>simpa using h
theorem Sc{s:Bool}{ds:List Nat}(h:Am ds):∀x∈drawn s ds,x<256:=fun x hx=>by
 unfold drawn at hx
 rcases Yc.1 hx with j|j
 ·cases s<;>simp at j;omega
 have:=h x j;omega
def Xe(g N k n:Nat)(s:Bool)(w:World)(v i:Value)(W:World):Prop:=∃(j k':Nat) (ds:List Nat),1<=j/\j<=n/\i=.int .i64 (j:Nat)/\ds.length=j/\Am ds/\49<=ds.headD 0/\k'<=k+4+2*(j - 1) /\
 v=.slice (some ⟨w.heap.size,0,none⟩) (drawn s ds).length (n+1)/\W.ownsRow w.heap.size 5 1 (.slice (some ⟨w.heap.size,0,none⟩) (drawn s ds).length (n+1)) (drawn s ds).length (Af (drawn s ds))/\Ux g N W k'/\Bar g w W
theorem ON(g N k n:Nat)(w:World)(h:Ux g N w k)(hk:k<=1000000000)(hn:1<=n)(hn2:n<=3000) :
 Calls prog 94 #[.pointer (some ⟨g,0,none⟩),.int .i64 (n:Nat)] w fun e w'=>∃(s:Bool) (ds:List Nat) (k':Nat),e=.returned (.string (Kc (Od (drawn s ds))))/\ds.length=n/\Am ds/\49<=ds.headD 0/\k'<=k+2*n+10/\Ux g N w' k'/\Bar g w w':=by
 obtain⟨i0,V,i7,b8,i8⟩:=info_parts info_u8;have HC:=Hd h;have j5:=h.1;have b6:=h.2.1;clear h
 go_in
 go_wp2_with (at_make;refine wpList_make_own _ rfl _ _ 22 rfl w.heap.size 5 i0 (.int .u8 0) 1 underlying22 V i7 b8 .i64 .i64 _ (n+1) rfl rfl ?m1 ?m2 ?m3 ?m4 ?_)
 case m1=>omega
 case m2=>rw[i8];omega
 case m3=>unfold maxLen;omega
 case m4=>exact leR
 intro w2 e3 e7;have f9:Up w w2:=(Ji _ _).grown e7 leR (fun k h=>by cases h);have f5:=Hd e3;have g9:=Hd (HC.o.bl (f9.mono b6));have g7:Hid (Bar g w w2):=Bar.of f9;clear e7 e3 f9
 go_wp2_with fail
 refine(Oj g N k 3 _ g9.o (by omega) (by decide) (by decide)).mono ?_;rintro e w3 ⟨r3,k3,rfl,j8,j7,g4,g1⟩;have g3:=Hd g4;have e6:=Hd (g7.o.trans g1);have d7:=Hd (f5.o.kept g1.grownBy (.inr (by simp[Value.ownBlock];omega)));clear g4 g1
 by_cases h0:r3=0
 ·have z0:((r3:Int)==0)=true:=by rw[J2];omega
  have e4:=d7.o
  go_wp2_with (at_builtin;refine wpList_append_fits _ rfl _ _ 22 rfl w.heap.size 5 i0 1 underlying22 V b8 w.heap.size (0) (n+1) _ rfl (e4.alloc _) ⟨w3.heap.size,0,none⟩ 1 1 [_] rfl rfl (cell_one_new _ _ _) ?c1 ?c2 ?_)
  case c1=>first|rfl|(intro u hu;simp at hu;subst hu;rfl)
  case c2=>omega
  intro w4 e5 e8;have g0:Below w.heap.size w3 w4:=((Ji _ w3).alloc e6.o.size _).grown e8 (by have:=e6.o.size;simp;omega) (fun k e=>by cases e;exact leR);have f8:=Hd e5;have h1:=Hd (g3.o.bl (g0.mono b6));have g8:=Hd (e6.o.then g0);clear e4 e5 e8 g0
  go_wp2_with fail
  refine(Oj g N k3 9 _ h1.o (by omega) (by decide) (by decide)).mono ?_;rintro e w5 ⟨r5,k5,rfl,i1,h3,d9,d2⟩;have e9:=Hd d9;have b9:=Hd (g8.o.trans d2);have d0:=Hd (f8.o.kept d2.grownBy (.inr (by simp[Value.ownBlock];omega)));clear d9 d2;have a8:=d0.o
  go_wp2_with (at_builtin;refine wpList_append_fits _ rfl _ _ 22 rfl w.heap.size 5 i0 1 underlying22 V b8 w.heap.size (1) (n+1) _ rfl (a8.alloc _) ⟨w5.heap.size,0,none⟩ 1 1 [_] rfl rfl (cell_one_new _ _ _) ?c1 ?c2 ?_)
  case c1=>first|rfl|(intro u hu;simp at hu;subst hu;rfl)
  case c2=>omega
  intro w6 b0 b7;have d1:Below w.heap.size w5 w6:=((Ji _ w5).alloc b9.o.size _).grown b7 (by have:=b9.o.size;simp;omega) (fun k e=>by cases e;exact leR);have b5:Hid (Xe g N k n true w (.slice (some ⟨w.heap.size,0,none⟩) (1+1) (n+1)) (.int .i64 1) w6):=by
   refine⟨1,k5,[49+r5],leR,hn,rfl,rfl,?_,?_,by omega,rfl,?_,e9.o.bl (d1.mono b6),b9.o.then d1⟩
   ·intro x hx;simp at hx;omega
   ·simp
   simpa[Af,drawn]using b0
  clear a8 b0 b7 d1
  go_wp2
  go_loopw [5,6] (Xe g N k n true w) (fun _ i _=>n - (intOf i).toNat)
  case atStart=>exact b5.o
  clear b5;obtain⟨j,kj,ds,h2,hj,rfl,O,b2,d4,h5,rfl,J,a7,a1⟩:=hrel;obtain⟨m,hm⟩:=O2 ((drawn true ds).length);have HM:=Hd hm;have e2:m=1+j:=by rw[<-hm,L4,O];rfl
  have f1:=Hd e2;rw[hm]at J ⊢;clear hm e2;have c6:=Hd b2;have c8:=Hd d4;have Y:=Hd O;have b3:=Hd a1;have b4:=Hd a7;have d6:=Hd J
  by_cases h7:j<n
  ·have zj:decide ((j:Int)<(n:Int))=true:=dT (by omega)
   have h8:m+1<=n+1:=by have:=f1.o;omega
   clear b2 d4 O a1 a7 J
   go_wp2_with fail
   refine(Oj g N kj 14 _ b4.o (by omega) (by decide) (by decide)).mono ?_;rintro e w7 ⟨r7,k7,rfl,i6,h4,e0,d3⟩;have d5:=Hd e0;have R:=Hd (b3.o.trans d3);have E:=d6.o.kept d3.grownBy (.inr (by simp[Value.ownBlock];omega));clear e0 d3
   by_cases h9:9<r7
   ·have z9:decide (9<(r7:Int))=true:=dT (by omega)
    go_wp2_with (at_builtin;refine wpList_append_fits _ rfl _ _ 22 rfl w.heap.size 5 i0 1 underlying22 V b8 w.heap.size (m) (n+1) _ rfl (E.alloc _) ⟨w7.heap.size,0,none⟩ 1 1 [_] rfl rfl (cell_one_new _ _ _) ?c1 ?c2 ?_)
    case c1=>first|rfl|(intro u hu;simp at hu;subst hu;rfl)
    case c2=>omega
    intro w8 q G;have K:Below w.heap.size w7 w8:=((Ji _ w7).alloc R.o.size _).grown G (by have:=R.o.size;simp;omega) (fun k e=>by cases e;exact leR);have Z:Hid (Xe g N k n true w (.slice (some ⟨w.heap.size,0,none⟩) (m+1) (n+1)) (.int .i64 ((j:Int)+1)) w8):=by
     have e1:(drawn true (ds++[48+9*(r7 % 2)])).length=m+1:=by rw[Ej,Jq,HM.o];rfl
     refine⟨j+1,k7,ds++[48+9*(r7 % 2)],by omega,by omega,rfl,?_,c6.o.snoc _ (by omega) (by omega),Im _ _ c8.o,by omega,by rw[e1],?_,d5.o.bl (K.mono b6),R.o.then K⟩
     ·rw[Jq,Y.o];rfl
     rw[e1,Ej,H8]
     simpa using q
    clear E q G K
    go_wp2
    go_roundw
    case rel=>exact Z.o
    simp[intOf];omega
   have z9:decide (9<(r7:Int))=false:=dF (by omega)
   go_wp2_with (at_builtin;refine wpList_append_fits _ rfl _ _ 22 rfl w.heap.size 5 i0 1 underlying22 V b8 w.heap.size (m) (n+1) _ rfl (E.alloc _) ⟨w7.heap.size,0,none⟩ 1 1 [_] rfl rfl (cell_one_new _ _ _) ?c1 ?c2 ?_)
   case c1=>first|rfl|(intro u hu;simp at hu;subst hu;rfl)
   case c2=>omega
   intro w8 q G;have K:Below w.heap.size w7 w8:=((Ji _ w7).alloc R.o.size _).grown G (by have:=R.o.size;simp;omega) (fun k e=>by cases e;exact leR);have Z:Hid (Xe g N k n true w (.slice (some ⟨w.heap.size,0,none⟩) (m+1) (n+1)) (.int .i64 ((j:Int)+1)) w8):=by
    have e1:(drawn true (ds++[48+r7])).length=m+1:=by rw[Ej,Jq,HM.o];rfl
    refine⟨j+1,k7,ds++[48+r7],by omega,by omega,rfl,?_,c6.o.snoc _ (by omega) (by omega),Im _ _ c8.o,by omega,by rw[e1],?_,d5.o.bl (K.mono b6),R.o.then K⟩
    ·rw[Jq,Y.o];rfl
    rw[e1,Ej,H8]
    simpa using q
   clear E q G K
   go_wp2
   go_roundw
   case rel=>exact Z.o
   simp[intOf];omega
  have zj:decide ((j:Int)<(n:Int))=false:=dF (by omega)
  have g2:=Gn _ _ _ _ _ _ J (Sc b2) HM.o;clear b2 d4 O a1 a7 J
  go_wp2
  go_ret
  exact⟨true,ds,kj,rfl,by have:=Y.o;omega,c6.o,c8.o,by omega,b4.o,b3.o⟩
 have z0:((r3:Int)==0)=false:=by rw[Jc];omega
 go_wp2_with fail
 refine(Oj g N k3 9 _ g3.o (by omega) (by decide) (by decide)).mono ?_;rintro e w5 ⟨r5,k5,rfl,i1,h3,d9,d2⟩;have e9:=Hd d9;have b9:=Hd (e6.o.trans d2);have d0:=Hd (d7.o.kept d2.grownBy (.inr (by simp[Value.ownBlock];omega)));clear d9 d2;have a8:=d0.o
 go_wp2_with (at_builtin;refine wpList_append_fits _ rfl _ _ 22 rfl w.heap.size 5 i0 1 underlying22 V b8 w.heap.size (0) (n+1) _ rfl (a8.alloc _) ⟨w5.heap.size,0,none⟩ 1 1 [_] rfl rfl (cell_one_new _ _ _) ?c1 ?c2 ?_)
 case c1=>first|rfl|(intro u hu;simp at hu;subst hu;rfl)
 case c2=>omega
 intro w6 b0 b7;have d1:Below w.heap.size w5 w6:=((Ji _ w5).alloc b9.o.size _).grown b7 (by have:=b9.o.size;simp;omega) (fun k e=>by cases e;exact leR);have b5:Hid (Xe g N k n false w (.slice (some ⟨w.heap.size,0,none⟩) (0+1) (n+1)) (.int .i64 1) w6):=by
  refine⟨1,k5,[49+r5],leR,hn,rfl,rfl,?_,?_,by omega,rfl,?_,e9.o.bl (d1.mono b6),b9.o.then d1⟩
  ·intro x hx;simp at hx;omega
  ·simp
  simpa[Af,drawn]using b0
 clear a8 b0 b7 d1
 go_wp2
 go_loopw [5,6] (Xe g N k n false w) (fun _ i _=>n - (intOf i).toNat)
 case atStart=>exact b5.o
 clear b5;obtain⟨j,kj,ds,h2,hj,rfl,O,b2,d4,h5,rfl,J,a7,a1⟩:=hrel;obtain⟨m,hm⟩:=O2 ((drawn false ds).length);have HM:=Hd hm;have e2:m=0+j:=by rw[<-hm,L4,O];rfl
 have f1:=Hd e2;rw[hm]at J ⊢;clear hm e2;have c6:=Hd b2;have c8:=Hd d4;have Y:=Hd O;have b3:=Hd a1;have b4:=Hd a7;have d6:=Hd J
 by_cases h7:j<n
 ·have zj:decide ((j:Int)<(n:Int))=true:=dT (by omega)
  have h8:m+1<=n+1:=by have:=f1.o;omega
  clear b2 d4 O a1 a7 J
  go_wp2_with fail
  refine(Oj g N kj 14 _ b4.o (by omega) (by decide) (by decide)).mono ?_;rintro e w7 ⟨r7,k7,rfl,i6,h4,e0,d3⟩;have d5:=Hd e0;have R:=Hd (b3.o.trans d3);have E:=d6.o.kept d3.grownBy (.inr (by simp[Value.ownBlock];omega));clear e0 d3
  by_cases h9:9<r7
  ·have z9:decide (9<(r7:Int))=true:=dT (by omega)
   go_wp2_with (at_builtin;refine wpList_append_fits _ rfl _ _ 22 rfl w.heap.size 5 i0 1 underlying22 V b8 w.heap.size (m) (n+1) _ rfl (E.alloc _) ⟨w7.heap.size,0,none⟩ 1 1 [_] rfl rfl (cell_one_new _ _ _) ?c1 ?c2 ?_)
   case c1=>first|rfl|(intro u hu;simp at hu;subst hu;rfl)
   case c2=>omega
   intro w8 q G;have K:Below w.heap.size w7 w8:=((Ji _ w7).alloc R.o.size _).grown G (by have:=R.o.size;simp;omega) (fun k e=>by cases e;exact leR);have Z:Hid (Xe g N k n false w (.slice (some ⟨w.heap.size,0,none⟩) (m+1) (n+1)) (.int .i64 ((j:Int)+1)) w8):=by
    have e1:(drawn false (ds++[48+9*(r7 % 2)])).length=m+1:=by rw[Ej,Jq,HM.o];rfl
    refine⟨j+1,k7,ds++[48+9*(r7 % 2)],by omega,by omega,rfl,?_,c6.o.snoc _ (by omega) (by omega),Im _ _ c8.o,by omega,by rw[e1],?_,d5.o.bl (K.mono b6),R.o.then K⟩
    ·rw[Jq,Y.o];rfl
    rw[e1,Ej,H8]
    simpa using q
   clear E q G K
   go_wp2
   go_roundw
   case rel=>exact Z.o
   simp[intOf];omega
  have z9:decide (9<(r7:Int))=false:=dF (by omega)
  go_wp2_with (at_builtin;refine wpList_append_fits _ rfl _ _ 22 rfl w.heap.size 5 i0 1 underlying22 V b8 w.heap.size (m) (n+1) _ rfl (E.alloc _) ⟨w7.heap.size,0,none⟩ 1 1 [_] rfl rfl (cell_one_new _ _ _) ?c1 ?c2 ?_)
  case c1=>first|rfl|(intro u hu;simp at hu;subst hu;rfl)
  case c2=>omega
  intro w8 q G;have K:Below w.heap.size w7 w8:=((Ji _ w7).alloc R.o.size _).grown G (by have:=R.o.size;simp;omega) (fun k e=>by cases e;exact leR);have Z:Hid (Xe g N k n false w (.slice (some ⟨w.heap.size,0,none⟩) (m+1) (n+1)) (.int .i64 ((j:Int)+1)) w8):=by
   have e1:(drawn false (ds++[48+r7])).length=m+1:=by rw[Ej,Jq,HM.o];rfl
   refine⟨j+1,k7,ds++[48+r7],by omega,by omega,rfl,?_,c6.o.snoc _ (by omega) (by omega),Im _ _ c8.o,by omega,by rw[e1],?_,d5.o.bl (K.mono b6),R.o.then K⟩
   ·rw[Jq,Y.o];rfl
   rw[e1,Ej,H8]
   simpa using q
  clear E q G K
  go_wp2
  go_roundw
  case rel=>exact Z.o
  simp[intOf];omega
 have zj:decide ((j:Int)<(n:Int))=false:=dF (by omega)
 have g2:=Gn _ _ _ _ _ _ J (Sc b2) HM.o;clear b2 d4 O a1 a7 J
 go_wp2
 go_ret
 exact⟨false,ds,kj,rfl,by have:=Y.o;omega,c6.o,c8.o,by omega,b4.o,b3.o⟩
end Go.Proofs.YtfkagjelljnpdaaGreatDoor.Q
namespace Go.Proofs.YtfkagjelljnpdaaGreatDoor.Q
open ChangeShapes WideShapes ChangeAt RowKit
theorem Bx.bar{W W':World}{b g:Nat}{l:List Value}(h:Bx W b l)(hb:Bar g W W')(hg:b≠g):Bx W' b l:=by
 obtain⟨t,h⟩:=h;exact⟨t,(hb.block b (Jo.1 h).1 hg).trans h⟩
theorem Bd(ng:Bool)(t:List Nat)(h:t.length<=600):(Nc ng t).size<=6000:=by
 have j:=Pz t;unfold Nc
 split
 ·rw[Gq];decide
 split
 ·rw[Gq,Yo];omega
 rw[Gq];omega
def Gd(w:World)(a:Option Addr)(n cap:Nat):Prop:=n<=cap/\cap<=maxLen/\∀i,i<n->∃b off v:Nat,a=some ⟨b,off,none⟩/\b<w.heap.size/\v<256/\w.cell? ⟨b,off+i,none⟩=some (.int .u8 v)
theorem Gd.bl{w w':World}{a:Option Addr}{n cap:Nat}(h:Gd w a n cap)(hb:Up w w'):Gd w' a n cap:=
 ⟨h.1,h.2.1,fun i hi=>by
  obtain⟨b,j,v,e,q,E,G⟩:=h.2.2 i hi
  exact⟨b,j,v,e,Jn q hb.size,E,(hb.cell (p:=⟨b,j+i,none⟩) q).trans G⟩⟩
theorem PJ{w:World}{a:Option Addr}{n cap:Nat}(h:Gd w a n cap)(ty:TypeId):Ux w.heap.size (w.heap.size+1) (w.alloc (.cells #[.slice a n cap,.int .i64 0,.int .u64 0] ty)) 0:=by
 refine⟨Ye _,by rw[Ju];exact leR,a,n,cap,0,Oq w _ ty,by decide,h.1,h.2.1,fun i hi=>?_⟩;obtain⟨b,j,v,e,q,E,G⟩:=h.2.2 i hi;exact⟨b,j,v,e,by omega,by omega,E,((Oy w _).cell (p:=⟨b,j+i,none⟩) q).trans G⟩
end Go.Proofs.YtfkagjelljnpdaaGreatDoor.Q
