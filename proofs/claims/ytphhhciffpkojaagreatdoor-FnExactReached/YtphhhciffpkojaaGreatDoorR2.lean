import Derived.Test.YtphhhciffpkojaaGreatDoorP00
import Derived.Test.YtphhhciffpkojaaGreatDoorR1
set_option linter.all false
set_option maxRecDepth 100000
set_option maxHeartbeats 8000000
namespace Go.Proofs.YtphhhciffpkojaaGreatDoor
open ChangeShapes WideShapes ChangeAt RowKit Proofs.Tryz
structure RQt (wo:World)(N6 N7 N8:Nat)(xs xf xt v1 v9:Value)(S:List (List UInt8))(F:List Fn)(T:List Tm)(A B:List Value)(R Q:List Int)(wk:World):Prop where
 low:Up wo wk
 y:Bx wk N6 [xs,xf,xt]
 n:BankN wk wo.heap.size xs xf xt S F T
 X:BankX wk wo.heap.size N6 xs xf xt S F T A B
 x1:wk.ownsRow N7 3 1 v1 R.length (Nx R)
 g:wk.ownsRow N8 3 1 v9 Q.length (Nx Q)
theorem RQt.belR {wo:World}{N6 N7 N8:Nat}{xs xf xt v1 v9:Value}{S:List (List UInt8)}{F:List Fn}{T:List Tm}{A B:List Value}{R Q:List Int}{wk wk':World}(h:RQt wo N6 N7 N8 xs xf xt v1 v9 S F T A B R Q wk)(hb:Up wk wk'):RQt wo N6 N7 N8 xs xf xt v1 v9 S F T A B R Q wk':=
 ⟨O5 h.low hb,h.y.bl h.y.lt hb,h.n.bl hb,h.X.bl hb,Et h.x1 hb,Et h.g hb⟩
theorem OnB.row {P:Nat->Prop}{w w':World}{base s n:Nat}{e:TypeId}{v:Value}{xs:List Value}(h:OnB P w w')(ho:w.ownsRow base e s v n xs)(hn:∀ g,v.ownBlock=some g->¬ P g):w'.ownsRow base e s v n xs:=own_other' ho (fun g hg=>h.block g (ho.lt g hg).2 (hn g hg))
theorem WU (S:List (List UInt8))(F:List Fn)(T:List Tm)(R:List Int):(SA S F T R).length<=T.length:=by
 unfold SA SB
 split
 ·split
  ·rw[Zy];exact Yc (List.length_filter_le _ _) (by rw[List.length_range];exact leR)
  exact Jr _
 exact Jr _
theorem WO {vs vf vt vr:Value}{S:List (List UInt8)}{F:List Fn}{T:List Tm}{R:List Int}(w:World)(h:ArgBank w vs vf vt S F T)(hr:G2 w vr R)(hw:BD T)(hv:Vars w) :
 Calls prog 7 #[.agg #[vs,vf,vt],vr] w fun e w'=>e=.returned (.bool true)/\Up w w':=by
 obtain⟨a1,c1,e1,-,-,-,-⟩:=h.s;obtain⟨a2,c2,e2,-,-,-,-⟩:=h.f;obtain⟨a3,c3,e3,-,-,-,-⟩:=h.t;have n2:=Hd hr;obtain⟨a4,c4,rfl,y4,s4,-⟩:=hr;unfold maxLen at s4;have HA:=Hd h;have HW:=Hd hw;have HV:=Hd hv;subst e1 e2 e3;clear h hw hv;have f5:Hid (Up w (w.alloc (.cells #[.slice a1 S.length c1,.slice a2 F.length c2,.slice a3 T.length c3] 26))):=Oz _ _;have o4:Hid (Bx (w.alloc (.cells #[.slice a1 S.length c1,.slice a2 F.length c2,.slice a3 T.length c3] 26)) w.heap.size [.slice a1 S.length c1,.slice a2 F.length c2,.slice a3 T.length c3]):=Oi w _ _
 by_cases hR:1048576<R.length
 ·have y0:decide ((1048576:Int)<(R.length:Int))=true:=Ja (by omega)
  go_in
  go_wp2
  go_ret
  exact⟨rfl,f5.o⟩
 have y0:decide ((1048576:Int)<(R.length:Int))=false:=Jc (by omega);have d6:R.length<=1048576:=by omega
 obtain⟨b0,b1,b2⟩:=o4.o.c3
 go_in
 go_wp2_with fail
 refine (EN 1048576 _ (HA.o.bl f5.o) leR).mono ?_;rintro e w2 ⟨(rfl|⟨z2,B6,rfl,p5⟩),hb2⟩
 ·have b8:=f5.up hb2;clear hb2
  go_wp2
  go_ret
  exact⟨rfl,b8.o⟩
 have b8:=f5.up hb2;have f8:=Hd (o4.o.bl o4.o.lt hb2);have HS:=Hd p5;have HZ:=Hd (p5.z HW.o);have y2:decide ((z2:Int)<0)=false:=dF (by omega)
 clear hb2 p5 b0 b1 b2;obtain⟨b0,b1,b2⟩:=f8.o.c3
 go_wp2_with fail
 clear b0 b1 b2;refine (Dd w2 (HA.o.bl b8.o) HS.o).mono ?_;rintro e w3 ⟨u1,v1,u2,v2,u3,v3,rfl,s5,-,o9⟩;have r4:=Hd s5;have n3:=b8.up o9;have o5:=Hd (f8.o.bl f8.o.lt o9);clear s5 o9
 go_wp2_with fail
 refine (EF _ R w3 (n2.o.bl n3.o) d6).mono ?_;rintro e w4 ⟨g4,q4,rfl,s7,h0⟩;have r5:=Hd (r4.o.bl h0);have r3:=Hd (FD s7);have q5:=n3.up h0;have o6:=Hd (o5.o.bl o5.o.lt h0);clear h0 s7 r4
 go_wp2_with fail
 refine (TT r5.o.at HZ.o ⟨_,_,_,rfl⟩ r3.o).mono ?_;obtain⟨QA,hA⟩:=Oa (SA S F T R);have r8:=Hd hA;have o7:QA.length<=1048576:=by rw[<-hA];exact Yc (WU S F T R) HS.o.t.1
 rw[hA];clear hA;rintro e I ⟨v0,rfl,p3,a8⟩;have n4:=q5.up a8;have f9:=Hd (o6.o.bl o6.o.lt a8);have K:Hid (∀ W,Up I W->Up w W/\(W.cell? ⟨w.heap.size,0,none⟩=some (.slice a1 S.length c1)/\W.cell? ⟨w.heap.size,1,none⟩=some (.slice a2 F.length c2)/\W.cell? ⟨w.heap.size,2,none⟩=some (.slice a3 T.length c3))/\ArgBank W (.slice a1 S.length c1) (.slice a2 F.length c2) (.slice a3 T.length c3) S F T/\G2 W (.slice a4 R.length c4) R/\Kg W v0 QA):=fun W h=>by
  have p6:=n4.o.trans (h.mono n4.o.size);exact⟨p6,(f9.o.bl f9.o.lt h).c3,HA.o.bl p6,n2.o.bl p6,(FD p3).bl h⟩
 have HQ:Hid (w.heap.size<I.heap.size):=f9.o.lt;obtain⟨p0,q0,rfl,-,-,-⟩:=Xg p3;clear p3 a8 r5 r3 f8 o5 o6 f9 b8 n3 q5 n4 HA n2;obtain⟨b0,b1,b2⟩:=(K.o I (Je _ _)).2.1
 go_wp2_with fail
 clear b0 b1 b2;refine (Dd I (K.o I (Je _ _)).2.2.1 HS.o).mono ?_;rintro e w6 ⟨k1,l1,k2,l2,k3,l3,rfl,s6,⟨A,B,o8,l6⟩,a8⟩;have r6:=Hd s6;have s1:=Hd o8;have v7:=Hd l6;have n5:=Hd a8;have r9:Hid (∀ b,PB (.slice (some k1) S.length l1) (.slice k2 F.length l2) (.slice k3 T.length l3) A B b->b<w6.heap.size):=fun b hb=>o8.lt hb;clear s6 o8 l6 a8
 go_wp2_with fail
 obtain⟨W7,g9⟩:=Oa (w6.alloc (.cells #[.slice (some k1) S.length l1,.slice k2 F.length l2,.slice k3 T.length l3] 32));have g7:Up w6 W7:=by rw[<-g9];exact Oz _ _
 have s8:Bx W7 w6.heap.size [.slice (some k1) S.length l1,.slice k2 F.length l2,.slice k3 T.length l3]:=by rw[<-g9];exact Oi w6 _ _
 have n6:Hid (Up I W7):=O5 n5.o g7;have g3:=Hd s8;have r7:=Hd (r6.o.bl g7);have s2:=Hd (s1.o.bl g7);rw[g9];clear g9 g7 s8 r6 s1;refine (EF _ R W7 (K.o W7 n6.o).2.2.2.1 d6).mono ?_;rintro e w8 ⟨g8,q8,rfl,h1,b3⟩;have o1:=Hd h1;have n7:Hid (Up I w8):=O5 n6.o b3;have g5:=Hd (g3.o.bl g3.o.lt b3);have n9:=Hd (r7.o.bl b3);have s3:=Hd (s2.o.bl b3);have j9:=Hd b3.size;have d2:Hid (∀ g,(Value.slice (some ⟨g8,0,none⟩) R.length q8).ownBlock=some g->W7.heap.size<=g/\g<w8.heap.size):=fun g hg=>⟨Ol h1 g hg,(h1.lt g hg).2⟩;obtain⟨x5,x6,x7⟩:=g5.o.c3;clear b3 h1 r7 s2
 go_wp2_with fail
 clear x5 x6 x7;have M:=Hd (TE n9.o.at HZ.o (HV.o.bl (K.o w8 n7.o).1) (FD o1.o));rw[r8.o] at M;refine M.o.mono ?_;rintro e w9 ⟨v9,rfl,p4,O⟩;obtain⟨p9,q9,rfl,m6,m7,-⟩:=Xg p4;have d5:Hid (I.heap.size<=w6.heap.size/\w6.heap.size<W7.heap.size/\W7.heap.size<=w8.heap.size/\w8.heap.size<=w9.heap.size):=⟨n5.o.size,g3.o.lt,j9.o,O.size⟩;have HR:Hid (RQt I w6.heap.size W7.heap.size w8.heap.size (.slice (some k1) S.length l1) (.slice k2 F.length l2) (.slice k3 T.length l3) (.slice (some ⟨g8,0,none⟩) R.length q8) (.slice p9 QA.length q9) S F T A B R QA w9):=
  ⟨O5 n7.o O,g5.o.bl g5.o.lt O,n9.o.bl O,s3.o.bl O,Et o1.o O,p4⟩
 clear O p4 M n9 s3 o1 g5 g3 n7 n6 n5 j9;generalize w6.heap.size=N6 at HR d5 r9 ⊢;generalize W7.heap.size=N7 at HR d5 d2;generalize w8.heap.size=N8 at HR d5 d2
 go_wp2_with fail
 refine (OZ _ _ QA w9 (FD HR.o.g) (K.o w9 HR.o.low).2.2.2.2).mono ?_;rintro e e8 ⟨rfl,k0⟩;have E:=Hd (HR.o.belR k0);clear k0 HR
 go_upto_region 13 with fail
 go_cut [42] from 38 to 42 (fun s wx=>s=.bool false/\RQt I N6 N7 N8 (.slice (some k1) S.length l1) (.slice k2 F.length l2) (.slice k3 T.length l3) (.slice (some ⟨g8,0,none⟩) R.length q8) (.slice p9 QA.length q9) S F T A B R QA wx)
 case first=>
  have n8:Hid (∀ W,Up e8 W->W.cell? ⟨w.heap.size,0,none⟩=some (.slice a1 S.length c1)/\W.cell? ⟨w.heap.size,1,none⟩=some (.slice a2 F.length c2)/\W.cell? ⟨w.heap.size,2,none⟩=some (.slice a3 T.length c3)/\W.cell? ⟨N6,0,none⟩=some (.slice (some k1) S.length l1)/\W.cell? ⟨N6,1,none⟩=some (.slice k2 F.length l2)/\W.cell? ⟨N6,2,none⟩=some (.slice k3 T.length l3)):=fun W h=>by
   obtain⟨b0,b1,b2⟩:=(K.o W (O5 E.o.low h)).2.1;obtain⟨g0,g1,g2⟩:=(E.o.y.bl E.o.y.lt h).c3;exact⟨b0,b1,b2,g0,g1,g2⟩
  have q6:Hid (Up e8 e8.drew):=(Je _ _).drew;have v6:=Hd (K.o e8.drew E.o.low.drew).2.2.1
  go_region_held3 (fun W=>W.cell? ⟨w.heap.size,0,none⟩=some (.slice a1 S.length c1)/\W.cell? ⟨w.heap.size,1,none⟩=some (.slice a2 F.length c2)/\W.cell? ⟨w.heap.size,2,none⟩=some (.slice a3 T.length c3)/\W.cell? ⟨N6,0,none⟩=some (.slice (some k1) S.length l1)/\W.cell? ⟨N6,1,none⟩=some (.slice k2 F.length l2)/\W.cell? ⟨N6,2,none⟩=some (.slice k3 T.length l3))
   (first
     | exact n8.o _ q6.o
     | exact n8.o _ i6.o
     | exact n8.o _ b4.o)
   (first
     | (go_at_call 11;refine (Dd e8.drew v6.o HS.o).mono ?_;rintro e x0 ⟨u1,v1,u2,v2,u3,v3,rfl,l7,-,k7⟩;have s0:=Hd l7.at;have b4:=q6.up k7;clear l7 k7)
     | (go_at_call 13;refine (Cj x0 (E.o.n.at.bl b4.o) s0.o).mono ?_;rintro e t6 ⟨rfl,J⟩;have i6:=b4.up J;clear J))
  all_goals
   go_wp2
   go_meet
   exact⟨rfl,E.o.belR i6.o⟩
 rename World=>wf
 obtain⟨rfl,hr⟩:=hcut;have d3:=Hd hr;clear hr E
 go_wp2_with fail
 refine (EF _ R wf (K.o wf d3.o.low).2.2.2.1 d6).mono ?_;rintro e t6 ⟨A6,B9,rfl,l9,J⟩;have d4:=Hd (d3.o.belR J);have j1:=Hd (FD l9);clear l9 J d3
 go_wp2_with fail
 refine (OZ _ _ R t6 (FD d4.o.x1) j1.o).mono ?_;rintro e x2 ⟨rfl,k8⟩;have d:=Hd (d4.o.belR k8);obtain⟨y0,y1,y2⟩:=d.o.y.c3;clear k8 d4 j1
 go_wp2_with fail
 clear y0 y1 y2;have hz:=d5.o;have p1:=BT HS.o;refine (Fy I.heap.size N6 x2 d.o.X HS.o).mono ?_;rintro e t7 ⟨rfl,a7,-⟩;have hP:∀ b,PB (.slice (some k1) S.length l1) (.slice k2 F.length l2) (.slice k3 T.length l3) A B b->I.heap.size<=b/\b<N6:=fun b hb=>⟨v7.o b hb,r9.o b hb⟩;have b5:=Hd (a7.low d.o.low d.o.low.size (fun b hb=>(hP b hb).1));have j7:=Hd (a7.row d.o.x1 (fun g hg hp=>by have:=(hP g hp).2;have:=(d2.o g hg).1;omega));have d0:=Hd (a7.row d.o.g (fun g hg hp=>by have:=(hP g hp).2;have:=Ol d.o.g g hg;omega));obtain⟨s9,l4⟩:=Oa (kB S F T);rw[l4] at p1 ⊢;clear a7 d l4 hP
 go_wp2_with fail
 refine (YK N7 t7.heap.size R.length s9 _ t7 (Cy j7.o leR leR) d6 p1.2).mono ?_;rintro e t8 ⟨rfl,e5,-⟩;have b6:=Hd (e5.low b5.o b5.o.size (fun b hb=>by have:=(d2.o b hb).1;omega));have d1:=Hd (e5.row d0.o (fun g hg hp=>by have:=(d2.o g hp).2;have:=Ol d0.o g hg;omega));obtain⟨k16,l5⟩:=Oa (s9+R.length);rw[l5];have F2:decide ((k16:Int)<0)=false:=Jc (by omega);clear e5 b5 j7 d0 l5 hz p1
 go_wp2_with fail
 refine (OZ _ _ QA t8 (FD d1.o) (K.o t8 b6.o).2.2.2.2).mono ?_;rintro e p7 ⟨rfl,d7⟩;have b7:Hid (Up I p7):=O5 b6.o d7;have Y:=Hd (Et d1.o d7);clear d7 b6 d1
 go_wp2_with fail
 refine (YK N8 p7.heap.size QA.length 1 _ p7 (Cy Y.o leR leR) o7 (by decide)).mono ?_;rintro e G ⟨rfl,e6,l0⟩;obtain⟨nA,p2⟩:=Oa (1+QA.length);have o0:=Hd p2;rw[p2];clear p2;have hz:=d5.o;have i7:=Hd (e6.low b7.o b7.o.size (fun b hb=>by have:=Ol Y.o b hb;omega));have j0:Hid (QA.length=0∨∃ g,p9=some ⟨g,0,none⟩/\g<G.heap.size/\∀ j,j<QA.length->G.cell? ⟨g,j,none⟩=some (.int .i64 ((1+j:Nat):Int))):=by
  obtain⟨p,c,hv,-,-,hg⟩:=Xg Y.o;cases hv
  rcases hg with hg|⟨g,rfl,hg⟩
  ·exact .inl hg
  exact .inr ⟨g,rfl,Jq hg e6.size,l0 g _ rfl⟩
 have q7:Hid (∀ W,Up G W->QA.length=0∨∃ g,p9=some ⟨g,0,none⟩/\∀ j,j<QA.length->W.cell? ⟨g,j,none⟩=some (.int .i64 ((1+j:Nat):Int))):=fun W hW=>by
  rcases j0.o with h|⟨g,e,hl,h⟩
  ·exact .inl h
  exact .inr ⟨g,e,fun j hj=>(hW.cell (p:=⟨g,j,none⟩) hl).trans (h j hj)⟩
 clear e6 l0 b7 Y hz j0
 go_wp2_with fail
 refine (Sj QA.length 1 p9 q9 G m6 m7 o7 (by decide) (q7.o G (Je _ _))).mono ?_;rintro e h6 ⟨rfl,d8⟩;have V:Hid (Up I h6):=O5 i7.o d8;have U:=Hd d8;have H0:decide ((nA:Int)<0)=false:=Jc (by omega);obtain⟨b0,b1,b2⟩:=(K.o h6 V.o).2.1;clear d8 i7;rw[o0.o]
 go_wp2_with fail
 clear b0 b1 b2;refine (Dd h6 (K.o h6 V.o).2.2.1 HS.o).mono ?_;rintro e h7 ⟨u1,v1,u2,v2,u3,v3,rfl,l8,-,d9⟩;have j6:=Hd l8;have b9:Hid (Up I h7):=O5 V.o d9;have j2:Hid (Up G h7):=O5 U.o d9;clear l8 d9 V U
 go_wp2_with fail
 refine (EF _ R h7 (K.o h7 b9.o).2.2.2.1 d6).mono ?_;rintro e p8 ⟨B2,D0,rfl,m5,Z⟩;have c6:Hid (Up I p8):=O5 b9.o Z;have j3:Hid (Up G p8):=O5 j2.o Z;have M:=Hd (TE (j6.o.bl Z).at HZ.o (HV.o.bl (K.o p8 c6.o).1) (FD m5));rw[r8.o] at M;clear m5 Z j6 b9 j2
 go_wp2_with fail
 refine M.o.mono ?_;rintro e h8 ⟨v22,rfl,e7,e0⟩;have j8:=Hd e7;have c8:Hid (Up I h8):=O5 c6.o e0;have j4:Hid (Up G h8):=O5 j3.o e0;obtain⟨B7,D1,rfl,-,-,-⟩:=Xg e7;clear e7 e0 M c6 j3
 go_wp2_with fail
 refine (OZ _ _ QA h8 (FD j8.o) (K.o h8 c8.o).2.2.2.2).mono ?_;rintro e h9 ⟨rfl,e4⟩;have i8:Hid (Up I h9):=O5 c8.o e4;have j5:Hid (Up G h9):=O5 j4.o e4;clear e4 j8 c8 j4
 go_wp2_with fail
 refine (Sj QA.length 1 p9 q9 h9 m6 m7 o7 (by decide) (q7.o h9 j5.o)).mono ?_;rintro e x3 ⟨rfl,k9⟩;have q3:=Hd (K.o x3 (O5 i8.o k9)).1;rw[o0.o];clear k9 i8 j5 o0
 go_wp2
 go_ret
 exact⟨rfl,q3.o⟩
end Go.Proofs.YtphhhciffpkojaaGreatDoor
