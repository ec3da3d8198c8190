import Derived.Test.YtipgjenolpofpaaGreatDoorP00
import Derived.Test.YtipgjenolpofpaaGreatDoorR2
import Derived.Test.YtipgjenolpofpaaGreatDoorR6
set_option maxRecDepth 100000
set_option maxHeartbeats 4000000
namespace Go.Proofs.YtipgjenolpofpaaGreatDoor
open ChangeShapes WideShapes ChangeAt RowKit
def FZ (T:List Tm):Prop:=∀ t∈T,(Lit.int .i64 t.op).wf=true/\(Lit.int .i64 t.a).wf=true/\(Lit.int .i64 t.b).wf=true
theorem SmallB.z {S:List (List UInt8)}{F:List Fn}{T:List Tm}(h:SmallB S F T)(hw:FZ T):BankZ S F T:=
 ⟨h.s.1,h.f.1,h.t.1,h.s.2,fun f hf=>⟨(h.f.2 f hf).1,(h.f.2 f hf).2.1.2,(h.f.2 f hf).2.2⟩,fun t ht=>⟨(h.t.2 t ht).1,(h.t.2 t ht).2.1,(h.t.2 t ht).2.2,hw t ht⟩⟩
end Go.Proofs.YtipgjenolpofpaaGreatDoor
namespace Go.Proofs.YtipgjenolpofpaaGreatDoor
open ChangeShapes WideShapes ChangeAt RowKit Proofs.Tryz
theorem MkB.low {N0 N1:Nat}{w w1 w2:World}(hb:Up w w1)(h:MkB N0 N1 w1 w2)(hN:w.heap.size<=N0):Up w w2:=
 ⟨h.os.trans hb.os,h.tape.trans hb.tape,h.output.trans hb.output,Yk hb.size h.size,fun k hk=>(h.block k (Jz hk hb.size) (.inl (Jz hk hN))).trans (hb.block k hk)⟩
theorem MkB.row {N0 N1 base s n:Nat}{e:TypeId}{v:Value}{xs:List Value}{w1 w2:World}(h:MkB N0 N1 w1 w2)(ho:w1.ownsRow base e s v n xs)(hout:∀ g,v.ownBlock=some g->g<N0∨N1<=g):w2.ownsRow base e s v n xs:=Ox ho (fun g hg=>h.block g (ho.lt g hg).2 (hout g hg))
theorem MkB.bx {N0 N1 g:Nat}{w1 w2:World}{l:List Value}(h:MkB N0 N1 w1 w2)(hx:Bx w1 g l)(hg:g<N0):Bx w2 g l:=by
 have:=hx.lt;obtain⟨d,hx⟩:=hx;exact⟨d,(h.block g this (.inl hg)).trans hx⟩
theorem BW {w:World}{base N0 N1 n s:Nat}{e:TypeId}{v:Value}{xs:List Value}(h:w.ownsRow base e s v n xs)(h0:N0<=base)(h1:∀ g,v.ownBlock=some g->g<N1):BH w N0 N1 e s v n:=by
 obtain⟨p,c,rfl,hc,j,d⟩:=Ck h;refine⟨p,c,rfl,hc,j,?_⟩
 rcases d with d|⟨g,rfl,d⟩
 ·exact .inl d
 exact .inr ⟨g,rfl,Yk h0 (Ot h g rfl),h1 g rfl,BT h⟩
structure RSt (w:World)(N4 N5 N6 N7 N8:Nat)(l:List Value)(us uf ut v0 v1 v9:Value)(S:List (List UInt8))(F:List Fn)(T:List Tm)(R A:List Int)(wk:World):Prop where
 low:Up w wk
 x:Bx wk w.heap.size l
 y:Bx wk N6 [us,uf,ut]
 u:BankAt wk us uf ut S F T
 bw:BankW wk N5 N6 us uf ut S F T
 w0:wk.ownsRow N4 3 1 v0 A.length (G8 A)
 x1:wk.ownsRow N7 3 1 v1 R.length (G8 R)
 g:wk.ownsRow N8 3 1 v9 A.length (G8 A)
theorem BankW.bl {w w':World}{N0 N1:Nat}{vs vf vt:Value}{S:List (List UInt8)}{F:List Fn}{T:List Tm}(h:BankW w N0 N1 vs vf vt S F T)(hb:Up w w'):BankW w' N0 N1 vs vf vt S F T:=
 have d:MkB N0 N1 w w':=(MkB.refl _ _ _).bl hb
 have j:MK [] w w':=(MK.refl _ _).bl Of hb
 ⟨h.s.mk d.sl,h.f.mk d j (by decide),h.t.mk d j (by decide)⟩
theorem RSt.bl {w:World}{N4 N5 N6 N7 N8:Nat}{l:List Value}{us uf ut v0 v1 v9:Value}{S:List (List UInt8)}{F:List Fn}{T:List Tm}{R A:List Int}{wk wk':World}(h:RSt w N4 N5 N6 N7 N8 l us uf ut v0 v1 v9 S F T R A wk)(hb:Up wk wk'):RSt w N4 N5 N6 N7 N8 l us uf ut v0 v1 v9 S F T R A wk':=
 ⟨h.low.trans (hb.mono h.low.size),h.x.bl h.x.lt hb,h.y.bl h.y.lt hb,h.u.bl hb,h.bw.bl hb,Qf h.w0 hb,Qf h.x1 hb,Qf h.g hb⟩
theorem BC (S:List (List UInt8))(F:List Fn)(T:List Tm)(R:List Int):(LF S F T R).length<=T.length:=by
 unfold LF LC
 split
 ·split
  ·rw[Zv];exact Yk (List.length_filter_le _ _) (by rw[List.length_range];exact Of)
  exact Jy _
 exact Jy _
theorem BF {vs vf vt vr:Value}{S:List (List UInt8)}{F:List Fn}{T:List Tm}{R:List Int}(w:World)(h:ArgBank w vs vf vt S F T)(hr:N8 w vr R)(hw:FZ T)(hv:Vars w) :
 Calls prog 7 #[.agg #[vs,vf,vt],vr] w fun e w'=>e=.returned (.bool true)/\Up w w':=by
 obtain⟨a1,c1,e1,-,-,-,-⟩:=h.s;obtain⟨a2,c2,e2,-,-,-,-⟩:=h.f;obtain⟨a3,c3,e3,-,-,-,-⟩:=h.t;have h1:=Hd hr;obtain⟨a4,c4,rfl,W1,z6,-⟩:=hr;unfold maxLen at z6;have HA:=Hd h;have HW:=Hd hw;have HV:=Hd hv;subst e1 e2 e3;clear h hw hv;have b9:Hid (Up w (w.alloc (.cells #[.slice a1 S.length c1,.slice a2 F.length c2,.slice a3 T.length c3] 26))):=Oy _ _;have h8:Hid (Bx (w.alloc (.cells #[.slice a1 S.length c1,.slice a2 F.length c2,.slice a3 T.length c3] 26)) w.heap.size [.slice a1 S.length c1,.slice a2 F.length c2,.slice a3 T.length c3]):=Oi w _ _
 by_cases hR:1048576<R.length
 ·have y0:decide ((1048576:Int)<(R.length:Int))=true:=Jb (by omega)
  go_in
  go_wp2
  go_ret
  exact⟨rfl,b9.o⟩
 have y0:decide ((1048576:Int)<(R.length:Int))=false:=Jg (by omega);have e8:R.length<=1048576:=by omega
 obtain⟨b0,b1,b2⟩:=h8.o.c3
 go_in
 go_wp2_with fail
 refine (VU 1048576 _ (HA.o.bl b9.o) Of).mono ?_;rintro e w2 ⟨(rfl|⟨z2,Z2,rfl,r9⟩),hb2⟩
 ·have d0:=b9.up hb2;clear hb2
  go_wp2
  go_ret
  exact⟨rfl,d0.o⟩
 have d0:=b9.up hb2;have h9:=Hd (h8.o.bl h8.o.lt hb2);have HS:=Hd r9;have HZ:=Hd (r9.z HW.o);have y2:decide ((z2:Int)<0)=false:=dF (by omega)
 obtain⟨b0,b1,b2⟩:=h9.o.c3;clear hb2 r9
 go_wp2_with fail
 refine (MV w2 (HA.o.bl d0.o) HS.o).mono ?_;rintro e w3 ⟨us,uf,ut,rfl,d,B2,-,r3⟩;have HU:=Hd d;have x5:=Hd B2;have o6:=d0.up r3;have p6:=Hd (h9.o.bl h9.o.lt r3);obtain⟨u1,d1,e1,-,-,-⟩:=d.s;obtain⟨u2,d2,e2,-,-,-⟩:=d.f;obtain⟨u3,d3,e3,-,-,-⟩:=d.t;subst e1 e2 e3;clear d B2 r3 b0 b1 b2
 go_wp2_with fail
 refine (VD _ R w3 (h1.o.bl o6.o) e8).mono ?_;rintro e w4 ⟨g4,q4,rfl,z8,i8⟩;have x0:=Hd (HU.o.bl i8);have v6:=Hd (UX z8);have o7:=o6.up i8;have p7:=Hd (p6.o.bl p6.o.lt i8);clear i8 z8
 go_wp2_with fail
 refine (BG x0.o HZ.o x5.o v6.o).mono ?_;obtain⟨A,hA⟩:=O1 (LF S F T R);have p3:=Hd hA;rw[hA];clear hA;rintro e w5 ⟨v0,rfl,r6,r4⟩;have p5:=Hd r6;have h6:=o7.up r4;have e7:=Hd (p7.o.bl p7.o.lt r4);have m9:=Hd e7.o.lt;obtain⟨p0,q0,rfl,W3,W4,-⟩:=Ck r6;obtain⟨b0,b1,b2⟩:=e7.o.c3;clear r4 r6 HU x0 v6 x5
 go_wp2_with fail
 refine (MV w5 (HA.o.bl h6.o) HS.o).mono ?_;rintro e w6 ⟨xs,xf,xt,rfl,d,-,z1,g6⟩;have x2:=Hd d;have j8:=Hd z1;have u6:=h6.up g6;have p8:=Hd (e7.o.bl e7.o.lt g6);have x7:=Hd (Qf p5.o g6);have l4:=Hd g6.size;obtain⟨s1,t1,e1,-,-,-⟩:=d.s;obtain⟨s2,t2,e2,-,-,-⟩:=d.f;obtain⟨s3,t3,e3,-,-,-⟩:=d.t;subst e1 e2 e3;clear d z1 g6 b0 b1 b2
 go_wp2_with fail
 obtain⟨W7,i7⟩:=O1 (w6.alloc (.cells #[.slice s1 S.length t1,.slice s2 F.length t2,.slice s3 T.length t3] 32));have J:Up w6 W7:=by rw[<-i7];exact Oy _ _
 have D0:Bx W7 w6.heap.size [.slice s1 S.length t1,.slice s2 F.length t2,.slice s3 T.length t3]:=by rw[<-i7];exact Oi w6 _ _
 have o8:=u6.up J;have q1:=Hd (p8.o.bl p8.o.lt J);have q2:=Hd D0;have x3:=Hd (x2.o.bl J);have x8:=Hd (Qf x7.o J);have j9:=Hd (j8.o.bl J);have l5:=Hd J.size;rw[i7];clear i7 J D0 x2 j8 x7;refine (VD _ R W7 (h1.o.bl o8.o) e8).mono ?_;rintro e w8 ⟨g8,q8,rfl,r7,a8⟩;have p2:=Hd r7;have l0:=Hd r7;have p4:=Hd (x3.o.bl a8);have o9:=o8.up a8;have i1:=Hd (q1.o.bl q1.o.lt a8);have i6:=Hd (q2.o.bl q2.o.lt a8);have x9:=Hd (Qf x8.o a8);have k0:=Hd (j9.o.bl a8);have l6:=Hd a8.size;obtain⟨b0,b1,b2⟩:=i1.o.c3;obtain⟨T0,U2,V1⟩:=i6.o.c3;clear a8 r7 x3 j9 x8
 go_wp2_with fail
 clear b0 b1 b2 T0 U2 V1;have b5:=Hd (MI p4.o HZ.o (HV.o.bl o9.o) (UX p2.o));rw[p3.o] at b5;refine b5.o.mono ?_;rintro e w9 ⟨v9,rfl,r8,U⟩;have v1:=Hd r8;have x4:=Hd (p4.o.bl U);have u7:=o9.up U;have y5:=Hd (i1.o.bl i1.o.lt U);have y6:=Hd (i6.o.bl i6.o.lt U);have y3:=Hd (Qf x9.o U);have v8:=Hd (Qf p2.o U);have k1:=Hd (k0.o.bl U);have l7:=Hd U.size;obtain⟨p9,q9,rfl,o0,o1,-⟩:=Ck r8;clear U r8 p4 k0 x9 p2 b5 i1 i6 q1 q2 p8 e7 p7 p6 h9 h8;have L2:=o7.o.size;have L3:=h6.o.size;have O:Hid (RSt w w4.heap.size w5.heap.size w6.heap.size W7.heap.size w8.heap.size [.slice a1 S.length c1,.slice a2 F.length c2,.slice a3 T.length c3] (.slice s1 S.length t1) (.slice s2 F.length t2) (.slice s3 T.length t3) (.slice p0 A.length q0) (.slice (some ⟨g8,0,none⟩) R.length q8) (.slice p9 A.length q9) S F T R A w9):=⟨u7.o,y5.o,y6.o,x4.o,k1.o,y3.o,v8.o,v1.o⟩;have z7:w.heap.size<w5.heap.size:=Jz m9.o Of;have y7:=l4.o;have J:=l5.o;have y8:=l6.o;have y9:=l7.o;have Y:Hid (w.heap.size<w5.heap.size/\w5.heap.size<=w6.heap.size/\w6.heap.size<=W7.heap.size/\W7.heap.size<=w8.heap.size/\w8.heap.size<=w9.heap.size):=⟨z7,y7,J,y8,y9⟩;have h7:Hid (∀ g,(Value.slice p0 A.length q0).ownBlock=some g->g<w5.heap.size):=fun g hg=>(p5.o.lt g hg).2;have v7:Hid (∀ g,(Value.slice (some ⟨g8,0,none⟩) R.length q8).ownBlock=some g->g<w8.heap.size):=fun g hg=>(l0.o.lt g hg).2;have q7:A.length<=1048576:=by rw[<-p3.o];exact Yk (BC S F T R) HS.o.t.1
 generalize w5.heap.size=N5 at O Y h7;generalize w4.heap.size=N4 at O;generalize w6.heap.size=N6 at O Y ⊢;generalize W7.heap.size=N7 at O Y;generalize w8.heap.size=N8 at O Y v7;clear u7 y5 y6 x4 k1 y3 v8 v1 o9 o8 u6 h6 o7 o6 d0 b9 p5 l4 l5 l6 l7 L2 L3 z7 y7 J y8 y9 m9 l0
 go_wp2_with fail
 refine (Sm _ _ A w9 (UX O.o.g) (UX O.o.w0)).mono ?_;rintro e h0 ⟨rfl,e9⟩;have G:=Hd (O.o.bl e9);have l1:=Hd e9.size;clear e9 O
 go_upto_region 13 with fail
 go_cut [42] from 38 to 42 (fun s wx=>s=.bool false/\RSt w N4 N5 N6 N7 N8 [.slice a1 S.length c1,.slice a2 F.length c2,.slice a3 T.length c3] (.slice s1 S.length t1) (.slice s2 F.length t2) (.slice s3 T.length t3) (.slice p0 A.length q0) (.slice (some ⟨g8,0,none⟩) R.length q8) (.slice p9 A.length q9) S F T R A wx/\h0.heap.size<=wx.heap.size)
 case first=>
  have HC:Hid (∀ W,Up h0 W->W.cell? ⟨w.heap.size,0,none⟩=some (.slice a1 S.length c1)/\W.cell? ⟨w.heap.size,1,none⟩=some (.slice a2 F.length c2)/\W.cell? ⟨w.heap.size,2,none⟩=some (.slice a3 T.length c3)/\W.cell? ⟨N6,0,none⟩=some (.slice s1 S.length t1)/\W.cell? ⟨N6,1,none⟩=some (.slice s2 F.length t2)/\W.cell? ⟨N6,2,none⟩=some (.slice s3 T.length t3)):=fun W h=>by
   obtain⟨b0,b1,b2⟩:=(G.o.x.bl G.o.x.lt h).c3;obtain⟨g0,g1,g2⟩:=(G.o.y.bl G.o.y.lt h).c3;exact⟨b0,b1,b2,g0,g1,g2⟩
  have u8:Hid (Up h0 h0.drew):=(Jh _ _).drew;have H4:=Hd (HA.o.bl G.o.low.drew)
  go_region_held3 (fun W=>W.cell? ⟨w.heap.size,0,none⟩=some (.slice a1 S.length c1)/\W.cell? ⟨w.heap.size,1,none⟩=some (.slice a2 F.length c2)/\W.cell? ⟨w.heap.size,2,none⟩=some (.slice a3 T.length c3)/\W.cell? ⟨N6,0,none⟩=some (.slice s1 S.length t1)/\W.cell? ⟨N6,1,none⟩=some (.slice s2 F.length t2)/\W.cell? ⟨N6,2,none⟩=some (.slice s3 T.length t3))
   (first
     | exact HC.o _ u8.o
     | exact HC.o _ c8.o
     | exact HC.o _ c6.o)
   (first
     | (go_at_call 10;refine (MV h0.drew H4.o HS.o).mono ?_;rintro e M2 ⟨xs,xf,xt,rfl,g7,-,-,n0⟩;have w7:=Hd g7;have c6:=u8.up n0;clear g7 n0)
     | (go_at_call 12;refine (Sf M2 (G.o.u.bl c6.o) w7.o).mono ?_;rintro e w12 ⟨rfl,n4⟩;have c8:=c6.up n4;clear n4))
  all_goals
   go_wp2
   go_meet
   exact⟨rfl,G.o.bl c8.o,c8.o.size⟩
 obtain⟨rfl,o2,o3⟩:=hcut;have d8:=Hd o2;have l2:Hid (w9.heap.size<=wc.heap.size):=Yk l1.o o3;clear o2 o3 G l1
 go_wp2_with fail
 refine (VD _ R wc (h1.o.bl d8.o.low) e8).mono ?_;rintro e D2 ⟨X1,q13,rfl,n8,f5⟩;have d9:=Hd (d8.o.bl f5);have k7:=Hd (UX n8);have l3:Hid (w9.heap.size<=D2.heap.size):=Yk l2.o f5.size;clear n8 f5 d8 l2
 go_wp2_with fail
 refine (Sm _ _ R D2 (UX d9.o.x1) k7.o).mono ?_;rintro e F2 ⟨rfl,f8⟩;have E:=Hd (d9.o.bl f8);have e0:Hid (w9.heap.size<=F2.heap.size):=Yk l3.o f8.size;obtain⟨y0,y1,y2⟩:=E.o.y.c3;clear f8 d9 k7 l3
 go_wp2_with fail
 clear y0 y1 y2;refine (BE N5 N6 F2 E.o.bw HS.o (by have:=Y.o;have:=e0.o;omega)).mono ?_;rintro e H0 ⟨⟨D1,W2,L5,rfl⟩,I⟩;have hz:=Y.o;have j0:=Hd (MkB.low E.o.low I (by omega));have m7:=Hd (I.bx E.o.x (by omega));have l9:=Hd (I.row E.o.w0 (fun g hg=>.inl (h7.o g hg)));have k8:=Hd (I.row E.o.x1 (fun g hg=>.inr (by have:=Ot E.o.x1 g hg;omega)));have d5:=Hd (I.row E.o.g (fun g hg=>.inr (by have:=Ot E.o.g g hg;omega)));have w1:Hid (w9.heap.size<=H0.heap.size):=Yk e0.o I.size;have HK:Hid (N8<=w9.heap.size):=hz.2.2.2.2;clear I E e0 hz
 go_wp2_with fail
 refine (MY N7 N8 R.length D1 _ H0 (BW k8.o Of v7.o) e8 (by omega)).mono ?_;rintro e M4 ⟨rfl,b3,-,-⟩;have hz:=Y.o;have j1:=Hd (MkB.low j0.o b3 (by omega));have e5:=Hd (b3.bx m7.o (by omega));have e4:=Hd (b3.row l9.o (fun g hg=>.inl (by have:=h7.o g hg;omega)));have d6:=Hd (b3.row d5.o (fun g hg=>.inr (Ot d5.o g hg)));obtain⟨k16,n7⟩:=O1 (D1+R.length);rw[n7];have y16:decide ((k16:Int)<0)=false:=Jg (by omega);clear b3 j0 m7 l9 k8 d5 w1 n7 hz
 go_wp2_with fail
 refine (Sm _ _ A M4 (UX d6.o) (UX e4.o)).mono ?_;rintro e H1 ⟨rfl,Z⟩;have j2:=j1.up Z;have m8:=Hd (e5.o.bl e5.o.lt Z);have m5:=Hd (Qf e4.o Z);have d7:=Hd (Qf d6.o Z);clear Z j1 e5 e4 d6
 go_wp2_with fail
 refine (MY N8 H1.heap.size A.length 1 _ H1 (MR d7.o Of Of) q7 (by decide)).mono ?_;rintro e s0 ⟨rfl,b4,-,n6⟩;obtain⟨nA,r5⟩:=O1 (1+A.length);have p1:=Hd r5;rw[r5];clear r5;have hz:=Y.o;have j3:=Hd (MkB.low j2.o b4 (by omega));have e6:=Hd (b4.bx m8.o (by omega));have m6:=Hd (b4.row m5.o (fun g hg=>.inl (by have:=h7.o g hg;omega)));have d4:Hid (A.length=0∨∃ g,p9=some ⟨g,0,none⟩/\g<s0.heap.size/\∀ j,j<A.length->s0.cell? ⟨g,j,none⟩=some (.int .i64 ((1+j:Nat):Int))):=by
  obtain⟨p,c,hv,-,-,hg⟩:=Ck d7.o;cases hv
  rcases hg with hg|⟨g,rfl,hg⟩
  ·exact .inl hg
  exact .inr ⟨g,rfl,Jz hg b4.size,n6 g _ rfl⟩
 clear b4 n6 j2 m8 m5 d7 hz
 go_wp2_with fail
 refine (MH A.length 1 p9 q9 s0 o0 o1 q7 (by decide) (by rcases d4.o with h|⟨g,e,-,h⟩;exact .inl h;exact .inr ⟨g,e,h⟩)).mono ?_;rintro e s4 ⟨rfl,K⟩;have j4:=j3.up K;have y4:=Hd (e6.o.bl e6.o.lt K);have x6:=Hd (Qf m6.o K);have u9:Hid (A.length=0∨∃ g,p9=some ⟨g,0,none⟩/\g<s4.heap.size/\∀ j,j<A.length->s4.cell? ⟨g,j,none⟩=some (.int .i64 ((1+j:Nat):Int))):=by
  rcases d4.o with h|⟨g,e,hl,h⟩
  ·exact .inl h
  exact .inr ⟨g,e,Jz hl K.size,fun j hj=>(K.cell (p:=⟨g,j,none⟩) hl).trans (h j hj)⟩
 have y19:decide ((nA:Int)<0)=false:=Jg (by omega);obtain⟨b0,b1,b2⟩:=y4.o.c3;clear K j3 e6 m6 d4;rw[p1.o]
 go_wp2_with fail
 clear b0 b1 b2;refine (MV s4 (HA.o.bl j4.o) HS.o).mono ?_;rintro e M6 ⟨zs,zf,zt,rfl,d,-,-,f9⟩;have l8:=Hd d;have V:=j4.up f9;have b6:=Hd f9;obtain⟨m1,n1,e1,-,-,-⟩:=d.s;obtain⟨m2,n2,e2,-,-,-⟩:=d.f;obtain⟨m3,n3,e3,-,-,-⟩:=d.t;subst e1 e2 e3;clear d f9
 go_wp2_with fail
 refine (VD _ R M6 (h1.o.bl V.o) e8).mono ?_;rintro e w21 ⟨X3,q21,rfl,n9,a7⟩;have b5:=Hd (MI (l8.o.bl a7) HZ.o (HV.o.bl (V.o.trans (a7.mono V.o.size))) (UX n9));have j5:=V.up a7;have b7:=b6.up a7;rw[p3.o] at b5;clear n9 a7 l8 V b6
 go_wp2_with fail
 refine b5.o.mono ?_;rintro e M8 ⟨v22,rfl,g9,g3⟩;have k9:=Hd g9;have j6:=j5.up g3;have M:=b7.up g3;obtain⟨p22,q22,rfl,-,-,-⟩:=Ck g9;clear g9 g3 b5 j5 b7
 go_wp2_with fail
 refine (Sm _ _ A M8 (UX k9.o) (UX (Qf x6.o M.o))).mono ?_;rintro e P1 ⟨rfl,g5⟩;have j7:=j6.up g5;have b8:=M.up g5;clear g5 k9 j6 M
 go_wp2_with fail
 refine (MH A.length 1 p9 q9 P1 o0 o1 q7 (by decide) (by rcases u9.o with h|⟨g,e,hl,h⟩;exact .inl h;exact .inr ⟨g,e,fun j hj=>(b8.o.cell (p:=⟨g,j,none⟩) hl).trans (h j hj)⟩)).mono ?_;rintro e w24 ⟨rfl,n5⟩;have u0:=j7.up n5;rw[p1.o];clear n5 j7 b8 p1
 go_wp2
 go_ret
 exact⟨rfl,u0.o⟩
end Go.Proofs.YtipgjenolpofpaaGreatDoor
