import Derived.Test.YtdmdmgfjpomdbaaGreatDoorP00
import Derived.Test.YtdmdmgfjpomdbaaGreatDoorS1
import Derived.Test.YtdmdmgfjpomdbaaGreatDoorP39
import Derived.Test.YtdmdmgfjpomdbaaGreatDoorP35
set_option linter.all false
set_option maxRecDepth 100000
set_option maxHeartbeats 8000000
namespace Go.Proofs.YtdmdmgfjpomdbaaGreatDoor
open ChangeShapes WideShapes ChangeAt RowKit
variable {A B:List Value}{F:List Fn}{S:List (List UInt8)}{T:List Tm}{uf us ut:Value}{w w':World}
theorem Ca {g:Nat}{a b c d e:Value}(h:Bx w g [a,b,c,d,e]):w.cell? ⟨g,0,none⟩=some a/\w.cell? ⟨g,1,none⟩=some b/\w.cell? ⟨g,2,none⟩=some c/\w.cell? ⟨g,3,none⟩=some d/\w.cell? ⟨g,4,none⟩=some e:=⟨h.cell 0,h.cell 1,h.cell 2,h.cell 3,h.cell 4⟩
theorem BankN.bl {base:Nat}(h:BankN w base us uf ut S F T)(hb:Up w w'):BankN w' base us uf ut S F T:=h.keep (fun k _ hl=>hb.block k hl)
theorem OnB.low {P:Nat->Prop}{N:Nat}{w0:World}(h:OnB P w w')(hb:Below N w0 w)(hN:N<=w.heap.size)(hP:∀ b,P b->N<=b):Below N w0 w':=
 ⟨h.os.trans hb.os,h.tape.trans hb.tape,h.output.trans hb.output,Yc hb.size h.size,fun k hk=>(h.block k (by omega) (fun hp=>by have:=hP k hp;omega)).trans (hb.block k hk)⟩
theorem BankN.on {P:Nat->Prop}{base:Nat}(h:BankN w base us uf ut S F T)(ho:OnB P w w')(hP:∀ b,P b->b<base):BankN w' base us uf ut S F T:=
 h.keep (fun k hk hl=>ho.block k hl (fun hp=>by have:=hP k hp;omega))
theorem BankX.lt {N0 N1:Nat}(h:BankX w N0 N1 us uf ut S F T A B){b:Nat}(hb:PB us uf ut A B b):b<w.heap.size:=by
 rcases hb with hb|hb|hb
 ·obtain⟨n,d⟩:=h.sk b hb;exact d.lt
 ·rcases h.f.blk hb with⟨n,d⟩|⟨n,d⟩<;>exact d.lt
 rcases h.t.blk hb with⟨n,d⟩|⟨n,d⟩<;>exact d.lt
structure GSt (wc:World)(N9 N10:Nat)(l:List Value)(gs gf gt:Value)(S:List (List UInt8))(F:List Fn)(T:List Tm)(A B:List Value)(wk:World):Prop where
 low:Up wc wk
 x:Bx wk N10 l
 n:BankN wk N9 gs gf gt S F T
 X:BankX wk N9 N10 gs gf gt S F T A B
theorem BankX.bl {N0 N1:Nat}(h:BankX w N0 N1 us uf ut S F T A B)(hb:Up w w'):BankX w' N0 N1 us uf ut S F T A B:=h.on ((OnB.refl (fun _=>False) w).bl hb) (fun _ _ h=>h)
theorem GSt.bl {wc:World}{N9 N10:Nat}{l:List Value}{gs gf gt:Value}{wk wk':World}(h:GSt wc N9 N10 l gs gf gt S F T A B wk)(hb:Up wk wk'):GSt wc N9 N10 l gs gf gt S F T A B wk':=
 ⟨h.low.trans (hb.mono h.low.size),h.x.bl h.x.lt hb,h.n.bl hb,h.X.bl hb⟩
theorem GSt.on {wc:World}{N9 N10:Nat}{l:List Value}{gs gf gt:Value}{wk wk':World}{P:Nat->Prop}(h:GSt wc N9 N10 l gs gf gt S F T A B wk)(ho:OnB P wk wk')(hP:∀ b,P b->wc.heap.size<=b/\b<N9)(hl:∀ b,PB gs gf gt A B b->N9<=b)(hN:N9<=N10):GSt wc N9 N10 l gs gf gt S F T A B wk':=
 ⟨ho.low h.low h.low.size (fun b hb=>(hP b hb).1),ho.bx h.x (fun hp=>by have:=(hP _ hp).2;omega),h.n.on ho (fun b hb=>(hP b hb).2),h.X.on ho (fun b hb hp=>by have:=(hP b hp).2;have:=hl b hb;omega)⟩
end Go.Proofs.YtdmdmgfjpomdbaaGreatDoor
namespace Go.Proofs.YtdmdmgfjpomdbaaGreatDoor
open ChangeShapes WideShapes ChangeAt RowKit Proofs.Tryz
variable {F:List Fn}{S:List (List UInt8)}{T:List Tm}
structure AQt (wc:World)(N6 N9 N10:Nat)(l:List Value)(xs xf xt gs gf gt:Value)(S:List (List UInt8))(F:List Fn)(T:List Tm)(A B:List Value)(S':List (List UInt8))(F':List Fn)(T':List Tm)(A' B':List Value)(wk:World):Prop where
 g:GSt wc N9 N10 l gs gf gt S' F' T' A' B' wk
 y:Bx wk N6 [xs,xf,xt]
 n:BankN wk wc.heap.size xs xf xt S F T
 X:BankX wk wc.heap.size N6 xs xf xt S F T A B
theorem AQt.belQ {wc:World}{N6 N9 N10:Nat}{l:List Value}{xs xf xt gs gf gt:Value}{A B:List Value}{S':List (List UInt8)}{F':List Fn}{T':List Tm}{A' B':List Value}{wk wk':World}(h:AQt wc N6 N9 N10 l xs xf xt gs gf gt S F T A B S' F' T' A' B' wk)(hb:Up wk wk'):AQt wc N6 N9 N10 l xs xf xt gs gf gt S F T A B S' F' T' A' B' wk':=
 ⟨h.g.bl hb,h.y.bl h.y.lt hb,h.n.bl hb,h.X.bl hb⟩
theorem TE {sl:List UInt8}(hs:SmallB S F T)(hl:sl.length<=1048576):SmallB (SB S F T sl) (SA S F T sl) (ST S F T sl):=by
 unfold SB SA ST
 by_cases d:SM S F T sl=1
 ·rw[if_pos d,if_pos d,if_pos d];exact⟨⟨Jr _,fun x hx=>by cases hx⟩,⟨Jr _,fun x hx=>by cases hx⟩,⟨Jr _,fun x hx=>by cases hx⟩⟩
 rw[if_neg d,if_neg d,if_neg d]
 split
 ·rename_i h0;refine⟨⟨?_,fun x hx=>?_⟩,hs.f,hs.t⟩
  ·have:S.length<300:=by
    unfold SM at h0
    split at h0
    ·cases h0
    split at h0
    ·cases h0
    split at h0
    ·cases h0
    omega
   rw[Yn];simp;omega
  rcases Zm.1 hx with hx|hx
  ·exact hs.s.2 x hx
  obtain rfl:=Zv.1 hx;exact hl
 exact hs
theorem TV {vs vf vt:Value}(s:ByteArray)(w:World)(h:ArgBank w vs vf vt S F T)(hw:BD T)(hv:Vars w) :
 Calls prog 3 #[.agg #[vs,vf,vt],.string s] w fun e w'=>e=.returned (.bool true)/\Up w w':=by
 obtain⟨a1,c1,e1,-,-,-,-⟩:=h.s;obtain⟨a2,c2,e2,-,-,-,-⟩:=h.f;obtain⟨a3,c3,e3,-,-,-,-⟩:=h.t;have HA:=Hd h;have HW:=Hd hw;have HV:=Hd hv;subst e1 e2 e3;clear h hw hv;have g4:Hid (Up w (w.alloc (.cells #[.slice a1 S.length c1,.slice a2 F.length c2,.slice a3 T.length c3] 26))):=Oz _ _;have n8:Hid (Bx (w.alloc (.cells #[.slice a1 S.length c1,.slice a2 F.length c2,.slice a3 T.length c3] 26)) w.heap.size [.slice a1 S.length c1,.slice a2 F.length c2,.slice a3 T.length c3]):=Oi w _ _
 by_cases hR:1048576<s.size
 ·have y0:decide ((1048576:Int)<(s.size:Int))=true:=Ja (by omega)
  go_in
  go_wp2
  go_ret
  exact⟨rfl,g4.o⟩
 have y0:decide ((1048576:Int)<(s.size:Int))=false:=Jc (by omega);have p0:s.size<=1048576:=by omega
 have n6:=Hd (fun (W:World) (vs vf vt:Value) (h:BankO W vs vf vt S F T) (hz:BankZ S F T) (hs:SmallB S F T) (hvs:∃ ad n c,vs=.slice (some ad) n c)=>TZ s h hz hs hvs p0);have n2:=Hd (fun (W:World) (vs vf vt:Value) (h:BankAt W vs vf vt S F T) (hz:BankZ S F T) (hv:Vars W)=>TY s h hz hv p0);have m6:s.data.toList.length<=1048576:=by rw[Vr];exact p0
 generalize s.data.toList=sl at n6 n2 m6;obtain⟨b0,b1,b2⟩:=n8.o.c3
 go_in
 go_wp2_with fail
 refine (EN 1048576 _ (HA.o.bl g4.o) leR).mono ?_;rintro e w2 ⟨(rfl|⟨z2,E1,rfl,o9⟩),hb2⟩
 ·have b5:=g4.up hb2;clear hb2
  go_wp2
  go_ret
  exact⟨rfl,b5.o⟩
 have b5:=g4.up hb2;have g6:=Hd (n8.o.bl n8.o.lt hb2);have HS:=Hd o9;have HZ:=Hd (o9.z HW.o);have y2:decide ((z2:Int)<0)=false:=dF (by omega)
 clear hb2 o9 b0 b1 b2;obtain⟨b0,b1,b2⟩:=g6.o.c3
 go_wp2_with fail
 clear b0 b1 b2;refine (Dd w2 (HA.o.bl b5.o) HS.o).mono ?_;rintro e w3 ⟨u1,v1,u2,v2,u3,v3,rfl,s9,-,o5⟩;have r6:=Hd s9;have q7:=b5.up o5;have n9:=Hd (g6.o.bl g6.o.lt o5);clear s9 o5
 go_wp2_with fail
 refine (n6.o _ _ _ _ r6.o.o HZ.o HS.o ⟨_,_,_,rfl⟩).mono ?_;rintro e w4 ⟨us,uf,ut,rfl,e8,o6⟩;obtain⟨p1,d1,e1,-⟩:=e8.at.s;obtain⟨p2,d2,e2,-⟩:=e8.at.f;obtain⟨p3,d3,e3,-⟩:=e8.at.t;subst e1 e2 e3;have r7:=Hd e8;have m8:=q7.up o6;have d5:=Hd (n9.o.bl n9.o.lt o6);have q4:w.heap.size<w4.heap.size:=d5.o.lt;obtain⟨b0,b1,b2⟩:=d5.o.c3;clear e8 o6 r6 n6
 go_wp2_with fail
 clear b0 b1 b2;obtain⟨I,h1⟩:=Oa (w4.alloc (.cells #[.int .i64 (SM S F T sl),.int .i64 (SW S F T sl),.slice p1 (SB S F T sl).length d1,.slice p2 (SA S F T sl).length d2,.slice p3 (ST S F T sl).length d3] 33));have o2:Up w4 I:=by rw[<-h1];exact Oz _ _
 have h6:Bx I w4.heap.size [.int .i64 (SM S F T sl),.int .i64 (SW S F T sl),.slice p1 (SB S F T sl).length d1,.slice p2 (SA S F T sl).length d2,.slice p3 (ST S F T sl).length d3]:=by rw[<-h1];exact Oi w4 _ _
 have J:Hid (∀ W,Up I W->Up w W/\(W.cell? ⟨w.heap.size,0,none⟩=some (.slice a1 S.length c1)/\W.cell? ⟨w.heap.size,1,none⟩=some (.slice a2 F.length c2)/\W.cell? ⟨w.heap.size,2,none⟩=some (.slice a3 T.length c3))/\ArgBank W (.slice a1 S.length c1) (.slice a2 F.length c2) (.slice a3 T.length c3) S F T/\Bx W w4.heap.size [.int .i64 (SM S F T sl),.int .i64 (SW S F T sl),.slice p1 (SB S F T sl).length d1,.slice p2 (SA S F T sl).length d2,.slice p3 (ST S F T sl).length d3]/\BankAt W (.slice p1 (SB S F T sl).length d1) (.slice p2 (SA S F T sl).length d2) (.slice p3 (ST S F T sl).length d3) (SB S F T sl) (SA S F T sl) (ST S F T sl)):=fun W h=>by
  have hw:=O5 o2 h;have t8:=m8.o.trans (hw.mono m8.o.size);exact⟨t8,(d5.o.bl d5.o.lt hw).c3,HA.o.bl t8,h6.bl h6.lt h,r7.o.at.bl hw⟩
 have HQ:Hid (w.heap.size<I.heap.size/\w4.heap.size<I.heap.size):=⟨Jq q4 o2.size,h6.lt⟩;rw[h1];clear h1 o2 h6 r7 d5 n9 g6 m8 q7 b5 q4 HA;generalize w4.heap.size=G at J HQ ⊢;refine (Dd I (J.o I (Je _ _)).2.2.1 HS.o).mono ?_;rintro e w5 ⟨k1,l1,k2,l2,k3,l3,rfl,t6,⟨A,B,o3,l5⟩,s8⟩;have r8:=Hd t6;have s4:=Hd o3;have x6:=Hd l5;have m9:=Hd s8;have s1:Hid (∀ b,PB (.slice (some k1) S.length l1) (.slice k2 F.length l2) (.slice k3 T.length l3) A B b->b<w5.heap.size):=fun b hb=>o3.lt hb;clear t6 o3 l5 s8
 go_wp2_with fail
 obtain⟨W6,h0⟩:=Oa (w5.alloc (.cells #[.slice (some k1) S.length l1,.slice k2 F.length l2,.slice k3 T.length l3] 31));have g9:Up w5 W6:=by rw[<-h0];exact Oz _ _
 have u0:Bx W6 w5.heap.size [.slice (some k1) S.length l1,.slice k2 F.length l2,.slice k3 T.length l3]:=by rw[<-h0];exact Oi w5 _ _
 have n0:Hid (Up I W6):=O5 m9.o g9;have g7:=Hd u0;have n4:=Hd (r8.o.bl g9);have s5:=Hd (s4.o.bl g9);rw[h0];clear h0 g9 u0 r8 s4;refine (n2.o _ _ _ _ n4.o.at HZ.o (HV.o.bl (J.o W6 n0.o).1)).mono ?_;rintro e w9 ⟨q1,m1,q2,m2,q3,m3,A9,B9,rfl,o4,l6,t7,o7⟩;have r9:=Hd t7;have s6:=Hd o4;have n3:=Hd l6;have s2:Hid (∀ b,PB (.slice q1 (SB S F T sl).length m1) (.slice q2 (SA S F T sl).length m2) (.slice q3 (ST S F T sl).length m3) A9 B9 b->b<w9.heap.size):=fun b hb=>o4.lt hb;have g5:Hid (Up I w9):=O5 n0.o o7;have b8:=Hd o7;have q9:G<w9.heap.size:=Jq HQ.o.2 g5.o.size;obtain⟨r0,r1,r2,r3,r4⟩:=Ca (J.o w9 g5.o).2.2.2.1;clear t7 o4 l6 o7
 go_wp2_with fail
 clear r0 r1 r2 r3 r4;obtain⟨d7,Y⟩:=Oa (w9.alloc (.cells #[.int .i64 (SM S F T sl),.int .i64 (SW S F T sl),.slice q1 (SB S F T sl).length m1,.slice q2 (SA S F T sl).length m2,.slice q3 (ST S F T sl).length m3] 33));have e6:Up w9 d7:=by rw[<-Y];exact Oz _ _
 have m7:Bx d7 w9.heap.size [.int .i64 (SM S F T sl),.int .i64 (SW S F T sl),.slice q1 (SB S F T sl).length m1,.slice q2 (SA S F T sl).length m2,.slice q3 (ST S F T sl).length m3]:=by rw[<-Y];exact Oi w9 _ _
 have d6:Hid (I.heap.size<=w5.heap.size/\w5.heap.size<W6.heap.size/\W6.heap.size<=w9.heap.size):=⟨m9.o.size,g7.o.lt,b8.o.size⟩;have O:=O5 b8.o e6;have HR:Hid (AQt I w5.heap.size W6.heap.size w9.heap.size [.int .i64 (SM S F T sl),.int .i64 (SW S F T sl),.slice q1 (SB S F T sl).length m1,.slice q2 (SA S F T sl).length m2,.slice q3 (ST S F T sl).length m3] (.slice (some k1) S.length l1) (.slice k2 F.length l2) (.slice k3 T.length l3) (.slice q1 (SB S F T sl).length m1) (.slice q2 (SA S F T sl).length m2) (.slice q3 (ST S F T sl).length m3) S F T A B (SB S F T sl) (SA S F T sl) (ST S F T sl) A9 B9 d7):=
  ⟨⟨O5 g5.o e6,m7,r9.o.bl e6,s6.o.bl e6⟩,g7.o.bl g7.o.lt O,n4.o.bl O,s5.o.bl O⟩
 rw[Y];clear Y e6 m7 O r9 s6 g5 b8 n4 s5 g7 n0 m9 q9;generalize w5.heap.size=N6 at HR d6 s1 ⊢;generalize W6.heap.size=N9 at HR d6 n3;generalize w9.heap.size=s7 at HR d6 s2 ⊢;refine (It _ _ d7 HR.o.g.n.at (J.o d7 HR.o.g.low).2.2.2.2).mono ?_;rintro e f8 ⟨rfl,j9⟩;have j:=Hd (HR.o.belQ j9);clear j9 HR
 go_upto_region 12 with fail
 go_cut [38] from 34 to 38 (fun s wx=>s=.bool false/\AQt I N6 N9 s7 [.int .i64 (SM S F T sl),.int .i64 (SW S F T sl),.slice q1 (SB S F T sl).length m1,.slice q2 (SA S F T sl).length m2,.slice q3 (ST S F T sl).length m3] (.slice (some k1) S.length l1) (.slice k2 F.length l2) (.slice k3 T.length l3) (.slice q1 (SB S F T sl).length m1) (.slice q2 (SA S F T sl).length m2) (.slice q3 (ST S F T sl).length m3) S F T A B (SB S F T sl) (SA S F T sl) (ST S F T sl) A9 B9 wx)
 case first=>
  have n1:Hid (∀ W,Up f8 W->W.cell? ⟨w.heap.size,0,none⟩=some (.slice a1 S.length c1)/\W.cell? ⟨w.heap.size,1,none⟩=some (.slice a2 F.length c2)/\W.cell? ⟨w.heap.size,2,none⟩=some (.slice a3 T.length c3)/\W.cell? ⟨N6,0,none⟩=some (.slice (some k1) S.length l1)/\W.cell? ⟨N6,1,none⟩=some (.slice k2 F.length l2)/\W.cell? ⟨N6,2,none⟩=some (.slice k3 T.length l3)):=fun W h=>by
   obtain⟨b0,b1,b2⟩:=(J.o W (O5 j.o.g.low h)).2.1;obtain⟨g0,g1,g2⟩:=(j.o.y.bl j.o.y.lt h).c3;exact⟨b0,b1,b2,g0,g1,g2⟩
  have q8:Hid (Up f8 f8.drew):=(Je _ _).drew;have x5:=Hd (J.o f8.drew j.o.g.low.drew).2.2.1
  go_region_held3 (fun W=>W.cell? ⟨w.heap.size,0,none⟩=some (.slice a1 S.length c1)/\W.cell? ⟨w.heap.size,1,none⟩=some (.slice a2 F.length c2)/\W.cell? ⟨w.heap.size,2,none⟩=some (.slice a3 T.length c3)/\W.cell? ⟨N6,0,none⟩=some (.slice (some k1) S.length l1)/\W.cell? ⟨N6,1,none⟩=some (.slice k2 F.length l2)/\W.cell? ⟨N6,2,none⟩=some (.slice k3 T.length l3))
   (first
     | exact n1.o _ q8.o
     | exact n1.o _ h9.o
     | exact n1.o _ b4.o)
   (first
     | (go_at_call 8;refine (Dd f8.drew x5.o HS.o).mono ?_;rintro e y4 ⟨u1,v1,u2,v2,u3,v3,rfl,l7,-,k0⟩;have s3:=Hd l7.at;have b4:=q8.up k0;clear l7 k0)
     | (go_at_call 11;refine (Cj y4 (j.o.n.at.bl b4.o) s3.o).mono ?_;rintro e F2 ⟨rfl,k7⟩;have h9:=b4.up k7;clear k7))
  all_goals
   go_wp2
   go_meet
   exact⟨rfl,j.o.belQ h9.o⟩
 rename World=>wf
 obtain⟨rfl,hr⟩:=hcut;have U:=Hd hr;clear hr j;have hz:=d6.o;obtain⟨y0,y1,y9⟩:=U.o.y.c3
 go_wp2_with fail
 clear y0 y1 y9;have x9:=BT HS.o;refine (Fy I.heap.size N6 wf U.o.X HS.o).mono ?_;rintro e q5 ⟨rfl,m5,-⟩;have E:=Hd (U.o.g.on m5 (fun b hb=>⟨x6.o b hb,by have:=s1.o b hb;omega⟩) n3.o (by omega));obtain⟨k18,l4⟩:=Oa (kB S F T);rw[l4];have H1:decide ((k18:Int)<0)=false:=Jc (by omega);obtain⟨e0,e1,e2,e3,e4⟩:=Ca E.o.x;obtain⟨r0,r1,r2,r3,r4⟩:=Ca (J.o q5 E.o.low).2.2.2.1;clear m5 U l4 hz x9
 go_wp2_with fail
 clear e0 e1 e2 e3 e4 r0 r1 r2 r3 r4;refine (It _ _ q5 E.o.n.at (J.o q5 E.o.low).2.2.2.2).mono ?_;rintro e y5 ⟨rfl,k8⟩;have d:=Hd (E.o.bl k8);have n7:=Hd (TE HS.o m6);obtain⟨e0,e1,e2,e3,e4⟩:=Ca d.o.x;clear k8 E
 go_wp2_with fail
 clear e0 e1 e2 e3 e4;refine (Mh N9 s7 _ _ y5 d.o.X n7.o).mono ?_;rintro e y6 ⟨rfl,e9,l0⟩;have hz:=d6.o;have i1:=Hd (e9.low d.o.low d.o.low.size (fun b hb=>by have:=n3.o b hb;omega));have V:=Hd (e9.bx d.o.x (fun hp=>absurd (s2.o _ hp) (Nat.lt_irrefl _)));have b9:=Hd l0;have s0:=Hd d.o.X.sh;obtain⟨kk,o8⟩:=Oa (kB (SB S F T sl) (SA S F T sl) (ST S F T sl));have r5:=Hd o8;rw[o8];have H2:decide ((kk:Int)<0)=false:=Jc (by omega);obtain⟨e0,e1,e2,e3,e4⟩:=Ca V.o;clear e9 l0 d hz o8
 go_wp2_with fail
 clear e0 e1 e2 e3 e4;refine (Q6 _ _ y6 s0.o b9.o n7.o).mono ?_;rw[r5.o];rintro e h7 ⟨rfl,Z⟩;have K:Hid (Up I h7):=O5 i1.o Z;have c6:=Hd (V.o.bl V.o.lt Z);have i7:=Hd (b9.o.bl Z);obtain⟨b0,b1,b2⟩:=(J.o h7 K.o).2.1;clear Z i1 V b9
 go_wp2_with fail
 clear b0 b1 b2;refine (Dd h7 (J.o h7 K.o).2.2.1 HS.o).mono ?_;rintro e u8 ⟨u1,v1,u2,v2,u3,v3,rfl,l8,-,a7⟩;have j3:=Hd l8;have b6:Hid (Up I u8):=O5 K.o a7;have c8:=Hd (c6.o.bl c6.o.lt a7);have i8:=Hd (i7.o.bl a7);clear l8 a7 K c6 i7
 go_wp2_with fail
 refine (n2.o _ _ _ _ j3.o.at HZ.o (HV.o.bl (J.o u8 b6.o).1)).mono ?_;rintro e f9 ⟨u1,v1,u2,v2,u3,v3,A6,B6,rfl,-,-,l9,a8⟩;have j4:=Hd l9;have M:Hid (Up I f9):=O5 b6.o a8;have d0:=Hd (c8.o.bl c8.o.lt a8);have j0:=Hd (i8.o.bl a8);have y3:G<f9.heap.size:=Jq HQ.o.2 M.o.size;obtain⟨r0,r1,r2,r3,r4⟩:=Ca (J.o f9 M.o).2.2.2.1;clear l9 a8 j3 b6 c8 i8
 go_wp2_with fail
 clear r0 r1 r2 r3 r4;obtain⟨g8,e7⟩:=Oa (f9.alloc (.cells #[.int .i64 (SM S F T sl),.int .i64 (SW S F T sl),.slice u1 (SB S F T sl).length v1,.slice u2 (SA S F T sl).length v2,.slice u3 (ST S F T sl).length v3] 33));have e5:Up f9 g8:=by rw[<-e7];exact Oz _ _
 have b7:Hid (Up I g8):=O5 M.o e5;have d4:=Hd (d0.o.bl d0.o.lt e5);have j1:=Hd (j0.o.bl e5);have j5:=Hd (j4.o.bl e5);rw[e7];clear e7 e5 M d0 j0 j4 y3;refine (It _ _ g8 j5.o.at (J.o g8 b7.o).2.2.2.2).mono ?_;rintro e u9 ⟨rfl,b3⟩;have i6:Hid (Up I u9):=O5 b7.o b3;have j7:=Hd (d4.o.bl d4.o.lt b3);have j2:=Hd (j1.o.bl b3);obtain⟨e0,e1,e2,e3,e4⟩:=Ca j7.o;clear b3 b7 d4 j1 j5
 go_wp2_with fail
 clear e0 e1 e2 e3 e4;refine (Q6 _ _ u9 s0.o j2.o n7.o).mono ?_;rw[r5.o];rintro e y7 ⟨rfl,k9⟩;have q6:=Hd (J.o y7 (O5 i6.o k9)).1;clear k9 i6 j7 j2
 go_wp2
 go_ret
 exact⟨rfl,q6.o⟩
end Go.Proofs.YtdmdmgfjpomdbaaGreatDoor
