import Derived.Test.YtdmdmgfjpomdbaaGreatDoorP00
import Derived.Test.YtdmdmgfjpomdbaaGreatDoorT1
import Derived.Test.YtdmdmgfjpomdbaaGreatDoorP39
import Derived.Test.YtdmdmgfjpomdbaaGreatDoorP35
set_option linter.all false
set_option maxRecDepth 100000
set_option maxHeartbeats 8000000
namespace Go.Proofs.YtdmdmgfjpomdbaaGreatDoor
open ChangeShapes WideShapes ChangeAt RowKit
variable {A B:List Value}{F:List Fn}{S:List (List UInt8)}{T:List Tm}{uf us ut:Value}{w w':World}
theorem Ca {g:Nat}{a b c d e:Value}(h:Bx w g [a,b,c,d,e]):w.cell? ⟨g,0,none⟩=some a/\w.cell? ⟨g,1,none⟩=some b/\w.cell? ⟨g,2,none⟩=some c/\w.cell? ⟨g,3,none⟩=some d/\w.cell? ⟨g,4,none⟩=some e:=⟨h.cell 0,h.cell 1,h.cell 2,h.cell 3,h.cell 4⟩
theorem IJ {N g:Nat}{W:World}(hb:Below N w W)(hN:N<=g){a b c d e:Value}:Below N w (((((W.setCell ⟨g,0,none⟩ a).setCell ⟨g,1,none⟩ b).setCell ⟨g,2,none⟩ c).setCell ⟨g,3,none⟩ d).setCell ⟨g,4,none⟩ e):=((((hb.setCell (p:=⟨g,0,none⟩) hN a).setCell (p:=⟨g,1,none⟩) hN b).setCell (p:=⟨g,2,none⟩) hN c).setCell (p:=⟨g,3,none⟩) hN d).setCell (p:=⟨g,4,none⟩) hN e
theorem BankN.bl {base:Nat}(h:BankN w base us uf ut S F T)(hb:Up w w'):BankN w' base us uf ut S F T:=h.keep (fun k _ hl=>hb.block k hl)
theorem OnB.low {P:Nat->Prop}{N:Nat}{w0:World}(h:OnB P w w')(hb:Below N w0 w)(hN:N<=w.heap.size)(hP:∀ b,P b->N<=b):Below N w0 w':=
 ⟨h.os.trans hb.os,h.tape.trans hb.tape,h.output.trans hb.output,Yc hb.size h.size,fun k hk=>(h.block k (by omega) (fun hp=>by have:=hP k hp;omega)).trans (hb.block k hk)⟩
theorem BankN.on {P:Nat->Prop}{base:Nat}(h:BankN w base us uf ut S F T)(ho:OnB P w w')(hP:∀ b,P b->b<base):BankN w' base us uf ut S F T:=
 h.keep (fun k hk hl=>ho.block k hl (fun hp=>by have:=hP k hp;omega))
theorem BankX.lt {N0 N1:Nat}(h:BankX w N0 N1 us uf ut S F T A B){b:Nat}(hb:PB us uf ut A B b):b<w.heap.size:=by
 rcases hb with hb|hb|hb
 ·obtain⟨n,d⟩:=h.sk b hb;exact d.lt
 ·rcases h.f.blk hb with⟨n,d⟩|⟨n,d⟩<;>exact d.lt
 rcases h.t.blk hb with⟨n,d⟩|⟨n,d⟩<;>exact d.lt
structure GSt (wc:World)(N9 N10:Nat)(l:List Value)(gs gf gt:Value)(S:List (List UInt8))(F:List Fn)(T:List Tm)(A B:List Value)(wk:World):Prop where
 low:Up wc wk
 x:Bx wk N10 l
 n:BankN wk N9 gs gf gt S F T
 X:BankX wk N9 N10 gs gf gt S F T A B
theorem BankX.bl {N0 N1:Nat}(h:BankX w N0 N1 us uf ut S F T A B)(hb:Up w w'):BankX w' N0 N1 us uf ut S F T A B:=h.on ((OnB.refl (fun _=>False) w).bl hb) (fun _ _ h=>h)
theorem GSt.bl {wc:World}{N9 N10:Nat}{l:List Value}{gs gf gt:Value}{wk wk':World}(h:GSt wc N9 N10 l gs gf gt S F T A B wk)(hb:Up wk wk'):GSt wc N9 N10 l gs gf gt S F T A B wk':=
 ⟨h.low.trans (hb.mono h.low.size),h.x.bl h.x.lt hb,h.n.bl hb,h.X.bl hb⟩
theorem GSt.on {wc:World}{N9 N10:Nat}{l:List Value}{gs gf gt:Value}{wk wk':World}{P:Nat->Prop}(h:GSt wc N9 N10 l gs gf gt S F T A B wk)(ho:OnB P wk wk')(hP:∀ b,P b->wc.heap.size<=b/\b<N9)(hl:∀ b,PB gs gf gt A B b->N9<=b)(hN:N9<=N10):GSt wc N9 N10 l gs gf gt S F T A B wk':=
 ⟨ho.low h.low h.low.size (fun b hb=>(hP b hb).1),ho.bx h.x (fun hp=>by have:=(hP _ hp).2;omega),h.n.on ho (fun b hb=>(hP b hb).2),h.X.on ho (fun b hb hp=>by have:=(hP b hp).2;have:=hl b hb;omega)⟩
end Go.Proofs.YtdmdmgfjpomdbaaGreatDoor
namespace Go.Proofs.YtdmdmgfjpomdbaaGreatDoor
open ChangeShapes WideShapes ChangeAt RowKit Proofs.Tryz
variable {F:List Fn}{S:List (List UInt8)}{T:List Tm}{t:Tm}
structure ATt (wc:World)(N6 N7 N8 N9 N10:Nat)(l:List Value)(xs xf xt va gs gf gt:Value)(S:List (List UInt8))(F:List Fn)(T:List Tm)(t:Tm)(A B:List Value)(S':List (List UInt8))(F':List Fn)(T':List Tm)(A' B':List Value)(wk:World):Prop where
 g:GSt wc N9 N10 l gs gf gt S' F' T' A' B' wk
 y:Bx wk N6 [xs,xf,xt]
 n:BankN wk wc.heap.size xs xf xt S F T
 X:BankX wk wc.heap.size N6 xs xf xt S F T A B
 z:Bx wk N8 [.int .i64 t.op,.string (Oo t.sort),.string (Oo t.text),.int .i64 t.a,.int .i64 t.b,va]
 o:wk.ownsRow N7 3 1 va t.kids.length (Nx t.kids)
theorem ATt.belT {wc:World}{N6 N7 N8 N9 N10:Nat}{l:List Value}{xs xf xt va gs gf gt:Value}{A B:List Value}{S':List (List UInt8)}{F':List Fn}{T':List Tm}{A' B':List Value}{wk wk':World}(h:ATt wc N6 N7 N8 N9 N10 l xs xf xt va gs gf gt S F T t A B S' F' T' A' B' wk)(hb:Up wk wk'):ATt wc N6 N7 N8 N9 N10 l xs xf xt va gs gf gt S F T t A B S' F' T' A' B' wk':=
 ⟨h.g.bl hb,h.y.bl h.y.lt hb,h.n.bl hb,h.X.bl hb,h.z.bl h.z.lt hb,Et h.o hb⟩
theorem TK (hs:SmallB S F T)(ht:F1 t):SmallB (ST S F T t) (SA S F T t) (SB S F T t):=by
 unfold ST SA SB
 by_cases d:SM S F T t=1
 ·rw[if_pos d,if_pos d,if_pos d];exact⟨⟨Jr _,fun x hx=>by cases hx⟩,⟨Jr _,fun x hx=>by cases hx⟩,⟨Jr _,fun x hx=>by cases hx⟩⟩
 rw[if_neg d,if_neg d,if_neg d]
 split
 ·rename_i h0;refine⟨hs.s,hs.f,?_,fun x hx=>?_⟩
  ·have:T.length<3000:=by
    have h2:=h0.1;unfold SM at h2
    split at h2
    ·cases h2
    split at h2
    ·cases h2
    split at h2
    ·rename_i h3;omega
    split at h2
    ·cases h2
    omega
   rw[Yn];simp;omega
  rcases Zm.1 hx with hx|hx
  ·exact hs.t.2 x hx
  obtain rfl:=Zv.1 hx;exact ht
 exact hs
theorem TU {vs vf vt va:Value}(w:World)(h:ArgBank w vs vf vt S F T)(ha:G2 w va t.kids)(hnm:t.sort.length<=maxLen)(hsm:t.text.length<=maxLen)(hwt:BD [t])(hw:BD T)(hv:Vars w) :
 Calls prog 5 #[.agg #[vs,vf,vt],.agg #[.int .i64 t.op,.string (Oo t.sort),.string (Oo t.text),.int .i64 t.a,.int .i64 t.b,va]] w fun e w'=>e=.returned (.bool true)/\Up w w':=by
 obtain⟨a1,c1,e1,-,-,-,-⟩:=h.s;obtain⟨a2,c2,e2,-,-,-,-⟩:=h.f;obtain⟨a3,c3,e3,-,-,-,-⟩:=h.t;have s7:=Hd ha;obtain⟨a4,c4,rfl,-,-,-⟩:=ha;have HA:=Hd h;have HW:=Hd hw;have HV:=Hd hv;have F2:=Hd hwt;subst e1 e2 e3;clear h hw hv hwt
 go_in
 go_upto_region 2 with fail
 obtain⟨W1,H7,K0,x1,x2,L5⟩:=VO w [.slice a1 S.length c1,.slice a2 F.length c2,.slice a3 T.length c3] [.int .i64 t.op,.string (Oo t.sort),.string (Oo t.text),.int .i64 t.a,.int .i64 t.b,.slice a4 t.kids.length c4] 26 52;rw[H7];clear H7;have m7:=Hd K0;have n4:=Hd x1;have s9:=Hd x2;have B7:=Hd L5;obtain⟨b0,b1,b2⟩:=n4.o.c3;clear K0 x1 x2 L5
 go_wp2_with fail
 refine (EN 1048576 _ (HA.o.bl m7.o) leR).mono ?_;rintro e w2 ⟨(rfl|⟨z2,Z2,rfl,x6⟩),hb2⟩
 ·have h8:=m7.up hb2;clear hb2
  go_wp2
  go_ret
  exact⟨rfl,h8.o⟩
 have h8:=m7.up hb2;have u7:=Hd (n4.o.bl n4.o.lt hb2);have m9:=Hd (s9.o.bl s9.o.lt hb2);have HS:=Hd x6;have HZ:=Hd (x6.z HW.o);have y2:decide ((z2:Int)<0)=false:=dF (by omega)
 obtain⟨U2,V1,V2,W2,W4,W7⟩:=TO m9.o;have D0:Hid (w.heap.size+1+1<=w2.heap.size):=by have:=hb2.size;have:=B7.o;unfold Hid;omega
 clear hb2 x6 b0 b1 b2
 go_wp2_with fail
 refine (EI t _ z2 w2 (s7.o.bl h8.o) hnm hsm Z2).mono ?_;rintro e w3 ⟨(rfl|⟨z3,hz3,rfl,L6⟩),f8⟩
 ·have d0:=h8.up f8;clear f8
  go_wp2
  go_ret
  exact⟨rfl,d0.o⟩
 have d0:=h8.up f8;have u8:=Hd (u7.o.bl u7.o.lt f8);have t6:=Hd (m9.o.bl m9.o.lt f8);have d5:=Hd L6;have y3:decide ((z3:Int)<0)=false:=dF (by omega)
 have D1:Hid (w.heap.size+1+1<=w3.heap.size):=by have:=f8.size;have:=D0.o;unfold Hid;omega
 have K:Hid (∀ W,Up w3 W->W.cell? ⟨w.heap.size,0,none⟩=some (.slice a1 S.length c1)/\W.cell? ⟨w.heap.size,1,none⟩=some (.slice a2 F.length c2)/\W.cell? ⟨w.heap.size,2,none⟩=some (.slice a3 T.length c3)/\W.cell? ⟨w.heap.size+1,0,none⟩=some (.int .i64 t.op)/\W.cell? ⟨w.heap.size+1,1,none⟩=some (.string (Oo t.sort))/\W.cell? ⟨w.heap.size+1,2,none⟩=some (.string (Oo t.text))/\W.cell? ⟨w.heap.size+1,3,none⟩=some (.int .i64 t.a)/\W.cell? ⟨w.heap.size+1,4,none⟩=some (.int .i64 t.b)/\W.cell? ⟨w.heap.size+1,5,none⟩=some (.slice a4 t.kids.length c4)):=fun W h=>by
  obtain⟨b0,b1,b2⟩:=(u8.o.bl u8.o.lt h).c3;exact⟨b0,b1,b2,TO (t6.o.bl t6.o.lt h)⟩
 have HT:Hid (∀ W,Up w3 W->Up w W/\ArgBank W (.slice a1 S.length c1) (.slice a2 F.length c2) (.slice a3 T.length c3) S F T/\G2 W (.slice a4 t.kids.length c4) t.kids):=fun W h=>⟨d0.o.trans (h.mono d0.o.size),HA.o.bl (d0.o.trans (h.mono d0.o.size)),s7.o.bl (d0.o.trans (h.mono d0.o.size))⟩;clear f8 L6 U2 V1 V2 W2 W4 W7 n4 u7 s9 m9 m7 h8 B7 D0 u8 t6 HA s7
 go_upto_region 8 with fail
 go_cut [6] from 24 to 28 (fun s wx=>∃ G p1 d1 p2 d2 p3 d3,s=.pointer (some ⟨G,0,none⟩)/\w3.heap.size<=G/\Bx wx G [.int .i64 (SM S F T t),.int .i64 (SW S F T t),.slice p1 (ST S F T t).length d1,.slice p2 (SA S F T t).length d2,.slice p3 (SB S F T t).length d3]/\BankAt wx (.slice p1 (ST S F T t).length d1) (.slice p2 (SA S F T t).length d2) (.slice p3 (SB S F T t).length d3) (ST S F T t) (SA S F T t) (SB S F T t)/\Up w3 wx)
 case first=>
  have X1:=K.o w3 (Je _ _)
  go_region_held3 (fun W=>W.cell? ⟨w.heap.size,0,none⟩=some (.slice a1 S.length c1)/\W.cell? ⟨w.heap.size,1,none⟩=some (.slice a2 F.length c2)/\W.cell? ⟨w.heap.size,2,none⟩=some (.slice a3 T.length c3)/\W.cell? ⟨w.heap.size+1,0,none⟩=some (.int .i64 t.op)/\W.cell? ⟨w.heap.size+1,1,none⟩=some (.string (Oo t.sort))/\W.cell? ⟨w.heap.size+1,2,none⟩=some (.string (Oo t.text))/\W.cell? ⟨w.heap.size+1,3,none⟩=some (.int .i64 t.a)/\W.cell? ⟨w.heap.size+1,4,none⟩=some (.int .i64 t.b)/\W.cell? ⟨w.heap.size+1,5,none⟩=some (.slice a4 t.kids.length c4))
   (first
     | with_reducible exact K.o _ j.o
     | with_reducible exact K.o _ (Ex j.o _)
     | with_reducible exact K.o _ (IJ j.o E.o.size)
     | with_reducible exact K.o _ (IJ j.o I.o.size)
     | with_reducible exact K.o _ (IJ j.o leR)
     | with_reducible exact K.o _ E.o
     | with_reducible exact K.o _ (Ex E.o _)
     | with_reducible exact K.o _ I.o
     | with_reducible exact K.o _ (Ex I.o _)
     | with_reducible exact K.o _ (Je _ _).drew
     | with_reducible exact K.o _ (Oz _ _).drew)
   (first
     | (go_at_call 8;refine (Dd _ (HT.o _ (by first|with_reducible exact (Je _ _).drew|exact (Oz _ _).drew)).2.1 HS.o).mono ?_;rintro e w4 ⟨k1,l1,k2,l2,k3,l3,rfl,k7,-,f9⟩;have t7:=Hd k7;have I:Hid (Up w3 w4):=O5 (by first|with_reducible exact (Je _ _).drew|exact (Oz _ _).drew) f9;try (have j1:=Hd (RP f9));clear k7 f9)
     | (go_at_call 23;refine (EL t _ _ (HT.o _ (by first|with_reducible exact I.o|exact Ex I.o _)).2.2 d5.o.2.2).mono ?_;rintro e w5 ⟨g5,c5,rfl,k9,J⟩;have n2:=Hd k9;have d9:Hid (Up w4 w5):=O5 (by first|with_reducible exact Je _ _|exact Oz _ _) J;have E:Hid (Up w3 w5):=O5 I.o d9.o;(first|have d4:=Hd (Wg J)|have d4:=Hd (j1.o.bl j1.o.lt J)|skip);clear k9 J)
     | (go_at_call 22;refine (TZ (t7.o.bl (O5 d9.o (by first|with_reducible exact Je _ _|exact Oz _ _))).o HZ.o HS.o ⟨_,_,_,rfl⟩ ((FD n2.o).bl (by first|with_reducible exact Je _ _|exact Oz _ _)) (NP n2.o) d5.o).mono ?_;rintro e w6 ⟨us,uf,ut,rfl,M,d6⟩;obtain⟨p1,d1,e1,-⟩:=M.at.s;obtain⟨p2,d2,e2,-⟩:=M.at.f;obtain⟨p3,d3,e3,-⟩:=M.at.t;subst e1 e2 e3;have j5:=Hd M;have i7:Hid (Up w5 w6):=O5 (by first|with_reducible exact Je _ _|exact Oz _ _) d6;have j:Hid (Up w3 w6):=O5 E.o i7.o;(first|have d:=Hd (Wg d6)|have d:=Hd (d4.o.bl d4.o.lt d6)|skip);try (have r0:=d.o.cell 0;have r1:=d.o.cell 1;have r2:=d.o.cell 2;have r3:=d.o.cell 3;have r4:=d.o.cell 4;have f0:=d.o.fz 0;have f1:=d.o.fz 1;have f2:=d.o.fz 2;have f3:=d.o.fz 3;have f4:=d.o.fz 4);clear M d6))
  all_goals
   go_wp2
   go_meet
   first
    | (obtain⟨WE,v8,hE,v7,hh⟩:=YB d.o j.o (by first|exact E.o.size|exact I.o.size|exact leR) (.int .i64 (SM S F T t)) (.int .i64 (SW S F T t)) (.slice p1 (ST S F T t).length d1) (.slice p2 (SA S F T t).length d2) (.slice p3 (SB S F T t).length d3);refine⟨_,p1,d1,p2,d2,p3,d3,rfl,(by first|exact E.o.size|exact I.o.size|exact leR),?_⟩;rw[v8];exact⟨hE,(j5.o.keep (w':=WE) (fun k hk _=>hh k (by first|(have:=d4.o.lt;omega)|(simp at hk;omega)))).at,v7⟩)
    | exact⟨w6.heap.size,p1,d1,p2,d2,p3,d3,rfl,j.o.size,Oi w6 [.int .i64 (SM S F T t),.int .i64 (SW S F T t),.slice p1 (ST S F T t).length d1,.slice p2 (SA S F T t).length d2,.slice p3 (SB S F T t).length d3] 33,(j5.o.bl (Oz _ _)).at,Ex j.o _⟩
 rename World=>wo
 obtain⟨G,p1,d1,p2,d2,p3,d3,rfl,hG,hx,K6,x3⟩:=hcut;have HO:Hid (∀ W,Up wo W->Up w W/\(W.cell? ⟨w.heap.size,0,none⟩=some (.slice a1 S.length c1)/\W.cell? ⟨w.heap.size,1,none⟩=some (.slice a2 F.length c2)/\W.cell? ⟨w.heap.size,2,none⟩=some (.slice a3 T.length c3)/\W.cell? ⟨w.heap.size+1,0,none⟩=some (.int .i64 t.op)/\W.cell? ⟨w.heap.size+1,1,none⟩=some (.string (Oo t.sort))/\W.cell? ⟨w.heap.size+1,2,none⟩=some (.string (Oo t.text))/\W.cell? ⟨w.heap.size+1,3,none⟩=some (.int .i64 t.a)/\W.cell? ⟨w.heap.size+1,4,none⟩=some (.int .i64 t.b)/\W.cell? ⟨w.heap.size+1,5,none⟩=some (.slice a4 t.kids.length c4))/\ArgBank W (.slice a1 S.length c1) (.slice a2 F.length c2) (.slice a3 T.length c3) S F T/\G2 W (.slice a4 t.kids.length c4) t.kids/\Bx W G [.int .i64 (SM S F T t),.int .i64 (SW S F T t),.slice p1 (ST S F T t).length d1,.slice p2 (SA S F T t).length d2,.slice p3 (SB S F T t).length d3]/\BankAt W (.slice p1 (ST S F T t).length d1) (.slice p2 (SA S F T t).length d2) (.slice p3 (SB S F T t).length d3) (ST S F T t) (SA S F T t) (SB S F T t)):=fun W h=>by
  have h3:=O5 x3 h;exact⟨(HT.o W h3).1,K.o W h3,(HT.o W h3).2.1,(HT.o W h3).2.2,hx.bl hx.lt h,K6.bl h⟩
 have HQ:Hid (w.heap.size+1<wo.heap.size/\G<wo.heap.size):=⟨Jq (Nat.lt_of_succ_le D1.o) x3.size,hx.lt⟩;clear hx K6 x3 hG K HT d0 D1;obtain⟨b0,b1,b2,-⟩:=(HO.o wo (Je _ _)).2.1
 go_wp2_with fail
 clear b0 b1 b2;refine (Dd wo (HO.o wo (Je _ _)).2.2.1 HS.o).mono ?_;rintro e w5 ⟨k1,l1,k2,l2,k3,l3,rfl,L1,⟨A,B,w1,s2⟩,J⟩;have z1:=Hd L1;have H0:=Hd w1;have T0:=Hd s2;have E:=Hd J;have E1:Hid (∀ b,PB (.slice (some k1) S.length l1) (.slice k2 F.length l2) (.slice k3 T.length l3) A B b->b<w5.heap.size):=fun b hb=>w1.lt hb;have q5:w.heap.size+1<w5.heap.size:=Jq HQ.o.1 J.size;obtain⟨-,-,-,b3,b4,b5,b6,b7,b8⟩:=(HO.o w5 J).2.1;clear L1 w1 s2 J
 go_wp2_with fail
 clear b3 b4 b5 b6 b7 b8;obtain⟨W6,o1⟩:=Oa (w5.alloc (.cells #[.slice (some k1) S.length l1,.slice k2 F.length l2,.slice k3 T.length l3] 31));have o0:Up w5 W6:=by rw[<-o1];exact Oz _ _
 have M0:Bx W6 w5.heap.size [.slice (some k1) S.length l1,.slice k2 F.length l2,.slice k3 T.length l3]:=by rw[<-o1];exact Oi w5 _ _
 have j:Hid (Up wo W6):=O5 E.o o0;have j8:=Hd M0;have z6:=Hd (z1.o.bl o0);have H1:=Hd (H0.o.bl o0);rw[o1];clear o1 o0 M0 z1 H0 q5;refine (EL t _ W6 (HO.o W6 j.o).2.2.2.1 d5.o.2.2).mono ?_;rintro e w7 ⟨g7,c7,rfl,o3,g3⟩;have B2:=Hd o3;have y7:Hid (Up wo w7):=O5 j.o g3;have n5:=Hd (j8.o.bl j8.o.lt g3);have z7:=Hd (z6.o.bl g3);have H2:=Hd (H1.o.bl g3);have n0:Hid (∀ g,(Value.slice (some ⟨g7,0,none⟩) t.kids.length c7).ownBlock=some g->W6.heap.size<=g/\g<w7.heap.size):=fun g hg=>⟨Ol o3 g hg,(o3.lt g hg).2⟩;have q0:=Hd g3.size;have q7:w5.heap.size<w7.heap.size:=Jq j8.o.lt g3.size;obtain⟨y0,y1,m5⟩:=n5.o.c3;clear o3 g3 z6 H1
 go_wp2_with fail
 clear y0 y1 m5;obtain⟨W8,o2⟩:=Oa (w7.alloc (.cells #[.int .i64 t.op,.string (Oo t.sort),.string (Oo t.text),.int .i64 t.a,.int .i64 t.b,.slice (some ⟨g7,0,none⟩) t.kids.length c7] 55));have i6:Up w7 W8:=by rw[<-o2];exact Oz _ _
 have M1:Bx W8 w7.heap.size [.int .i64 t.op,.string (Oo t.sort),.string (Oo t.text),.int .i64 t.a,.int .i64 t.b,.slice (some ⟨g7,0,none⟩) t.kids.length c7]:=by rw[<-o2];exact Oi w7 _ _
 have s8:Hid (Up wo W8):=O5 y7.o i6;have u9:=Hd (n5.o.bl n5.o.lt i6);have t8:=Hd (z7.o.bl i6);have H3:=Hd (H2.o.bl i6);have u0:=Hd (Et B2.o i6);have n6:=Hd M1;rw[o2];clear o2 i6 M1 z7 H2 B2 n5;refine (SJ t8.o.at HZ.o (HV.o.bl (HO.o W8 s8.o).1) (FD u0.o) d5.o F2.o).mono ?_;rintro e w9 ⟨q1,m1,q2,m2,q3,m3,A9,B9,rfl,w8,s3,L2,x0⟩;have z8:=Hd L2;have H4:=Hd w8;have n1:=Hd s3;have E2:Hid (∀ b,PB (.slice q1 (ST S F T t).length m1) (.slice q2 (SA S F T t).length m2) (.slice q3 (SB S F T t).length m3) A9 B9 b->b<w9.heap.size):=fun b hb=>w8.lt hb;have m8:Hid (Up wo w9):=O5 s8.o x0;have i8:=Hd x0;have q9:G<w9.heap.size:=Jq HQ.o.2 m8.o.size;obtain⟨r0,r1,r2,r3,r4⟩:=Ca (HO.o w9 m8.o).2.2.2.2.1;clear L2 w8 s3 x0
 go_wp2_with fail
 clear r0 r1 r2 r3 r4;obtain⟨j9,g9⟩:=Oa (w9.alloc (.cells #[.int .i64 (SM S F T t),.int .i64 (SW S F T t),.slice q1 (ST S F T t).length m1,.slice q2 (SA S F T t).length m2,.slice q3 (SB S F T t).length m3] 33));have k0:Up w9 j9:=by rw[<-g9];exact Oz _ _
 have s5:Bx j9 w9.heap.size [.int .i64 (SM S F T t),.int .i64 (SW S F T t),.slice q1 (ST S F T t).length m1,.slice q2 (SA S F T t).length m2,.slice q3 (SB S F T t).length m3]:=by rw[<-g9];exact Oi w9 _ _
 have e9:Hid (wo.heap.size<=w5.heap.size/\w5.heap.size<W6.heap.size/\W6.heap.size<=w7.heap.size/\w7.heap.size<W8.heap.size/\W8.heap.size<=w9.heap.size):=⟨E.o.size,j8.o.lt,q0.o,n6.o.lt,i8.o.size⟩;have a8:=O5 i8.o k0;have HR:Hid (ATt wo w5.heap.size W6.heap.size w7.heap.size W8.heap.size w9.heap.size [.int .i64 (SM S F T t),.int .i64 (SW S F T t),.slice q1 (ST S F T t).length m1,.slice q2 (SA S F T t).length m2,.slice q3 (SB S F T t).length m3] (.slice (some k1) S.length l1) (.slice k2 F.length l2) (.slice k3 T.length l3) (.slice (some ⟨g7,0,none⟩) t.kids.length c7) (.slice q1 (ST S F T t).length m1) (.slice q2 (SA S F T t).length m2) (.slice q3 (SB S F T t).length m3) S F T t A B (ST S F T t) (SA S F T t) (SB S F T t) A9 B9 j9):=
  ⟨⟨O5 m8.o k0,s5,z8.o.bl k0,H4.o.bl k0⟩,u9.o.bl u9.o.lt a8,t8.o.bl a8,H3.o.bl a8,n6.o.bl n6.o.lt a8,Et u0.o a8⟩
 rw[g9];clear g9 k0 s5 a8 z8 H4 m8 i8 t8 H3 u0 u9 n6 s8 y7 j E j8 q0 q9 q7;generalize w5.heap.size=N6 at HR e9 E1 ⊢;generalize W6.heap.size=N7 at HR e9 n0;generalize w7.heap.size=N8 at HR e9 n0 ⊢;generalize W8.heap.size=N9 at HR e9 n1;generalize w9.heap.size=v6 at HR e9 E2 ⊢;refine (It _ _ j9 HR.o.g.n.at (HO.o j9 HR.o.g.low).2.2.2.2.2).mono ?_;rintro e l7 ⟨rfl,r5⟩;have V:=Hd (HR.o.belT r5);clear r5 HR
 go_upto_region 14 with fail
 go_cut [44] from 40 to 44 (fun s wx=>s=.bool false/\ATt wo N6 N7 N8 N9 v6 [.int .i64 (SM S F T t),.int .i64 (SW S F T t),.slice q1 (ST S F T t).length m1,.slice q2 (SA S F T t).length m2,.slice q3 (SB S F T t).length m3] (.slice (some k1) S.length l1) (.slice k2 F.length l2) (.slice k3 T.length l3) (.slice (some ⟨g7,0,none⟩) t.kids.length c7) (.slice q1 (ST S F T t).length m1) (.slice q2 (SA S F T t).length m2) (.slice q3 (SB S F T t).length m3) S F T t A B (ST S F T t) (SA S F T t) (SB S F T t) A9 B9 wx)
 case first=>
  have e8:Hid (∀ W,Up l7 W->W.cell? ⟨w.heap.size,0,none⟩=some (.slice a1 S.length c1)/\W.cell? ⟨w.heap.size,1,none⟩=some (.slice a2 F.length c2)/\W.cell? ⟨w.heap.size,2,none⟩=some (.slice a3 T.length c3)/\W.cell? ⟨N6,0,none⟩=some (.slice (some k1) S.length l1)/\W.cell? ⟨N6,1,none⟩=some (.slice k2 F.length l2)/\W.cell? ⟨N6,2,none⟩=some (.slice k3 T.length l3)):=fun W h=>by
   obtain⟨b0,b1,b2,-⟩:=(HO.o W (O5 V.o.g.low h)).2.1;obtain⟨g0,g1,g2⟩:=(V.o.y.bl V.o.y.lt h).c3;exact⟨b0,b1,b2,g0,g1,g2⟩
  have j0:Hid (Up l7 l7.drew):=(Je _ _).drew;have s6:=Hd (HO.o l7.drew V.o.g.low.drew).2.2.1
  go_region_held3 (fun W=>W.cell? ⟨w.heap.size,0,none⟩=some (.slice a1 S.length c1)/\W.cell? ⟨w.heap.size,1,none⟩=some (.slice a2 F.length c2)/\W.cell? ⟨w.heap.size,2,none⟩=some (.slice a3 T.length c3)/\W.cell? ⟨N6,0,none⟩=some (.slice (some k1) S.length l1)/\W.cell? ⟨N6,1,none⟩=some (.slice k2 F.length l2)/\W.cell? ⟨N6,2,none⟩=some (.slice k3 T.length l3))
   (first
     | exact e8.o _ j0.o
     | exact e8.o _ d8.o
     | exact e8.o _ O.o)
   (first
     | (go_at_call 8;refine (Dd l7.drew s6.o HS.o).mono ?_;rintro e x9 ⟨u1,v1,u2,v2,u3,v3,rfl,e7,-,e5⟩;have j4:=Hd e7.at;have O:=j0.up e5;clear e7 e5)
     | (go_at_call 11;refine (Cj x9 (V.o.n.at.bl O.o) j4.o).mono ?_;rintro e w13 ⟨rfl,e6⟩;have d8:=O.up e6;clear e6))
  all_goals
   go_wp2
   go_meet
   exact⟨rfl,V.o.belT d8.o⟩
 rename World=>wd
 obtain⟨rfl,hr⟩:=hcut;have Y:=Hd hr;clear hr V
 go_upto_region 16 with fail
 go_cut [49] from 45 to 49 (fun s wx=>s=.bool false/\ATt wo N6 N7 N8 N9 v6 [.int .i64 (SM S F T t),.int .i64 (SW S F T t),.slice q1 (ST S F T t).length m1,.slice q2 (SA S F T t).length m2,.slice q3 (SB S F T t).length m3] (.slice (some k1) S.length l1) (.slice k2 F.length l2) (.slice k3 T.length l3) (.slice (some ⟨g7,0,none⟩) t.kids.length c7) (.slice q1 (ST S F T t).length m1) (.slice q2 (SA S F T t).length m2) (.slice q3 (SB S F T t).length m3) S F T t A B (ST S F T t) (SA S F T t) (SB S F T t) A9 B9 wx)
 case first=>
  have e8:Hid (∀ W,Up wd W->W.cell? ⟨w.heap.size+1,0,none⟩=some (.int .i64 t.op)/\W.cell? ⟨w.heap.size+1,1,none⟩=some (.string (Oo t.sort))/\W.cell? ⟨w.heap.size+1,2,none⟩=some (.string (Oo t.text))/\W.cell? ⟨w.heap.size+1,3,none⟩=some (.int .i64 t.a)/\W.cell? ⟨w.heap.size+1,4,none⟩=some (.int .i64 t.b)/\W.cell? ⟨w.heap.size+1,5,none⟩=some (.slice a4 t.kids.length c4)/\W.cell? ⟨N8,0,none⟩=some (.int .i64 t.op)/\W.cell? ⟨N8,1,none⟩=some (.string (Oo t.sort))/\W.cell? ⟨N8,2,none⟩=some (.string (Oo t.text))/\W.cell? ⟨N8,3,none⟩=some (.int .i64 t.a)/\W.cell? ⟨N8,4,none⟩=some (.int .i64 t.b)/\W.cell? ⟨N8,5,none⟩=some (.slice (some ⟨g7,0,none⟩) t.kids.length c7)):=fun W h=>by
   obtain⟨-,-,-,b0,b1,b2,b3,b4,b5⟩:=(HO.o W (O5 Y.o.g.low h)).2.1;exact⟨b0,b1,b2,b3,b4,b5,TO (Y.o.z.bl Y.o.z.lt h)⟩
  have j0:Hid (Up wd wd.drew):=(Je _ _).drew;have s6:=Hd (HO.o wd.drew Y.o.g.low.drew).2.2.2.1
  go_region_held3 (fun W=>W.cell? ⟨w.heap.size+1,0,none⟩=some (.int .i64 t.op)/\W.cell? ⟨w.heap.size+1,1,none⟩=some (.string (Oo t.sort))/\W.cell? ⟨w.heap.size+1,2,none⟩=some (.string (Oo t.text))/\W.cell? ⟨w.heap.size+1,3,none⟩=some (.int .i64 t.a)/\W.cell? ⟨w.heap.size+1,4,none⟩=some (.int .i64 t.b)/\W.cell? ⟨w.heap.size+1,5,none⟩=some (.slice a4 t.kids.length c4)/\W.cell? ⟨N8,0,none⟩=some (.int .i64 t.op)/\W.cell? ⟨N8,1,none⟩=some (.string (Oo t.sort))/\W.cell? ⟨N8,2,none⟩=some (.string (Oo t.text))/\W.cell? ⟨N8,3,none⟩=some (.int .i64 t.a)/\W.cell? ⟨N8,4,none⟩=some (.int .i64 t.b)/\W.cell? ⟨N8,5,none⟩=some (.slice (some ⟨g7,0,none⟩) t.kids.length c7))
   (first
     | exact e8.o _ j0.o
     | exact e8.o _ d8.o
     | exact e8.o _ O.o)
   (first
     | (go_at_call 23;refine (EL t _ wd.drew s6.o d5.o.2.2).mono ?_;rintro e x9 ⟨u1,v1,rfl,e7,e5⟩;have j4:=Hd (FD e7);have O:=j0.up e5;clear e7 e5)
     | (go_at_call 25;refine (OV t _ _ x9 ((FD Y.o.o).bl O.o) j4.o).mono ?_;rintro e w13 ⟨rfl,e6⟩;have d8:=O.up e6;clear e6))
  all_goals
   go_wp2
   go_meet
   exact⟨rfl,Y.o.belT d8.o⟩
 rename World=>wf
 obtain⟨rfl,hr⟩:=hcut;have Z:=Hd hr;clear hr Y;have hz:=e9.o;obtain⟨y0,y1,m5⟩:=Z.o.y.c3
 go_wp2_with fail
 clear y0 y1 m5;have x4:=BT HS.o;refine (Fy wo.heap.size N6 wf Z.o.X HS.o).mono ?_;rintro e y4 ⟨rfl,h7,-⟩;have HP:Hid (∀ b,PB (.slice (some k1) S.length l1) (.slice k2 F.length l2) (.slice k3 T.length l3) A B b->wo.heap.size<=b/\b<N6):=fun b hb=>⟨T0.o b hb,E1.o b hb⟩;have p4:=Hd (Z.o.g.on h7 (fun b hb=>⟨(HP.o b hb).1,by have:=(HP.o b hb).2;omega⟩) n1.o (by omega));have q6:=Hd (h7.bx Z.o.z (fun hp=>by have:=(HP.o _ hp).2;omega));have p8:Hid (y4.ownsRow N7 3 1 (.slice (some ⟨g7,0,none⟩) t.kids.length c7) t.kids.length (Nx t.kids)):=own_other' Z.o.o (fun g hg=>h7.block g (Z.o.o.lt g hg).2 (fun hp=>by have:=(HP.o g hp).2;have:=(n0.o g hg).1;omega));obtain⟨kb,s1⟩:=Oa (kB S F T);rw[s1] at x4 ⊢;obtain⟨y0,y1,m5,y3',y4',y5'⟩:=TO q6.o;clear h7 Z s1
 go_wp2_with fail
 clear y0 y1 m5 y3' y4' y5';refine (TV N7 y4.heap.size t.kids.length kb _ _ _ _ _ _ y4 (Cy p8.o leR leR) d5.o.2.2 x4.2).mono ?_;rintro e y5 ⟨rfl,s4⟩;have b9:=Hd (p4.o.on s4 (fun b hb=>by have:=n0.o b hb;omega) n1.o (by omega));obtain⟨k18,s0⟩:=Oa (kb+t.kids.length);rw[s0];have y18:decide ((k18:Int)<0)=false:=Jc (by omega);obtain⟨e0,e1,e2,e3,e4⟩:=Ca b9.o.x;obtain⟨r0,r1,r2,r3,r4⟩:=Ca (HO.o y5 b9.o.low).2.2.2.2.1;clear s4 p4 q6 p8 s0 hz x4
 go_wp2_with fail
 clear e0 e1 e2 e3 e4 r0 r1 r2 r3 r4;refine (It _ _ y5 b9.o.n.at (HO.o y5 b9.o.low).2.2.2.2.2).mono ?_;rintro e w19 ⟨rfl,r6⟩;have U:=Hd (b9.o.bl r6);have u6:=Hd (TK HS.o d5.o);obtain⟨e0,e1,e2,e3,e4⟩:=Ca U.o.x;clear r6 b9
 go_wp2_with fail
 clear e0 e1 e2 e3 e4;refine (Mh N9 v6 _ _ w19 U.o.X u6.o).mono ?_;rintro e w20 ⟨rfl,k8,r9⟩;have hz:=e9.o;have o9:=Hd (k8.low U.o.low U.o.low.size (fun b hb=>by have:=n1.o b hb;omega));have g6:=Hd (k8.bx U.o.x (fun hp=>absurd (E2.o _ hp) (Nat.lt_irrefl _)));have j2:=Hd r9;have D2:=Hd U.o.X.sh;obtain⟨kk,x5⟩:=Oa (kB (ST S F T t) (SA S F T t) (SB S F T t));have y9:=Hd x5;rw[x5];have ykk:decide ((kk:Int)<0)=false:=Jc (by omega);obtain⟨e0,e1,e2,e3,e4⟩:=Ca g6.o;clear k8 r9 U hz x5
 go_wp2_with fail
 clear e0 e1 e2 e3 e4;refine (Q6 _ _ w20 D2.o j2.o u6.o).mono ?_;rw[y9.o];rintro e d7 ⟨rfl,h0⟩;have a7:Hid (Up wo d7):=O5 o9.o h0;have j6:=Hd (g6.o.bl g6.o.lt h0);have p5:=Hd (j2.o.bl h0);clear h0 o9 g6 j2;have K:Hid (∀ W,Up d7 W->W.cell? ⟨w.heap.size,0,none⟩=some (.slice a1 S.length c1)/\W.cell? ⟨w.heap.size,1,none⟩=some (.slice a2 F.length c2)/\W.cell? ⟨w.heap.size,2,none⟩=some (.slice a3 T.length c3)/\W.cell? ⟨w.heap.size+1,0,none⟩=some (.int .i64 t.op)/\W.cell? ⟨w.heap.size+1,1,none⟩=some (.string (Oo t.sort))/\W.cell? ⟨w.heap.size+1,2,none⟩=some (.string (Oo t.text))/\W.cell? ⟨w.heap.size+1,3,none⟩=some (.int .i64 t.a)/\W.cell? ⟨w.heap.size+1,4,none⟩=some (.int .i64 t.b)/\W.cell? ⟨w.heap.size+1,5,none⟩=some (.slice a4 t.kids.length c4)):=fun W h=>(HO.o W (O5 a7.o h)).2.1;have HT:Hid (∀ W,Up d7 W->Up w W/\ArgBank W (.slice a1 S.length c1) (.slice a2 F.length c2) (.slice a3 T.length c3) S F T/\G2 W (.slice a4 t.kids.length c4) t.kids):=fun W h=>⟨(HO.o W (O5 a7.o h)).1,(HO.o W (O5 a7.o h)).2.2.1,(HO.o W (O5 a7.o h)).2.2.2.1⟩
 go_upto_region 31 with fail
 go_cut [13] from 75 to 79 (fun s wx=>∃ G p1 d1 p2 d2 p3 d3,s=.pointer (some ⟨G,0,none⟩)/\d7.heap.size<=G/\Bx wx G [.int .i64 (SM S F T t),.int .i64 (SW S F T t),.slice p1 (ST S F T t).length d1,.slice p2 (SA S F T t).length d2,.slice p3 (SB S F T t).length d3]/\BankAt wx (.slice p1 (ST S F T t).length d1) (.slice p2 (SA S F T t).length d2) (.slice p3 (SB S F T t).length d3) (ST S F T t) (SA S F T t) (SB S F T t)/\Up d7 wx)
 case first=>
  have X1:=K.o d7 (Je _ _)
  go_region_held3 (fun W=>W.cell? ⟨w.heap.size,0,none⟩=some (.slice a1 S.length c1)/\W.cell? ⟨w.heap.size,1,none⟩=some (.slice a2 F.length c2)/\W.cell? ⟨w.heap.size,2,none⟩=some (.slice a3 T.length c3)/\W.cell? ⟨w.heap.size+1,0,none⟩=some (.int .i64 t.op)/\W.cell? ⟨w.heap.size+1,1,none⟩=some (.string (Oo t.sort))/\W.cell? ⟨w.heap.size+1,2,none⟩=some (.string (Oo t.text))/\W.cell? ⟨w.heap.size+1,3,none⟩=some (.int .i64 t.a)/\W.cell? ⟨w.heap.size+1,4,none⟩=some (.int .i64 t.b)/\W.cell? ⟨w.heap.size+1,5,none⟩=some (.slice a4 t.kids.length c4))
   (first
     | with_reducible exact K.o _ j.o
     | with_reducible exact K.o _ (Ex j.o _)
     | with_reducible exact K.o _ (IJ j.o E.o.size)
     | with_reducible exact K.o _ (IJ j.o I.o.size)
     | with_reducible exact K.o _ (IJ j.o leR)
     | with_reducible exact K.o _ E.o
     | with_reducible exact K.o _ (Ex E.o _)
     | with_reducible exact K.o _ I.o
     | with_reducible exact K.o _ (Ex I.o _)
     | with_reducible exact K.o _ (Je _ _).drew
     | with_reducible exact K.o _ (Oz _ _).drew)
   (first
     | (go_at_call 8;refine (Dd _ (HT.o _ (by first|with_reducible exact (Je _ _).drew|exact (Oz _ _).drew)).2.1 HS.o).mono ?_;rintro e w4 ⟨k1,l1,k2,l2,k3,l3,rfl,k7,-,f9⟩;have t7:=Hd k7;have I:Hid (Up d7 w4):=O5 (by first|with_reducible exact (Je _ _).drew|exact (Oz _ _).drew) f9;try (have j1:=Hd (RP f9));clear k7 f9)
     | (go_at_call 23;refine (EL t _ _ (HT.o _ (by first|with_reducible exact I.o|exact Ex I.o _)).2.2 d5.o.2.2).mono ?_;rintro e w5 ⟨g5,c5,rfl,k9,J⟩;have n2:=Hd k9;have d9:Hid (Up w4 w5):=O5 (by first|with_reducible exact Je _ _|exact Oz _ _) J;have E:Hid (Up d7 w5):=O5 I.o d9.o;(first|have d4:=Hd (Wg J)|have d4:=Hd (j1.o.bl j1.o.lt J)|skip);clear k9 J)
     | (go_at_call 24;refine (SJ (t7.o.bl (O5 d9.o (by first|with_reducible exact Je _ _|exact Oz _ _))).at HZ.o (HV.o.bl (HT.o _ (O5 E.o (by first|with_reducible exact Je _ _|exact Oz _ _))).1) ((FD n2.o).bl (by first|with_reducible exact Je _ _|exact Oz _ _)) d5.o F2.o).mono ?_;rintro e w6 ⟨p1,d1,p2,d2,p3,d3,A6,B6,rfl,-,-,M,d6⟩;have j5:=Hd M;have i7:Hid (Up w5 w6):=O5 (by first|with_reducible exact Je _ _|exact Oz _ _) d6;have j:Hid (Up d7 w6):=O5 E.o i7.o;(first|have d:=Hd (Wg d6)|have d:=Hd (d4.o.bl d4.o.lt d6)|skip);try (have r0:=d.o.cell 0;have r1:=d.o.cell 1;have r2:=d.o.cell 2;have r3:=d.o.cell 3;have r4:=d.o.cell 4;have f0:=d.o.fz 0;have f1:=d.o.fz 1;have f2:=d.o.fz 2;have f3:=d.o.fz 3;have f4:=d.o.fz 4);clear M d6))
  all_goals
   go_wp2
   go_meet
   first
    | (obtain⟨WE,v8,hE,v7,hh⟩:=YB d.o j.o (by first|exact E.o.size|exact I.o.size|exact leR) (.int .i64 (SM S F T t)) (.int .i64 (SW S F T t)) (.slice p1 (ST S F T t).length d1) (.slice p2 (SA S F T t).length d2) (.slice p3 (SB S F T t).length d3);refine⟨_,p1,d1,p2,d2,p3,d3,rfl,(by first|exact E.o.size|exact I.o.size|exact leR),?_⟩;rw[v8];exact⟨hE,(j5.o.keep (w':=WE) (fun k hk _=>hh k (by first|(have:=d4.o.lt;omega)|(simp at hk;omega)))).at,v7⟩)
    | exact⟨w6.heap.size,p1,d1,p2,d2,p3,d3,rfl,j.o.size,Oi w6 [.int .i64 (SM S F T t),.int .i64 (SW S F T t),.slice p1 (ST S F T t).length d1,.slice p2 (SA S F T t).length d2,.slice p3 (SB S F T t).length d3] 33,(j5.o.bl (Oz _ _)).at,Ex j.o _⟩
 rename World=>wg
 obtain⟨G',u1,v1,u2,v2,u3,v3,rfl,X0,L7,r8,h1⟩:=hcut;have g4:Hid (Up wo wg):=O5 a7.o h1;have j7:=Hd (j6.o.bl j6.o.lt h1);have p6:=Hd (p5.o.bl h1);have y8:=Hd r8;obtain⟨e0,e1,e2,e3,e4⟩:=Ca L7;obtain⟨r0,r1,r2,r3,r4⟩:=Ca (HO.o wg g4.o).2.2.2.2.1;clear L7 r8 h1 X0 a7 j6 p5 K HT
 go_wp2_with fail
 clear e0 e1 e2 e3 e4 r0 r1 r2 r3 r4;refine (It _ _ wg y8.o (HO.o wg g4.o).2.2.2.2.2).mono ?_;rintro e M2 ⟨rfl,h6⟩;have p0:Hid (Up wo M2):=O5 g4.o h6;have q4:=Hd (j7.o.bl j7.o.lt h6);have p7:=Hd (p6.o.bl h6);obtain⟨e0,e1,e2,e3,e4⟩:=Ca q4.o;clear h6 g4 j7 p6 y8
 go_wp2_with fail
 clear e0 e1 e2 e3 e4;refine (Q6 _ _ M2 D2.o p7.o u6.o).mono ?_;rw[y9.o];rintro e w24 ⟨rfl,r7⟩;have y6:=Hd (HO.o w24 (O5 p0.o r7)).1;clear r7 p0 q4 p7
 go_wp2
 go_ret
 exact⟨rfl,y6.o⟩
end Go.Proofs.YtdmdmgfjpomdbaaGreatDoor
