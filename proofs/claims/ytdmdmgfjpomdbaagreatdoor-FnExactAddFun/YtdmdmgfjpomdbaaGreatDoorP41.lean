import Derived.Test.YtdmdmgfjpomdbaaGreatDoorP00
import Derived.Test.YtdmdmgfjpomdbaaGreatDoorP40
import Derived.Test.YtdmdmgfjpomdbaaGreatDoorP39
import Derived.Test.YtdmdmgfjpomdbaaGreatDoorP35
set_option linter.all false
set_option maxRecDepth 100000
set_option maxHeartbeats 8000000
namespace Go.Proofs.YtdmdmgfjpomdbaaGreatDoor
open ChangeShapes WideShapes ChangeAt RowKit Proofs.Tryz
variable {A B l:List Value}{F:List Fn}{N10 N9:Nat}{S:List (List UInt8)}{T:List Tm}{f:Fn}{gf gs gt uf us ut:Value}{w w' wc wk wk':World}
theorem Ca {g:Nat}{a b c d e:Value}(h:Bx w g [a,b,c,d,e]):w.cell? ⟨g,0,none⟩=some a/\w.cell? ⟨g,1,none⟩=some b/\w.cell? ⟨g,2,none⟩=some c/\w.cell? ⟨g,3,none⟩=some d/\w.cell? ⟨g,4,none⟩=some e:=⟨h.cell 0,h.cell 1,h.cell 2,h.cell 3,h.cell 4⟩
theorem IJ {N g:Nat}{W:World}(hb:Below N w W)(hN:N<=g){a b c d e:Value}:Below N w (((((W.setCell ⟨g,0,none⟩ a).setCell ⟨g,1,none⟩ b).setCell ⟨g,2,none⟩ c).setCell ⟨g,3,none⟩ d).setCell ⟨g,4,none⟩ e):=((((hb.setCell (p:=⟨g,0,none⟩) hN a).setCell (p:=⟨g,1,none⟩) hN b).setCell (p:=⟨g,2,none⟩) hN c).setCell (p:=⟨g,3,none⟩) hN d).setCell (p:=⟨g,4,none⟩) hN e
theorem BankN.bl {base:Nat}(h:BankN w base us uf ut S F T)(hb:Up w w'):BankN w' base us uf ut S F T:=h.keep (fun k _ hl=>hb.block k hl)
theorem OnB.low {P:Nat->Prop}{N:Nat}{w0:World}(h:OnB P w w')(hb:Below N w0 w)(hN:N<=w.heap.size)(hP:∀ b,P b->N<=b):Below N w0 w':=
 ⟨h.os.trans hb.os,h.tape.trans hb.tape,h.output.trans hb.output,Yc hb.size h.size,fun k hk=>(h.block k (by omega) (fun hp=>by have:=hP k hp;omega)).trans (hb.block k hk)⟩
theorem BankN.on {P:Nat->Prop}{base:Nat}(h:BankN w base us uf ut S F T)(ho:OnB P w w')(hP:∀ b,P b->b<base):BankN w' base us uf ut S F T:=
 h.keep (fun k hk hl=>ho.block k hl (fun hp=>by have:=hP k hp;omega))
theorem BankX.lt {N0 N1:Nat}(h:BankX w N0 N1 us uf ut S F T A B){b:Nat}(hb:PB us uf ut A B b):b<w.heap.size:=by
 rcases hb with hb|hb|hb
 ·obtain⟨n,d⟩:=h.sk b hb;exact d.lt
 ·rcases h.f.blk hb with⟨n,d⟩|⟨n,d⟩<;>exact d.lt
 rcases h.t.blk hb with⟨n,d⟩|⟨n,d⟩<;>exact d.lt
structure GSt (wc:World)(N9 N10:Nat)(l:List Value)(gs gf gt:Value)(S:List (List UInt8))(F:List Fn)(T:List Tm)(A B:List Value)(wk:World):Prop where
 low:Up wc wk
 x:Bx wk N10 l
 n:BankN wk N9 gs gf gt S F T
 X:BankX wk N9 N10 gs gf gt S F T A B
theorem BankX.bl {N0 N1:Nat}(h:BankX w N0 N1 us uf ut S F T A B)(hb:Up w w'):BankX w' N0 N1 us uf ut S F T A B:=h.on ((OnB.refl (fun _=>False) w).bl hb) (fun _ _ h=>h)
theorem GSt.bl (h:GSt wc N9 N10 l gs gf gt S F T A B wk)(hb:Up wk wk'):GSt wc N9 N10 l gs gf gt S F T A B wk':=
 ⟨h.low.trans (hb.mono h.low.size),h.x.bl h.x.lt hb,h.n.bl hb,h.X.bl hb⟩
theorem GSt.on {P:Nat->Prop}(h:GSt wc N9 N10 l gs gf gt S F T A B wk)(ho:OnB P wk wk')(hP:∀ b,P b->wc.heap.size<=b/\b<N9)(hl:∀ b,PB gs gf gt A B b->N9<=b)(hN:N9<=N10):GSt wc N9 N10 l gs gf gt S F T A B wk':=
 ⟨ho.low h.low h.low.size (fun b hb=>(hP b hb).1),ho.bx h.x (fun hp=>by have:=(hP _ hp).2;omega),h.n.on ho (fun b hb=>(hP b hb).2),h.X.on ho (fun b hb hp=>by have:=(hP b hp).2;have:=hl b hb;omega)⟩
structure ASt (wc:World)(N6 N7 N8 N9 N10:Nat)(l:List Value)(xs xf xt va gs gf gt:Value)(S:List (List UInt8))(F:List Fn)(T:List Tm)(f:Fn)(A B:List Value)(S':List (List UInt8))(F':List Fn)(T':List Tm)(A' B':List Value)(wk:World):Prop where
 g:GSt wc N9 N10 l gs gf gt S' F' T' A' B' wk
 y:Bx wk N6 [xs,xf,xt]
 n:BankN wk wc.heap.size xs xf xt S F T
 X:BankX wk wc.heap.size N6 xs xf xt S F T A B
 z:Bx wk N8 [.string (Oo f.name),va,.string (Oo f.sort)]
 o:wk.ownsRow N7 9 1 va f.args.length (strsC f.args)
theorem ASt.belA {N6 N7 N8:Nat}{xs xf xt va:Value}{S':List (List UInt8)}{F':List Fn}{T':List Tm}{A' B':List Value}(h:ASt wc N6 N7 N8 N9 N10 l xs xf xt va gs gf gt S F T f A B S' F' T' A' B' wk)(hb:Up wk wk'):ASt wc N6 N7 N8 N9 N10 l xs xf xt va gs gf gt S F T f A B S' F' T' A' B' wk':=
 ⟨h.g.bl hb,h.y.bl h.y.lt hb,h.n.bl hb,h.X.bl hb,h.z.bl h.z.lt hb,Et h.o hb⟩
theorem XS (hs:SmallB S F T)(hf:Qz f):SmallB (Ey S F T f) (Ks S F T f) (Ez S F T f):=by
 unfold Ey Ks Ez
 by_cases d:Kw S F T f=1
 ·rw[if_pos d,if_pos d,if_pos d];exact⟨⟨Jr _,fun x hx=>by cases hx⟩,⟨Jr _,fun x hx=>by cases hx⟩,⟨Jr _,fun x hx=>by cases hx⟩⟩
 rw[if_neg d,if_neg d,if_neg d]
 split
 ·rename_i h0;refine⟨hs.s,⟨?_,fun x hx=>?_⟩,hs.t⟩
  ·have:F.length<300:=by
    unfold Kw at h0
    split at h0
    ·cases h0
    split at h0
    ·cases h0
    split at h0
    ·cases h0
    split at h0
    ·cases h0
    omega
   rw[Yn];simp;omega
  rcases Zm.1 hx with hx|hx
  ·exact hs.f.2 x hx
  obtain rfl:=Zv.1 hx;exact hf
 exact hs
theorem NJ {vs vf vt va:Value}(w:World)(h:ArgBank w vs vf vt S F T)(ha:E3 w va f.args)(hnm:f.name.length<=maxLen)(hsm:f.sort.length<=maxLen)(hw:BD T)(hv:Vars w) :
 Calls prog 4 #[.agg #[vs,vf,vt],.agg #[.string (Oo f.name),va,.string (Oo f.sort)]] w fun e w'=>e=.returned (.bool true)/\Up w w':=by
 obtain⟨a1,c1,e1,-,-,-,-⟩:=h.s;obtain⟨a2,c2,e2,-,-,-,-⟩:=h.f;obtain⟨a3,c3,e3,-,-,-,-⟩:=h.t;have s5:=Hd ha;obtain⟨a4,c4,rfl,-,-,-,-⟩:=ha;have HA:=Hd h;have HW:=Hd hw;have HV:=Hd hv;subst e1 e2 e3;clear h hw hv
 go_in
 go_upto_region 2 with fail
 obtain⟨W1,H7,K0,x1,x2,L5⟩:=VO w [.slice a1 S.length c1,.slice a2 F.length c2,.slice a3 T.length c3] [.string (Oo f.name),.slice a4 f.args.length c4,.string (Oo f.sort)] 26 42;rw[H7];clear H7;have l8:=Hd K0;have n0:=Hd x1;have s7:=Hd x2;have z7:=Hd L5;obtain⟨b0,b1,b2⟩:=n0.o.c3;clear K0 x1 x2 L5
 go_wp2_with fail
 refine (EN 1048576 _ (HA.o.bl l8.o) leR).mono ?_;rintro e w2 ⟨(rfl|⟨z2,X2,rfl,x3⟩),hb2⟩
 ·have h0:=l8.up hb2;clear hb2
  go_wp2
  go_ret
  exact⟨rfl,h0.o⟩
 have h0:=l8.up hb2;have u0:=Hd (n0.o.bl n0.o.lt hb2);have m5:=Hd (s7.o.bl s7.o.lt hb2);have HS:=Hd x3;have HZ:=Hd (x3.z HW.o);have y2:decide ((z2:Int)<0)=false:=dF (by omega)
 obtain⟨W2,W3,W4⟩:=m5.o.c3;have z8:Hid (w.heap.size+1+1<=w2.heap.size):=by have:=hb2.size;have:=z7.o;unfold Hid;omega
 clear hb2 x3 b0 b1 b2
 go_wp2_with fail
 refine (Sz f _ z2 w2 (s5.o.bl h0.o) hnm hsm X2).mono ?_;rintro e w3 ⟨(rfl|⟨z3,hz3,rfl,L6⟩),e7⟩
 ·have b9:=h0.up e7;clear e7
  go_wp2
  go_ret
  exact⟨rfl,b9.o⟩
 have b9:=h0.up e7;have u6:=Hd (u0.o.bl u0.o.lt e7);have s8:=Hd (m5.o.bl m5.o.lt e7);have c8:=Hd L6;have y3:decide ((z3:Int)<0)=false:=dF (by omega)
 have B2:Hid (w.heap.size+1+1<=w3.heap.size):=by have:=e7.size;have:=z8.o;unfold Hid;omega
 have K:Hid (∀ W,Up w3 W->W.cell? ⟨w.heap.size,0,none⟩=some (.slice a1 S.length c1)/\W.cell? ⟨w.heap.size,1,none⟩=some (.slice a2 F.length c2)/\W.cell? ⟨w.heap.size,2,none⟩=some (.slice a3 T.length c3)/\W.cell? ⟨w.heap.size+1,0,none⟩=some (.string (Oo f.name))/\W.cell? ⟨w.heap.size+1,1,none⟩=some (.slice a4 f.args.length c4)/\W.cell? ⟨w.heap.size+1,2,none⟩=some (.string (Oo f.sort))):=fun W h=>by
  obtain⟨b0,b1,b2⟩:=(u6.o.bl u6.o.lt h).c3;obtain⟨g0,g1,g2⟩:=(s8.o.bl s8.o.lt h).c3;exact⟨b0,b1,b2,g0,g1,g2⟩
 have HT:Hid (∀ W,Up w3 W->Up w W/\ArgBank W (.slice a1 S.length c1) (.slice a2 F.length c2) (.slice a3 T.length c3) S F T/\E3 W (.slice a4 f.args.length c4) f.args):=fun W h=>⟨b9.o.trans (h.mono b9.o.size),HA.o.bl (b9.o.trans (h.mono b9.o.size)),s5.o.bl (b9.o.trans (h.mono b9.o.size))⟩;clear e7 L6 W2 W3 W4 n0 u0 s7 m5 l8 h0 z7 z8 u6 s8 HA s5
 go_upto_region 8 with fail
 go_cut [6] from 24 to 28 (fun s wx=>∃ G p1 d1 p2 d2 p3 d3,s=.pointer (some ⟨G,0,none⟩)/\w3.heap.size<=G/\Bx wx G [.int .i64 (Kw S F T f),.int .i64 (N3 S F T f),.slice p1 (Ey S F T f).length d1,.slice p2 (Ks S F T f).length d2,.slice p3 (Ez S F T f).length d3]/\BankAt wx (.slice p1 (Ey S F T f).length d1) (.slice p2 (Ks S F T f).length d2) (.slice p3 (Ez S F T f).length d3) (Ey S F T f) (Ks S F T f) (Ez S F T f)/\Up w3 wx)
 case first=>
  have W9:=K.o w3 (Je _ _)
  go_region_held3 (fun W=>W.cell? ⟨w.heap.size,0,none⟩=some (.slice a1 S.length c1)/\W.cell? ⟨w.heap.size,1,none⟩=some (.slice a2 F.length c2)/\W.cell? ⟨w.heap.size,2,none⟩=some (.slice a3 T.length c3)/\W.cell? ⟨w.heap.size+1,0,none⟩=some (.string (Oo f.name))/\W.cell? ⟨w.heap.size+1,1,none⟩=some (.slice a4 f.args.length c4)/\W.cell? ⟨w.heap.size+1,2,none⟩=some (.string (Oo f.sort)))
   (first
     | with_reducible exact K.o _ j.o
     | with_reducible exact K.o _ (Ex j.o _)
     | with_reducible exact K.o _ (IJ j.o E.o.size)
     | with_reducible exact K.o _ (IJ j.o I.o.size)
     | with_reducible exact K.o _ (IJ j.o leR)
     | with_reducible exact K.o _ E.o
     | with_reducible exact K.o _ (Ex E.o _)
     | with_reducible exact K.o _ I.o
     | with_reducible exact K.o _ (Ex I.o _)
     | with_reducible exact K.o _ (Je _ _).drew
     | with_reducible exact K.o _ (Oz _ _).drew)
   (first
     | (go_at_call 8;refine (Dd _ (HT.o _ (by first|with_reducible exact (Je _ _).drew|exact (Oz _ _).drew)).2.1 HS.o).mono ?_;rintro e w4 ⟨k1,l1,k2,l2,k3,l3,rfl,j7,-,e8⟩;have s9:=Hd j7;have I:Hid (Up w3 w4):=O5 (by first|with_reducible exact (Je _ _).drew|exact (Oz _ _).drew) e8;try (have i6:=Hd (RP e8));clear j7 e8)
     | (go_at_call 17;refine (X7 f _ _ (HT.o _ (by first|with_reducible exact I.o|exact Ex I.o _)).2.2 c8.o.2.1).mono ?_;rintro e w5 ⟨g5,c5,rfl,j9,J⟩;have m8:=Hd j9;have d6:Hid (Up w4 w5):=O5 (by first|with_reducible exact Je _ _|exact Oz _ _) J;have E:Hid (Up w3 w5):=O5 I.o d6.o;(first|have c6:=Hd (Wg J)|have c6:=Hd (i6.o.bl i6.o.lt J)|skip);clear j9 J)
     | (go_at_call 16;refine (T5 (s9.o.bl (O5 d6.o (by first|with_reducible exact Je _ _|exact Oz _ _))).o HZ.o HS.o ⟨_,_,_,rfl⟩ ((Iq m8.o).bl (by first|with_reducible exact Je _ _|exact Oz _ _)) (NP m8.o) c8.o).mono ?_;rintro e w6 ⟨us,uf,ut,rfl,M,d0⟩;obtain⟨p1,d1,e1,-⟩:=M.at.s;obtain⟨p2,d2,e2,-⟩:=M.at.f;obtain⟨p3,d3,e3,-⟩:=M.at.t;subst e1 e2 e3;have j1:=Hd M;have h8:Hid (Up w5 w6):=O5 (by first|with_reducible exact Je _ _|exact Oz _ _) d0;have j:Hid (Up w3 w6):=O5 E.o h8.o;(first|have d:=Hd (Wg d0)|have d:=Hd (c6.o.bl c6.o.lt d0)|skip);try (have r0:=d.o.cell 0;have r1:=d.o.cell 1;have r2:=d.o.cell 2;have r3:=d.o.cell 3;have r4:=d.o.cell 4;have f0:=d.o.fz 0;have f1:=d.o.fz 1;have f2:=d.o.fz 2;have f3:=d.o.fz 3;have f4:=d.o.fz 4);clear M d0))
  all_goals
   go_wp2
   go_meet
   first
    | (obtain⟨WE,v6,hE,u9,hh⟩:=YB d.o j.o (by first|exact E.o.size|exact I.o.size|exact leR) (.int .i64 (Kw S F T f)) (.int .i64 (N3 S F T f)) (.slice p1 (Ey S F T f).length d1) (.slice p2 (Ks S F T f).length d2) (.slice p3 (Ez S F T f).length d3);refine⟨_,p1,d1,p2,d2,p3,d3,rfl,(by first|exact E.o.size|exact I.o.size|exact leR),?_⟩;rw[v6];exact⟨hE,(j1.o.keep (w':=WE) (fun k hk _=>hh k (by first|(have:=c6.o.lt;omega)|(simp at hk;omega)))).at,u9⟩)
    | exact⟨w6.heap.size,p1,d1,p2,d2,p3,d3,rfl,j.o.size,Oi w6 [.int .i64 (Kw S F T f),.int .i64 (N3 S F T f),.slice p1 (Ey S F T f).length d1,.slice p2 (Ks S F T f).length d2,.slice p3 (Ez S F T f).length d3] 33,(j1.o.bl (Oz _ _)).at,Ex j.o _⟩
 rename World=>wo
 obtain⟨G,p1,d1,p2,d2,p3,d3,rfl,hG,hx,K6,w8⟩:=hcut;have HO:Hid (∀ W,Up wo W->Up w W/\(W.cell? ⟨w.heap.size,0,none⟩=some (.slice a1 S.length c1)/\W.cell? ⟨w.heap.size,1,none⟩=some (.slice a2 F.length c2)/\W.cell? ⟨w.heap.size,2,none⟩=some (.slice a3 T.length c3)/\W.cell? ⟨w.heap.size+1,0,none⟩=some (.string (Oo f.name))/\W.cell? ⟨w.heap.size+1,1,none⟩=some (.slice a4 f.args.length c4)/\W.cell? ⟨w.heap.size+1,2,none⟩=some (.string (Oo f.sort)))/\ArgBank W (.slice a1 S.length c1) (.slice a2 F.length c2) (.slice a3 T.length c3) S F T/\E3 W (.slice a4 f.args.length c4) f.args/\Bx W G [.int .i64 (Kw S F T f),.int .i64 (N3 S F T f),.slice p1 (Ey S F T f).length d1,.slice p2 (Ks S F T f).length d2,.slice p3 (Ez S F T f).length d3]/\BankAt W (.slice p1 (Ey S F T f).length d1) (.slice p2 (Ks S F T f).length d2) (.slice p3 (Ez S F T f).length d3) (Ey S F T f) (Ks S F T f) (Ez S F T f)):=fun W h=>by
  have h3:=O5 w8 h;exact⟨(HT.o W h3).1,K.o W h3,(HT.o W h3).2.1,(HT.o W h3).2.2,hx.bl hx.lt h,K6.bl h⟩
 have HQ:Hid (w.heap.size+1<wo.heap.size/\G<wo.heap.size):=⟨Jq (Nat.lt_of_succ_le B2.o) w8.size,hx.lt⟩;clear hx K6 w8 hG K HT b9 B2;obtain⟨b0,b1,b2,-,-,-⟩:=(HO.o wo (Je _ _)).2.1
 go_wp2_with fail
 clear b0 b1 b2;refine (Dd wo (HO.o wo (Je _ _)).2.2.1 HS.o).mono ?_;rintro e w5 ⟨k1,l1,k2,l2,k3,l3,rfl,L1,⟨A,B,v7,s0⟩,J⟩;have y7:=Hd L1;have E1:=Hd v7;have U2:=Hd s0;have E:=Hd J;have D1:Hid (∀ b,PB (.slice (some k1) S.length l1) (.slice k2 F.length l2) (.slice k3 T.length l3) A B b->b<w5.heap.size):=fun b hb=>v7.lt hb;have q5:w.heap.size+1<w5.heap.size:=Jq HQ.o.1 J.size;obtain⟨-,-,-,b3,b4,b5⟩:=(HO.o w5 J).2.1;clear L1 v7 s0 J
 go_wp2_with fail
 clear b3 b4 b5;obtain⟨W6,n7⟩:=Oa (w5.alloc (.cells #[.slice (some k1) S.length l1,.slice k2 F.length l2,.slice k3 T.length l3] 31));have n6:Up w5 W6:=by rw[<-n7];exact Oz _ _
 have M0:Bx W6 w5.heap.size [.slice (some k1) S.length l1,.slice k2 F.length l2,.slice k3 T.length l3]:=by rw[<-n7];exact Oi w5 _ _
 have j:Hid (Up wo W6):=O5 E.o n6;have j4:=Hd M0;have y8:=Hd (y7.o.bl n6);have E2:=Hd (E1.o.bl n6);rw[n7];clear n7 n6 M0 y7 E1 q5;refine (X7 f _ W6 (HO.o W6 j.o).2.2.2.1 c8.o.2.1).mono ?_;rintro e w7 ⟨g7,c7,rfl,o0,e9⟩;have z6:=Hd o0;have y4:Hid (Up wo w7):=O5 j.o e9;have n1:=Hd (j4.o.bl j4.o.lt e9);have y9:=Hd (y8.o.bl e9);have F2:=Hd (E2.o.bl e9);have m6:Hid (∀ g,(Value.slice (some ⟨g7,0,none⟩) f.args.length c7).ownBlock=some g->W6.heap.size<=g/\g<w7.heap.size):=fun g hg=>⟨Ol o0 g hg,(o0.lt g hg).2⟩;have p7:=Hd e9.size;have q7:w5.heap.size<w7.heap.size:=Jq j4.o.lt e9.size;obtain⟨y0,y1,l6⟩:=n1.o.c3;clear o0 e9 y8 E2
 go_wp2_with fail
 clear y0 y1 l6;obtain⟨W8,n8⟩:=Oa (w7.alloc (.cells #[.string (Oo f.name),.slice (some ⟨g7,0,none⟩) f.args.length c7,.string (Oo f.sort)] 45));have h7:Up w7 W8:=by rw[<-n8];exact Oz _ _
 have M1:Bx W8 w7.heap.size [.string (Oo f.name),.slice (some ⟨g7,0,none⟩) f.args.length c7,.string (Oo f.sort)]:=by rw[<-n8];exact Oi w7 _ _
 have s6:Hid (Up wo W8):=O5 y4.o h7;have u7:=Hd (n1.o.bl n1.o.lt h7);have t6:=Hd (y9.o.bl h7);have H0:=Hd (F2.o.bl h7);have t7:=Hd (Et z6.o h7);have n2:=Hd M1;rw[n8];clear n8 h7 M1 y9 F2 z6 n1;refine (Cc t6.o.at HZ.o (HV.o.bl (HO.o W8 s6.o).1) (Iq t7.o) c8.o).mono ?_;rintro e w9 ⟨q1,m1,q2,m2,q3,m3,A9,B9,rfl,v8,s1,L2,w1⟩;have z1:=Hd L2;have H1:=Hd v8;have m7:=Hd s1;have D2:Hid (∀ b,PB (.slice q1 (Ey S F T f).length m1) (.slice q2 (Ks S F T f).length m2) (.slice q3 (Ez S F T f).length m3) A9 B9 b->b<w9.heap.size):=fun b hb=>v8.lt hb;have l9:Hid (Up wo w9):=O5 s6.o w1;have h9:=Hd w1;have q9:G<w9.heap.size:=Jq HQ.o.2 l9.o.size;obtain⟨r0,r1,r2,r3,r4⟩:=Ca (HO.o w9 l9.o).2.2.2.2.1;clear L2 v8 s1 w1
 go_wp2_with fail
 clear r0 r1 r2 r3 r4;obtain⟨j5,g3⟩:=Oa (w9.alloc (.cells #[.int .i64 (Kw S F T f),.int .i64 (N3 S F T f),.slice q1 (Ey S F T f).length m1,.slice q2 (Ks S F T f).length m2,.slice q3 (Ez S F T f).length m3] 33));have j6:Up w9 j5:=by rw[<-g3];exact Oz _ _
 have s3:Bx j5 w9.heap.size [.int .i64 (Kw S F T f),.int .i64 (N3 S F T f),.slice q1 (Ey S F T f).length m1,.slice q2 (Ks S F T f).length m2,.slice q3 (Ez S F T f).length m3]:=by rw[<-g3];exact Oi w9 _ _
 have e6:Hid (wo.heap.size<=w5.heap.size/\w5.heap.size<W6.heap.size/\W6.heap.size<=w7.heap.size/\w7.heap.size<W8.heap.size/\W8.heap.size<=w9.heap.size):=⟨E.o.size,j4.o.lt,p7.o,n2.o.lt,h9.o.size⟩;have a8:=O5 h9.o j6;have HR:Hid (ASt wo w5.heap.size W6.heap.size w7.heap.size W8.heap.size w9.heap.size [.int .i64 (Kw S F T f),.int .i64 (N3 S F T f),.slice q1 (Ey S F T f).length m1,.slice q2 (Ks S F T f).length m2,.slice q3 (Ez S F T f).length m3] (.slice (some k1) S.length l1) (.slice k2 F.length l2) (.slice k3 T.length l3) (.slice (some ⟨g7,0,none⟩) f.args.length c7) (.slice q1 (Ey S F T f).length m1) (.slice q2 (Ks S F T f).length m2) (.slice q3 (Ez S F T f).length m3) S F T f A B (Ey S F T f) (Ks S F T f) (Ez S F T f) A9 B9 j5):=
  ⟨⟨O5 l9.o j6,s3,z1.o.bl j6,H1.o.bl j6⟩,u7.o.bl u7.o.lt a8,t6.o.bl a8,H0.o.bl a8,n2.o.bl n2.o.lt a8,Et t7.o a8⟩
 rw[g3];clear g3 j6 s3 a8 z1 H1 l9 h9 t6 H0 t7 u7 n2 s6 y4 j E j4 p7 q9 q7;generalize w5.heap.size=N6 at HR e6 D1 ⊢;generalize W6.heap.size=N7 at HR e6 m6;generalize w7.heap.size=N8 at HR e6 m6 ⊢;generalize W8.heap.size=N9 at HR e6 m7;generalize w9.heap.size=u8 at HR e6 D2 ⊢;refine (It _ _ j5 HR.o.g.n.at (HO.o j5 HR.o.g.low).2.2.2.2.2).mono ?_;rintro e l0 ⟨rfl,q6⟩;have V:=Hd (HR.o.belA q6);clear q6 HR
 go_upto_region 14 with fail
 go_cut [44] from 40 to 44 (fun s wx=>s=.bool false/\ASt wo N6 N7 N8 N9 u8 [.int .i64 (Kw S F T f),.int .i64 (N3 S F T f),.slice q1 (Ey S F T f).length m1,.slice q2 (Ks S F T f).length m2,.slice q3 (Ez S F T f).length m3] (.slice (some k1) S.length l1) (.slice k2 F.length l2) (.slice k3 T.length l3) (.slice (some ⟨g7,0,none⟩) f.args.length c7) (.slice q1 (Ey S F T f).length m1) (.slice q2 (Ks S F T f).length m2) (.slice q3 (Ez S F T f).length m3) S F T f A B (Ey S F T f) (Ks S F T f) (Ez S F T f) A9 B9 wx)
 case first=>
  have e5:Hid (∀ W,Up l0 W->W.cell? ⟨w.heap.size,0,none⟩=some (.slice a1 S.length c1)/\W.cell? ⟨w.heap.size,1,none⟩=some (.slice a2 F.length c2)/\W.cell? ⟨w.heap.size,2,none⟩=some (.slice a3 T.length c3)/\W.cell? ⟨N6,0,none⟩=some (.slice (some k1) S.length l1)/\W.cell? ⟨N6,1,none⟩=some (.slice k2 F.length l2)/\W.cell? ⟨N6,2,none⟩=some (.slice k3 T.length l3)):=fun W h=>by
   obtain⟨b0,b1,b2,-,-,-⟩:=(HO.o W (O5 V.o.g.low h)).2.1;obtain⟨g0,g1,g2⟩:=(V.o.y.bl V.o.y.lt h).c3;exact⟨b0,b1,b2,g0,g1,g2⟩
  have i1:Hid (Up l0 l0.drew):=(Je _ _).drew;have s4:=Hd (HO.o l0.drew V.o.g.low.drew).2.2.1
  go_region_held3 (fun W=>W.cell? ⟨w.heap.size,0,none⟩=some (.slice a1 S.length c1)/\W.cell? ⟨w.heap.size,1,none⟩=some (.slice a2 F.length c2)/\W.cell? ⟨w.heap.size,2,none⟩=some (.slice a3 T.length c3)/\W.cell? ⟨N6,0,none⟩=some (.slice (some k1) S.length l1)/\W.cell? ⟨N6,1,none⟩=some (.slice k2 F.length l2)/\W.cell? ⟨N6,2,none⟩=some (.slice k3 T.length l3))
   (first
     | exact e5.o _ i1.o
     | exact e5.o _ d5.o
     | exact e5.o _ O.o)
   (first
     | (go_at_call 8;refine (Dd l0.drew s4.o HS.o).mono ?_;rintro e x6 ⟨u1,v1,u2,v2,u3,v3,rfl,d9,-,d7⟩;have j0:=Hd d9.at;have O:=i1.up d7;clear d9 d7)
     | (go_at_call 11;refine (Cj x6 (V.o.n.at.bl O.o) j0.o).mono ?_;rintro e X3 ⟨rfl,d8⟩;have d5:=O.up d8;clear d8))
  all_goals
   go_wp2
   go_meet
   exact⟨rfl,V.o.belA d5.o⟩
 rename World=>wd
 obtain⟨rfl,hr⟩:=hcut;have Y:=Hd hr;clear hr V
 go_upto_region 16 with fail
 go_cut [49] from 45 to 49 (fun s wx=>s=.bool false/\ASt wo N6 N7 N8 N9 u8 [.int .i64 (Kw S F T f),.int .i64 (N3 S F T f),.slice q1 (Ey S F T f).length m1,.slice q2 (Ks S F T f).length m2,.slice q3 (Ez S F T f).length m3] (.slice (some k1) S.length l1) (.slice k2 F.length l2) (.slice k3 T.length l3) (.slice (some ⟨g7,0,none⟩) f.args.length c7) (.slice q1 (Ey S F T f).length m1) (.slice q2 (Ks S F T f).length m2) (.slice q3 (Ez S F T f).length m3) S F T f A B (Ey S F T f) (Ks S F T f) (Ez S F T f) A9 B9 wx)
 case first=>
  have e5:Hid (∀ W,Up wd W->W.cell? ⟨w.heap.size+1,0,none⟩=some (.string (Oo f.name))/\W.cell? ⟨w.heap.size+1,1,none⟩=some (.slice a4 f.args.length c4)/\W.cell? ⟨w.heap.size+1,2,none⟩=some (.string (Oo f.sort))/\W.cell? ⟨N8,0,none⟩=some (.string (Oo f.name))/\W.cell? ⟨N8,1,none⟩=some (.slice (some ⟨g7,0,none⟩) f.args.length c7)/\W.cell? ⟨N8,2,none⟩=some (.string (Oo f.sort))):=fun W h=>by
   obtain⟨-,-,-,b0,b1,b2⟩:=(HO.o W (O5 Y.o.g.low h)).2.1;obtain⟨g0,g1,g2⟩:=(Y.o.z.bl Y.o.z.lt h).c3;exact⟨b0,b1,b2,g0,g1,g2⟩
  have i1:Hid (Up wd wd.drew):=(Je _ _).drew;have s4:=Hd (HO.o wd.drew Y.o.g.low.drew).2.2.2.1
  go_region_held3 (fun W=>W.cell? ⟨w.heap.size+1,0,none⟩=some (.string (Oo f.name))/\W.cell? ⟨w.heap.size+1,1,none⟩=some (.slice a4 f.args.length c4)/\W.cell? ⟨w.heap.size+1,2,none⟩=some (.string (Oo f.sort))/\W.cell? ⟨N8,0,none⟩=some (.string (Oo f.name))/\W.cell? ⟨N8,1,none⟩=some (.slice (some ⟨g7,0,none⟩) f.args.length c7)/\W.cell? ⟨N8,2,none⟩=some (.string (Oo f.sort)))
   (first
     | exact e5.o _ i1.o
     | exact e5.o _ d5.o
     | exact e5.o _ O.o)
   (first
     | (go_at_call 17;refine (X7 f _ wd.drew s4.o c8.o.2.1).mono ?_;rintro e x6 ⟨u1,v1,rfl,d9,d7⟩;have j0:=Hd (Iq d9);have O:=i1.up d7;clear d9 d7)
     | (go_at_call 19;refine (Le f _ _ x6 ((Iq Y.o.o).bl O.o) j0.o).mono ?_;rintro e X3 ⟨rfl,d8⟩;have d5:=O.up d8;clear d8))
  all_goals
   go_wp2
   go_meet
   exact⟨rfl,Y.o.belA d5.o⟩
 rename World=>wf
 obtain⟨rfl,hr⟩:=hcut;have Z:=Hd hr;clear hr Y;have hz:=e6.o;obtain⟨y0,y1,l6⟩:=Z.o.y.c3
 go_wp2_with fail
 clear y0 y1 l6;have n9:=BT HS.o;refine (Fy wo.heap.size N6 wf Z.o.X HS.o).mono ?_;rintro e x7 ⟨rfl,g9,-⟩;have HP:Hid (∀ b,PB (.slice (some k1) S.length l1) (.slice k2 F.length l2) (.slice k3 T.length l3) A B b->wo.heap.size<=b/\b<N6):=fun b hb=>⟨U2.o b hb,D1.o b hb⟩;have o8:=Hd (Z.o.g.on g9 (fun b hb=>⟨(HP.o b hb).1,by have:=(HP.o b hb).2;omega⟩) m7.o (by omega));have p9:=Hd (g9.bx Z.o.z (fun hp=>by have:=(HP.o _ hp).2;omega));have p5:Hid (x7.ownsRow N7 9 1 (.slice (some ⟨g7,0,none⟩) f.args.length c7) f.args.length (strsC f.args)):=own_other' Z.o.o (fun g hg=>g9.block g (Z.o.o.lt g hg).2 (fun hp=>by have:=(HP.o g hp).2;have:=(m6.o g hg).1;omega));obtain⟨kb,r9⟩:=Oa (kB S F T);rw[r9] at n9 ⊢;obtain⟨y0,y1,l6⟩:=p9.o.c3;clear g9 Z r9
 go_wp2_with fail
 clear y0 y1 l6;refine (UW N7 x7.heap.size f.args.length kb _ _ _ x7 (Cy p5.o leR leR) c8.o.2.1.1 n9.1 n9.2).mono ?_;rintro e x8 ⟨rfl,s2⟩;have b6:=Hd (o8.o.on s2 (fun b hb=>by have:=m6.o b hb;omega) m7.o (by omega));obtain⟨k18,r8⟩:=Oa (kb+f.args.length);rw[r8];have y18:decide ((k18:Int)<0)=false:=Jc (by omega);obtain⟨e0,e1,e2,e3,e4⟩:=Ca b6.o.x;obtain⟨r0,r1,r2,r3,r4⟩:=Ca (HO.o x8 b6.o.low).2.2.2.2.1;clear s2 o8 p9 p5 r8 hz n9
 go_wp2_with fail
 clear e0 e1 e2 e3 e4 r0 r1 r2 r3 r4;refine (It _ _ x8 b6.o.n.at (HO.o x8 b6.o.low).2.2.2.2.2).mono ?_;rintro e Z2 ⟨rfl,q8⟩;have U:=Hd (b6.o.bl q8);have t8:=Hd (XS HS.o c8.o);obtain⟨e0,e1,e2,e3,e4⟩:=Ca U.o.x;clear q8 b6
 go_wp2_with fail
 clear e0 e1 e2 e3 e4;refine (Mh N9 u8 _ _ Z2 U.o.X t8.o).mono ?_;rintro e w20 ⟨rfl,j8,r7⟩;have hz:=e6.o;have o6:=Hd (j8.low U.o.low U.o.low.size (fun b hb=>by have:=m7.o b hb;omega));have f9:=Hd (j8.bx U.o.x (fun hp=>absurd (D2.o _ hp) (Nat.lt_irrefl _)));have i7:=Hd r7;have D0:=Hd U.o.X.sh;obtain⟨kk,x0⟩:=Oa (kB (Ey S F T f) (Ks S F T f) (Ez S F T f));have y6:=Hd x0;rw[x0];have ykk:decide ((kk:Int)<0)=false:=Jc (by omega);obtain⟨e0,e1,e2,e3,e4⟩:=Ca f9.o;clear j8 r7 U hz x0
 go_wp2_with fail
 clear e0 e1 e2 e3 e4;refine (Q6 _ _ w20 D0.o i7.o t8.o).mono ?_;rw[y6.o];rintro e d4 ⟨rfl,g4⟩;have a7:Hid (Up wo d4):=O5 o6.o g4;have j2:=Hd (f9.o.bl f9.o.lt g4);have o9:=Hd (i7.o.bl g4);clear g4 o6 f9 i7;have K:Hid (∀ W,Up d4 W->W.cell? ⟨w.heap.size,0,none⟩=some (.slice a1 S.length c1)/\W.cell? ⟨w.heap.size,1,none⟩=some (.slice a2 F.length c2)/\W.cell? ⟨w.heap.size,2,none⟩=some (.slice a3 T.length c3)/\W.cell? ⟨w.heap.size+1,0,none⟩=some (.string (Oo f.name))/\W.cell? ⟨w.heap.size+1,1,none⟩=some (.slice a4 f.args.length c4)/\W.cell? ⟨w.heap.size+1,2,none⟩=some (.string (Oo f.sort))):=fun W h=>(HO.o W (O5 a7.o h)).2.1;have HT:Hid (∀ W,Up d4 W->Up w W/\ArgBank W (.slice a1 S.length c1) (.slice a2 F.length c2) (.slice a3 T.length c3) S F T/\E3 W (.slice a4 f.args.length c4) f.args):=fun W h=>⟨(HO.o W (O5 a7.o h)).1,(HO.o W (O5 a7.o h)).2.2.1,(HO.o W (O5 a7.o h)).2.2.2.1⟩
 go_upto_region 31 with fail
 go_cut [13] from 75 to 79 (fun s wx=>∃ G p1 d1 p2 d2 p3 d3,s=.pointer (some ⟨G,0,none⟩)/\d4.heap.size<=G/\Bx wx G [.int .i64 (Kw S F T f),.int .i64 (N3 S F T f),.slice p1 (Ey S F T f).length d1,.slice p2 (Ks S F T f).length d2,.slice p3 (Ez S F T f).length d3]/\BankAt wx (.slice p1 (Ey S F T f).length d1) (.slice p2 (Ks S F T f).length d2) (.slice p3 (Ez S F T f).length d3) (Ey S F T f) (Ks S F T f) (Ez S F T f)/\Up d4 wx)
 case first=>
  have W9:=K.o d4 (Je _ _)
  go_region_held3 (fun W=>W.cell? ⟨w.heap.size,0,none⟩=some (.slice a1 S.length c1)/\W.cell? ⟨w.heap.size,1,none⟩=some (.slice a2 F.length c2)/\W.cell? ⟨w.heap.size,2,none⟩=some (.slice a3 T.length c3)/\W.cell? ⟨w.heap.size+1,0,none⟩=some (.string (Oo f.name))/\W.cell? ⟨w.heap.size+1,1,none⟩=some (.slice a4 f.args.length c4)/\W.cell? ⟨w.heap.size+1,2,none⟩=some (.string (Oo f.sort)))
   (first
     | with_reducible exact K.o _ j.o
     | with_reducible exact K.o _ (Ex j.o _)
     | with_reducible exact K.o _ (IJ j.o E.o.size)
     | with_reducible exact K.o _ (IJ j.o I.o.size)
     | with_reducible exact K.o _ (IJ j.o leR)
     | with_reducible exact K.o _ E.o
     | with_reducible exact K.o _ (Ex E.o _)
     | with_reducible exact K.o _ I.o
     | with_reducible exact K.o _ (Ex I.o _)
     | with_reducible exact K.o _ (Je _ _).drew
     | with_reducible exact K.o _ (Oz _ _).drew)
   (first
     | (go_at_call 8;refine (Dd _ (HT.o _ (by first|with_reducible exact (Je _ _).drew|exact (Oz _ _).drew)).2.1 HS.o).mono ?_;rintro e w4 ⟨k1,l1,k2,l2,k3,l3,rfl,j7,-,e8⟩;have s9:=Hd j7;have I:Hid (Up d4 w4):=O5 (by first|with_reducible exact (Je _ _).drew|exact (Oz _ _).drew) e8;try (have i6:=Hd (RP e8));clear j7 e8)
     | (go_at_call 17;refine (X7 f _ _ (HT.o _ (by first|with_reducible exact I.o|exact Ex I.o _)).2.2 c8.o.2.1).mono ?_;rintro e w5 ⟨g5,c5,rfl,j9,J⟩;have m8:=Hd j9;have d6:Hid (Up w4 w5):=O5 (by first|with_reducible exact Je _ _|exact Oz _ _) J;have E:Hid (Up d4 w5):=O5 I.o d6.o;(first|have c6:=Hd (Wg J)|have c6:=Hd (i6.o.bl i6.o.lt J)|skip);clear j9 J)
     | (go_at_call 18;refine (Cc (s9.o.bl (O5 d6.o (by first|with_reducible exact Je _ _|exact Oz _ _))).at HZ.o (HV.o.bl (HT.o _ (O5 E.o (by first|with_reducible exact Je _ _|exact Oz _ _))).1) ((Iq m8.o).bl (by first|with_reducible exact Je _ _|exact Oz _ _)) c8.o).mono ?_;rintro e w6 ⟨p1,d1,p2,d2,p3,d3,A6,B6,rfl,-,-,M,d0⟩;have j1:=Hd M;have h8:Hid (Up w5 w6):=O5 (by first|with_reducible exact Je _ _|exact Oz _ _) d0;have j:Hid (Up d4 w6):=O5 E.o h8.o;(first|have d:=Hd (Wg d0)|have d:=Hd (c6.o.bl c6.o.lt d0)|skip);try (have r0:=d.o.cell 0;have r1:=d.o.cell 1;have r2:=d.o.cell 2;have r3:=d.o.cell 3;have r4:=d.o.cell 4;have f0:=d.o.fz 0;have f1:=d.o.fz 1;have f2:=d.o.fz 2;have f3:=d.o.fz 3;have f4:=d.o.fz 4);clear M d0))
  all_goals
   go_wp2
   go_meet
   first
    | (obtain⟨WE,v6,hE,u9,hh⟩:=YB d.o j.o (by first|exact E.o.size|exact I.o.size|exact leR) (.int .i64 (Kw S F T f)) (.int .i64 (N3 S F T f)) (.slice p1 (Ey S F T f).length d1) (.slice p2 (Ks S F T f).length d2) (.slice p3 (Ez S F T f).length d3);refine⟨_,p1,d1,p2,d2,p3,d3,rfl,(by first|exact E.o.size|exact I.o.size|exact leR),?_⟩;rw[v6];exact⟨hE,(j1.o.keep (w':=WE) (fun k hk _=>hh k (by first|(have:=c6.o.lt;omega)|(simp at hk;omega)))).at,u9⟩)
    | exact⟨w6.heap.size,p1,d1,p2,d2,p3,d3,rfl,j.o.size,Oi w6 [.int .i64 (Kw S F T f),.int .i64 (N3 S F T f),.slice p1 (Ey S F T f).length d1,.slice p2 (Ks S F T f).length d2,.slice p3 (Ez S F T f).length d3] 33,(j1.o.bl (Oz _ _)).at,Ex j.o _⟩
 rename World=>wg
 obtain⟨G',u1,v1,u2,v2,u3,v3,rfl,W7,L7,r6,g6⟩:=hcut;have f8:Hid (Up wo wg):=O5 a7.o g6;have j3:=Hd (j2.o.bl j2.o.lt g6);have p0:=Hd (o9.o.bl g6);have y5:=Hd r6;obtain⟨e0,e1,e2,e3,e4⟩:=Ca L7;obtain⟨r0,r1,r2,r3,r4⟩:=Ca (HO.o wg f8.o).2.2.2.2.1;clear L7 r6 g6 W7 a7 j2 o9 K HT
 go_wp2_with fail
 clear e0 e1 e2 e3 e4 r0 r1 r2 r3 r4;refine (It _ _ wg y5.o (HO.o wg f8.o).2.2.2.2.2).mono ?_;rintro e M2 ⟨rfl,g8⟩;have o7:Hid (Up wo M2):=O5 f8.o g8;have p8:=Hd (j3.o.bl j3.o.lt g8);have p4:=Hd (p0.o.bl g8);obtain⟨e0,e1,e2,e3,e4⟩:=Ca p8.o;clear g8 f8 j3 p0 y5
 go_wp2_with fail
 clear e0 e1 e2 e3 e4;refine (Q6 _ _ M2 D0.o p4.o t8.o).mono ?_;rw[y6.o];rintro e w24 ⟨rfl,r5⟩;have x9:=Hd (HO.o w24 (O5 o7.o r5)).1;clear r5 o7 p8 p4
 go_wp2
 go_ret
 exact⟨rfl,x9.o⟩
end Go.Proofs.YtdmdmgfjpomdbaaGreatDoor
