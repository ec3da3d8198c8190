import Derived.Test.YtfkagjelljnpdaaGreatDoorP31
set_option linter.all false
set_option maxRecDepth 100000
set_option maxHeartbeats 16000000
namespace Go.Proofs.YtfkagjelljnpdaaGreatDoor
open ChangeShapes WideShapes ChangeAt RowKit Proofs.Tryz
theorem QY{w:World}{B eb mb hb ub:Nat}{T:List Tm}{H R:List Nat}{Bq:Nat->Nat->Prop}{x:Sx}{D:Nat->Nat}{W:List (Nat×Nat)}{Q:Nat->Nat->Prop}{f K C p q:Nat}(h:Hp w B eb mb hb ub T H x)(hS:Stat T H x.U)(hL:Lg T H Bq x R D ((p,q)::W) Q f)(hI:It mb x.s W)(hC:Cn T.length x R K C)(hK:K<=2000000000000)(hCC:C<=100000)(hf:f<=1000)(hp:p<T.length)(hq:q<T.length) :
 Calls prog 35 #[.pointer (some ⟨eb,0,none⟩),mp mb (labA R p),mp mb (labA R q)] w fun e w'=>e=.returned (.tuple #[])/\MB B eb mb hb ub T H Bq x R W Q f K C w w':=by
 have i7:=h.sta.ml;have hR:=hL.fo.rok;rw[i7]at hR;have u2:=hS.n3;obtain⟨a0,Z⟩:∃a,labA R p=a:=⟨_,rfl⟩;obtain⟨b0,a1⟩:∃b,labA R q=b:=⟨_,rfl⟩;have f9:a0<T.length:=by rw[<-Z];exact hR.lt p hp
 have g0:b0<T.length:=by rw[<-a1];exact hR.lt q hq
 have g2:labA R a0=a0:=by rw[<-Z];exact hR.idem p hp
 have g4:labA R b0=b0:=by rw[<-a1];exact hR.idem q hq
 have n5:(binOp .eql 45 (.pointer (some ⟨mb,a0*8,none⟩)) (.pointer (some ⟨mb,b0*8,none⟩))).run prog w=.ok (.bool (decide (a0=b0))) w:=ZY h.sta.mem a0 b0
 by_cases b9:a0=b0
 ·have HR:Hid (MB B eb mb hb ub T H Bq x R W Q f K C w w):=⟨x,R,D,W,h,hL.skip hp hq (by rw[Z,a1,b9]),hI,hC,rfl,rfl,rfl,leR,Ch.refl _ _ _ _,fun pb h1 h2=>⟨rfl,h2⟩⟩;rw[Jb b9]at n5;rw[Z,a1];unfold mp;clear b9 Z a1 g2 g4 hL hR h hS hI hC i7
  go_in
  go_wp2
  go_returns
  exact⟨rfl,HR.o⟩
 rw[Jd b9]at n5;have q0:Hid (∀a b,(a=a0/\b=b0)∨(a=b0/\b=a0)->JPre T R p q a b):=by
  rintro a b (⟨rfl,rfl⟩|⟨rfl,rfl⟩)
  ·exact⟨hp,hq,f9,g0,g2,g4,b9,.inl ⟨Z,a1⟩⟩
  exact⟨hp,hq,g0,f9,g4,g2,Ne.symm b9,.inr ⟨Z,a1⟩⟩
 obtain⟨Na,b8⟩:∃l,(x.I a0).length=l:=⟨_,rfl⟩;obtain⟨Nb,t6⟩:∃l,(x.I b0).length=l:=⟨_,rfl⟩;have fA:∃g c,(meA x.ms a0).ids=.slice (some ⟨g,0,none⟩) Na c:=by
  rcases Kx (h.ids a0 f9)with⟨_,e0⟩|⟨g,c,e⟩
  ·have:=(hL.idk.len f9 g2).1;omega
  exact⟨g,c,by rw[e,b8]⟩
 have fB:∃g c,(meA x.ms b0).ids=.slice (some ⟨g,0,none⟩) Nb c:=by
  rcases Kx (h.ids b0 g0)with⟨_,e0⟩|⟨g,c,e⟩
  ·have:=(hL.idk.len g0 g4).1;omega
  exact⟨g,c,by rw[e,t6]⟩
 obtain⟨gA,cA,eA⟩:=fA;obtain⟨gB,cB,eB⟩:=fB;have kA:=(h.cells f9).2.2.2.2.1;have kB:=(h.cells g0).2.2.2.2.1;rw[eA]at kA;rw[eB]at kB;rw[Z,a1];unfold mp;have HH:=Hd h;have HS:=Hd hS;have HL:=Hd hL;have HI:=Hd hI;have HC:=Hd hC;have Y:=Hd i7;have H0:=Hd (h.up (Ch.refl B NoX [] w).drew);clear h hS hL hI hC i7 hR Z a1 g2 g4 b9 b8 t6 eA eB
 go_in
 go_upto_region 1 with fail
 go_region
 go_upto_if 23 with fail
 go_cut [1,2] (fun s1 s2 wx=>(∃a b,s1=.pointer (some ⟨mb,a*8,none⟩)/\s2=.pointer (some ⟨mb,b*8,none⟩)/\((a=a0/\b=b0)∨(a=b0/\b=a0)))/\wx=w.drew)
 case first=>
  by_cases a7:Nb<Na
  ·have z1:decide ((Nb:Int)<(Na:Int))=true:=Jb (by omega);have z2:decide (Nb<Na)=true:=Jb a7
   go_wp2
   go_meet
   exact⟨⟨b0,a0,rfl,rfl,.inr ⟨rfl,rfl⟩⟩,rfl⟩
  have z1:decide ((Nb:Int)<(Na:Int))=false:=Jd (by omega);have z2:decide (Nb<Na)=false:=Jd a7
  go_wp2
  go_meet
  exact⟨⟨a0,b0,rfl,rfl,.inl ⟨rfl,rfl⟩⟩,rfl⟩
 obtain⟨⟨a,b,rfl,rfl,u6⟩,hw⟩:=hcut
 rename World=>w1
 have b1:Hid (Hp w1 B eb mb hb ub T H x):=by unfold Hid;rw[hw];exact H0.o
 have p0:Hid (Ch B NoX [] w w1):=by unfold Hid;rw[hw];exact(Ch.refl _ _ _ _).drew
 have HJ:=Hd (q0.o a b u6);have ha:=HJ.o.ha;have G:=HJ.o.hb;clear u6 hw kA kB n5 H0 q0 HH;have hnC:x.s.nC<=100000:=by have:=HC.o.cC;omega
 have L3:=HL.o.idk.len ha HJ.o.ea;have r9:=HL.o.idk.len G HJ.o.eb;have hPa:(x.P a).length<=3000000:=Jm (HL.o.apl a ha HJ.o.ea).1 (Nat.mul_le_mul hf (Jm L3.2 u2));have hPb:(x.P b).length<=3000000:=Jm (HL.o.apl b G HJ.o.eb).1 (Nat.mul_le_mul hf (Jm r9.2 u2));have h7:w1.cell? ⟨eb,10,none⟩=some (.bool x.s.cl):=b1.o.dyn.box.bx.cell 10;have K6:=b1.o.dyn.box.bx.fz 10;have pA:=(b1.o.cells ha).2.2.2.2.2.2.1;have pB:=(b1.o.cells G).2.2.2.2.2.2.1;have n4:a<x.ms.length:=by rw[Y.o];exact ha
 have g7:=Hd (Sw w1 b1.o.sta.mem HL.o.fo a b n4 (by rw[<-E7 n4,Y.o];exact b1.o.apAt ha (by omega) (HL.o.apl a ha HJ.o.ea).2));unfold mp at g7;obtain⟨cl,u0⟩:∃c,x.s.cl=c:=⟨_,rfl⟩;obtain⟨pa,u9⟩:∃c,(meA x.ms a).pl=c:=⟨_,rfl⟩;obtain⟨pb,v8⟩:∃c,(meA x.ms b).pl=c:=⟨_,rfl⟩;rw[u0]at h7;rw[u9]at pA;rw[v8]at pB;clear u0 u9 v8 n4
 go_upto_region 3 with fail
 go_cut [] (fun wx=>∃c,Hp wx B eb mb hb ub T H (x.clash c)/\Ch B NoX [some 59] w1 wx)
 case first=>
  have d1:Hid (∀(w2:World),Up w1 w2->w2.cell? ⟨eb,10,none⟩=some (.bool cl)/\w2.frozen? ⟨eb,10,none⟩=false/\∀c,Hp (w2.setCell ⟨eb,10,none⟩ (.bool c)) B eb mb hb ub T H (x.clash c)/\Ch B NoX [some 59] w1 (w2.setCell ⟨eb,10,none⟩ (.bool c))):=fun w2 hb2=>by
   have h2:=b1.o.up (Ch.up B NoX [] hb2);refine⟨(hb2.cell (p:=⟨eb,10,none⟩) (J3 w1 _ h7)).trans h7,h2.dyn.box.bx.fz 10,fun c=>⟨(h2.clash c).1,(Ch.up B NoX _ hb2).trans (h2.clash c).2⟩⟩
  cases cl with
  | true=>
    go_wp2
    go_meet
    exact⟨true,(d1.o w1 (Ji _ _)).2.2 true⟩
  | false=>
    cases pa with
    | true=>
      cases pb with
      | true=>
        go_wp2
        go_meet
        exact⟨true,(d1.o w1 (Ji _ _)).2.2 true⟩
      | false=>
        go_wp2_with fail
        refine g7.o.mono ?_;rintro e w2 ⟨bb,rfl,hb2⟩;obtain⟨H4,L2,f5⟩:=d1.o w2 hb2;have k7:=Hd f5;clear f5 hb2
        go_wp2
        go_meet
        exact⟨bb,k7.o bb⟩
    | false=>
      go_wp2_with fail
      refine g7.o.mono ?_;rintro e w2 ⟨bb,rfl,hb2⟩;obtain⟨H4,L2,f5⟩:=d1.o w2 hb2;have k7:=Hd f5;clear f5 hb2
      go_wp2
      go_meet
      exact⟨bb,k7.o bb⟩
 rename World=>w2
 obtain⟨cc,hh,J⟩:=hcut;have p1:Hid (Ch B NoX [some 59] w w2):=(p0.o.wide (by decide)).trans J;obtain⟨x2,j4⟩:∃y,x.clash cc=y:=⟨_,rfl⟩;rw[j4]at hh;have d2:=Hd j4;have k8:=Hd (Hk hh a ha (by rw[<-j4];show x.s.nC<=_;omega));unfold mp at k8;clear hh J h7 K6 pA pB g7 b1 p0 j4
 go_wp2_with fail
 refine k8.o.mono ?_;rintro e w3 ⟨rfl,v3,y3,hh,J⟩;obtain⟨x3,o0⟩:∃y,x2.chgd v3 y3=y:=⟨_,rfl⟩;rw[o0]at hh;have d3:=Hd o0;have Z2:=Hd hh;have p2:Hid (Ch B NoX [some 59,some 114] w w3):=(p1.o.wide (by decide)).trans J;have k1:=(hh.cells ha).2.1;have q1:=hh.sta.mem.fz (a*8+1);obtain⟨u1,y0⟩:∃u,MR mb (meA x3.ms a).up=u:=⟨_,rfl⟩;rw[y0]at k1;have h0:=Hd (hh.mem (i:=a) (f:=1) ha (by omega) (.pointer (some ⟨mb,b*8,none⟩)) { meA x3.ms a with up:=some b } (fun f' hf'=>by rcases f8_cases hf' with rfl|rfl|rfl|rfl|rfl|rfl|rfl|rfl<;>rfl) rfl rfl);obtain⟨x4,o1⟩:∃y,x3.sUp a b=y:=⟨_,rfl⟩;obtain⟨w4,n8⟩:∃y,w3.setCell ⟨mb,a*8+1,none⟩ (.pointer (some ⟨mb,b*8,none⟩))=y:=⟨_,rfl⟩;rw[show({ x3 with ms:=x3.ms.set a { meA x3.ms a with up:=some b } }:Sx)=x4 from o1,n8]at h0;have d6:=Hd o1;have r6:=Hd n8;have g8:=Hd h0.o.1;have p3:Hid (Ch B NoX Do w w4):=(p2.o.wide (by decide)).trans (h0.o.2.wide (by decide));clear hh J o0 o1 n8 y0 k8 h0 p1 p2
 go_upto_region 5 with fail
 rw[r6.o];clear k1 q1 r6;obtain⟨vA,j1⟩:∃v,(meA x4.ms a).ids=v:=⟨_,rfl⟩;obtain⟨vB,j2⟩:∃v,(meA x4.ms b).ids=v:=⟨_,rfl⟩;have kA:=(g8.o.cells ha).2.2.2.2.1;have kB:=(g8.o.cells G).2.2.2.2.1;rw[j1]at kA;rw[j2]at kB;have H1:=Hd j1;have H2:=Hd j2;have o8:=Hd (g8.o.up (Ch.refl B NoX [] w4).drew);have q7:Hid (x4.s.nC=x.s.nC+1):=by unfold Hid;rw[<-d6.o,<-d3.o,<-d2.o];rfl
 have l2:Hid (x4.I=x.I):=by unfold Hid;rw[<-d6.o,<-d3.o,<-d2.o];rfl
 have l0:=Hd (Hk o8.o b G (by rw[q7.o];omega));unfold mp at l0;have f0:Hid (∀v5 y5,(meA (x4.chgd v5 y5).ms a).ids=vA):=fun _ _=>j1;have d0:Hid (∀v5 y5,(meA (x4.chgd v5 y5).ms b).ids=vB):=fun _ _=>j2;have q4:Hid (∀v5 y5,1<=((x4.chgd v5 y5).I b).length):=fun _ _=>by show 1<=(x4.I b).length;rw[l2.o];exact r9.1
 have q5:Hid (∀v5 y5,((x4.chgd v5 y5).I b).length+((x4.chgd v5 y5).I a).length<=1000000000):=fun _ _=>by show(x4.I b).length+(x4.I a).length<=_;rw[l2.o];omega
 obtain⟨n6,u5⟩:∃n,n=(x4.I b++x4.I a).length:=⟨_,rfl⟩;have q6:Hid (∀v5 y5,n6=((x4.chgd v5 y5).I b++(x4.chgd v5 y5).I a).length):=fun _ _=>u5;clear j1 j2 u5
 go_cut [] (fun wx=>∃v5 y5 v6,Hp wx B eb mb hb ub T H ((x4.chgd v5 y5).sId a b v6)/\Ch B NoX Do w4 wx)
 case first=>
  go_region_law (first
   | (refine G1 (by rfl) _ _ _ (by rfl) vB vA (by rfl) (by rfl) _ (by rfl) _ _ b2.o ?_)
   | (go_simp;refine l0.o.mono ?_;rintro e w5 ⟨rfl,v5,y5,hh,J⟩;obtain⟨g6,c6,w6,O,l7,l8,V,t8⟩:=hh.idJoin ha G (q4.o v5 y5) (q5.o v5 y5) (q6.o v5 y5);have A3:=Hd V;have y9:=Hd t8;have y8:Hid (Ch B NoX Do w4 w5):=Ch.wide ⟨J.os,J.tape,J.output,J.size,J.block⟩ (by decide);have l5:=(hh.cells ha).2.2.2.2.1;have l6:=(hh.cells G).2.2.2.2.1;rw[f0.o v5 y5,d0.o v5 y5]at O;rw[f0.o v5 y5]at l5;rw[d0.o v5 y5]at l6;rw[d0.o v5 y5]at l7;have b2:=Hd O;clear hh J V t8 O;go_wp2_with fail))
  all_goals (go_wp2;go_meet;exact⟨v5,y5,_,A3.o,y8.o.trans (y9.o.wide (by decide))⟩)
 rename World=>w6
 obtain⟨v5,y5,v6,hh,J⟩:=hcut;have p4:Hid (Ch B NoX Do w w6):=p3.o.trans J;obtain⟨x6,o2⟩:∃y,(x4.chgd v5 y5).sId a b v6=y:=⟨_,rfl⟩;rw[o2]at hh;have h5:=Hd o2;have z8:=Hd hh;obtain⟨lA,n1⟩:∃v,(meA x6.ms a).least=v:=⟨_,rfl⟩;obtain⟨lB,n2⟩:∃v,(meA x6.ms b).least=v:=⟨_,rfl⟩;have e5:=(hh.cells ha).2.2.2.2.2.1;have e6:=(hh.cells G).2.2.2.2.2.1;have e7:=hh.sta.mem.fz (b*8+5);rw[n1]at e5;rw[n2]at e6;have q3:=Hd n1;have j6:=Hd n2;obtain⟨m,hm⟩:=O2 (min lA lB);have e4:Hid (min (lA:Int) (lB:Int)=(m:Int)):=by unfold Hid;omega
 have HM:=Hd hm;have l9:=Hd (hh.mem (i:=b) (f:=5) G (by omega) (.int .i64 (m:Nat)) { meA x6.ms b with least:=m } (fun f' hf'=>by rcases f8_cases hf' with rfl|rfl|rfl|rfl|rfl|rfl|rfl|rfl<;>rfl) rfl rfl);clear hh J o2 n1 n2 hm kA kB l0 H1 H2 o8 f0 d0 q4 q5 q6 g8 p3
 go_upto_region 6 with fail
 go_cut [] (fun wx=>Hp wx B eb mb hb ub T H (x6.sLe b m)/\Ch B NoX Do w6 wx)
 case first=>
  go_region
  go_wp2
  go_meet
  rw[e4.o];exact⟨l9.o.1.up (Ch.refl _ _ _ _).drew,(l9.o.2.wide (by decide)).drew⟩
 rename World=>w7
 obtain⟨hh,J⟩:=hcut;have p5:Hid (Ch B NoX Do w w7):=p4.o.trans J;obtain⟨x7,o3⟩:∃y,x6.sLe b m=y:=⟨_,rfl⟩;rw[o3]at hh;have m7:=Hd o3;have A1:=Hd hh;obtain⟨qA,x1⟩:∃v,(meA x7.ms a).pl=v:=⟨_,rfl⟩;obtain⟨qB,x5⟩:∃v,(meA x7.ms b).pl=v:=⟨_,rfl⟩;have e8:=(hh.cells ha).2.2.2.2.2.2.1;have e9:=(hh.cells G).2.2.2.2.2.2.1;have K0:=hh.sta.mem.fz (b*8+6);rw[x1]at e8;rw[x5]at e9;have m0:Hid (∀c:Bool,Hp (w7.setCell ⟨mb,b*8+6,none⟩ (.bool c)) B eb mb hb ub T H (x7.sPl b c)/\Ch B NoX Do w7 (w7.setCell ⟨mb,b*8+6,none⟩ (.bool c))):=fun c=>by
  have h8:=hh.mem (i:=b) (f:=6) G (by omega) (.bool c) { meA x7.ms b with pl:=c } (fun f' hf'=>by rcases f8_cases hf' with rfl|rfl|rfl|rfl|rfl|rfl|rfl|rfl<;>rfl) rfl rfl;exact⟨h8.1,h8.2.wide (by decide)⟩
 clear hh J o3 x1 x5 l9 e5 e6 e7 z8 p4
 go_upto_region 7 with fail
 go_cut [] (fun wx=>∃c,Hp wx B eb mb hb ub T H (x7.sPl b c)/\Ch B NoX Do w7 wx)
 case first=>
  cases qA with
  | true=>
    go_wp2
    go_meet
    exact⟨true,m0.o true⟩
  | false=>
    go_wp2
    go_meet
    exact⟨qB,m0.o qB⟩
 rename World=>w8
 obtain⟨c8,hh,J⟩:=hcut;have p6:Hid (Ch B NoX Do w w8):=p5.o.trans J;obtain⟨x8,j5⟩:∃y,x7.sPl b c8=y:=⟨_,rfl⟩;rw[j5]at hh;have r7:=Hd j5;have A2:=Hd hh;have q8:Hid (x8.P=x.P):=by unfold Hid;rw[<-j5,<-m7.o,<-h5.o,<-d6.o,<-d3.o,<-d2.o];rfl
 obtain⟨vC,n7⟩:∃v,(meA x8.ms a).ap=v:=⟨_,rfl⟩;obtain⟨vD,j3⟩:∃v,(meA x8.ms b).ap=v:=⟨_,rfl⟩;have kC:=(hh.cells ha).2.2.2.2.2.2.2;have kD:=(hh.cells G).2.2.2.2.2.2.2;rw[n7]at kC;rw[j3]at kD;obtain⟨v9,w9,f8,O,k9,q9,h9,d7⟩:=(hh.up (Ch.refl B NoX [] w8).drew).apJoin ha G (by rw[q8.o];omega);rw[n7,j3]at O;rw[j3]at k9;have b2:=Hd O;have l1:=Hd h9;have k0:Hid (Ch B NoX Do w8 (w9.setCell ⟨mb,b*8+7,none⟩ v9)):=Ch.wide ⟨d7.os,d7.tape,d7.output,d7.size,d7.block⟩ (by decide);clear hh J j5 n7 j3 O h9 d7 m0 e8 e9 K0 A1 p5
 go_upto_region 8 with fail
 go_cut [] (fun wx=>Hp wx B eb mb hb ub T H (x8.sAp a b v9)/\Ch B NoX Do w8 wx)
 case first=>
  rcases f8 with rfl|⟨g9,n9,c9,rfl⟩
  ·go_region_law (refine G1 (by rfl) _ _ _ (by rfl) vD vC (by rfl) (by rfl) _ (by rfl) _ _ b2.o ?_)
   all_goals (go_wp2;go_meet;exact⟨l1.o,k0.o⟩)
  go_region_law (refine G1 (by rfl) _ _ _ (by rfl) vD vC (by rfl) (by rfl) _ (by rfl) _ _ b2.o ?_)
  all_goals (go_wp2;go_meet;exact⟨l1.o,k0.o⟩)
 rename World=>w10
 obtain⟨hh,J⟩:=hcut;have e3:Hid (Ch B NoX Do w w10):=p6.o.trans J;obtain⟨E,o4⟩:∃y,x8.sAp a b v9=y:=⟨_,rfl⟩;rw[o4]at hh;have b7:Hid (JB T x E a b):=by
  have la:a<x.ms.length:=by rw[Y.o];exact ha
  have lb:b<x.ms.length:=by rw[Y.o];exact G
  have e1:=q3.o;have e2:=j6.o;rw[<-h5.o,<-d6.o,<-d3.o,<-d2.o,XW la lb]at e1 e2;unfold Hid;rw[<-o4,<-r7.o,<-m7.o,<-h5.o,<-d6.o,<-d3.o,<-d2.o];exact JB.of la lb HJ.o.ab (by rw[e1,e2];exact HM.o.symm)
 have q2:=Hd (HL.o.begin Y.o HS.o HJ.o b7.o hh HI.o (e3.o.wide (by decide)) (Pk.ch x.s.vI e3.o (by decide)));have m6:Hid (Stat T H E.U):=by unfold Hid;rw[b7.o.U];exact HS.o
 have z7:Hid (Fo E.ms (relbl R a b) (fun i=>if labA R i=a then D i+D b+1 else D i)):=HL.o.fo.join (by rw[Y.o];exact ha) (by rw[Y.o];exact G) HJ.o.ea HJ.o.eb HJ.o.ab (by rw[hh.sta.ml,Y.o]) b7.o.up;have p8:Hid (E.I a=x.I a):=by unfold Hid;rw[b7.o.I,Es _ _ HJ.o.ab]
 obtain⟨Na,b8⟩:∃n,(x.I a).length=n:=⟨_,rfl⟩;have j7:Na<=3000:=by omega
 have fA:∃g c,(meA E.ms a).ids=.slice (some ⟨g,0,none⟩) Na c:=by
  have ho:=hh.ids a ha;rw[p8.o]at ho
  rcases Kx ho with⟨_,e0⟩|⟨g,c,e⟩
  ·omega
  exact⟨g,c,by rw[e,b8]⟩
 obtain⟨gA,cA,eA⟩:=fA;have kA:=(hh.cells ha).2.2.2.2.1;rw[eA]at kA;have D9:Hid (∀k,k<Na->labA (x.I a) k<T.length):=fun k hk=>by
  have d8:k<(x.I a).length:=by omega
  rw[O1 d8];exact(((HL.o.idk a ha HJ.o.ea).1 _).1 (Jj d8)).1
 have r3:Hid (∀(wr:World) (s':St),Hp wr B eb mb hb ub T H { E with s:=s' }->∀k,k<Na->wr.cell? ⟨gA,k,none⟩=some (.int .i64 ((labA (x.I a) k:Nat):Int))):=fun wr s' hp k hk=>by
  have ho:H3 wr B (meA E.ms a).ids (E.I a):=hp.ids a ha;rw[p8.o,eA]at ho;have d8:k<(x.I a).length:=by omega
  unfold H3 at ho;rw[b8]at ho;exact(ho.cellAt k (by omega)).trans (Ks d8)
 have F2:Hid (∀(wr:World) (s':St),Hp wr B eb mb hb ub T H { E with s:=s' }->wr.cell? ⟨eb,4,none⟩=some (.slice (some ⟨ub,0,none⟩) T.length T.length)/\∀k,k<T.length->wr.cell? ⟨ub,k,none⟩=some (valA E.vu k)):=fun wr s' hp=>by
  refine⟨?_,fun k hk=>?_⟩
  ·have h1:wr.cell? ⟨eb,4,none⟩=some s'.vU:=hp.dyn.box.bx.cell 4;rw[h1];exact congrArg some hp.vU
  rw[hp.usb.bx.cell k];have d8:k<E.vu.length:=by have:=hp.ul;simp only at this;omega
  show E.vu[k]? = _
  simp[valA,List.getD,d8]
 have r5:Hid (∀(wr:World) (s':St),Hp wr B eb mb hb ub T H { E with s:=s' }->∀k,k<T.length->H3 wr B (valA E.vu k) (E.U k)):=fun wr s' hp k hk=>hp.use k hk;have j9:Hid (E.s.nI+450000000<=5000000000000/\E.s.nS+450000000<=5000000000000/\E.s.nN+450000000<=5000000000000):=by
  obtain⟨s1,s2,s3,s4,s5,s6,s7,s8,s9,s10⟩:=b7.o.s;have c1:=HC.o.cI;have c2:=HC.o.cS;have c3:=HC.o.cN;unfold Hid;rw[s3,s5,s6];omega
 have HNA:=Hd b8;have p9:Hid (JS B eb mb hb ub T H (relbl R a b) Bq E W w x.s.vI w10 E.s W (fun t=>∃j,0<=j/\j<Na/\t∈E.U (labA (x.I a) j)) (0*150000)):=q2.o.imp (fun t ht=>by
  obtain⟨k,hk,hu⟩:=ht;obtain⟨j,hj,e⟩:=Cb hk;exact⟨j,Jp _,by omega,by rw[e,b7.o.U];exact hu⟩) (by omega)
 clear hh J o4 eA b8 q2 kC kD k9 q9 f8 b2 l1 k0 A2 p6 e3 q3 j6 e4 HM d2 d3 d6 h5 m7 r7 q8 q7 l2
 go_wp2
 go_loopw [7,9,112] (fun _ _ iv wr=>∃(k:Nat) (s':St) (W':List (Nat×Nat)),k<=Na/\iv=.int .i64 (k:Nat)/\JS B eb mb hb ub T H (relbl R a b) Bq E W w x.s.vI wr s' W' (fun t=>∃j,k<=j/\j<Na/\t∈E.U (labA (x.I a) j)) (k*150000)) (fun _ _ iv _=>Na - (intOf iv).toNat)
 case atStart=>exact⟨0,_,W,Jp _,rfl,p9.o⟩
 rename World=>wo
 obtain⟨k,s1,W1,hk,rfl,js⟩:=hrel;have l3:=Hd js;clear kA p9
 by_cases a7:k<Na
 ·have z1:decide ((k:Int)<(Na:Int))=true:=Jb (by omega);have z2:decide (k<Na)=true:=Jb a7;have i1:(k:Int)<(Na:Int):=by omega
  have g1:=r3.o wo s1 js.hp k a7;have V:=D9.o k a7;obtain⟨d4,y4⟩:=F2.o wo s1 js.hp;obtain⟨id,n0⟩:=O2 (labA (x.I a) k);rw[n0]at g1 V;have d5:=y4 id V;have B2:=Hd n0;obtain⟨Nu,f1⟩:∃n,(E.U id).length=n:=⟨_,rfl⟩;have t7:Nu<=150000:=by rw[<-f1];exact m6.o.ulen id V
  obtain⟨pU,cU,eU,u8⟩:∃p c,valA E.vu id=.slice p Nu c/\(Nu=0∨∃g,p=some ⟨g,0,none⟩):=by
   rcases Kx (r5.o wo s1 js.hp id V)with⟨e,e0⟩|⟨g,c,e⟩
   ·exact⟨none,0,by rw[e,f1],.inl (by omega)⟩
   exact⟨_,c,by rw[e,f1],.inr ⟨g,rfl⟩⟩
  rw[eU]at d5;have m5:=Hd f1;have z6:=Hd eU;have i2:(id:Int)<(T.length:Int):=by omega
  have i3:decide (id<T.length)=true:=Jb V;have D2:Hid (JS B eb mb hb ub T H (relbl R a b) Bq E W w x.s.vI wo s1 W1 (fun t=>(∃j,k+1<=j/\j<Na/\t∈E.U (labA (x.I a) j))∨∃r,0<=r/\r<Nu/\labA (E.U id) r=t) (k*150000+0)):=l3.o.imp (fun t ht=>by
   obtain⟨j,h1,h2,h3⟩:=ht
   by_cases e:j=k
   ·subst e;rw[B2.o]at h3;obtain⟨r,hr,er⟩:=Cb h3;exact .inr ⟨r,Jp _,by have:=m5.o;omega,er⟩
   exact .inl ⟨j,by omega,h2,h3⟩) (by omega)
  clear js y4 n0 f1 eU l3
  go_wp2
  go_loopw [9,124] (fun _ iv wr=>∃(q:Nat) (s':St) (W':List (Nat×Nat)),q<=Nu/\iv=.int .i64 (q:Nat)/\JS B eb mb hb ub T H (relbl R a b) Bq E W w x.s.vI wr s' W' (fun t=>(∃j,k+1<=j/\j<Na/\t∈E.U (labA (x.I a) j))∨∃r,q<=r/\r<Nu/\labA (E.U id) r=t) (k*150000+q)) (fun _ iv _=>Nu - (intOf iv).toNat)
  case atStart=>exact⟨0,_,_,Jp _,rfl,D2.o⟩
  rename World=>wi
  obtain⟨q,s2,W2,hq',rfl,js⟩:=hrel;clear g1 d4 d5
  by_cases b3:q<Nu
  ·have y1:decide ((q:Int)<(Nu:Int))=true:=Jb (by omega);have y2:decide (q<Nu)=true:=Jb b3;have y3:(q:Int)<(Nu:Int):=by omega
   obtain⟨gU,rfl⟩:∃g,pU=some ⟨g,0,none⟩:=by
    rcases u8 with e|h
    ·omega
    exact h
   have ho:=r5.o wi s2 js.hp id V;have i8:q<(E.U id).length:=by rw[m5.o];exact b3
   have g3:wi.cell? ⟨gU,q,none⟩=some (.int .i64 ((labA (E.U id) q:Nat):Int)):=by
    unfold H3 at ho;rw[z6.o,m5.o]at ho;exact(ho.cellAt q (by omega)).trans (Ks i8)
   have j0:=m6.o.uno id V (labA (E.U id) q) (by rw[O1 i8];exact Jj i8);obtain⟨t,ht⟩:=O2 (labA (E.U id) q);rw[ht]at g3 j0;have HT:=Hd ht;have i6:k*150000+q<=450000000:=MY (Jn a7 j7) (Jn b3 t7);have r4:=Hd (js.sign m6.o z7.o t j0.1 j0.2 ⟨Jm (Nat.add_le_add_left i6 _) j9.o.1,Jm (Nat.add_le_add_left i6 _) j9.o.2.1,Jm (Nat.add_le_add_left i6 _) j9.o.2.2⟩);clear ho ht js j0 u8 i6 i8
   go_wp2_with fail
   refine r4.o.mono ?_;rintro e w5 ⟨rfl,s3,W3,js⟩;have l4:=Hd js;clear js r4
   go_wp2
   go_roundw
   case rel=>exact⟨q+1,s3,W3,b3,by go_num,l4.o.imp (fun y hy=>by
    obtain⟨h1|⟨r,h1,h2,h3⟩,h4⟩:=hy
    ·exact .inl h1
    exact .inr ⟨r,by
     by_cases e:r=q
     ·subst e;exact absurd (h3.symm.trans HT.o) h4
     omega,h2,h3⟩) (by omega)⟩
   simp[intOf];omega
  have y1:decide ((q:Int)<(Nu:Int))=false:=Jd (by omega);have y2:decide (q<Nu)=false:=Jd b3;have l4:=Hd js;clear js
  go_wp2
  go_roundw
  case rel=>exact⟨k+1,s2,W2,a7,by go_num,l4.o.imp (fun y hy=>by
   rcases hy with h1|⟨r,h1,h2,h3⟩
   ·exact h1
   omega) (by omega)⟩
  simp[intOf];omega
 have z1:decide ((k:Int)<(Na:Int))=false:=Jd (by omega);have z2:decide (k<Na)=false:=Jd a7;have p7:=Hd (JS.fin HL.o Y.o HC.o HJ.o b7.o js (fun t ht=>by obtain⟨j,h1,h2,_⟩:=ht;omega) (Nat.mul_le_mul_right 150000 (Jm hk j7)));clear js l3
 go_wp2_with fail
 go_end0
 exact⟨rfl,p7.o⟩
end Go.Proofs.YtfkagjelljnpdaaGreatDoor
