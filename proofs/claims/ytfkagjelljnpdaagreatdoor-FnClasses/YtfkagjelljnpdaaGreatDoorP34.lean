import Derived.Test.YtfkagjelljnpdaaGreatDoorP32
import Derived.Test.YtfkagjelljnpdaaGreatDoorP33
set_option linter.all false
set_option maxRecDepth 100000
set_option maxHeartbeats 16000000
namespace Go.Proofs.YtfkagjelljnpdaaGreatDoor
open ChangeShapes WideShapes ChangeAt RowKit Proofs.Tryz
variable {mb:Nat}
def BV(on:Bool):Int:=match on with|true=>1|false=>0
def MI(s:St)(on:Bool):Int:=match on with|true=>s.t1|false=>s.t0
def BL(on:Bool):Nat:=match on with|true=>3|false=>2
def LH(B eb mb hb ub:Nat)(T:List Tm)(H:List Nat)(Bq:Nat->Nat->Prop)(x:Sx)(Q:Nat->Nat->Prop)(f K C:Nat)(w w':World):Prop:=∃x' R' D',Hp w' B eb mb hb ub T H x'/\Lg T H Bq x' R' D' [] Q f/\It mb x'.s []/\Cn T.length x' R' K C/\x'.s.nI=0/\x'.U=x.U/\x'.s.t0=x.s.t0/\x'.s.t1=x.s.t1/\Ch B NoX Ug w w'
def UJ(B eb mb hb ub:Nat)(T:List Tm)(H:List Nat)(Bq:Nat->Nat->Prop)(x:Sx)(Q:Nat->Nat->Prop)(f K C:Nat)(w:World)(k:Nat)(s7 s8:Value)(wr:World):Prop:=∃pb x9 R9 D9,s7=.pointer (some ⟨pb,0,none⟩)/\Hp wr B eb mb hb ub T H x9/\Cn T.length x9 R9 K C/\(x9.U=x.U/\x9.s.t0=x.s.t0/\x9.s.t1=x.s.t1)/\Ch B NoX Ug w wr/\((s8=.bool false/\Lg T H Bq x9 R9 D9 [] Q f/\It mb x9.s []/\x9.s.nI=0)∨(s8=.bool true/\∃p W',Lg T H Bq x9 R9 D9 (p::W') Q f/\It mb x9.s W'/\Tb wr pb 84 [mp mb p.1,mp mb p.2]/\x9.s.vI.ownBlock≠some pb/\W'.length+1+ZM T.length R9*450000001<=k))
theorem UJ.of{B eb hb ub:Nat}{T:List Tm}{H:List Nat}{Bq:Nat->Nat->Prop}{x:Sx}{Q:Nat->Nat->Prop}{f K C:Nat}{w:World}{k pb:Nat}{x8:Sx}{R:List Nat}{D:Nat->Nat}{W8:List (Nat×Nat)}{wr w9:World}{e:Ending}(hL:Lg T H Bq x8 R D W8 Q f)(hC:Cn T.length x8 R K C)(hU:x8.U=x.U/\x8.s.t0=x.s.t0/\x8.s.t1=x.s.t1)(hk:W8.length+ZM T.length R*450000001<=k)(hc:Ch B NoX Ug w wr)(ht:IM B eb mb hb ub T H x8 W8 wr e w9):∃a b c,e=.returned (.tuple #[.agg #[.pointer a,.pointer b],.bool c])/\Ch B NoX [some 59] wr w9/\∀w10:World,Ch B NoX [] w9 w10∨(∃u v,Tb w9 pb 84 [u,v]/\x8.s.vI.ownBlock≠some pb/\B<=pb/\Bar pb w9 w10)->Tb w10 pb 84 [.pointer a,.pointer b]->x8.s.vI.ownBlock≠some pb->UJ B eb mb hb ub T H Bq x Q f K C w k (.pointer (some ⟨pb,0,none⟩)) (.bool c) w10:=by
 have tr:∀(y:Sx) (w10:World),Hp w9 B eb mb hb ub T H y->y.s.vI.ownBlock=x8.s.vI.ownBlock->Ch B NoX [] w9 w10∨(∃u v,Tb w9 pb 84 [u,v]/\x8.s.vI.ownBlock≠some pb/\B<=pb/\Bar pb w9 w10)->Hp w10 B eb mb hb ub T H y/\Ch B NoX Ug w9 w10:=fun y w10 hp ev hor=>by
  rcases hor with hc|⟨u,v,hT,hne,hB,q⟩
  ·exact⟨hp.up hc,hc.wide (by decide)⟩
  have hc:Ch B NoX [some 84] w9 w10:=Ch.bar q hB (fun h=>h) (by rw[hT.ty];simp);have hi:w10.ownsRow B 84 2 y.s.vI y.s.nI y.s.xI:=by
   have ho:=hp.dyn.itm;refine⟨ho.1,?_⟩
   rcases ho.2 with h0|⟨Z,J,cur,hv,hb,E,hr⟩
   ·exact .inl h0
   exact .inr ⟨Z,J,cur,hv,hb,(q.block Z (Jo.1 E).1 (fun e=>hne (by rw[<-ev,hv,e];rfl))).trans E,hr⟩
  exact⟨hp.ch hc ⟨hp.dyn.box.ch hc (.inr (.inr (by decide))),hp.dyn.low,hi,hp.dyn.map.ch hc (by decide),hp.dyn.mlo,own_ch hp.dyn.sig hc (by decide),own_ch hp.dyn.chg hc (by decide),own_ch hp.dyn.ent hc (by decide)⟩ ⟨rfl,rfl,rfl,rfl⟩ (by decide) (by decide) (by decide) (by decide),hc.wide (by decide)⟩
 rcases ht with⟨rfl,rfl,G,hp,Y,e1,e2,e3,e4,e5,e6,e7,e8,j⟩|⟨p,W',rfl,rfl,hp,Y,j⟩
 ·refine⟨none,none,false,rfl,j,fun w10 hor hT hne=>?_⟩;obtain⟨O,V⟩:=tr { x8 with s:=G } w10 hp e8 hor;have c2:=hC.cS;refine⟨pb,{ x8 with s:=G },R,D,rfl,O,⟨?_,?_,?_,?_⟩,⟨hU.1,e6.trans hU.2.1,e7.trans hU.2.2⟩,(hc.trans (j.wide (by decide))).trans V,.inl ⟨rfl,hL.same (x':={ x8 with s:=G }) rfl (fun k=>⟨rfl,rfl⟩) e2 rfl (fun k=>⟨leR,fun y hy=>.inl hy⟩) leR,Y,e1⟩⟩
  ·show G.nI+_<=_;omega
  ·show G.nS+_<=_;rw[e3];exact hC.cS
  ·show G.nN+_<=_;rw[e4];exact hC.cN
  show G.nC+_<=_;rw[e5];exact hC.cC
 refine⟨_,_,true,rfl,j,fun w10 hor hT hne=>?_⟩;obtain⟨O,V⟩:=tr x8.took w10 hp rfl hor;refine⟨pb,x8.took,R,D,rfl,O,⟨hC.cI,hC.cS,hC.cN,hC.cC⟩,hU,(hc.trans (j.wide (by decide))).trans V,.inr ⟨rfl,p,W',hL.same (x':=x8.took) rfl (fun k=>⟨rfl,rfl⟩) rfl rfl (fun k=>⟨leR,fun y hy=>.inl hy⟩) leR,Y,hT,hne,by rw[Yo]at hk;omega⟩⟩
theorem RZ{m:Me}{i:Nat}(on:Bool):∃m':Me,m'.up=m.up/\m'.least=m.least/\m'.ids=m.ids/\m'.ap=m.ap/\∀f',f'<8->(QK mb i m')[f']? = if f'=BL on then some (.bool true)else(QK mb i m)[f']? := by
 cases on with
 | true=>exact⟨{ m with s1:=true },rfl,rfl,rfl,rfl,fun f' hf'=>by rcases f8_cases hf' with rfl|rfl|rfl|rfl|rfl|rfl|rfl|rfl<;>rfl⟩
 | false=>exact⟨{ m with s0:=true },rfl,rfl,rfl,rfl,fun f' hf'=>by rcases f8_cases hf' with rfl|rfl|rfl|rfl|rfl|rfl|rfl|rfl<;>rfl⟩
theorem PR{w:World}{B eb hb ub:Nat}{T:List Tm}{H R:List Nat}{Bq:Nat->Nat->Prop}{x:Sx}{D:Nat->Nat}{W:List (Nat×Nat)}{Q:Nat->Nat->Prop}{f K C:Nat}(t:Nat)(on:Bool)(h:Hp w B eb mb hb ub T H x)(hS:Stat T H x.U)(hE:LE T)(hL:Lg T H Bq x R D W Q f)(hI:It mb x.s W)(hC:Cn T.length x R K C)(hn0:x.s.nI+ZM T.length R*450000000<=K)(hK:K<=1900000000000)(hCC:C<=90000)(hf:f<=900)(ht:t<T.length)(h0:x.s.t0=Kf T 2)(h1:x.s.t1=Kf T 1)(hB:∀a b,Gy T ((t:Int),on) a b->Bq a b) :
 Calls prog 13 #[.pointer (some ⟨eb,0,none⟩),.agg #[.int .i64 (t:Nat),.bool on]] w fun e w'=>e=.returned (.tuple #[])/\LH B eb mb hb ub T H Bq x (fun a b=>Q a b∨Gy T ((t:Int),on) a b) (f+2) K (C+3) w w':=by
 obtain⟨W0,j4⟩:=O2 (w.alloc (.cells #[.int .i64 (t:Nat),.bool on] 36));obtain⟨fb,g3⟩:∃n,w.heap.size=n:=⟨_,rfl⟩;have H0:=Hd j4;have u2:=Hd g3;have l5:Hid (Ch B NoX [] w W0):=by unfold Hid;rw[<-j4];exact Ch.up _ _ _ (Oy _ _)
 have d4:Hid (Tb W0 fb 36 [.int .i64 (t:Nat),.bool on]):=by unfold Hid;rw[<-j4,<-g3];exact Js
 have u5:=Hd (h.up l5.o);have W4:=Hd h.sta.ml;have HS:=Hd hS;have HE:=Hd hE;have HL:=Hd hL;have HI:=Hd hI;have HC:=Hd hC;have n6:=Hd h0;have n7:=Hd h1;have l4:=Hd hB;have g0:=d4.o.bx.c2.1;have g1:=d4.o.bx.c2.2;have s1:BV true=1:=rfl;have s2:BV false=0:=rfl;have i1:(t:Int)<(T.length:Int):=by omega
 have i2:decide (t<T.length)=true:=Jb ht;have hnI:x.s.nI<=1900000000000:=by omega
 have hnC:x.s.nC<=90000:=by have:=hC.cC;omega
 have y7:=Hd hn0;clear hn0 h hS hE hL hI hC h0 h1 hB j4 g3
 go_in
 go_upto_region 1 with fail
 rw[H0.o];rw[u2.o]
 go_upto_if 10 with fail
 go_cut [4] (fun s4 wx=>s4=.int .i64 (BV on)/\wx=W0)
 case first=>
  cases on with
  | true=>go_wp2;go_meet;exact⟨rfl,rfl⟩
  | false=>go_wp2;go_meet;exact⟨rfl,rfl⟩
 obtain⟨rfl,hw⟩:=hcut
 rename World=>w1
 subst hw;clear H0 u2;have d6:=Hd (u5.o.up (Ch.refl B NoX [] w1).drew);have l8:=Hd (Hk d6.o t ht (by omega));unfold mp at l8
 go_upto_region 4 with fail
 go_cut [5] (fun s5 wx=>s5=.pointer (some ⟨mb,t*8,none⟩)/\∃v y,Hp wx B eb mb hb ub T H (x.chgd v y)/\Ch B NoX [some 59,some 114] w1 wx)
 case first=>
  refine Ph 10 rfl (S:=fun W=>W.cell? ⟨eb,5,none⟩=some (.slice (some ⟨mb,0,none⟩) T.length T.length)/\W.cell? ⟨fb,0,none⟩=some (.int .i64 (t:Nat))) (by kernel_rfl) (⟨d6.o.c5,g0⟩) (fun hHeld=>?_);refine tk 0 11 (v:=?_) rfl rfl (by kernel_rfl) (fun _ _ _ h=>h) (Or.inl ⟨by rfl,?_⟩) (by assumption) ?_
  rotate_left
  ·(intro w j;(try dsimp only at j);go_simp;(try with_reducible rfl))
  try simp only[Act.put,Ja,Je,Jf]
  refine tk 1 12 (v:=?_) rfl rfl (by kernel_rfl) (fun _ _ _ h=>h) (Or.inl ⟨by rfl,?_⟩) (by assumption) ?_
  rotate_left
  ·(intro w j;(try dsimp only at j);go_simp;(try with_reducible rfl))
  try simp only[Act.put,Ja,Je,Jf]
  refine tk 2 13 (v:=?_) rfl rfl (by kernel_rfl) (fun _ _ _ h=>h) (Or.inl ⟨by rfl,?_⟩) (by assumption) ?_
  rotate_left
  ·(intro w j;(try dsimp only at j);go_simp;(try with_reducible rfl))
  try simp only[Act.put,Ja,Je,Jf]
  refine tk 3 14 (v:=?_) rfl rfl (by kernel_rfl) (fun _ _ _ h=>h) (Or.inl ⟨by rfl,?_⟩) (by assumption) ?_
  rotate_left
  ·(intro w j;(try dsimp only at j);go_simp;(try with_reducible rfl))
  try simp only[Act.put,Ja,Je,Jf]
  refine tk 4 15 (v:=?_) rfl rfl (by kernel_rfl) (fun _ _ _ h=>h) (Or.inl ⟨by rfl,?_⟩) (by assumption) ?_
  rotate_left
  ·(intro w j;(try dsimp only at j);go_simp;(try with_reducible rfl))
  try simp only[Act.put,Ja,Je,Jf]
  refine tk 5 16 (v:=?_) rfl rfl (by kernel_rfl) (fun _ _ _ h=>h) (Or.inl ⟨by rfl,?_⟩) (by assumption) ?_
  rotate_left
  ·(intro w j;(try dsimp only at j);go_simp;(try with_reducible rfl))
  try simp only[Act.put,Ja,Je,Jf]
  refine tk 6 17 (v:=?_) rfl rfl (by kernel_rfl) (fun _ _ _ h=>h) (Or.inl ⟨by rfl,?_⟩) (by assumption) ?_
  rotate_left
  ·(intro w j;(try dsimp only at j);go_simp;(try with_reducible rfl))
  try simp only[Act.put,Ja,Je,Jf]
  refine tk 7 18 (v:=?_) rfl rfl (by kernel_rfl) (fun _ _ _ h=>h) (Or.inl ⟨by rfl,?_⟩) (by assumption) ?_
  rotate_left
  ·(intro w j;(try dsimp only at j);go_simp;(try with_reducible rfl))
  try simp only[Act.put,Ja,Je,Jf]
  refine wpAnyH_ready (rs:=[8]) (by kernel_rfl) (by simp) ?_;refine AllReadyH.cons rfl (fun K hK=>?_) AllReadyH.nil
  go_simp
  go_at_call 31
  refine l8.o.mono ?_;rintro e w2 ⟨rfl,v1,y1,hh,hc⟩;have u6:=Hd hh;have q8:Hid (Ch B NoX [some 59,some 114] w1 w2):=⟨hc.os,hc.tape,hc.output,hc.size,hc.block⟩;have g2:=(d4.o.ch q8.o (.inr (.inr (by decide)))).bx.c2.1;clear hh hc
  go_wp2_with fail
  refine hK.out _ _ (⟨u6.o.c5,g2⟩) (fun hHeld8=>?_);clear hK K
  try simp only[Act.put,Ja,Je,Jf]
  refine tk 9 5 (v:=?_) rfl rfl (by kernel_rfl) (fun _ _ _ h=>h) (Or.inl ⟨by rfl,?_⟩) (by assumption) ?_
  rotate_left
  ·(intro w j;(try dsimp only at j);go_simp;(try with_reducible rfl))
  try simp only[Act.put,Ja,Je,Jf]
  refine wpAnyH_done (by kernel_rfl) ?_ _
  go_wp2
  go_meet
  exact⟨rfl,_,_,u6.o,q8.o⟩
 obtain⟨rfl,v1,y1,hh,hc⟩:=hcut
 rename World=>w2
 have r4:Hid (Ch B NoX Ug w w2):=(l5.o.wide (by decide)).trans (hc.wide (by decide));have t8:=Hd (d4.o.ch hc (.inr (.inr (by decide))));have V:=Hd hh;clear hh hc l8 d6 u5 d4 l5 g0 g1;obtain⟨x2,o7⟩:∃y,x.chgd v1 y1=y:=⟨_,rfl⟩;have Z:=Hd o7;rw[o7]at V;obtain⟨m5,e1,e2,e3,e4,N0⟩:=RZ (m:=meA x2.ms t) (mb:=mb) (i:=t) on;have k2:=(V.o.cells ht).2.2.1;have k3:=(V.o.cells ht).2.2.2.1;have q2:=V.o.sta.mem.fz (t*8+2);have q3:=V.o.sta.mem.fz (t*8+3);obtain⟨b2,hb2⟩:∃b,(meA x2.ms t).s0=b:=⟨_,rfl⟩;obtain⟨b3,L3⟩:∃b,(meA x2.ms t).s1=b:=⟨_,rfl⟩;rw[hb2]at k2;rw[L3]at k3;have n4:=Hd N0;have s9:=Hd e1;have t6:=Hd e2;have l9:=Hd e3;have m0:=Hd e4;clear o7 hb2 L3 N0 e1 e2 e3 e4
 go_upto_region 5 with fail
 go_cut [] (fun wx=>Hp wx B eb mb hb ub T H { x2 with ms:=x2.ms.set t m5 }/\Ch B NoX [some 49] w2 wx)
 case first=>
  cases on with
  | true=>go_wp2;go_meet;exact V.o.mem (i:=t) (f:=3) ht (by omega) (.bool true) m5 n4.o l9.o m0.o
  | false=>go_wp2;go_meet;exact V.o.mem (i:=t) (f:=2) ht (by omega) (.bool true) m5 n4.o l9.o m0.o
 obtain⟨hh,hc⟩:=hcut
 rename World=>w3
 have r5:Hid (Ch B NoX Ug w w3):=r4.o.trans (hc.wide (by decide));have u0:=Hd (t8.o.ch hc (.inr (.inr (by decide))));obtain⟨x3,o8⟩:∃y,({ x2 with ms:=x2.ms.set t m5 }:Sx)=y:=⟨_,rfl⟩;rw[o8]at hh;have b8:=Hd o8;have V1:=Hd hh;have H4:w3.cell? ⟨eb,10,none⟩=some (.bool x3.s.cl):=hh.dyn.box.bx.cell 10;have f10:=hh.dyn.box.bx.fz 10;have k4:=(hh.cells ht).2.2.1;have k5:=(hh.cells ht).2.2.2.1;obtain⟨cl,M6⟩:∃b,x3.s.cl=b:=⟨_,rfl⟩;obtain⟨b4,M1⟩:∃b,(meA x3.ms t).s0=b:=⟨_,rfl⟩;obtain⟨b5,M2⟩:∃b,(meA x3.ms t).s1=b:=⟨_,rfl⟩;rw[M6]at H4;rw[M1]at k4;rw[M2]at k5;have d0:=Hd hh.clash;clear hh hc o8 M6 M1 M2 V r4 t8 n4 l9 m0 k2 k3 q2 q3
 go_upto_region 6 with fail
 go_cut [] (fun wx=>∃c,Hp wx B eb mb hb ub T H (x3.clash c)/\Ch B NoX [some 59] w3 wx)
 case first=>
  cases cl with
  | true=>cases on with
    | true=>go_wp2;go_meet;exact⟨true,d0.o true⟩
    | false=>go_wp2;go_meet;exact⟨true,d0.o true⟩
  | false=>cases on with
    | true=>go_wp2;go_meet;exact⟨b4,d0.o b4⟩
    | false=>go_wp2;go_meet;exact⟨b5,d0.o b5⟩
 obtain⟨c4,hh,hc⟩:=hcut
 rename World=>w4
 have r6:Hid (Ch B NoX Ug w w4):=r5.o.trans (hc.wide (by decide));have i6:=Hd (u0.o.ch hc (.inr (.inr (by decide))));obtain⟨x4,b6⟩:∃y,x3.clash c4=y:=⟨_,rfl⟩;rw[b6]at hh;have m6:=Hd hh;have n2:Hid (Lg T H Bq x4 R D W Q f):=by
  have hl:t<x2.ms.length:=by rw[<-Z.o];show t<x.ms.length;rw[W4.o];exact ht
  refine HL.o.same ?_ (fun k=>?_) ?_ ?_ (fun k=>?_) leR
  ·rw[<-b6,<-b8.o,<-Z.o];show(List.set x.ms t _).length=_;rw[Zh]
  ·rw[<-b6,<-b8.o]
   show(meA (x2.ms.set t m5) k).up=_/\(meA (x2.ms.set t m5) k).least=_
   rw[V4 hl];have e0:x2.ms=x.ms:=by rw[<-Z.o];rfl
   split
   ·rename_i e;subst e;rw[s9.o,t6.o,e0];exact⟨rfl,rfl⟩
   rw[e0];exact⟨rfl,rfl⟩
  ·rw[<-b6,<-b8.o,<-Z.o];rfl
  ·rw[<-b6,<-b8.o,<-Z.o];rfl
  rw[<-b6,<-b8.o,<-Z.o];exact⟨leR,fun y hy=>.inl hy⟩
 have J:Hid (x4.s.xI=x.s.xI/\x4.s.nI=x.s.nI/\x4.s.gv=x.s.gv/\x4.s.nS=x.s.nS/\x4.s.nN=x.s.nN/\x4.s.nC=x.s.nC+1/\x4.s.t0=x.s.t0/\x4.s.t1=x.s.t1/\x4.U=x.U):=by unfold Hid;rw[<-b6,<-b8.o,<-Z.o];exact⟨rfl,rfl,rfl,rfl,rfl,rfl,rfl,rfl,rfl⟩
 have m8:Hid (It mb x4.s W):=HI.o.same J.o.1 J.o.2.1 J.o.2.2.1;have g0:=i6.o.bx.c2.1;have g1:=i6.o.bx.c2.2;have d1:w4.cell? ⟨eb,1,none⟩=some (.int .i64 x.s.t0):=by rw[<-J.o.2.2.2.2.2.2.1];exact hh.dyn.box.bx.cell 1
 have d2:w4.cell? ⟨eb,2,none⟩=some (.int .i64 x.s.t1):=by rw[<-J.o.2.2.2.2.2.2.2.1];exact hh.dyn.box.bx.cell 2
 have z0:MI x.s true=x.s.t1:=rfl;have z1:MI x.s false=x.s.t0:=rfl;obtain⟨tr,j8⟩:∃y,MI x.s on=y:=⟨_,rfl⟩;have O:=Hd j8;clear hh hc b6 Z b8 s9 t6 HL HI V1 r5 u0 d0 H4 f10 k4 k5;clear z0 z1
 go_upto_region 7 with fail
 go_cut [47] (fun s47 wx=>s47=.bool (decide (0<=tr))/\wx=w4)
 case first=>
  cases on with
  | true=>
    have e:x.s.t1=tr:=O.o;rw[e]at d2;clear e d1 j8
    go_wp2
    go_meet
    exact⟨rfl,rfl⟩
  | false=>
    have e:x.s.t0=tr:=O.o;rw[e]at d1;clear e d2 j8
    go_wp2
    go_meet
    exact⟨rfl,rfl⟩
 obtain⟨rfl,hw⟩:=hcut
 rename World=>w5
 subst hw;clear j8
 go_upto_if 47 with fail
 go_cut [] (fun wx=>∃x5 W5,Hp wx B eb mb hb ub T H x5/\Lg T H Bq x5 R D W5 (fun a b=>Q a b∨(0<=tr/\a=t/\b=tr.toNat)) f/\It mb x5.s W5/\(x5.s.nI<=x.s.nI+1/\x5.s.nS=x.s.nS/\x5.s.nN=x.s.nN/\x5.s.nC=x.s.nC+1/\x5.s.t0=x.s.t0/\x5.s.t1=x.s.t1/\x5.U=x.U)/\Ch B NoX [some 59,some 84] w5 wx)
 case first=>
  by_cases hz:0<=tr
  ·have z1:decide (0<=tr)=true:=Jb hz;have hfv:∃y:Nat,tr=(y:Int)/\y<T.length/\Gy T ((t:Int),on) t y:=by
    cases on with
    | true=>
      have e:x.s.t1=tr:=O.o;rw[n7.o]at e;obtain⟨y,h1,h2⟩:=Xx (T:=T) (op:=1) (by rw[e];exact hz);exact⟨y,e.symm.trans h1,h2,.inr (.inl ⟨rfl,by rw[e];exact hz,by simp,by rw[h1];simp⟩)⟩
    | false=>
      have e:x.s.t0=tr:=O.o;rw[n6.o]at e;obtain⟨y,h1,h2⟩:=Xx (T:=T) (op:=2) (by rw[e];exact hz);exact⟨y,e.symm.trans h1,h2,.inr (.inr ⟨rfl,by rw[e];exact hz,by simp,by rw[h1];simp⟩)⟩
   obtain⟨y,rfl,hy,M8⟩:=hfv;have l6:=Hd (Ky.base (T:=T) (M:=madeL T T.length) (l4.o _ _ M8));have h8:=Hd (L6 (m6.o.up (Ch.refl B NoX [] w5).drew) m8.o t y ht hy (by rw[J.o.2.1];omega));clear hz M8;have E:Hid (∀(w6:World) (v':Value),Hp w6 B eb mb hb ub T H (x4.put v' mb t y)->It mb (x4.put v' mb t y).s (W++[(t,y)])->Ch B NoX [some 59,some 84] w5.drew w6->∃x5 W5,Hp w6 B eb mb hb ub T H x5/\Lg T H Bq x5 R D W5 (fun a b=>Q a b∨((0:Int)<=(y:Int)/\a=t/\b=(y:Int).toNat)) f/\It mb x5.s W5/\(x5.s.nI<=x.s.nI+1/\x5.s.nS=x.s.nS/\x5.s.nN=x.s.nN/\x5.s.nC=x.s.nC+1/\x5.s.t0=x.s.t0/\x5.s.t1=x.s.t1/\x5.U=x.U)/\Ch B NoX [some 59,some 84] w5 w6):=fun w6 v' a1 a2 a3=>by
    obtain⟨e1,e2,e3,e4,e5,e6,e7,e8,e9⟩:=J.o;refine⟨_,_,a1,(Lg.put (n2.o.same (x':=x4.put v' mb t y) rfl (fun k=>⟨rfl,rfl⟩) rfl rfl (fun k=>⟨leR,fun y hy=>.inl hy⟩) leR) ht hy l6.o).imp ?_,a2,⟨?_,e4,e5,e6,e7,e8,e9⟩,⟨a3.os,a3.tape,a3.output,a3.size,a3.block⟩⟩
    ·rintro u v (huv|⟨_,rfl,rfl⟩)
     ·exact .inl huv
     exact .inr ⟨rfl,by simp⟩
    show x4.s.nI+1<=_;rw[e2];exact leR
   cases on with
   | true=>
     have e:x.s.t1=(y:Int):=O.o;rw[e]at d2;clear e d1
     go_wp2
     go_region_law ((go_simp;refine h8.o.mono ?_;rintro e w6 ⟨rfl,v',a1,a2,a3⟩;have d9:=Hd (E.o w6 v' a1 a2 a3);clear a1 a2 a3;go_wp2_with fail))
     all_goals (go_wp2;go_meet;exact d9.o)
   | false=>
     have e:x.s.t0=(y:Int):=O.o;rw[e]at d1;clear e d2
     go_wp2
     go_region_law ((go_simp;refine h8.o.mono ?_;rintro e w6 ⟨rfl,v',a1,a2,a3⟩;have d9:=Hd (E.o w6 v' a1 a2 a3);clear a1 a2 a3;go_wp2_with fail))
     all_goals (go_wp2;go_meet;exact d9.o)
  have z1:decide (0<=tr)=false:=Jd hz;obtain⟨e1,e2,e3,e4,e5,e6,e7,e8,e9⟩:=J.o;have d9:Hid (∃x5 W5,Hp w5 B eb mb hb ub T H x5/\Lg T H Bq x5 R D W5 (fun a b=>Q a b∨(0<=tr/\a=t/\b=tr.toNat)) f/\It mb x5.s W5/\(x5.s.nI<=x.s.nI+1/\x5.s.nS=x.s.nS/\x5.s.nN=x.s.nN/\x5.s.nC=x.s.nC+1/\x5.s.t0=x.s.t0/\x5.s.t1=x.s.t1/\x5.U=x.U)/\Ch B NoX [some 59,some 84] w5 w5):=⟨x4,W,m6.o,n2.o.imp (fun u v huv=>huv.elim id (fun h=>absurd h.1 hz)),m8.o,⟨by rw[e2];exact Y8 _,e4,e5,e6,e7,e8,e9⟩,Ch.refl _ _ _ _⟩;clear e1 e2 e3 e4 e5 e6 e7 e8 e9
  go_wp2
  go_meet
  exact d9.o
 obtain⟨x5,W5,hh,hl,hi,hs,hc⟩:=hcut
 rename World=>w6
 have r7:Hid (Ch B NoX Ug w w6):=r6.o.trans (hc.wide (by decide));have d5:=Hd (i6.o.ch hc (.inr (.inr (by decide))));have b9:=Hd hh;have c6:=Hd hl;have i7:=Hd hi;have c8:=Hd hs;have g0':=d5.o.bx.c2.1;have g1':=d5.o.bx.c2.2;clear hh hl hi hs hc m6 n2 m8 r6 i6 J g0 g1 d1 d2;obtain⟨bt,ct,pk,ck,et,hbt,k0,k1,k2,k3,k4,k5,k6⟩:=Uo b9.o.sta.trm.at ht;have e0:w6.cell? ⟨eb,0,none⟩=some x5.s.vt:=b9.o.dyn.box.bx.cell 0;rw[et]at e0;obtain⟨nk,o4⟩:∃n,(tmAt T (t:Nat)).kids.length=n:=⟨_,rfl⟩;rw[o4]at k5;have y8:=Hd o4;obtain⟨op,o5⟩:∃n,(tmAt T (t:Nat)).op=n:=⟨_,rfl⟩;rw[o5]at k0;have i8:=Hd o5;generalize (tmAt T (t:Nat)).sort=so at k1;generalize (tmAt T (t:Nat)).text=tx at k2;generalize (tmAt T (t:Nat)).a=ta at k3;generalize (tmAt T (t:Nat)).b=tc at k4;obtain⟨W7,j6⟩:∃W,w6.alloc (.cells #[.int .i64 op,.string (Oo so),.string (Oo tx),.int .i64 ta,.int .i64 tc,.slice pk nk ck] 38)=W:=⟨_,rfl⟩;have H1:=Hd j6;have r8:Hid (Ch B NoX [] w6 W7):=by unfold Hid;rw[<-j6];exact Ch.up _ _ _ (Oy _ _)
 have A2:Hid (Tb W7 w6.heap.size 38 [.int .i64 op,.string (Oo so),.string (Oo tx),.int .i64 ta,.int .i64 tc,.slice pk nk ck]):=by unfold Hid;rw[<-j6];exact Js
 have g3:=d5.o.bx.lt;have heb:=b9.o.dyn.box.bx.lt;have x1:=Hd (b9.o.sta.trm.kid ht et k5 HS.o.tk).2;clear o4 o5 j6 k6 et
 go_upto_region 9 with fail
 go_cut [6] (fun s6 wx=>∃tb,s6=.pointer (some ⟨tb,0,none⟩)/\Tb wx tb 38 [.int .i64 op,.string (Oo so),.string (Oo tx),.int .i64 ta,.int .i64 tc,.slice pk nk ck]/\Ch B NoX [] w6 wx)
 case first=>
  go_region
  go_wp2_with fail
  rw[H1.o]
  go_meet
  exact⟨w6.heap.size,rfl,A2.o,r8.o.drew⟩
 obtain⟨tb,rfl,hT,hc⟩:=hcut
 rename World=>w7
 have r9:Hid (Ch B NoX Ug w w7):=r7.o.trans (hc.wide (by decide));have u1:=Hd (d5.o.ch hc (.inr (.inr (by decide))));have d8:=Hd (b9.o.up hc);have n8:=Hd hT;have j0:=hT.bx.cell 0;have j5:=hT.bx.cell 5;have hg1:=u1.o.bx.c2.2;have m9:Hid (∀i,i<nk->∃bk,pk=some ⟨bk,0,none⟩/\bk<B/\w7.cell? ⟨bk,i,none⟩=some (.int .i64 ((O9 (tmAt T (t:Nat)) i:Nat):Int))/\O9 (tmAt T (t:Nat)) i<T.length):=fun i hi=>by
  obtain⟨bk,e1,e2,e3,e4⟩:=x1.o i hi;exact⟨bk,e1,e2,hc.cell (p:=⟨bk,i,none⟩) e3 (.inl e2),e4⟩
 have t7:Hid (op=9->2<=nk):=fun h9=>by rw[<-y8.o];exact HE.o t ht (by rw[i8.o];exact h9)
 clear hT hc r8 A2 H1 b9 d5 r7 g0' g1' e0 k0 k1 k2 k3 k4 k5 x1 g3 heb hbt
 go_upto_region 10 with fail
 go_cut [72] (fun s72 wx=>s72=.bool (decide (op=9)&&on)/\wx=w7)
 case first=>
  by_cases h9:op=9
  ·have z1:(op==9)=true:=by rw[J2];exact h9
   have HZ:Hid ((decide (op=9)&&on)=on):=by unfold Hid;rw[Jb h9];rfl
   clear h9
   go_wp2
   go_meet
   exact⟨by rw[HZ.o],rfl⟩
  have z1:(op==9)=false:=by rw[Jc];exact h9
  have HZ:Hid ((decide (op=9)&&on)=false):=by unfold Hid;rw[Jd h9];rfl
  clear h9
  go_wp2
  go_meet
  exact⟨by rw[HZ.o],rfl⟩
 obtain⟨rfl,hw⟩:=hcut
 rename World=>w8
 subst hw;have G:Hid (∀u v,Gy T ((t:Int),on) u v->(0<=tr/\u=t/\v=tr.toNat)∨(on=true/\op=9/\u=O9 (tmAt T (t:Nat)) 0/\v=O9 (tmAt T (t:Nat)) 1)):=by
  rintro u v (⟨e1,e2,e3,e4⟩|⟨e1,e2,e3,e4⟩|⟨e1,e2,e3,e4⟩)
  ·exact .inr ⟨e1,by rw[<-i8.o];exact e2,e3,e4⟩
  ·have e:MI x.s on=Kf T 1:=by simp only at e1;rw[e1];exact n7.o
   rw[O.o]at e;exact .inl ⟨by rw[e];exact e2,by simpa using e3,by rw[e];exact e4⟩
  have e:MI x.s on=Kf T 2:=by simp only at e1;rw[e1];exact n6.o
  rw[O.o]at e;exact .inl ⟨by rw[e];exact e2,by simpa using e3,by rw[e];exact e4⟩
 go_upto_if 72 with fail
 go_cut [] (fun wx=>∃x8 W8,Hp wx B eb mb hb ub T H x8/\Lg T H Bq x8 R D W8 (fun a b=>Q a b∨Gy T ((t:Int),on) a b) (f+2)/\It mb x8.s W8/\(x8.s.nI<=x.s.nI+2/\x8.s.nS=x.s.nS/\x8.s.nN=x.s.nN/\x8.s.nC<=x.s.nC+3/\x8.s.t0=x.s.t0/\x8.s.t1=x.s.t1/\x8.U=x.U)/\Ch B NoX Ug w8 wx)
 case first=>
  have f8:Hid (∀x',x'.ms=x5.ms->x'.s.sg=x5.s.sg->x'.I=x5.I->x'.P=x5.P->Lg T H Bq x' R D W5 (fun a b=>Q a b∨(0<=tr/\a=t/\b=tr.toNat)) (f+2)):=fun x' e1 e2 e3 e4=>c6.o.same (by rw[e1]) (fun k=>by rw[e1];exact⟨rfl,rfl⟩) e2 e3 (fun k=>by rw[e4];exact⟨by omega,fun y hy=>.inl hy⟩) (by omega)
  by_cases h9:op=9
  ·subst h9;have h2:=t7.o rfl;obtain⟨bk,rfl,M4,q0,l0⟩:=m9.o 0 (by omega);obtain⟨bk',L1,-,q1,l1⟩:=m9.o 1 (by omega);simp only[Option.some.injEq,Addr.mk.injEq,and_true]at L1;subst L1;have y1:(0:Int)<(nk:Int):=by omega
   have y2:(1:Int)<(nk:Int):=by omega
   have y5:0<nk:=by omega
   have y6:1<nk:=by omega
   have y3:decide (0<nk)=true:=Jb (by omega);have y4:decide (1<nk)=true:=Jb (by omega);obtain⟨ka,o2⟩:∃y,O9 (tmAt T (t:Nat)) 0=y:=⟨_,rfl⟩;obtain⟨kb,o3⟩:∃y,O9 (tmAt T (t:Nat)) 1=y:=⟨_,rfl⟩;rw[o2]at q0 l0 G;rw[o3]at q1 l1 G;have x6:Hid (∀w9,Ch B NoX Ug w8 w9->w9.cell? ⟨bk,0,none⟩=some (.int .i64 (ka:Nat))/\w9.cell? ⟨bk,1,none⟩=some (.int .i64 (kb:Nat))):=fun w9 hc=>⟨hc.cell (p:=⟨bk,0,none⟩) q0 (.inl M4),hc.cell (p:=⟨bk,1,none⟩) q1 (.inl M4)⟩;have V2:=Hd o2;have W1:=Hd o3;clear o2 o3
   cases on with
   | true=>
     have l6:Hid (Ky T (madeL T T.length) Bq ka kb):=Ky.base (l4.o _ _ (.inl ⟨rfl,by show(tmAt T (t:Int)).op=9;exact i8.o,V2.o.symm,W1.o.symm⟩));have h8:=Hd (L6 (d8.o.up (Ch.refl B NoX [] w8).drew) i7.o ka kb l0 l1 (by have:=c8.o.1;omega));have E:Hid (∀(W9:World) (v':Value),Hp W9 B eb mb hb ub T H (x5.put v' mb ka kb)->It mb (x5.put v' mb ka kb).s (W5++[(ka,kb)])->Ch B NoX [some 59,some 84] w8.drew W9->∃x8 W8,Hp W9 B eb mb hb ub T H x8/\Lg T H Bq x8 R D W8 (fun a b=>Q a b∨Gy T ((t:Int),true) a b) (f+2)/\It mb x8.s W8/\(x8.s.nI<=x.s.nI+2/\x8.s.nS=x.s.nS/\x8.s.nN=x.s.nN/\x8.s.nC<=x.s.nC+3/\x8.s.t0=x.s.t0/\x8.s.t1=x.s.t1/\x8.U=x.U)/\Ch B NoX Ug w8 W9):=fun W9 v' a1 a2 a3=>by
      obtain⟨e1,e2,e3,e4,e5,e6,e7⟩:=c8.o;refine⟨_,_,a1,((f8.o (x5.put v' mb ka kb) rfl rfl rfl rfl).put l0 l1 l6.o).imp ?_,a2,⟨by show x5.s.nI+1<=_;omega,e2,e3,by show x5.s.nC<=_;omega,e5,e6,e7⟩,Ch.wide ⟨a3.os,a3.tape,a3.output,a3.size,a3.block⟩ (by decide)⟩;rintro u v (huv|huv)
      ·exact .inl (.inl huv)
      rcases G.o u v huv with h|⟨_,_,h⟩
      ·exact .inl (.inr h)
      exact .inr h
     go_wp2_with fail
     refine Ph 10 rfl (S:=fun W=>W.cell? ⟨tb,5,none⟩=some (.slice (some ⟨bk,0,none⟩) nk ck)/\W.cell? ⟨bk,0,none⟩=some (.int .i64 (ka:Nat))/\W.cell? ⟨bk,1,none⟩=some (.int .i64 (kb:Nat))) (by kernel_rfl) (⟨j5,q0,q1⟩) (fun hHeld=>?_);refine tk 0 73 (v:=?_) rfl rfl (by kernel_rfl) (fun _ _ _ h=>h) (Or.inl ⟨by rfl,?_⟩) (by assumption) ?_
     rotate_left
     ·(intro w j;(try dsimp only at j);go_simp;(try with_reducible rfl))
     try simp only[Act.put,Ja,Je,Jf]
     refine tk 1 74 (v:=?_) rfl rfl (by kernel_rfl) (fun _ _ _ h=>h) (Or.inl ⟨by rfl,?_⟩) (by assumption) ?_
     rotate_left
     ·(intro w j;(try dsimp only at j);go_simp;(try with_reducible rfl))
     try simp only[Act.put,Ja,Je,Jf]
     refine tk 2 75 (v:=?_) rfl rfl (by kernel_rfl) (fun _ _ _ h=>h) (Or.inl ⟨by rfl,?_⟩) (by assumption) ?_
     rotate_left
     ·(intro w j;(try dsimp only at j);go_simp;(try with_reducible rfl))
     try simp only[Act.put,Ja,Je,Jf]
     refine tk 3 76 (v:=?_) rfl rfl (by kernel_rfl) (fun _ _ _ h=>h) (Or.inl ⟨by rfl,?_⟩) (by assumption) ?_
     rotate_left
     ·(intro w j;(try dsimp only at j);go_simp;(try with_reducible rfl))
     try simp only[Act.put,Ja,Je,Jf]
     refine tk 4 77 (v:=?_) rfl rfl (by kernel_rfl) (fun _ _ _ h=>h) (Or.inl ⟨by rfl,?_⟩) (by assumption) ?_
     rotate_left
     ·(intro w j;(try dsimp only at j);go_simp;(try with_reducible rfl))
     try simp only[Act.put,Ja,Je,Jf]
     refine tk 5 78 (v:=?_) rfl rfl (by kernel_rfl) (fun _ _ _ h=>h) (Or.inl ⟨by rfl,?_⟩) (by assumption) ?_
     rotate_left
     ·(intro w j;(try dsimp only at j);go_simp;(try with_reducible rfl))
     try simp only[Act.put,Ja,Je,Jf]
     refine tk 6 79 (v:=?_) rfl rfl (by kernel_rfl) (fun _ _ _ h=>h) (Or.inl ⟨by rfl,?_⟩) (by assumption) ?_
     rotate_left
     ·(intro w j;(try dsimp only at j);go_simp;(try with_reducible rfl))
     try simp only[Act.put,Ja,Je,Jf]
     refine tk 7 80 (v:=?_) rfl rfl (by kernel_rfl) (fun _ _ _ h=>h) (Or.inl ⟨by rfl,?_⟩) (by assumption) ?_
     rotate_left
     ·(intro w j;(try dsimp only at j);go_simp;(try with_reducible rfl))
     try simp only[Act.put,Ja,Je,Jf]
     refine tk 8 81 (v:=?_) rfl rfl (by kernel_rfl) (fun _ _ _ h=>h) (Or.inl ⟨by rfl,?_⟩) (by assumption) ?_
     rotate_left
     ·(intro w j;(try dsimp only at j);go_simp;(try with_reducible rfl))
     try simp only[Act.put,Ja,Je,Jf]
     refine wpAnyH_ready (rs:=[9]) (by kernel_rfl) (by simp) ?_;refine AllReadyH.cons rfl (fun K hK=>?_) AllReadyH.nil
     go_simp
     go_at_call 32
     refine h8.o.mono ?_;rintro e w9 ⟨rfl,v',a1,a2,a3⟩;have f0:=Hd (E.o w9 v' a1 a2 a3);have o1:w9.cell? ⟨tb,5,none⟩=some (.slice (some ⟨bk,0,none⟩) nk ck)/\w9.cell? ⟨bk,0,none⟩=some (.int .i64 (ka:Nat))/\w9.cell? ⟨bk,1,none⟩=some (.int .i64 (kb:Nat)):=⟨(n8.o.ch (Ch.wide (ts':=Ug) ⟨a3.os,a3.tape,a3.output,a3.size,a3.block⟩ (by decide):Ch B NoX Ug w8 w9) (.inr (.inr (by decide)))).bx.cell 5,x6.o w9 (Ch.wide (ts':=Ug) ⟨a3.os,a3.tape,a3.output,a3.size,a3.block⟩ (by decide))⟩;clear a1 a2 a3
     go_wp2_with fail
     refine hK.out _ _ (o1) (fun hHeld9=>?_);clear hK K
     try simp only[Act.put,Ja,Je,Jf]
     refine wpAnyH_done (by kernel_rfl) ?_ _
     go_wp2
     go_meet
     exact f0.o
   | false=>
     have X1:=Hd (QL (d8.o.up (Ch.refl B NoX [] w8).drew) c6.o.fo ka kb l0 l1 (fun k hk hr=>by
      have h1:=(c6.o.apl k hk hr).1;have h3:=(c6.o.idk.len hk hr).2;have h4:=HS.o.n3;exact Jm h1 (Jm (Nat.mul_le_mul hf (Jm h3 h4)) (by omega))) (by have:=c8.o.2.2.2.1;omega))
     have E:Hid (∀(W9:World) (x':Sx),Hp W9 B eb mb hb ub T H x'->IC T.length x5 x'->Ch B NoX [some 59,some 114,some 45,some 49] w8.drew W9->∃x8 W8,Hp W9 B eb mb hb ub T H x8/\Lg T H Bq x8 R D W8 (fun a b=>Q a b∨Gy T ((t:Int),false) a b) (f+2)/\It mb x8.s W8/\(x8.s.nI<=x.s.nI+2/\x8.s.nS=x.s.nS/\x8.s.nN=x.s.nN/\x8.s.nC<=x.s.nC+3/\x8.s.t0=x.s.t0/\x8.s.t1=x.s.t1/\x8.U=x.U)/\Ch B NoX Ug w8 W9):=fun W9 x' a1 a2 a3=>by
      obtain⟨e1,e2,e3,e4,e5,e6,e7⟩:=c8.o;obtain⟨p1,p2,p3,p4,p5,p6,p7,p8,p9,p10,p11,p12,p13,p14,T0⟩:=a2;refine⟨x',W5,a1,(c6.o.same (by rw[a1.sta.ml,d8.o.sta.ml]) p14 p1 p13 (fun k=>⟨by have:=(T0 k).1;omega,(T0 k).2⟩) (by omega)).imp ?_,i7.o.same p2 p3 p4,⟨by rw[p3];omega,p5.trans e2,p6.trans e3,by rw[p10];omega,p7.trans e5,p8.trans e6,p12.trans e7⟩,Ch.wide ⟨a3.os,a3.tape,a3.output,a3.size,a3.block⟩ (by decide)⟩;rintro u v (huv|huv)
      ·exact .inl huv
      rcases G.o u v huv with h|⟨h,_⟩
      ·exact .inr h
      cases h
     go_wp2_with fail
     refine Ph 10 rfl (S:=fun W=>W.cell? ⟨tb,5,none⟩=some (.slice (some ⟨bk,0,none⟩) nk ck)/\W.cell? ⟨bk,0,none⟩=some (.int .i64 (ka:Nat))/\W.cell? ⟨bk,1,none⟩=some (.int .i64 (kb:Nat))) (by kernel_rfl) (⟨j5,q0,q1⟩) (fun hHeld=>?_);refine tk 0 86 (v:=?_) rfl rfl (by kernel_rfl) (fun _ _ _ h=>h) (Or.inl ⟨by rfl,?_⟩) (by assumption) ?_
     rotate_left
     ·(intro w j;(try dsimp only at j);go_simp;(try with_reducible rfl))
     try simp only[Act.put,Ja,Je,Jf]
     refine tk 1 87 (v:=?_) rfl rfl (by kernel_rfl) (fun _ _ _ h=>h) (Or.inl ⟨by rfl,?_⟩) (by assumption) ?_
     rotate_left
     ·(intro w j;(try dsimp only at j);go_simp;(try with_reducible rfl))
     try simp only[Act.put,Ja,Je,Jf]
     refine tk 2 88 (v:=?_) rfl rfl (by kernel_rfl) (fun _ _ _ h=>h) (Or.inl ⟨by rfl,?_⟩) (by assumption) ?_
     rotate_left
     ·(intro w j;(try dsimp only at j);go_simp;(try with_reducible rfl))
     try simp only[Act.put,Ja,Je,Jf]
     refine tk 3 89 (v:=?_) rfl rfl (by kernel_rfl) (fun _ _ _ h=>h) (Or.inl ⟨by rfl,?_⟩) (by assumption) ?_
     rotate_left
     ·(intro w j;(try dsimp only at j);go_simp;(try with_reducible rfl))
     try simp only[Act.put,Ja,Je,Jf]
     refine tk 4 90 (v:=?_) rfl rfl (by kernel_rfl) (fun _ _ _ h=>h) (Or.inl ⟨by rfl,?_⟩) (by assumption) ?_
     rotate_left
     ·(intro w j;(try dsimp only at j);go_simp;(try with_reducible rfl))
     try simp only[Act.put,Ja,Je,Jf]
     refine tk 5 91 (v:=?_) rfl rfl (by kernel_rfl) (fun _ _ _ h=>h) (Or.inl ⟨by rfl,?_⟩) (by assumption) ?_
     rotate_left
     ·(intro w j;(try dsimp only at j);go_simp;(try with_reducible rfl))
     try simp only[Act.put,Ja,Je,Jf]
     refine tk 6 92 (v:=?_) rfl rfl (by kernel_rfl) (fun _ _ _ h=>h) (Or.inl ⟨by rfl,?_⟩) (by assumption) ?_
     rotate_left
     ·(intro w j;(try dsimp only at j);go_simp;(try with_reducible rfl))
     try simp only[Act.put,Ja,Je,Jf]
     refine tk 7 93 (v:=?_) rfl rfl (by kernel_rfl) (fun _ _ _ h=>h) (Or.inl ⟨by rfl,?_⟩) (by assumption) ?_
     rotate_left
     ·(intro w j;(try dsimp only at j);go_simp;(try with_reducible rfl))
     try simp only[Act.put,Ja,Je,Jf]
     refine tk 8 94 (v:=?_) rfl rfl (by kernel_rfl) (fun _ _ _ h=>h) (Or.inl ⟨by rfl,?_⟩) (by assumption) ?_
     rotate_left
     ·(intro w j;(try dsimp only at j);go_simp;(try with_reducible rfl))
     try simp only[Act.put,Ja,Je,Jf]
     refine wpAnyH_ready (rs:=[9]) (by kernel_rfl) (by simp) ?_;refine AllReadyH.cons rfl (fun K hK=>?_) AllReadyH.nil
     go_simp
     go_at_call 33
     refine X1.o.mono ?_;rintro e w9 ⟨rfl,x',a1,a2,a3⟩;have f0:=Hd (E.o w9 x' a1 a2 a3);have o1:w9.cell? ⟨tb,5,none⟩=some (.slice (some ⟨bk,0,none⟩) nk ck)/\w9.cell? ⟨bk,0,none⟩=some (.int .i64 (ka:Nat))/\w9.cell? ⟨bk,1,none⟩=some (.int .i64 (kb:Nat)):=⟨(n8.o.ch (Ch.wide (ts':=Ug) ⟨a3.os,a3.tape,a3.output,a3.size,a3.block⟩ (by decide):Ch B NoX Ug w8 w9) (.inr (.inr (by decide)))).bx.cell 5,x6.o w9 (Ch.wide (ts':=Ug) ⟨a3.os,a3.tape,a3.output,a3.size,a3.block⟩ (by decide))⟩;clear a1 a2 a3
     go_wp2_with fail
     refine hK.out _ _ (o1) (fun hHeld9=>?_);clear hK K
     try simp only[Act.put,Ja,Je,Jf]
     refine wpAnyH_done (by kernel_rfl) ?_ _
     go_wp2
     go_meet
     exact f0.o
  have z1:(op==9)=false:=by rw[Jc];exact h9
  have z2:decide (op=9)=false:=Jd h9;have f0:Hid (∃x8 W8,Hp w8 B eb mb hb ub T H x8/\Lg T H Bq x8 R D W8 (fun a b=>Q a b∨Gy T ((t:Int),on) a b) (f+2)/\It mb x8.s W8/\(x8.s.nI<=x.s.nI+2/\x8.s.nS=x.s.nS/\x8.s.nN=x.s.nN/\x8.s.nC<=x.s.nC+3/\x8.s.t0=x.s.t0/\x8.s.t1=x.s.t1/\x8.U=x.U)/\Ch B NoX Ug w8 w8):=by
   obtain⟨e1,e2,e3,e4,e5,e6,e7⟩:=c8.o;refine⟨x5,W5,d8.o,(f8.o x5 rfl rfl rfl rfl).imp ?_,i7.o,⟨by omega,e2,e3,by omega,e5,e6,e7⟩,Ch.refl _ _ _ _⟩;rintro u v (huv|huv)
   ·exact .inl huv
   rcases G.o u v huv with h|⟨_,h,_⟩
   ·exact .inr h
   exact absurd h h9
  go_wp2
  go_meet
  exact f0.o
 obtain⟨x8,W8,hh,hl,hi,hs,hc⟩:=hcut
 rename World=>w9
 have s3:Hid (Ch B NoX Ug w w9):=r9.o.trans hc;have m7:=Hd hh;have y0:=Hd hl;have uz9:=Hd hi;have B2:Hid (x8.U=x.U/\x8.s.t0=x.s.t0/\x8.s.t1=x.s.t1):=⟨hs.2.2.2.2.2.2,hs.2.2.2.2.1,hs.2.2.2.2.2.1⟩;have l7:Hid (Cn T.length x8 R K (C+3)):=by
  have c0:=y7.o;have c2:=HC.o.cS;have c3:=HC.o.cN;have c4:=HC.o.cC;obtain⟨e1,e2,e3,e4,-⟩:=hs;exact⟨by omega,by omega,by omega,by omega⟩
 have hnA:x8.s.nI<=1900000000002:=by have:=l7.o.cI;omega
 have j1:=Hd (US m7.o uz9.o (by omega));have q7:Hid (∀(e:Ending) (wt:World) (pb:Nat),IM B eb mb hb ub T H x8 W8 w9 e wt->_):=fun e wt pb h=>UJ.of (pb:=pb) y0.o l7.o B2.o leR s3.o h;have D2:Hid (∀g,x8.s.vI.ownBlock=some g->g<w9.heap.size):=fun g hg=>C3 m7.o.dyn.itm hg;clear hh hl hi hs hc G m9 t7 n8 d8 c6 i7 c8 u1 r9 i8 y8 l4 O n6 n7 j0 j5 hg1 y7 HC
 go_upto_region 14 with fail
 go_cut [7,8] (fun s7 s8 wx=>UJ B eb mb hb ub T H Bq x (fun a b=>Q a b∨Gy T ((t:Int),on) a b) (f+2) K (C+3) w (W8.length+ZM T.length R*450000001) s7 s8 wx)
 case first=>
  go_wp2_with fail
  refine j1.o.mono ?_;intro e w10 g4;obtain⟨pa,pb,c,rfl,k8,f9⟩:=q7.o e w10 w10.heap.size g4;obtain⟨j2,q⟩:∃W,w10.alloc (.cells #[.pointer pa,.pointer pb] 84)=W:=⟨_,rfl⟩;have f5:=Hd q;have y9:=Hd (f9 j2 (.inl (by rw[<-q];exact Ch.up _ _ _ (Oy _ _))) (by rw[<-q];exact Js) (fun e=>by have:=D2.o _ e;have:=k8.size;omega));clear g4 k8 f9 q
  go_wp2_with fail
  rw[f5.o]
  go_meet
  exact y9.o
 rename World=>w10
 have n5:=Hd hcut;clear hcut m7 y0 uz9 l7 j1 q7 D2 B2 s3
 go_wp2
 go_loopg [7,8] (W8.length+ZM T.length R*450000001) (fun k s7 s8 wr=>UJ B eb mb hb ub T H Bq x (fun a b=>Q a b∨Gy T ((t:Int),on) a b) (f+2) K (C+3) w k s7 s8 wr)
 case atStart=>exact n5.o
 obtain⟨pb,x9,R9,D9,rfl,hh,j7,hu,hc,hor⟩:=hrel
 rcases hor with⟨rfl,hl,hi,hz⟩|⟨rfl,⟨p1,p2⟩,W',hl,hi,hT,N1,hk⟩
 ·have HR:Hid (LH B eb mb hb ub T H Bq x (fun a b=>Q a b∨Gy T ((t:Int),on) a b) (f+2) K (C+3) w wr):=⟨x9,R9,D9,hh,hl,hi,j7,hz,hu.1,hu.2.1,hu.2.2,hc⟩;clear hh j7 hu hc hl hi hz n5
  go_wp2_with fail
  go_end0
  exact⟨rfl,HR.o⟩
 have hp:=hl.snd.ws (p1,p2) (by simp);have l1:p1<T.length:=hp.1;have l2:p2<T.length:=hp.2.1;have hd:=hh.up (Ch.refl B NoX [] wr).drew;have z7:=Hd (hd.speak hl.fo l1);have z8:=Hd (hd.speak hl.fo l2);have v8:=Hd (QY hd (by rw[hu.1];exact HS.o) hl hi j7 (by omega) (by omega) (by omega) l1 l2);have U2:=Hd hc;have n9:=Hd hu;have A3:=Hd hT;have X0:=Hd N1;have W2:=Hd hk;have b0:wr.cell? ⟨pb,0,none⟩=some (.pointer (some ⟨mb,p1*8,none⟩)):=hT.bx.c2.1;have b1:wr.cell? ⟨pb,1,none⟩=some (.pointer (some ⟨mb,p2*8,none⟩)):=hT.bx.c2.2;unfold mp at z7 z8 v8;clear hp hd hh j7 hu hc hl hi hT N1 hk n5
 go_wp2_with fail
 refine Ph 8 rfl (S:=fun W=>W.cell? ⟨pb,0,none⟩=some (.pointer (some ⟨mb,p1*8,none⟩))/\W.cell? ⟨pb,1,none⟩=some (.pointer (some ⟨mb,p2*8,none⟩))) (by kernel_rfl) (⟨b0,b1⟩) (fun hHeld=>?_);refine tk 0 111 (v:=?_) rfl rfl (by kernel_rfl) (fun _ _ _ h=>h) (Or.inl ⟨by rfl,?_⟩) (by assumption) ?_
 rotate_left
 ·(intro w j;(try dsimp only at j);go_simp;(try with_reducible rfl))
 try simp only[Act.put,Ja,Je,Jf]
 refine tk 1 112 (v:=?_) rfl rfl (by kernel_rfl) (fun _ _ _ h=>h) (Or.inl ⟨by rfl,?_⟩) (by assumption) ?_
 rotate_left
 ·(intro w j;(try dsimp only at j);go_simp;(try with_reducible rfl))
 try simp only[Act.put,Ja,Je,Jf]
 refine tk 2 113 (v:=?_) rfl rfl (by kernel_rfl) (fun _ _ _ h=>h) (Or.inl ⟨by rfl,?_⟩) (by assumption) ?_
 rotate_left
 ·(intro w j;(try dsimp only at j);go_simp;(try with_reducible rfl))
 try simp only[Act.put,Ja,Je,Jf]
 refine tk 4 115 (v:=?_) rfl rfl (by kernel_rfl) (fun _ _ _ h=>h) (Or.inl ⟨by rfl,?_⟩) (by assumption) ?_
 rotate_left
 ·(intro w j;(try dsimp only at j);go_simp;(try with_reducible rfl))
 try simp only[Act.put,Ja,Je,Jf]
 refine tk 5 116 (v:=?_) rfl rfl (by kernel_rfl) (fun _ _ _ h=>h) (Or.inl ⟨by rfl,?_⟩) (by assumption) ?_
 rotate_left
 ·(intro w j;(try dsimp only at j);go_simp;(try with_reducible rfl))
 try simp only[Act.put,Ja,Je,Jf]
 refine wpAnyH_ready (rs:=[3]) (by kernel_rfl) (by simp) ?_;refine AllReadyH.cons rfl (fun K hK=>?_) AllReadyH.nil
 go_simp
 go_at_call 14
 refine z7.o.mono ?_;rintro e w2 ⟨rfl,rfl⟩
 go_wp2_with fail
 refine hK.out _ _ (hHeld) (fun hHeld3=>?_);clear hK K
 try simp only[Act.put,Ja,Je,Jf]
 refine wpAnyH_ready (rs:=[6]) (by kernel_rfl) (by simp) ?_;refine AllReadyH.cons rfl (fun K hK=>?_) AllReadyH.nil
 go_simp
 go_at_call 14
 refine z8.o.mono ?_;rintro e w2 ⟨rfl,rfl⟩
 go_wp2_with fail
 refine hK.out _ _ (hHeld) (fun hHeld6=>?_);clear hK K
 try simp only[Act.put,Ja,Je,Jf]
 refine wpAnyH_ready (rs:=[7]) (by kernel_rfl) (by simp) ?_;refine AllReadyH.cons rfl (fun K hK=>?_) AllReadyH.nil
 go_simp
 go_at_call 35
 refine v8.o.mono ?_;rintro e w10 ⟨rfl,j9,R10,D10,W10,a1,a2,a3,a4,a5,a6,a7,a8,a9,H2⟩;have d7:=Hd a1;have x7:=Hd a2;have u8:=Hd a3;have d3:=Hd a4;have Z2:Hid (j9.U=x.U/\j9.s.t0=x.s.t0/\j9.s.t1=x.s.t1):=⟨a5.trans n9.o.1,a6.trans n9.o.2.1,a7.trans n9.o.2.2⟩;have W3:=Hd a8;have q9:Hid (Ch B NoX Ug wr w10):=⟨a9.os,a9.tape,a9.output,a9.size,a9.block⟩;have f1:Hid (Tb w10 pb 84 [.pointer (some ⟨mb,p1*8,none⟩),.pointer (some ⟨mb,p2*8,none⟩)]):=(H2 pb A3.o.ty X0.o).1.trans A3.o;have n0:=f1.o.bx.c2.1;have n1:=f1.o.bx.c2.2;clear a1 a2 a3 a4 a5 a6 a7 a8 a9 H2
 go_wp2_with fail
 refine hK.out _ _ (⟨n0,n1⟩) (fun hHeld7=>?_);clear hK K
 try simp only[Act.put,Ja,Je,Jf]
 refine wpAnyH_done (by kernel_rfl) ?_ _;obtain⟨j2,q⟩:∃W,w10.alloc (.cells #[.pointer (some ⟨mb,p1*8,none⟩),.pointer (some ⟨mb,p2*8,none⟩)] 84)=W:=⟨_,rfl⟩;have f5:=Hd q;have k7:Hid (Ch B NoX [] w10 j2):=by unfold Hid;rw[<-q];exact Ch.up _ _ _ (Oy _ _)
 have A1:Hid (Tb j2 w10.heap.size 84 [.pointer (some ⟨mb,p1*8,none⟩),.pointer (some ⟨mb,p2*8,none⟩)]):=by unfold Hid;rw[<-q];exact Js
 clear q b0 b1;have j1:=Hd (US (d7.o.up k7.o) u8.o (by have:=d3.o.cI;omega))
 go_wp2_with (rw[f5.o])
 refine j1.o.mono ?_;intro e p0 g4;obtain⟨pa,pc,c,rfl,k9,f9⟩:=UJ.of (pb:=w10.heap.size) x7.o d3.o Z2.o leR (U2.o.trans (q9.o.trans (k7.o.wide (by decide)))) g4;have Y:Hid (Tb p0 w10.heap.size 84 [.pointer (some ⟨mb,p1*8,none⟩),.pointer (some ⟨mb,p2*8,none⟩)]):=A1.o.ch k9 (.inr (.inr (by decide)));have F2:Hid (j9.s.vI.ownBlock≠some w10.heap.size):=fun e=>by have:=C3 d7.o.dyn.itm e;omega
 have r0:=Y.o.bx.c2.1;have r1:=Y.o.bx.c2.2;obtain⟨r2,r3⟩:=Y.o.bx.f2;have z6:=Hd (f9 ((p0.setCell ⟨w10.heap.size,0,none⟩ (.pointer pa)).setCell ⟨w10.heap.size,1,none⟩ (.pointer pc)) (.inr ⟨_,_,Y.o,F2.o,d7.o.sta.bs,(Bar.setCell _ 0 p0 _).trans (Bar.setCell _ 1 _ _)⟩) ((Y.o.set 0 (.pointer pa)).set 1 (.pointer pc)) F2.o);clear g4 k9 f9
 go_wp2
 go_roundg (W10.length+ZM T.length R10*450000001)
 case measure=>have h1:=W2.o;have h2:=W3.o;omega
 exact z6.o
end Go.Proofs.YtfkagjelljnpdaaGreatDoor
