import Derived.Test.YtjjgilacnocigaaGreatDoorP27
set_option maxRecDepth 100000
set_option maxHeartbeats 8000000
namespace Go.Proofs.YtjjgilacnocigaaGreatDoor
open ChangeShapes WideShapes ChangeAt RowKit Proofs.Tryz
theorem Ii (b:Nat)(f:List UInt8->Option Nat)(s:ByteArray)(X Xi Xe:SI)(w:World)(hs:s.size<=1048576)(hT:VT w)(hm:C1 w b f)(hb:b<w.heap.size)
 (hX:Ks (Eh f) s.data.toList=X) (hXi:Ks (Eh f) X.index=Xi) (hXe:Ks (Eh f) X.elem=Xe) (hli:X.index.length<=1048576) (hle:X.elem.length<=1048576) :
 Calls prog 19 #[.slice (some ⟨b,0,none⟩) 2 2,.string s] w fun e w'=>e=.returned (.agg #[.int .i64 X.kind,.int .i64 (X.width:Nat),.string (Oy X.index),.string (Oy X.elem),.int .i64 Xi.kind,.int .i64 (Xi.width:Nat),.string (Oy Xi.index),.string (Oy Xi.elem),.int .i64 Xe.kind,.int .i64 (Xe.width:Nat),.string (Oy Xe.index),.string (Oy Xe.elem)])/\Up w w':=by
 have HT:=Hd hT;have HM:=Hd hm;have e7:=Hd hb;have j:Hid (∀ (t:ByteArray) (Y:SI),t.size<=1048576->Ks (Eh f) t.data.toList=Y->∀ W,Up w W->Calls prog 41 #[.slice (some ⟨b,0,none⟩) 2 2,.string t] W fun e w'=>e=.returned (.agg #[.int .i64 Y.kind,.int .i64 (Y.width:Nat),.string (Oy Y.index),.string (Oy Y.elem)])/\Up W w'):=fun t Y ht hY W hW=>
  (A2 b f t W ht (HT.o.next hW).ev (HM.o.bl hW hb) (Js hb hW.size)).mono (fun e w' h=>⟨by rw[h.1,hY];rfl,h.2⟩)
 have c7:=Hd (j.o s X hs hX);have d0:=Hd (j.o (Oy X.index) Xi (by simpa[Oy,ByteArray.size] using hli) (by rw[<-hXi];simp[Oy]));have c8:=Hd (j.o (Oy X.elem) Xe (by simpa[Oy,ByteArray.size] using hle) (by rw[<-hXe];simp[Oy]));obtain⟨W1,D⟩:=O2 (w.alloc (.cells #[.int .i64 0,.int .i64 0,.string ⟨#[]⟩,.string ⟨#[]⟩,.int .i64 0,.int .i64 0,.string ⟨#[]⟩,.string ⟨#[]⟩,.int .i64 0,.int .i64 0,.string ⟨#[]⟩,.string ⟨#[]⟩] 44));have V:Hid (Up w W1):=by unfold Hid;rw[<-D];exact Oo _ _
 have b3:Hid (Bx W1 w.heap.size [.int .i64 0,.int .i64 0,.string ⟨#[]⟩,.string ⟨#[]⟩,.int .i64 0,.int .i64 0,.string ⟨#[]⟩,.string ⟨#[]⟩,.int .i64 0,.int .i64 0,.string ⟨#[]⟩,.string ⟨#[]⟩]):=by unfold Hid;rw[<-D];exact Ox w _ _
 have HW:=Hd D;clear hT hm hX hXi hXe D j hb
 go_in
 go_upto_region 1 with fail
 rw[HW.o]
 go_wp2_with fail
 refine (c7.o _ V.o).mono ?_;rintro e H ⟨rfl,O⟩;have Z:=V.up O;have b4:=Hd (b3.o.bl b3.o.lt O);clear O
 go_upto_region 2 with fail
 generalize E:H.alloc _=W3;have b5:Hid (Bx W3 H.heap.size [.int .i64 X.kind,.int .i64 (X.width:Nat),.string (Oy X.index),.string (Oy X.elem)]):=by unfold Hid;rw[<-E];exact Ox H _ _
 have a6:Hid (Up w W3.drew):=by unfold Hid;rw[<-E];exact (Z.o.trans ((Oo _ _).mono Z.o.size)).drew
 have G:=Hd b5.o.drew;have F:Hid (Bx W3.drew w.heap.size [.int .i64 0,.int .i64 0,.string ⟨#[]⟩,.string ⟨#[]⟩,.int .i64 0,.int .i64 0,.string ⟨#[]⟩,.string ⟨#[]⟩,.int .i64 0,.int .i64 0,.string ⟨#[]⟩,.string ⟨#[]⟩]):=by unfold Hid;rw[<-E];exact (b4.o.alloc _).drew
 have f7:w.heap.size<H.heap.size:=b4.o.lt;clear E
 go_wp2_with fail
 refine Tx 11 rfl (S:=fun W=>W.cell? ⟨H.heap.size,0,none⟩=some (.int .i64 X.kind)/\W.cell? ⟨H.heap.size,1,none⟩=some (.int .i64 (X.width:Nat))/\W.cell? ⟨H.heap.size,2,none⟩=some (.string (Oy X.index))/\W.cell? ⟨H.heap.size,3,none⟩=some (.string (Oy X.elem))) (by kernel_rfl) (b5.o.drew.c4) (fun hHeld=>?_);refine tk 0 9 (v:=?_) rfl rfl (by kernel_rfl) (fun _ _ _ h=>h) (Or.inl ⟨by rfl,?_⟩) (by assumption) ?_
 rotate_left
 ·(intro w d;(try dsimp only at d);go_simp;(try with_reducible rfl))
 try simp only[Act.put,Ja,Jc,Jb]
 refine tk 1 10 (v:=?_) rfl rfl (by kernel_rfl) (fun _ _ _ h=>h) (Or.inl ⟨by rfl,?_⟩) (by assumption) ?_
 rotate_left
 ·(intro w d;(try dsimp only at d);go_simp;(try with_reducible rfl))
 try simp only[Act.put,Ja,Jc,Jb]
 refine tk 2 11 (v:=?_) rfl rfl (by kernel_rfl) (fun _ _ _ h=>h) (Or.inl ⟨by rfl,?_⟩) (by assumption) ?_
 rotate_left
 ·(intro w d;(try dsimp only at d);go_simp;(try with_reducible rfl))
 try simp only[Act.put,Ja,Jc,Jb]
 refine tk 3 12 (v:=?_) rfl rfl (by kernel_rfl) (fun _ _ _ h=>h) (Or.inl ⟨by rfl,?_⟩) (by assumption) ?_
 rotate_left
 ·(intro w d;(try dsimp only at d);go_simp;(try with_reducible rfl))
 try simp only[Act.put,Ja,Jc,Jb]
 refine tk 5 14 (v:=?_) rfl rfl (by kernel_rfl) (fun _ _ _ h=>h) (Or.inl ⟨by rfl,?_⟩) (by assumption) ?_
 rotate_left
 ·(intro w d;(try dsimp only at d);go_simp;(try with_reducible rfl))
 try simp only[Act.put,Ja,Jc,Jb]
 refine tk 6 15 (v:=?_) rfl rfl (by kernel_rfl) (fun _ _ _ h=>h) (Or.inl ⟨by rfl,?_⟩) (by assumption) ?_
 rotate_left
 ·(intro w d;(try dsimp only at d);go_simp;(try with_reducible rfl))
 try simp only[Act.put,Ja,Jc,Jb]
 refine tk 7 16 (v:=?_) rfl rfl (by kernel_rfl) (fun _ _ _ h=>h) (Or.inl ⟨by rfl,?_⟩) (by assumption) ?_
 rotate_left
 ·(intro w d;(try dsimp only at d);go_simp;(try with_reducible rfl))
 try simp only[Act.put,Ja,Jc,Jb]
 refine wpAnyH_ready (rs:=[4]) (by kernel_rfl) (by simp) ?_;refine AllReadyH.cons rfl (fun K hK=>?_) AllReadyH.nil
 go_simp
 go_at_call 41
 refine (d0.o _ a6.o).mono ?_;rintro e w4 ⟨rfl,hb⟩;have J:=Hd (G.o.bl G.o.lt hb);have a8:=Hd (F.o.bl F.o.lt hb);have a7:=a6.up hb;clear hb
 go_wp2_with fail
 refine hK.out _ _ (J.o.c4) (fun hHeld4=>?_);clear hK K
 try simp only[Act.put,Ja,Jc,Jb]
 refine wpAnyH_ready (rs:=[8]) (by kernel_rfl) (by simp) ?_;refine AllReadyH.cons rfl (fun K hK=>?_) AllReadyH.nil
 go_simp
 go_at_call 41
 refine (c8.o _ a7.o).mono ?_;rintro e w5 ⟨rfl,hb⟩;have b6:=Hd (J.o.bl J.o.lt hb);have I:=Hd (a8.o.bl a8.o.lt hb);have b9:=a7.up hb;clear hb
 go_wp2_with fail
 refine hK.out _ _ (b6.o.c4) (fun hHeld8=>?_);clear hK K
 try simp only[Act.put,Ja,Jc,Jb]
 refine tk 9 18 (v:=?_) rfl rfl (by kernel_rfl) (fun _ _ _ h=>h) (Or.inl ⟨by rfl,?_⟩) (by assumption) ?_
 rotate_left
 ·(intro w d;(try dsimp only at d);go_simp;(try with_reducible rfl))
 try simp only[Act.put,Ja,Jc,Jb]
 have b8:=((((((((((((I.o.set 0 (.int .i64 X.kind)).set 1 (.int .i64 (X.width:Nat))).set 2 (.string (Oy X.index))).set 3 (.string (Oy X.elem))).set 4 (.int .i64 Xi.kind)).set 5 (.int .i64 (Xi.width:Nat))).set 6 (.string (Oy Xi.index))).set 7 (.string (Oy Xi.elem))).set 8 (.int .i64 Xe.kind)).set 9 (.int .i64 (Xe.width:Nat))).set 10 (.string (Oy Xe.index))).set 11 (.string (Oy Xe.elem)));have d3:=(((((((((((((b6.o.other ⟨w.heap.size,0,none⟩ (by dsimp only;omega) (.int .i64 X.kind)).other ⟨w.heap.size,1,none⟩ (by dsimp only;omega) (.int .i64 (X.width:Nat))).other ⟨w.heap.size,2,none⟩ (by dsimp only;omega) (.string (Oy X.index))).other ⟨w.heap.size,3,none⟩ (by dsimp only;omega) (.string (Oy X.elem))).other ⟨w.heap.size,4,none⟩ (by dsimp only;omega) (.int .i64 Xi.kind)).other ⟨w.heap.size,5,none⟩ (by dsimp only;omega) (.int .i64 (Xi.width:Nat))).other ⟨w.heap.size,6,none⟩ (by dsimp only;omega) (.string (Oy Xi.index))).other ⟨w.heap.size,7,none⟩ (by dsimp only;omega) (.string (Oy Xi.elem))).other ⟨w.heap.size,8,none⟩ (by dsimp only;omega) (.int .i64 Xe.kind)).other ⟨w.heap.size,9,none⟩ (by dsimp only;omega) (.int .i64 (Xe.width:Nat))).other ⟨w.heap.size,10,none⟩ (by dsimp only;omega) (.string (Oy Xe.index))).other ⟨w.heap.size,11,none⟩ (by dsimp only;omega) (.string (Oy Xe.elem)))).c4;have b7:=((((((((((((b9.o.setCell (p:=⟨w.heap.size,0,none⟩) (by simp) (.int .i64 X.kind)).setCell (p:=⟨w.heap.size,1,none⟩) (by simp) (.int .i64 (X.width:Nat))).setCell (p:=⟨w.heap.size,2,none⟩) (by simp) (.string (Oy X.index))).setCell (p:=⟨w.heap.size,3,none⟩) (by simp) (.string (Oy X.elem))).setCell (p:=⟨w.heap.size,4,none⟩) (by simp) (.int .i64 Xi.kind)).setCell (p:=⟨w.heap.size,5,none⟩) (by simp) (.int .i64 (Xi.width:Nat))).setCell (p:=⟨w.heap.size,6,none⟩) (by simp) (.string (Oy Xi.index))).setCell (p:=⟨w.heap.size,7,none⟩) (by simp) (.string (Oy Xi.elem))).setCell (p:=⟨w.heap.size,8,none⟩) (by simp) (.int .i64 Xe.kind)).setCell (p:=⟨w.heap.size,9,none⟩) (by simp) (.int .i64 (Xe.width:Nat))).setCell (p:=⟨w.heap.size,10,none⟩) (by simp) (.string (Oy Xe.index))).setCell (p:=⟨w.heap.size,11,none⟩) (by simp) (.string (Oy Xe.elem)));obtain⟨⟨y0,y1,y2,y3⟩,⟨y4,y5,y6,y7⟩,y8,y9,T,U⟩:=I.o.c12;have fz:=I.o.fz;have z0:=fz 0;have z1:=fz 1;have z2:=fz 2;have z3:=fz 3;have z4:=fz 4;have z5:=fz 5;have z6:=fz 6;have z7:=fz 7;have z8:=fz 8;have z9:=fz 9;have e4:=fz 10;have e5:=fz 11;clear fz;have d1:=Hd b8;have c6:=Hd b7;clear b8 b7;refine wpAnyH_ready (rs:=[10]) (by kernel_rfl) (by simp) ?_;refine AllReadyH.cons rfl (fun K hK=>?_) AllReadyH.nil
 go_simp
 go_wp2_with fail
 refine hK.out _ _ d3 (fun hHeld10=>?_);clear hK K y0 y1 y2 y3 y4 y5 y6 y7 y8 y9 T U z0 z1 z2 z3 z4 z5 z6 z7 z8 z9 e4 e5
 try simp only[Act.put,Ja,Jc,Jb]
 refine wpAnyH_done (by kernel_rfl) ?_ _;obtain⟨⟨y0,y1,y2,y3⟩,⟨y4,y5,y6,y7⟩,y8,y9,T,U⟩:=d1.o.c12
 go_wp2_with fail
 refine Jh ?_ rfl ⟨rfl,c6.o⟩;simp[results,results19,go_sem,y0,y1,y2,y3,y4,y5,y6,y7,y8,y9,T,U]
def Tq (ki ke:SK)(a i u:ByteArray):Prop:=(∀ r L,K1 ki ke a r L->Kg ki i->u=K2 r L i)/\((¬ ∃ r L,K1 ki ke a r L/\Kg ki i)->u=⟨#[]⟩)
theorem Tq.eq {ki ke:SK}{a i u v:ByteArray}(h:Tq ki ke a i u)(k:Tq ki ke a i v):u=v:=by
 by_cases e:∃ r L,K1 ki ke a r L/\Kg ki i
 ·obtain⟨r,L,d,j⟩:=e;rw[h.1 r L d j,k.1 r L d j]
 rw[h.2 e,k.2 e]
theorem Tl (b:Nat)(f:List UInt8->Option Nat)(s a i:ByteArray)(X Xi Xe:SI)(w:World)(hs:s.size<=1048576)(ha:a.size<=1048576)(hi:i.size<=1048576)(hT:VT w)(hm:C1 w b f)(hb:b<w.heap.size)
 (hX:Ks (Eh f) s.data.toList=X) (hXi:Ks (Eh f) X.index=Xi) (hXe:Ks (Eh f) X.elem=Xe) (hli:X.index.length<=1048576) (hle:X.elem.length<=1048576) (h6:X.kind=6) (hwi:Cw Xi) (hwe:Cw Xe) (hK:Gm (On Xi)) :
 Calls prog 8 #[.slice (some ⟨b,0,none⟩) 2 2,.string s,.string a,.string i] w fun e w'=>∃ u,e=.returned (.string u)/\Tq (On Xi) (On Xe) a i u/\Up w w':=by
 have HT:=Hd hT;have H6:=Hd h6;have b6:=Hd (Ii b f s X Xi Xe w hs hT hm hb hX hXi hXe hli hle);have a7:Hid ((¬ ∃ r L,K1 (On Xi) (On Xe) a r L/\Kg (On Xi) i)->Tq (On Xi) (On Xe) a i ⟨#[]⟩):=fun h=>⟨fun r L h1 h2=>absurd ⟨r,L,h1,h2⟩ h,fun _=>rfl⟩;clear hm hX hXi hXe hT h6
 go_in
 go_wp2_with fail
 refine b6.o.mono ?_;rintro e w2 ⟨rfl,b9⟩;have V:=Hd b9;clear b9 b6
 go_upto_region 2 with fail
 generalize K:w2.alloc _=W3;have J:Hid (Bx W3 w2.heap.size [.int .i64 X.kind,.int .i64 (X.width:Nat),.string (Oy X.index),.string (Oy X.elem),.int .i64 Xi.kind,.int .i64 (Xi.width:Nat),.string (Oy Xi.index),.string (Oy Xi.elem),.int .i64 Xe.kind,.int .i64 (Xe.width:Nat),.string (Oy Xe.index),.string (Oy Xe.elem)]):=by unfold Hid;rw[<-K];exact Ox w2 _ _
 have Y:Hid (Up w W3):=by unfold Hid;rw[<-K];exact V.o.trans ((Oo _ _).mono V.o.size)
 have b3:=Hd (Xa X Xi Xe a W3 H6.o ha hwi hwe hK (HT.o.next Y.o));obtain⟨⟨y0,y1,y2,y3⟩,⟨y4,y5,y6,y7⟩,y8,y9,T,U⟩:=J.o.c12;clear K
 go_wp2_with fail
 refine b3.o.mono ?_;rintro e w4 ⟨x,v,ok,rfl,hx,⟨p,n,c,rfl⟩,H,c8,O⟩;have d9:=Y.up O;have b7:=Hd (J.o.bl J.o.lt O);have HY:=Hd H;have HN:=Hd c8;clear O y0 y1 y2 y3 y4 y5 y6 y7 y8 y9 T U b3 H c8;obtain⟨x',d3⟩:∃ x',x'=x:=⟨_,rfl⟩
 rcases hx with rfl|⟨tx,zx,rfl⟩
 all_goals (
  go_upto_region 3 with fail
  generalize D:w4.alloc _=W5;have d:Up w4 W5:=by rw[<-D];exact Oo _ _
  have e2:=Hd (b7.o.bl b7.o.lt d);have F:=Hd d;have Z:=d9.up d;have h7:Hid (W5.heap.size=w4.heap.size+1):=by unfold Hid;rw[<-D];simp
  have b5:Hid (Bx W5 w4.heap.size [x',.slice p n c]):=by unfold Hid;rw[d3,<-D];exact Ox w4 _ _
  subst d3;have b4:=Hd (N4 Xi i W5 hi hwi (HT.o.next Z.o));obtain⟨⟨y0,y1,y2,y3⟩,⟨y4,y5,y6,y7⟩,y8,y9,T,U⟩:=e2.o.c12;clear D d
  go_wp2_with fail
  refine b4.o.mono ?_;rintro e w6 ⟨y,d4,rfl,d2,E⟩;have j:=Z.up E;have G:=Hd E;have e1:=Hd (b5.o.bl b5.o.lt E);have I:=Hd d2;obtain⟨c0,c1⟩:=e1.o.c2;clear E d2 b4 y0 y1 y2 y3 y4 y5 y6 y7 y8 y9 T U
  cases ok
  ·have HQ:=Hd (a7.o (fun ⟨r,L,h1,_⟩=>HN.o rfl ⟨r,L,h1⟩))
   cases d4
   all_goals (
    go_wp2_with fail
    refine Jh ?_ rfl ⟨_,rfl,HQ.o,j.o⟩;simp[results,results8,go_sem])
  cases d4
  ·have HQ:=Hd (a7.o (fun ⟨r,L,_,h2⟩=>by have:=I.o.2.1.2 h2;cases this))
   go_wp2_with fail
   refine Jh ?_ rfl ⟨_,rfl,HQ.o,j.o⟩;simp[results,results8,go_sem]
  obtain⟨r,L,hA,d1,b8⟩:=HY.o rfl;have HA:=Hd hA;have d0:PV (On Xi) w6 y i:=I.o.2.2 rfl;have HS:=Hd (I.o.2.1.1 rfl);have HG:=Hd (GK (On Xi) (On Xe) _ (.slice p n c) y r L i w6 ((d1.next F.o).next G.o) ((b8.next F.o).next G.o) hA.2.2.sort d0 hwi hK (HT.o.next j.o) (by have:=hA.2.2.most;omega));clear hA d1 b8 d0
  go_wp2_with fail
  refine HG.o.mono ?_;rintro e w7 ⟨q,rfl,hq,c6⟩;have a6:=j.up c6;obtain⟨tq,zq,fq,rfl,m1,m2,m3⟩:=Ry hq hwe;have M3:=Hd (m3 w7 (Jj _ _) (HT.o.next a6.o));clear m3 c6 hq
  go_wp2_with fail
  refine M3.o.mono ?_;rintro e w8 ⟨rfl,c7⟩;have e0:=a6.up c7;have HQ:Hid (Tq (On Xi) (On Xe) a i (K2 r L i)):=⟨fun r' L' h1 _=>(by obtain⟨rfl,rfl⟩:=h1.inj HA.o;rfl),fun h=>absurd ⟨r,L,HA.o,HS.o⟩ h⟩;clear c7
  go_wp2_with fail
  refine Jh ?_ rfl ⟨_,rfl,HQ.o,e0.o⟩;simp[results,results8,go_sem])
theorem A4 (X Xi Xe:SI)(t:ByteArray)(w:World)(h6:X.kind=6)(ht:t.size<=1048576)(hi:Cw Xi)(he:Cw Xe)(hK:Gm (On Xi))(hT:VT w) :
 Calls prog 32 #[.agg #[.int .i64 X.kind,.int .i64 (X.width:Nat),.string (Oy X.index),.string (Oy X.elem),.int .i64 Xi.kind,.int .i64 (Xi.width:Nat),.string (Oy Xi.index),.string (Oy Xi.elem),.int .i64 Xe.kind,.int .i64 (Xe.width:Nat),.string (Oy Xe.index),.string (Oy Xe.elem)],.string t] w fun e w'=>∃ y ok,e=.returned (.tuple #[y,.bool ok])/\(ok=true↔∃ r L,K1 (On Xi) (On Xe) t r L)/\Up w w':=by
 have U:=Hd hT;have H6:=Hd h6;obtain⟨J,d⟩:=O2 (w.alloc (.cells #[.int .i64 6,.int .i64 (X.width:Nat),.string (Oy X.index),.string (Oy X.elem),.int .i64 Xi.kind,.int .i64 (Xi.width:Nat),.string (Oy Xi.index),.string (Oy Xi.elem),.int .i64 Xe.kind,.int .i64 (Xe.width:Nat),.string (Oy Xe.index),.string (Oy Xe.elem)] 44));have E:Hid (Up w J):=by unfold Hid;rw[<-d];exact Oo _ _
 have I:Hid (Bx J w.heap.size [.int .i64 6,.int .i64 (X.width:Nat),.string (Oy X.index),.string (Oy X.elem),.int .i64 Xi.kind,.int .i64 (Xi.width:Nat),.string (Oy Xi.index),.string (Oy Xi.elem),.int .i64 Xe.kind,.int .i64 (Xe.width:Nat),.string (Oy Xe.index),.string (Oy Xe.elem)]):=by unfold Hid;rw[<-d];exact Ox w _ _
 have V:=Hd d;have D:=Hd (Xa X Xi Xe t J h6 ht hi he hK (U.o.next E.o));rw[h6] at D ⊢;obtain⟨⟨Y,Z,y2,y3⟩,⟨y4,y5,y6,y7⟩,y8,y9,K,O⟩:=I.o.c12;clear hT d h6
 go_in
 go_upto_region 1 with fail
 rw[V.o]
 go_wp2_with fail
 refine D.o.mono ?_;rintro e w4 ⟨x,v,ok,rfl,hx,⟨p,n,c,rfl⟩,j,G,F⟩;have H:=E.up F;have T:Hid (ok=true↔∃ r L,K1 (On Xi) (On Xe) t r L):=by
  cases ok
  ·exact⟨fun e=>(by cases e),fun h=>absurd h (G rfl)⟩
  obtain⟨r,L,h,_⟩:=j rfl;exact⟨fun _=>⟨r,L,h⟩,fun _=>rfl⟩
 clear F Y Z y2 y3 y4 y5 y6 y7 y8 y9 K O D j G
 go_wp2_with fail
 refine Jh ?_ rfl ⟨.iface 50 (.agg #[x,.slice p n c]),ok,rfl,T.o,H.o⟩;simp[results,results32,go_sem]
theorem YJ (b:Nat)(f:List UInt8->Option Nat)(s a:ByteArray)(X Xi Xe:SI)(w:World)(hs:s.size<=1048576)(ha:a.size<=1048576)(hT:VT w)(hm:C1 w b f)(hb:b<w.heap.size)
 (hX:Ks (Eh f) s.data.toList=X) (hXi:Ks (Eh f) X.index=Xi) (hXe:Ks (Eh f) X.elem=Xe) (hli:X.index.length<=1048576) (hle:X.elem.length<=1048576) (h6:X.kind=6) (hwi:Cw Xi) (hwe:Cw Xe) (hK:Gm (On Xi)) :
 Calls prog 9 #[.slice (some ⟨b,0,none⟩) 2 2,.string s,.string a] w fun e w'=>∃ ok,e=.returned (.bool ok)/\(ok=true↔∃ r L,K1 (On Xi) (On Xe) a r L)/\Up w w':=by
 have K:=Hd hT;have J:=Hd h6;have D:=Hd (Ii b f s X Xi Xe w hs hT hm hb hX hXi hXe hli hle);clear hm hX hXi hXe hT h6
 go_in
 go_wp2_with fail
 refine D.o.mono ?_;rintro e O ⟨rfl,d⟩;have G:=Hd d;have j:=Hd (A4 X Xi Xe a O J.o ha hwi hwe hK (K.o.next d));clear d D
 go_wp2_with fail
 refine j.o.mono ?_;rintro e T ⟨y,ok,rfl,F,E⟩;have I:=Hd F;have H:=G.up E;clear F E j
 go_wp2_with fail
 refine Jh ?_ rfl ⟨ok,rfl,I.o,H.o⟩;simp[results,results9,go_sem]
theorem CX:∀ n:Fin 65,0<n.val->(18446744073709551615:Int) / 2 ^ (64 - n.val)=((2 ^ n.val - 1:Nat):Int):=by decide +kernel
theorem So (n:Nat)(w:World)(h0:0<n)(h1:n<=64) :
 Calls prog 92 #[.int .i64 (n:Nat)] w fun e w'=>e=.returned (.int .u64 ((2 ^ n - 1:Nat):Int))/\w'=w:=by
 have hm:=CX ⟨n,by omega⟩ h0;simp only at hm;have d:=Hd hm;clear hm;have j:(0:Int)<(n:Int):=by omega
 have D:(n:Int)<=64:=by omega
 go_in
 go_wp2_with fail
 refine Jh ?_ rfl ⟨rfl,rfl⟩;rw[<-d.o];simp[results,results92,go_sem]
end Go.Proofs.YtjjgilacnocigaaGreatDoor
