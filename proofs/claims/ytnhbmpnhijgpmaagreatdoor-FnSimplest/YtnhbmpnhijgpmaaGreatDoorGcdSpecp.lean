import Derived.Test.YtnhbmpnhijgpmaaGreatDoorDivSpecp
import Derived.Test.YtnhbmpnhijgpmaaGreatDoorGcdIp
import Derived.Deep.LoopGhost
import Derived.Deep.DeepCutAuto
set_option maxRecDepth 100000
set_option maxHeartbeats 2000000
namespace Go.Proofs.YtnhbmpnhijgpmaaGreatDoor
open Go.ChangeShapes Go.WideShapes Go.ChangeAt Go.RowKit
theorem lenLt (t:List Nat) (N:Nat) (ht:isTrim t) (h:val t<1000000000 ^ N):t.length≤N:=by
 by_cases hn:t=[]
 ·rw [hn]; exact Nat.zero_le _
 have i:=val_ge t ht hn; have h4:=(Nat.pow_lt_pow_iff_right (show 1<1000000000 by decide)).1 (Nat.lt_of_le_of_lt i h); omega
theorem gcd_emod (X Y R:Nat) (q:Int) (h:(X:Int)=q*Y+R) (hr:R<Y):Nat.gcd Y R=Nat.gcd X Y:=by
 have i:(X:Int) % Y=R:=by
  rw [h,Int.add_comm,Int.add_mul_emod_self_right]; exact Int.emod_eq_of_lt (Int.natCast_nonneg _) (Int.ofNat_lt.2 hr)
 have j:X % Y=R:=by exact_mod_cast i
 rw [← j,Nat.gcd_comm X Y,Nat.gcd_rec Y X,Nat.gcd_comm]
def PairM (B P d:Nat) (w0:World) (gx gy k:Nat) (wr:World):Prop:=
 ∃ (X:Nat) (x0:Int) (xn:Bool) (xp:Option Addr) (xl xc:Nat) (y0:Int) (yn:Bool) (yp:Option Addr) (yl yc:Nat),(BoxV gx wr x0 xn xp xl xc∧BoxV gy wr y0 yn yp yl yc∧BoxV (w0.heap.size+2) wr 0 false none 0 0) ∧
  (IsN B wr (.agg #[.int .i64 x0,.bool xn,.slice xp xl xc]) (X:Nat)∧IsN B wr (.agg #[.int .i64 y0,.bool yn,.slice yp yl yc]) (k:Nat))∧(X<P∧k<P)∧Nat.gcd X k=d∧Up w0 wr
theorem isN_shape2 {B:Nat} {w:World} {z:Value} {X:Nat} (N:Nat) (h:IsN B w z (X:Nat)) (hX:X<1000000000 ^ N):∃ neg t,IsZ B w z neg t∧sg neg (val t)=(X:Nat)∧val t=X∧t.length≤N:=by
 obtain ⟨neg,t,j,i⟩:=h; have m:val t=X:=by have:=congrArg Int.natAbs i; rw [sg_abs] at this; simpa using this
 exact ⟨neg,t,j,i,m,lenLt t N j.2.1 (by omega)⟩
theorem set3 {N:Nat} {w W:World} (h:Below N w W) (g:Nat) (hg:N≤g) (u0 u1 u2:Value):Below N w (((W.setCell ⟨g,0,none⟩ u0).setCell ⟨g,1,none⟩ u1).setCell ⟨g,2,none⟩ u2):=
 ((h.setCell (p:=⟨g,0,none⟩) hg u0).setCell (p:=⟨g,1,none⟩) hg u1).setCell (p:=⟨g,2,none⟩) hg u2
theorem l1Gcd_any (B:Nat) (za zb:Value) (na nb:Bool) (a b:List Nat) (N:Nat) (w:World) (hBw:B≤w.heap.size) (hza:IsZ B w za na a) (hzb:IsZ B w zb nb b) (hla:a.length≤N) (hlb:b.length≤N) (hN:N≤100000) :
 Calls Tryz.prog 37 #[za,zb] w fun e w'=>∃ z,e=.returned z∧IsN B w' z (gcdI (sg na (val a)) (sg nb (val b)))∧Up w w':=by
 obtain ⟨a0,an,ap,al,ac,rfl⟩:=hza.shape; obtain ⟨b0,bn,bp,bl,bc,rfl⟩:=hzb.shape; obtain ⟨d,hd⟩:=exW (Nat.gcd (val a) (val b)); have HD:=hide hd; have k5:gcdI (sg na (val a)) (sg nb (val b))=(d:Int):=by unfold gcdI Int.gcd; rw [sg_abs,sg_abs,hd]
 rw [k5]; obtain ⟨P,hP⟩:=exW (1000000000 ^ N); have HP:=hide hP; have n7:Hid (val a<P∧val b<P):=by
  have h1:=Nat.lt_of_lt_of_le (val_lt a hza.1) (Nat.pow_le_pow_right (show 0<1000000000 by decide) hla); have h2:=Nat.lt_of_lt_of_le (val_lt b hzb.1) (Nat.pow_le_pow_right (show 0<1000000000 by decide) hlb); rw [hP] at h1 h2; exact ⟨h1,h2⟩
 have o4:=hide hza; have o5:=hide hzb; have a5:=hide hBw; clear hza hzb hd k5 hP hBw; obtain ⟨W0,t⟩:=exW (((w.alloc (.cells #[.int .i64 a0,.bool an,.slice ap al ac] 49)).alloc (.cells #[.int .i64 b0,.bool bn,.slice bp bl bc] 49)).alloc (.cells #[.int .i64 0,.bool false,.slice none 0 0] 49)); have n8:=hide t; have l3:W0.heap.size=w.heap.size+3:=by rw [← t]; simp
 have d5:=hide l3; have T:Hid (Up w W0):=by
  unfold Hid
  rw [← t]; exact below_al (below_al (below_alloc _ _) _) _
 have d4:Hid (∀ W,Up W0 W→BoxV w.heap.size W a0 an ap al ac∧BoxV (w.heap.size+1) W b0 bn bp bl bc∧BoxV (w.heap.size+2) W 0 false none 0 0):=fun W hW=>by
  have h1:BoxV w.heap.size W0 a0 an ap al ac:=by rw [← t]; exact ((boxV_new w _ _ _ _ _ _).alloc _).alloc _
  have h2:BoxV (w.heap.size+1) W0 b0 bn bp bl bc:=by rw [← t]; exact (boxV_new' _ _ (by simp) _ _ _ _ _ _).alloc _
  have h3:BoxV (w.heap.size+2) W0 0 false none 0 0:=by rw [← t]; exact boxV_new' _ _ (by simp) _ _ _ _ _ _
  exact ⟨h1.below h1.lt hW,h2.below h2.lt hW,h3.below h3.lt hW⟩
 clear t l3
 go_enter Tryz.func37,Tryz.ntmps37
 go_upto_region 1 with fail
 rw [n8.o]; obtain ⟨⟨_,q0,q1,q2,_,_⟩,_⟩:=d4.o W0 (Below.refl _ _)
 go_wp2_with fail
 refine (l1Limbs_any B _ na a _ (o4.o.below T.o) (by have:=a5.o; have:=d5.o; omega)).mono ?_; rintro e w1 ⟨v1,rfl,l7,j4⟩; have h6:=hide l7; have g2:=hide j4; clear l7 j4
 go_wp2_with fail
 refine (l1Make_any B false v1 a _ h6.o).mono ?_; rintro e w2 ⟨z1,rfl,l9,e1⟩; have d9:IsZ B w2 z1 false (trimL a):=l9 _ _ (h6.o.below e1); have d2:=hide (g2.o.trans (e1.mono g2.o.size)); obtain ⟨L,Q,S,O,M,rfl⟩:=d9.shape; obtain ⟨W2,Y⟩:=exW (w2.alloc (.cells #[.int .i64 L,.bool Q,.slice S O M] 49)); have n9:=hide Y; have U:Up w2 W2:=by rw [← Y]; exact below_alloc _ _
 have l4:W2.heap.size=w2.heap.size+1:=by rw [← Y]; simp
 have n6:=hide l4; have d6:Hid (BoxV w2.heap.size W2 L Q S O M):=by unfold Hid; rw [← Y]; exact boxV_new w2 _ _ _ _ _ _
 have i0:Hid (IsZ B W2 (.agg #[.int .i64 L,.bool Q,.slice S O M]) false (trimL a)):=d9.below U; have i:Hid (Up W0 W2):=d2.o.trans (U.mono d2.o.size); obtain ⟨_,⟨_,r0,r1,r2,_,_⟩,_⟩:=d4.o W2 i.o; clear l9 e1 Y U l4 d9 q0 q1 q2
 go_upto_region 2 with fail
 rw [n9.o]
 go_wp2_with fail
 refine (l1Limbs_any B _ nb b _ (o5.o.below (T.o.trans (i.o.mono T.o.size))) (by have:=a5.o; have:=d5.o; have:=i.o.size; omega)).mono ?_; rintro e w3 ⟨v2,rfl,l8,j5⟩; have h7:=hide l8; have g3:=hide j5; clear l8 j5
 go_wp2_with fail
 refine (l1Make_any B false v2 b _ h7.o).mono ?_; rintro e w4 ⟨z2,rfl,m5,e3⟩; have e0:IsZ B w4 z2 false (trimL b):=m5 _ _ (h7.o.below e3); have d3:=hide (g3.o.trans (e3.mono g3.o.size)); obtain ⟨G,J,K,I,H,rfl⟩:=e0.shape; obtain ⟨W4,a7⟩:=exW (w4.alloc (.cells #[.int .i64 G,.bool J,.slice K I H] 49)); have o0:=hide a7; have V:Up w4 W4:=by rw [← a7]; exact below_alloc _ _
 have h9:Hid (BoxV w4.heap.size W4 G J K I H):=by unfold Hid; rw [← a7]; exact boxV_new w4 _ _ _ _ _ _
 have i1:Hid (IsZ B W4 (.agg #[.int .i64 G,.bool J,.slice K I H]) false (trimL b)):=e0.below V; have m:Hid (Up W2 W4):=d3.o.trans (V.mono d3.o.size); have h0:Hid (W2.heap.size≤w4.heap.size):=d3.o.size; clear m5 e3 a7 V e0 r0 r1 r2
 go_wp2
 rw [o0.o]; have x3:w2.heap.size<w4.heap.size:=by have:=n6.o; have:=h0.o; omega
 have x1:w.heap.size+2<w2.heap.size:=by have:=d2.o.size; have:=d5.o; omega
 have h8:=hide (d6.o.below d6.o.lt m.o); have b7:=hide (i0.o.below m.o); have g8:=hide (d4.o W4 (i.o.trans (m.o.mono i.o.size))).2.2; have b6:=hide (T.o.trans ((i.o.trans (m.o.mono i.o.size)).mono T.o.size)); generalize x4:w2.heap.size=s at *; generalize x5:w4.heap.size=A at *
 go_loopg [] (val b) (PairM B P d w s A)
 case atStart=>exact ⟨val a,L,Q,S,O,M,G,J,K,I,H,⟨h8.o,h9.o,g8.o⟩,⟨⟨false,_,b7.o,by rw [val_trimL]; rfl⟩,⟨false,_,i1.o,by rw [val_trimL]; rfl⟩⟩,n7.o,HD.o,b6.o⟩
 case round=>
  clear h8 h9 g8 b7 i1 b6 m h0 d6 i0 i; obtain ⟨X,L,Q,S,O,M,G,J,K,I,H,⟨hX,hY,hR⟩,⟨e6,e7⟩,⟨a9,b4⟩,hg,hB⟩:=hrel; rw [← HP.o] at a9 b4; obtain ⟨nx,tx,m6,l5,s5,l0⟩:=isN_shape2 N e6 a9; obtain ⟨ny,ty,f5,l6,e8,l1⟩:=isN_shape2 N e7 b4; have e9:=zero_of_isZ f5; rw [e8] at e9; have o6:=hide e9; have o7:Hid (∀ W,Up wr W→IsZ B W (.agg #[.int .i64 L,.bool Q,.slice S O M]) nx tx):=fun W hW=>m6.below hW; have o8:Hid (∀ W,Up wr W→IsZ B W (.agg #[.int .i64 G,.bool J,.slice K I H]) ny ty):=fun W hW=>f5.below hW; have E:Hid ((sg nx (val tx)=(X:Nat)∧sg ny (val ty)=(gk:Nat))∧(tx.length≤N∧ty.length≤N)∧val ty=gk∧X<1000000000 ^ N∧gk<1000000000 ^ N):=⟨⟨l5,l6⟩,⟨l0,l1⟩,e8,a9,b4⟩; have n5:=Hd e7; have n4:=Hd e6; have g7:=hide hg; have D:=hide hB; have u:Hid (∀ W,Up wr W→BoxV s W L Q S O M∧BoxV A W G J K I H∧BoxV (w.heap.size+2) W 0 false none 0 0):=fun W hW=>⟨hX.below hX.lt hW,hY.below hY.lt hW,hR.below hR.lt hW⟩; have q0:=hY.c0; have q1:=hY.c1; have q2:=hY.c2; clear m6 f5 l5 l6 s5 e8 l0 l1 a9 b4 e7 e6 hg hB hX hY hR e9
  go_wp2_with fail
  refine (l1Zero_ex _ _ _ _ _ _).mono ?_; rintro e w5 ⟨rfl,e4⟩; rw [o6.o]; have j:=hide e4; obtain ⟨⟨_,o9,p0,p1,af,_⟩,⟨_,p6,p7,p8,bf,_⟩,⟨_,t7,t8,t9,rf,_⟩⟩:=u.o w5 e4; clear e4 q0 q1 q2
  by_cases k9:gk=0
  ·have f0:=rf 0; have f1:=rf 1; have f2:=rf 2; have g4:Hid (X=d):=by
    have:=g7.o; rw [k9,Nat.gcd_zero_right] at this; exact this
   clear af bf rf
   go_wp2
   have i3:=n4.o.below j.o; rw [g4.o] at i3; have d8:=(u.o w5 j.o).2.2; have a3:=d8.put L Q S O M; have q8:=i3.keeps d8.n d8.n (Keeps.three w5 (w.heap.size+2) (.int .i64 L) (.bool Q) (.slice S O M)); have q7:=set3 (D.o.trans (j.o.mono D.o.size)) (w.heap.size+2) (by omega) (.int .i64 L) (.bool Q) (.slice S O M); have k0:=a3.c0; have k1:=a3.c1; have k2:=a3.c2; have e2:w.heap.size+1+1=w.heap.size+2:=rfl; rw [e2]; generalize ((w5.setCell ⟨w.heap.size+2,0,none⟩ (.int .i64 L)).setCell ⟨w.heap.size+2,1,none⟩ (.bool Q)).setCell ⟨w.heap.size+2,2,none⟩ (.slice S O M)=WE at *; refine bodyPost_ret (v:=.agg #[.int .i64 L,.bool Q,.slice S O M]) ?_ rfl ⟨_,rfl,q8,q7⟩; simp [results,Tryz.results37,go_sem,k0,k1,k2]
  ·go_wp2_with fail
   refine (l1Div_any B _ _ nx ny tx ty _ (by have:=a5.o; have:=D.o.size; have:=j.o.size; omega) (o7.o _ j.o) (o8.o _ j.o) (by have:=E.o.2.1; omega) (by have:=E.o.2.1; omega) (fun h=>k9 (by have:=E.o.2.2.1; rw [h] at this; simpa [val] using this.symm))).mono ?_; rintro e w6 ⟨z1,z2,q,r,rfl,⟨l2,e5⟩,j9,b3⟩; rw [E.o.1.1,E.o.1.2] at j9; obtain ⟨m0,mn,mp,ml,mc,rfl⟩:=l2.shape; obtain ⟨u0,un,up,ul,uc,rfl⟩:=e5.shape; obtain ⟨j6,j7,j8⟩:=j9; obtain ⟨R,rfl⟩:=Int.eq_ofNat_of_zero_le j7; have j2:R<gk:=by simpa using j8
   have g9:Hid (R<gk∧Nat.gcd gk R=d):=⟨j2,(gcd_emod X gk R q j6 j2).trans g7.o⟩; obtain ⟨W6,a8⟩:=exW ((w6.alloc (.cells #[.int .i64 m0,.bool mn,.slice mp ml mc] 49)).alloc (.cells #[.int .i64 u0,.bool un,.slice up ul uc] 49)); have d7:Up w6 W6:=by rw [← a8]; exact below_al (below_alloc _ _) _
   have hU:BoxV (w6.heap.size+1) W6 u0 un up ul uc:=by rw [← a8]; exact boxV_new' _ _ (by simp) _ _ _ _ _ _
   have a6:Up wr W6:=j.o.trans ((b3.trans (d7.mono b3.size)).mono j.o.size); have i4:IsN B W6 (.agg #[.int .i64 u0,.bool un,.slice up ul uc]) (R:Nat):=(e5.below d7).mono (by have:=a5.o; have:=D.o.size; have:=j.o.size; omega); have i7:=n5.o.below a6; obtain ⟨F,j3,j1⟩:=u.o W6 a6; have x2:A<w6.heap.size:=by
    have h1:=(u.o w5 j.o).2.1.lt; have h2:=b3.size; omega
   have o3:=hide a8; have g6:Hid (PairM B P d w s A R ((((((W6.setCell ⟨s,0,none⟩ (.int .i64 G)).setCell ⟨s,1,none⟩ (.bool J)).setCell ⟨s,2,none⟩ (.slice K I H)).setCell ⟨A,0,none⟩ (.int .i64 u0)).setCell ⟨A,1,none⟩ (.bool un)).setCell ⟨A,2,none⟩ (.slice up ul uc))):=by
    have k7:=Keeps.three W6 s (.int .i64 G) (.bool J) (.slice K I H); have r7:=F.put G J K I H; have Z:=j3.other (show A≠s by omega) k7; have r4:=j1.other (show w.heap.size+2≠s by omega) k7; have i8:=i7.keeps F.n F.n k7; have i5:=i4.keeps F.n F.n k7; have q5:=set3 (D.o.trans (a6.mono D.o.size)) s (by omega) (.int .i64 G) (.bool J) (.slice K I H); generalize ((W6.setCell ⟨s,0,none⟩ (.int .i64 G)).setCell ⟨s,1,none⟩ (.bool J)).setCell ⟨s,2,none⟩ (.slice K I H)=W7 at *; have k8:=Keeps.three W7 A (.int .i64 u0) (.bool un) (.slice up ul uc); have r8:=r7.other (show s≠A by omega) k8; have r9:=Z.put u0 un up ul uc; have r5:=r4.other (show w.heap.size+2≠A by omega) k8; have i9:=i8.keeps Z.n Z.n k8; have i6:=i5.keeps Z.n Z.n k8; have q6:=set3 q5 A (by omega) (.int .i64 u0) (.bool un) (.slice up ul uc); have j0:=E.o.2.2.2.2; rw [HP.o] at j0; exact ⟨gk,G,J,K,I,H,u0,un,up,ul,uc,⟨r8,r9,r5⟩,⟨i9,i6⟩,⟨j0,by omega⟩,g9.o.2,q6⟩
   obtain ⟨_,z5,z6,z7,xf,_⟩:=F; obtain ⟨_,z8,z9,A0,yf,_⟩:=j3; obtain ⟨x6,y7,y8,y9,_,_⟩:=hU; have v7:=xf 0; have v8:=xf 1; have v9:=xf 2; have w0:=yf 0; have w7:=yf 1; have w8:=yf 2; have y4:s≠A:=by omega
   have y5:s≠w6.heap.size+1:=by omega
   have y6:A≠w6.heap.size+1:=by omega
   clear o9 p0 p1 p6 p7 p8 t7 t8 t9 af bf rf xf yf l2 e5 j6 j7 j8 b3 d7 a6 i4 i7 j1 a8
   go_upto_region 5 with fail
   rw [o3.o]
   go_wp2
   go_roundg R
   case measure=>exact g9.o.1
   case rel=>exact g6.o
end Go.Proofs.YtnhbmpnhijgpmaaGreatDoor
