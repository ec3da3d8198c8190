import Derived.Test.YtknfmkeipeikkaaGreatDoorDivSpecp
import Derived.Test.YtknfmkeipeikkaaGreatDoorGcdIp
import Derived.Deep.LoopGhost
import Derived.Deep.DeepCutAuto
set_option maxRecDepth 100000
set_option maxHeartbeats 2000000
namespace Go.Proofs.YtknfmkeipeikkaaGreatDoor
open Go.ChangeShapes Go.WideShapes Go.ChangeAt Go.RowKit
theorem lenLt (t:List Nat) (N:Nat) (ht:isTrim t) (h:val t<1000000000 ^ N):t.length≤N:=by
 by_cases hn:t=[]
 ·rw [hn]; exact Nat.zero_le _
 have j:=val_ge t ht hn; have h4:=(Nat.pow_lt_pow_iff_right (show 1<1000000000 by decide)).1 (Nat.lt_of_le_of_lt j h); omega
theorem gcd_emod (X Y R:Nat) (q:Int) (h:(X:Int)=q*Y+R) (hr:R<Y):Nat.gcd Y R=Nat.gcd X Y:=by
 have j:(X:Int) % Y=R:=by
  rw [h,Int.add_comm,Int.add_mul_emod_self_right]; exact Int.emod_eq_of_lt (Int.natCast_nonneg _) (Int.ofNat_lt.2 hr)
 have h2:X % Y=R:=by exact_mod_cast j
 rw [← h2,Nat.gcd_comm X Y,Nat.gcd_rec Y X,Nat.gcd_comm]
def PairM (B P d:Nat) (w0:World) (gx gy k:Nat) (wr:World):Prop:=
 ∃ (X:Nat) (x0:Int) (xn:Bool) (xp:Option Addr) (xl xc:Nat) (y0:Int) (yn:Bool) (yp:Option Addr) (yl yc:Nat),(BoxV gx wr x0 xn xp xl xc∧BoxV gy wr y0 yn yp yl yc∧BoxV (w0.heap.size+2) wr 0 false none 0 0) ∧
  (IsN B wr (.agg #[.int .i64 x0,.bool xn,.slice xp xl xc]) (X:Nat)∧IsN B wr (.agg #[.int .i64 y0,.bool yn,.slice yp yl yc]) (k:Nat))∧(X<P∧k<P)∧Nat.gcd X k=d∧Up w0 wr
theorem isN_shape2 {B:Nat} {w:World} {z:Value} {X:Nat} (N:Nat) (h:IsN B w z (X:Nat)) (hX:X<1000000000 ^ N):∃ neg t,IsZ B w z neg t∧sg neg (val t)=(X:Nat)∧val t=X∧t.length≤N:=by
 obtain ⟨neg,t,m,j⟩:=h; have s:val t=X:=by have:=congrArg Int.natAbs j; rw [sg_abs] at this; simpa using this
 exact ⟨neg,t,m,j,s,lenLt t N m.2.1 (by omega)⟩
theorem set3 {N:Nat} {w W:World} (h:Below N w W) (g:Nat) (hg:N≤g) (u0 u1 u2:Value):Below N w (((W.setCell ⟨g,0,none⟩ u0).setCell ⟨g,1,none⟩ u1).setCell ⟨g,2,none⟩ u2):=
 ((h.setCell (p:=⟨g,0,none⟩) hg u0).setCell (p:=⟨g,1,none⟩) hg u1).setCell (p:=⟨g,2,none⟩) hg u2
theorem l1Gcd_any (B:Nat) (za zb:Value) (na nb:Bool) (a b:List Nat) (N:Nat) (w:World) (hBw:B≤w.heap.size) (hza:IsZ B w za na a) (hzb:IsZ B w zb nb b) (hla:a.length≤N) (hlb:b.length≤N) (hN:N≤100000) :
 Calls Tryz.prog 45 #[za,zb] w fun e w'=>∃ z,e=.returned z∧IsN B w' z (gcdI (sg na (val a)) (sg nb (val b)))∧Up w w':=by
 obtain ⟨a0,an,ap,al,ac,rfl⟩:=hza.shape; obtain ⟨b0,bn,bp,bl,bc,rfl⟩:=hzb.shape; obtain ⟨d,hd⟩:=exW (Nat.gcd (val a) (val b)); have HD:=hide hd; have l4:gcdI (sg na (val a)) (sg nb (val b))=(d:Int):=by unfold gcdI Int.gcd; rw [sg_abs,sg_abs,hd]
 rw [l4]; obtain ⟨P,hP⟩:=exW (1000000000 ^ N); have HP:=hide hP; have o3:Hid (val a<P∧val b<P):=by
  have h1:=Nat.lt_of_lt_of_le (val_lt a hza.1) (Nat.pow_le_pow_right (show 0<1000000000 by decide) hla); have h2:=Nat.lt_of_lt_of_le (val_lt b hzb.1) (Nat.pow_le_pow_right (show 0<1000000000 by decide) hlb); rw [hP] at h1 h2; exact ⟨h1,h2⟩
 have o8:=hide hza; have o9:=hide hzb; have b5:=hide hBw; clear hza hzb hd l4 hP hBw; obtain ⟨W0,y⟩:=exW (((w.alloc (.cells #[.int .i64 a0,.bool an,.slice ap al ac] 53)).alloc (.cells #[.int .i64 b0,.bool bn,.slice bp bl bc] 53)).alloc (.cells #[.int .i64 0,.bool false,.slice none 0 0] 53)); have o4:=hide y; have l9:W0.heap.size=w.heap.size+3:=by rw [← y]; simp
 have e4:=hide l9; have a6:Hid (Up w W0):=by
  unfold Hid
  rw [← y]; exact below_al (below_al (below_alloc _ _) _) _
 have e3:Hid (∀ W,Up W0 W→BoxV w.heap.size W a0 an ap al ac∧BoxV (w.heap.size+1) W b0 bn bp bl bc∧BoxV (w.heap.size+2) W 0 false none 0 0):=fun W hW=>by
  have h1:BoxV w.heap.size W0 a0 an ap al ac:=by rw [← y]; exact ((boxV_new w _ _ _ _ _ _).alloc _).alloc _
  have h2:BoxV (w.heap.size+1) W0 b0 bn bp bl bc:=by rw [← y]; exact (boxV_new' _ _ (by simp) _ _ _ _ _ _).alloc _
  have h3:BoxV (w.heap.size+2) W0 0 false none 0 0:=by rw [← y]; exact boxV_new' _ _ (by simp) _ _ _ _ _ _
  exact ⟨h1.below h1.lt hW,h2.below h2.lt hW,h3.below h3.lt hW⟩
 clear y l9
 go_enter Tryz.func45,Tryz.ntmps45
 go_upto_region 1 with fail
 rw [o4.o]; obtain ⟨⟨_,q0,q1,q2,_,_⟩,_⟩:=e3.o W0 (Below.refl _ _)
 go_wp2_with fail
 refine (l1Limbs_any B _ na a _ (o8.o.below a6.o) (by have:=b5.o; have:=e4.o; omega)).mono ?_; rintro e w1 ⟨v1,rfl,m8,k5⟩; have i2:=hide m8; have g9:=hide k5; clear m8 k5
 go_wp2_with fail
 refine (l1Make_any B false v1 a _ i2.o).mono ?_; rintro e w2 ⟨z1,rfl,n0,f5⟩; have e8:IsZ B w2 z1 false (trimL a):=n0 _ _ (i2.o.below f5); have d9:=hide (g9.o.trans (f5.mono g9.o.size)); obtain ⟨V,xn,xp,Z,Y,rfl⟩:=e8.shape; obtain ⟨W2,a9⟩:=exW (w2.alloc (.cells #[.int .i64 V,.bool xn,.slice xp Z Y] 53)); have o5:=hide a9; have a7:Up w2 W2:=by rw [← a9]; exact below_alloc _ _
 have m5:W2.heap.size=w2.heap.size+1:=by rw [← a9]; simp
 have o2:=hide m5; have e5:Hid (BoxV w2.heap.size W2 V xn xp Z Y):=by unfold Hid; rw [← a9]; exact boxV_new w2 _ _ _ _ _ _
 have i6:Hid (IsZ B W2 (.agg #[.int .i64 V,.bool xn,.slice xp Z Y]) false (trimL a)):=e8.below a7; have j:Hid (Up W0 W2):=d9.o.trans (a7.mono d9.o.size); obtain ⟨_,⟨_,r0,r1,r2,_,_⟩,_⟩:=e3.o W2 j.o; clear n0 f5 a9 a7 m5 e8 q0 q1 q2
 go_upto_region 2 with fail
 rw [o5.o]
 go_wp2_with fail
 refine (l1Limbs_any B _ nb b _ (o9.o.below (a6.o.trans (j.o.mono a6.o.size))) (by have:=b5.o; have:=e4.o; have:=j.o.size; omega)).mono ?_; rintro e w3 ⟨v2,rfl,m9,k9⟩; have i3:=hide m9; have h0:=hide k9; clear m9 k9
 go_wp2_with fail
 refine (l1Make_any B false v2 b _ i3.o).mono ?_; rintro e w4 ⟨z2,rfl,n1,f7⟩; have e9:IsZ B w4 z2 false (trimL b):=n1 _ _ (i3.o.below f7); have e0:=hide (h0.o.trans (f7.mono h0.o.size)); obtain ⟨K,T,U,O,M,rfl⟩:=e9.shape; obtain ⟨W4,b7⟩:=exW (w4.alloc (.cells #[.int .i64 K,.bool T,.slice U O M] 53)); have o6:=hide b7; have a8:Up w4 W4:=by rw [← b7]; exact below_alloc _ _
 have i5:Hid (BoxV w4.heap.size W4 K T U O M):=by unfold Hid; rw [← b7]; exact boxV_new w4 _ _ _ _ _ _
 have i7:Hid (IsZ B W4 (.agg #[.int .i64 K,.bool T,.slice U O M]) false (trimL b)):=e9.below a8; have s:Hid (Up W2 W4):=e0.o.trans (a8.mono e0.o.size); have i1:Hid (W2.heap.size≤w4.heap.size):=e0.o.size; clear n1 f7 b7 a8 e9 r0 r1 r2
 go_wp2
 rw [o6.o]; have x1:w2.heap.size<w4.heap.size:=by have:=o2.o; have:=i1.o; omega
 have w8:w.heap.size+2<w2.heap.size:=by have:=d9.o.size; have:=e4.o; omega
 have i4:=hide (e5.o.below e5.o.lt s.o); have d2:=hide (i6.o.below s.o); have h9:=hide (e3.o W4 (j.o.trans (s.o.mono j.o.size))).2.2; have d1:=hide (a6.o.trans ((j.o.trans (s.o.mono j.o.size)).mono a6.o.size)); generalize x2:w2.heap.size=u at *; generalize x3:w4.heap.size=E at *
 go_loopg [] (val b) (PairM B P d w u E)
 case atStart=>exact ⟨val a,V,xn,xp,Z,Y,K,T,U,O,M,⟨i4.o,i5.o,h9.o⟩,⟨⟨false,_,d2.o,by rw [val_trimL]; rfl⟩,⟨false,_,i7.o,by rw [val_trimL]; rfl⟩⟩,o3.o,HD.o,d1.o⟩
 case round=>
  clear i4 i5 h9 d2 i7 d1 s i1 e5 i6 j; obtain ⟨X,V,xn,xp,Z,Y,K,T,U,O,M,⟨hX,hY,hR⟩,⟨g1,g2⟩,⟨b9,c9⟩,hg,hB⟩:=hrel; rw [← HP.o] at b9 c9; obtain ⟨nx,tx,n2,m6,s5,l6⟩:=isN_shape2 N g1 b9; obtain ⟨ny,ty,g5,m7,g3,l7⟩:=isN_shape2 N g2 c9; have g4:=zero_of_isZ g5; rw [g3] at g4; have p0:=hide g4; have p1:Hid (∀ W,Up wr W→IsZ B W (.agg #[.int .i64 V,.bool xn,.slice xp Z Y]) nx tx):=fun W hW=>n2.below hW; have p2:Hid (∀ W,Up wr W→IsZ B W (.agg #[.int .i64 K,.bool T,.slice U O M]) ny ty):=fun W hW=>g5.below hW; have I:Hid ((sg nx (val tx)=(X:Nat)∧sg ny (val ty)=(gk:Nat))∧(tx.length≤N∧ty.length≤N)∧val ty=gk∧X<1000000000 ^ N∧gk<1000000000 ^ N):=⟨⟨m6,m7⟩,⟨l6,l7⟩,g3,b9,c9⟩; have o1:=Hd g2; have o0:=Hd g1; have h8:=hide hg; have H:=hide hB; have D:Hid (∀ W,Up wr W→BoxV u W V xn xp Z Y∧BoxV E W K T U O M∧BoxV (w.heap.size+2) W 0 false none 0 0):=fun W hW=>⟨hX.below hX.lt hW,hY.below hY.lt hW,hR.below hR.lt hW⟩; have q0:=hY.c0; have q1:=hY.c1; have q2:=hY.c2; clear n2 g5 m6 m7 s5 g3 l6 l7 b9 c9 g2 g1 hg hB hX hY hR g4
  go_wp2_with fail
  refine (l1Zero_ex _ _ _ _ _ _).mono ?_; rintro e w5 ⟨rfl,f9⟩; rw [p0.o]; have m:=hide f9; obtain ⟨⟨_,p3,p4,p5,af,_⟩,⟨_,q3,q4,q5,bf,_⟩,⟨_,t6,t7,t8,rf,_⟩⟩:=D.o w5 f9; clear f9 q0 q1 q2
  by_cases l5:gk=0
  ·have f0:=rf 0; have f1:=rf 1; have f2:=rf 2; have h6:Hid (X=d):=by
    have:=h8.o; rw [l5,Nat.gcd_zero_right] at this; exact this
   clear af bf rf
   go_wp2
   have i9:=o0.o.below m.o; rw [h6.o] at i9; have e7:=(D.o w5 m.o).2.2; have b4:=e7.put V xn xp Z Y; have r5:=i9.keeps e7.n e7.n (Keeps.three w5 (w.heap.size+2) (.int .i64 V) (.bool xn) (.slice xp Z Y)); have r4:=set3 (H.o.trans (m.o.mono H.o.size)) (w.heap.size+2) (by omega) (.int .i64 V) (.bool xn) (.slice xp Z Y); have k0:=b4.c0; have k1:=b4.c1; have k2:=b4.c2; have e2:w.heap.size+1+1=w.heap.size+2:=rfl; rw [e2]; generalize ((w5.setCell ⟨w.heap.size+2,0,none⟩ (.int .i64 V)).setCell ⟨w.heap.size+2,1,none⟩ (.bool xn)).setCell ⟨w.heap.size+2,2,none⟩ (.slice xp Z Y)=WE at *; refine bodyPost_ret (v:=.agg #[.int .i64 V,.bool xn,.slice xp Z Y]) ?_ rfl ⟨_,rfl,r5,r4⟩; simp [results,Tryz.results45,go_sem,k0,k1,k2]
  ·go_wp2_with fail
   refine (l1Div_any B _ _ nx ny tx ty _ (by have:=b5.o; have:=H.o.size; have:=m.o.size; omega) (p1.o _ m.o) (p2.o _ m.o) (by have:=I.o.2.1; omega) (by have:=I.o.2.1; omega) (fun h=>l5 (by have:=I.o.2.2.1; rw [h] at this; simpa [val] using this.symm))).mono ?_; rintro e w6 ⟨z1,z2,q,r,rfl,⟨l8,g0⟩,l3,c7⟩; rw [I.o.1.1,I.o.1.2] at l3; obtain ⟨m0,mn,mp,ml,mc,rfl⟩:=l8.shape; obtain ⟨u0,un,up,ul,uc,rfl⟩:=g0.shape; obtain ⟨l0,l1,l2⟩:=l3; obtain ⟨R,rfl⟩:=Int.eq_ofNat_of_zero_le l1; have j8:R<gk:=by simpa using l2
   have i0:Hid (R<gk∧Nat.gcd gk R=d):=⟨j8,(gcd_emod X gk R q l0 j8).trans h8.o⟩; obtain ⟨W6,b8⟩:=exW ((w6.alloc (.cells #[.int .i64 m0,.bool mn,.slice mp ml mc] 53)).alloc (.cells #[.int .i64 u0,.bool un,.slice up ul uc] 53)); have e6:Up w6 W6:=by rw [← b8]; exact below_al (below_alloc _ _) _
   have hU:BoxV (w6.heap.size+1) W6 u0 un up ul uc:=by rw [← b8]; exact boxV_new' _ _ (by simp) _ _ _ _ _ _
   have b6:Up wr W6:=m.o.trans ((c7.trans (e6.mono c7.size)).mono m.o.size); have j0:IsN B W6 (.agg #[.int .i64 u0,.bool un,.slice up ul uc]) (R:Nat):=(g0.below e6).mono (by have:=b5.o; have:=H.o.size; have:=m.o.size; omega); have j3:=o1.o.below b6; obtain ⟨J,j9,j7⟩:=D.o W6 b6; have w9:E<w6.heap.size:=by
    have h1:=(D.o w5 m.o).2.1.lt; have h2:=c7.size; omega
   have o7:=hide b8; have h7:Hid (PairM B P d w u E R ((((((W6.setCell ⟨u,0,none⟩ (.int .i64 K)).setCell ⟨u,1,none⟩ (.bool T)).setCell ⟨u,2,none⟩ (.slice U O M)).setCell ⟨E,0,none⟩ (.int .i64 u0)).setCell ⟨E,1,none⟩ (.bool un)).setCell ⟨E,2,none⟩ (.slice up ul uc))):=by
    have k7:=Keeps.three W6 u (.int .i64 K) (.bool T) (.slice U O M); have s1:=J.put K T U O M; have b3:=j9.other (show E≠u by omega) k7; have r8:=j7.other (show w.heap.size+2≠u by omega) k7; have j4:=j3.keeps J.n J.n k7; have j1:=j0.keeps J.n J.n k7; have q9:=set3 (H.o.trans (b6.mono H.o.size)) u (by omega) (.int .i64 K) (.bool T) (.slice U O M); generalize ((W6.setCell ⟨u,0,none⟩ (.int .i64 K)).setCell ⟨u,1,none⟩ (.bool T)).setCell ⟨u,2,none⟩ (.slice U O M)=W7 at *; have k8:=Keeps.three W7 E (.int .i64 u0) (.bool un) (.slice up ul uc); have s2:=s1.other (show u≠E by omega) k8; have s3:=b3.put u0 un up ul uc; have r9:=r8.other (show w.heap.size+2≠E by omega) k8; have j5:=j4.keeps b3.n b3.n k8; have j2:=j1.keeps b3.n b3.n k8; have r3:=set3 q9 E (by omega) (.int .i64 u0) (.bool un) (.slice up ul uc); have j6:=I.o.2.2.2.2; rw [HP.o] at j6; exact ⟨gk,K,T,U,O,M,u0,un,up,ul,uc,⟨s2,s3,r9⟩,⟨j5,j2⟩,⟨j6,by omega⟩,i0.o.2,r3⟩
   obtain ⟨_,z0,z3,z5,xf,_⟩:=J; obtain ⟨_,z6,z7,z8,yf,_⟩:=j9; obtain ⟨x4,y5,y6,y7,_,_⟩:=hU; have v5:=xf 0; have v6:=xf 1; have v7:=xf 2; have v8:=yf 0; have v9:=yf 1; have w0:=yf 2; have y2:u≠E:=by omega
   have y3:u≠w6.heap.size+1:=by omega
   have y4:E≠w6.heap.size+1:=by omega
   clear p3 p4 p5 q3 q4 q5 t6 t7 t8 af bf rf xf yf l8 g0 l0 l1 l2 c7 e6 b6 j0 j3 j7 b8
   go_upto_region 5 with fail
   rw [o7.o]
   go_wp2
   go_roundg R
   case measure=>exact i0.o.1
   case rel=>exact h7.o
end Go.Proofs.YtknfmkeipeikkaaGreatDoor
