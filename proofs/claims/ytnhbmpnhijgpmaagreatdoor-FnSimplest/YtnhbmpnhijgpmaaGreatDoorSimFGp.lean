import Derived.Test.YtnhbmpnhijgpmaaGreatDoorSimEp
import Derived.Test.YtnhbmpnhijgpmaaGreatDoorQQp
set_option maxRecDepth 100000
set_option maxHeartbeats 4000000
namespace Go.Proofs.YtnhbmpnhijgpmaaGreatDoor
open Go.ChangeShapes Go.WideShapes Go.ChangeAt Go.RowKit
theorem resS_no {h1 o1:Bool} {t1:ByteArray} {h2 o2:Bool} {t2:ByteArray} {k1 k2:Option Nat} (c1:IsCut t1 k1) (c2:IsCut t2 k2) (h:¬ (h1=true→∃ x y,RatV t1 k1 x y)∨¬ (h2=true→∃ x y,RatV t2 k2 x y)):ResS h1 o1 t1 h2 o2 t2 ⟨#[]⟩:=by
 refine ⟨k1,k2,c1,c2,.inr ⟨?_,rfl⟩⟩; rintro ⟨i,m,j,s,r1,r2⟩; unfold RdE at r1 r2
 rcases h with h|h
 ·refine h fun e=>?_; rw [if_pos e] at r1; exact ⟨_,_,r1⟩
 refine h fun e=>?_; rw [if_pos e] at r2; exact ⟨_,_,r2⟩
theorem implSimplest_any (h1 o1:Bool) (t1:ByteArray) (h2 o2:Bool) (t2:ByteArray) (w:World) (ht1:t1.size≤maxLen) (ht2:t2.size≤maxLen) (hSP:SP w) (hNS:NS w) (hLT:LT w) :
 Calls Tryz.prog 6 #[.agg #[.bool h1,.bool o1,.string t1],.agg #[.bool h2,.bool o2,.string t2]] w fun e w'=>∃ u,e=.returned (.string u)∧ResS h1 o1 t1 h2 o2 t2 u∧Up w w':=by
 obtain ⟨b9,f9⟩:=isCut_ex t1; obtain ⟨c6,g0⟩:=isCut_ex t2; have K:=Hd f9; have L:=Hd g0; have Q:=Hd hSP; have e4:=Hd hNS; have b7:=Hd hLT; clear f9 g0 hSP hNS hLT; obtain ⟨S,J⟩:=exW ((w.alloc (.cells #[.bool h1,.bool o1,.string t1] 24)).alloc (.cells #[.bool h2,.bool o2,.string t2] 24)); have h6:=Hd J; have i:Hid (Up w S):=by unfold Hid; rw [← J]; exact below_al (below_alloc _ _) _
 have m7:Hid (S.heap.size=w.heap.size+2):=by show S.heap.size=_; rw [← J]; simp
 have m:Bx S (w.heap.size) [.bool h1,.bool o1,.string t1]:=by
  rw [← J]; exact (bx_new w _ _).alloc _
 have G:Bx S (w.heap.size+1) [.bool h2,.bool o2,.string t2]:=by
  rw [← J]; have h:=bx_new (w.alloc (.cells #[.bool h1,.bool o1,.string t1] 24)) [.bool h2,.bool o2,.string t2] 24; rw [World.size_alloc] at h; exact h
 have h9:Hid (∀ W,Up S W→Bx W (w.heap.size) [.bool h1,.bool o1,.string t1]∧Bx W (w.heap.size+1) [.bool h2,.bool o2,.string t2]):=fun W hW=>⟨m.below m.lt hW,G.below G.lt hW⟩; obtain ⟨k0,k1,k2⟩:=m.k3; clear J m G
 go_enter Tryz.func6,Tryz.ntmps6
 go_upto_region 1 with fail
 rw [h6.o]
 go_wp2_with fail
 refine (readEnd_any h1 o1 t1 b9 S ht1 K.o (Q.o.below i.o) (e4.o.below i.o) (b7.o.below i.o)).mono ?_; rintro e w1 ⟨z1,i7,rfl,a3,A,j,e6⟩; obtain ⟨E,Y⟩:∃ b,(h1&&o1)=b:=⟨_,rfl⟩; rw [Y] at a3 j; have b4:=Hd Y; obtain ⟨s1,p1,l1,c1,s2,p2,l2,c2,rfl⟩:=a3; have e1:=Hd A; have i1:=Hd j; have d6:=Hd e6; clear A j e6 Y k0 k1 k2; obtain ⟨W1,T⟩:=exW (w1.alloc (.cells #[.bool h1,.bool E,.bool s1,.slice p1 l1 c1,.bool s2,.slice p2 l2 c2] 59)); have h7:=Hd T; have b6:Hid (Up w1 W1):=by unfold Hid; rw [← T]; exact below_alloc _ _
 have m8:Hid (W1.heap.size=w1.heap.size+1):=by show W1.heap.size=_; rw [← T]; simp
 have H:Bx W1 (w1.heap.size) [.bool h1,.bool E,.bool s1,.slice p1 l1 c1,.bool s2,.slice p2 l2 c2]:=by
  rw [← T]; exact bx_new w1 _ _
 have e5:Hid (∀ W,Up W1 W→Bx W (w1.heap.size) [.bool h1,.bool E,.bool s1,.slice p1 l1 c1,.bool s2,.slice p2 l2 c2]):=fun W hW=>H.below H.lt hW; have I:Hid (Up S W1):=d6.o.trans (b6.o.mono d6.o.size); have D:=(h9.o W1 I.o).2; obtain ⟨k0,k1,k2⟩:=D.k3; clear T H D
 go_upto_region 2 with fail
 rw [h7.o]
 go_wp2_with fail
 refine (readEnd_any h2 o2 t2 c6 W1 ht2 L.o ((Q.o.below i.o).below I.o) ((e4.o.below i.o).below I.o) ((b7.o.below i.o).below I.o)).mono ?_; rintro e w2 ⟨z2,i8,rfl,a3,A,j,e7⟩; obtain ⟨F,Z⟩:∃ b,(h2&&o2)=b:=⟨_,rfl⟩; rw [Z] at a3 j; have b5:=Hd Z; obtain ⟨s3,p3,l3,c3,s4,p4,l4,c4,rfl⟩:=a3; have e2:=Hd A; have i2:=Hd j; have d7:=Hd e7; clear A j e7 Z k0 k1 k2; obtain ⟨W2,U⟩:=exW (w2.alloc (.cells #[.bool h2,.bool F,.bool s3,.slice p3 l3 c3,.bool s4,.slice p4 l4 c4] 59)); have h8:=Hd U; have d5:Hid (Up w2 W2):=by unfold Hid; rw [← U]; exact below_alloc _ _
 have m9:Hid (W2.heap.size=w2.heap.size+1):=by show W2.heap.size=_; rw [← U]; simp
 have s:Bx W2 (w2.heap.size) [.bool h2,.bool F,.bool s3,.slice p3 l3 c3,.bool s4,.slice p4 l4 c4]:=by
  rw [← U]; exact bx_new w2 _ _
 have i0:Hid (∀ W,Up W2 W→Bx W (w2.heap.size) [.bool h2,.bool F,.bool s3,.slice p3 l3 c3,.bool s4,.slice p4 l4 c4]):=fun W hW=>s.below s.lt hW; have t:Hid (Up W1 W2):=d7.o.trans (d5.o.mono d7.o.size); have a6:Hid (Up S W2):=I.o.trans (t.o.mono I.o.size); have d8:Hid (Up w W2):=i.o.trans (a6.o.mono i.o.size); have D:=e5.o W2 t.o; obtain ⟨k0,k1,k2,k3,k4,k5⟩:=D.k6; obtain ⟨j0,j1,j2,j3,j4,j5⟩:=s.k6; clear U s D
 go_upto_region 3 with fail
 rw [h8.o]
 cases i7
 ·have HN:Hid (ResS h1 o1 t1 h2 o2 t2 ⟨#[]⟩):=resS_no K.o L.o (.inl fun h=>Bool.noConfusion (e1.o.2 h))
  go_wp2
  go_ret
  exact ⟨_,rfl,HN.o,d8.o⟩
 cases i8
 ·have HN:Hid (ResS h1 o1 t1 h2 o2 t2 ⟨#[]⟩):=resS_no K.o L.o (.inr fun h=>Bool.noConfusion (e2.o.2 h))
  go_wp2
  go_ret
  exact ⟨_,rfl,HN.o,d8.o⟩
 obtain ⟨x1,y1,g1,f5⟩:=i1.o (by first|rfl|trivial); obtain ⟨x2,y2,g2,f7⟩:=i2.o (by first|rfl|trivial); have M:=Hd g1; have O:=Hd g2; have d9:=Hd ((f5.below (b6.o.trans (t.o.mono b6.o.size))).mono (n':=281) (by decide)); have e0:=Hd ((f7.below d5.o).mono (n':=281) (by decide)); clear g1 g2 f5 f7
 go_wp2_with fail
 refine (nothingBetween_any _ _ h1 E x1 y1 h2 F x2 y2 281 W2 d9.o e0.o (by decide) ((Q.o.below i.o).below a6.o)).mono ?_; rintro e w3 ⟨rfl,b8⟩; have a7:Hid (Up S w3):=a6.o.trans (b8.mono a6.o.size); have a9:=Hd b8; have g7:Hid (Up w w3):=i.o.trans (a7.o.mono i.o.size); clear b8 k0 k1 k2 k3 k4 k5 j0 j1 j2 j3 j4 j5; have D:=e5.o w3 (t.o.trans (a9.o.mono t.o.size)); have g3:=i0.o w3 a9.o; obtain ⟨k0,k1,k2,k3,k4,k5⟩:=D.k6; obtain ⟨j0,j1,j2,j3,j4,j5⟩:=g3.k6; clear D g3
 cases V:NoneB h1 E x1 y1 h2 F x2 y2
 ·have h0:Hid (Two h1 E x1 y1 h2 F x2 y2):=⟨M.o.lt.2.2,O.o.lt.2.2,V⟩; have HF:Hid (∀ p q u,Best h1 E x1 y1 h2 F x2 y2 p q→TextR p q u→ResS h1 o1 t1 h2 o2 t2 u):=fun p q u hbe htx=>by
   refine ⟨b9,c6,K.o,L.o,.inl ⟨x1,y1,x2,y2,M.o,O.o,.inl ?_⟩⟩; rw [b4.o,b5.o]; exact ⟨V,p,q,hbe,htx⟩
  clear V
  go_wp2_with fail
  refine (simplestBetween_any _ _ h1 E x1 y1 h2 F x2 y2 w3 (d9.o.below a9.o) (e0.o.below a9.o) h0.o ⟨M.o.lt.1,M.o.lt.2.1,O.o.lt.1,O.o.lt.2.1⟩ ((Q.o.below i.o).below a7.o)).mono ?_; rintro e w4 ⟨z,p,q,rfl,hq,hbe,e8⟩; have HQ:=Hd hq; have g6:=Hd hbe; have a8:Hid (Up S w4):=a7.o.trans (e8.mono a7.o.size); clear hq hbe e8
  go_wp2_with fail
  refine (textR_any 0 _ p q 282 _ (Nat.zero_le _) HQ.o (by decide) ((Q.o.below i.o).below a8.o) ((b7.o.below i.o).below a8.o)).mono ?_; rintro e w5 ⟨u,rfl,hu,e9⟩; have g9:=Hd (HF.o _ _ _ g6.o hu); have g8:Hid (Up w w5):=i.o.trans ((a8.o.trans (e9.mono a8.o.size)).mono i.o.size); clear hu e9
  go_wp2
  go_ret
  exact ⟨_,rfl,g9.o,g8.o⟩
 have HN:Hid (ResS h1 o1 t1 h2 o2 t2 ⟨#[]⟩):=by
  unfold Hid
  refine ⟨b9,c6,K.o,L.o,.inl ⟨x1,y1,x2,y2,M.o,O.o,.inr ?_⟩⟩; rw [b4.o,b5.o]; exact ⟨V,rfl⟩
 clear V
 go_wp2
 go_ret
 exact ⟨_,rfl,HN.o,g7.o⟩
def IsES (w:World) (z:Value) (hs op:Bool) (x y:Int):Prop:=∃ (a1:Int) (n1:Bool) (d1:Option Addr) (l1 c1:Nat) (a2:Int) (n2:Bool) (d2:Option Addr) (l2 c2:Nat),z=.agg #[.bool hs,.bool op,.int .i64 a1,.bool n1,.slice d1 l1 c1,.int .i64 a2,.bool n2,.slice d2 l2 c2]∧NumZ 0 w (.agg #[.int .i64 a1,.bool n1,.slice d1 l1 c1]) x 1000∧NumZ 0 w (.agg #[.int .i64 a2,.bool n2,.slice d2 l2 c2]) y 1000
theorem IsES.below {w w':World} {z:Value} {hs op:Bool} {x y:Int} (h:IsES w z hs op x y) (hb:Up w w'):IsES w' z hs op x y:=by
 obtain ⟨a1,A,i,t,c1,a2,D,j,u,c2,e,m,s⟩:=h; exact ⟨a1,A,i,t,c1,a2,D,j,u,c2,e,m.below hb,s.below hb⟩
theorem qn_mk {w:World} {a1:Int} {n1:Bool} {d1:Option Addr} {l1 c1:Nat} {a2:Int} {n2:Bool} {d2:Option Addr} {l2 c2:Nat} {x y:Int} (h1:NumZ 0 w (.agg #[.int .i64 a1,.bool n1,.slice d1 l1 c1]) x 1000) (h2:NumZ 0 w (.agg #[.int .i64 a2,.bool n2,.slice d2 l2 c2]) y 1000):IsQN 0 w (.agg #[.int .i64 a1,.bool n1,.slice d1 l1 c1,.int .i64 a2,.bool n2,.slice d2 l2 c2]) x y:=⟨_,_,_,_,_,_,_,_,_,_,rfl,h1,h2⟩
theorem l1MinusN_any (z:Value) (x:Int) (n:Nat) (w:World) (h:NumZ 0 w z x n) :
 Calls Tryz.prog 32 #[z] w fun e w'=>∃ z',e=.returned z'∧NumZ 0 w' z' (-x) n∧Up w w':=by
 obtain ⟨neg,t,m,rfl,hl⟩:=h; refine (l1Minus_any 0 z neg t w m).mono ?_; rintro e w' ⟨z',rfl,i,j⟩; exact ⟨z',rfl,⟨!neg,t,i,sg_not _ _,hl⟩,j⟩
theorem l1SubN_any (za zb:Value) (x y:Int) (n m:Nat) (w:World) (ha:NumZ 0 w za x n) (hb:NumZ 0 w zb y m) (hn:n≤100000) (hm:m≤100000) :
 Calls Tryz.prog 70 #[za,zb] w fun e w'=>∃ z,e=.returned z∧IsN 0 w' z (x - y)∧Up w w':=by
 obtain ⟨A,a,i,rfl,s⟩:=ha; obtain ⟨D,b,j,rfl,t⟩:=hb; refine (l1Sub_any 0 za zb A D a b w (Nat.zero_le _) i j (by omega) (by omega)).mono ?_; rintro e w' ⟨z,rfl,u,hb⟩; exact ⟨z,rfl,u.mono (Nat.zero_le _),hb⟩
theorem numZ_val {B:Nat} {w:World} {z:Value} {x:Int} {n:Nat} (h:NumZ B w z x n):x.natAbs<lb n:=by
 obtain ⟨neg,t,i,rfl,hl⟩:=h; rw [sg_abs]; exact val_lb t i.1 n hl
theorem cell_farC8 {W:World} {a:Addr} {v:Value} (g:Nat) (h:W.cell? a=some v) (hg:g≠a.block) (u0 u1 u2 u3 u4 u5 u6 u7:Value):((((((((W.setCell ⟨g,0,none⟩ (u0)).setCell ⟨g,1,none⟩ (u1)).setCell ⟨g,2,none⟩ (u2)).setCell ⟨g,3,none⟩ (u3)).setCell ⟨g,4,none⟩ (u4)).setCell ⟨g,5,none⟩ (u5)).setCell ⟨g,6,none⟩ (u6)).setCell ⟨g,7,none⟩ (u7)).cell? a=some v:=by
 rw [World.cell?_setCell_far _ _ _ _ hg,World.cell?_setCell_far _ _ _ _ hg,World.cell?_setCell_far _ _ _ _ hg,World.cell?_setCell_far _ _ _ _ hg,World.cell?_setCell_far _ _ _ _ hg,World.cell?_setCell_far _ _ _ _ hg,World.cell?_setCell_far _ _ _ _ hg,World.cell?_setCell_far _ _ _ _ hg]; exact h
theorem cell_farC3 {W:World} {a:Addr} {v:Value} (g:Nat) (h:W.cell? a=some v) (hg:g≠a.block) (u0 u1 u2:Value):(((W.setCell ⟨g,0,none⟩ (u0)).setCell ⟨g,1,none⟩ (u1)).setCell ⟨g,2,none⟩ (u2)).cell? a=some v:=by
 rw [World.cell?_setCell_far _ _ _ _ hg,World.cell?_setCell_far _ _ _ _ hg,World.cell?_setCell_far _ _ _ _ hg]; exact h
theorem keepsC3 (W:World) (g:Nat) (u0 u1 u2:Value):Keeps g g W (((W.setCell ⟨g,0,none⟩ (u0)).setCell ⟨g,1,none⟩ (u1)).setCell ⟨g,2,none⟩ (u2)):=
 Keeps.setCell (Keeps.setCell (Keeps.setCell (Keeps.refl g g W) ⟨g,0,none⟩ u0 (Or.inl rfl)) ⟨g,1,none⟩ u1 (Or.inl rfl)) ⟨g,2,none⟩ u2 (Or.inl rfl)
theorem keepsC8 (W:World) (g:Nat) (u0 u1 u2 u3 u4 u5 u6 u7:Value):Keeps g g W ((((((((W.setCell ⟨g,0,none⟩ (u0)).setCell ⟨g,1,none⟩ (u1)).setCell ⟨g,2,none⟩ (u2)).setCell ⟨g,3,none⟩ (u3)).setCell ⟨g,4,none⟩ (u4)).setCell ⟨g,5,none⟩ (u5)).setCell ⟨g,6,none⟩ (u6)).setCell ⟨g,7,none⟩ (u7)):=
 Keeps.setCell (Keeps.setCell (Keeps.setCell (Keeps.setCell (Keeps.setCell (Keeps.setCell (Keeps.setCell (Keeps.setCell (Keeps.refl g g W) ⟨g,0,none⟩ u0 (Or.inl rfl)) ⟨g,1,none⟩ u1 (Or.inl rfl)) ⟨g,2,none⟩ u2 (Or.inl rfl)) ⟨g,3,none⟩ u3 (Or.inl rfl)) ⟨g,4,none⟩ u4 (Or.inl rfl)) ⟨g,5,none⟩ u5 (Or.inl rfl)) ⟨g,6,none⟩ u6 (Or.inl rfl)) ⟨g,7,none⟩ u7 (Or.inl rfl)
theorem putS_9_6 {W:World} {a0 a1 a2 a3 a4 a5 a6 a7 a8:Addr} {v0 v1 v2 v3 v4 v5 v6 v7 v8:Value} (m:W.cell? a0=some v0∧W.cell? a1=some v1∧W.cell? a2=some v2∧W.cell? a3=some v3∧W.cell? a4=some v4∧W.cell? a5=some v5∧W.cell? a6=some v6∧W.cell? a7=some v7∧W.cell? a8=some v8) (g:Nat) (h:g≠a0.block∧g≠a1.block∧g≠a2.block∧g≠a3.block∧g≠a4.block∧g≠a5.block∧g≠a6.block∧g≠a7.block∧g≠a8.block) (u0 u1 u2 u3 u4 u5:Value):((((((W.setCell ⟨g,0,none⟩ (u0)).setCell ⟨g,1,none⟩ (u1)).setCell ⟨g,2,none⟩ (u2)).setCell ⟨g,3,none⟩ (u3)).setCell ⟨g,4,none⟩ (u4)).setCell ⟨g,5,none⟩ (u5)).cell? a0=some v0∧((((((W.setCell ⟨g,0,none⟩ (u0)).setCell ⟨g,1,none⟩ (u1)).setCell ⟨g,2,none⟩ (u2)).setCell ⟨g,3,none⟩ (u3)).setCell ⟨g,4,none⟩ (u4)).setCell ⟨g,5,none⟩ (u5)).cell? a1=some v1∧((((((W.setCell ⟨g,0,none⟩ (u0)).setCell ⟨g,1,none⟩ (u1)).setCell ⟨g,2,none⟩ (u2)).setCell ⟨g,3,none⟩ (u3)).setCell ⟨g,4,none⟩ (u4)).setCell ⟨g,5,none⟩ (u5)).cell? a2=some v2∧((((((W.setCell ⟨g,0,none⟩ (u0)).setCell ⟨g,1,none⟩ (u1)).setCell ⟨g,2,none⟩ (u2)).setCell ⟨g,3,none⟩ (u3)).setCell ⟨g,4,none⟩ (u4)).setCell ⟨g,5,none⟩ (u5)).cell? a3=some v3∧((((((W.setCell ⟨g,0,none⟩ (u0)).setCell ⟨g,1,none⟩ (u1)).setCell ⟨g,2,none⟩ (u2)).setCell ⟨g,3,none⟩ (u3)).setCell ⟨g,4,none⟩ (u4)).setCell ⟨g,5,none⟩ (u5)).cell? a4=some v4∧((((((W.setCell ⟨g,0,none⟩ (u0)).setCell ⟨g,1,none⟩ (u1)).setCell ⟨g,2,none⟩ (u2)).setCell ⟨g,3,none⟩ (u3)).setCell ⟨g,4,none⟩ (u4)).setCell ⟨g,5,none⟩ (u5)).cell? a5=some v5∧((((((W.setCell ⟨g,0,none⟩ (u0)).setCell ⟨g,1,none⟩ (u1)).setCell ⟨g,2,none⟩ (u2)).setCell ⟨g,3,none⟩ (u3)).setCell ⟨g,4,none⟩ (u4)).setCell ⟨g,5,none⟩ (u5)).cell? a6=some v6∧((((((W.setCell ⟨g,0,none⟩ (u0)).setCell ⟨g,1,none⟩ (u1)).setCell ⟨g,2,none⟩ (u2)).setCell ⟨g,3,none⟩ (u3)).setCell ⟨g,4,none⟩ (u4)).setCell ⟨g,5,none⟩ (u5)).cell? a7=some v7∧((((((W.setCell ⟨g,0,none⟩ (u0)).setCell ⟨g,1,none⟩ (u1)).setCell ⟨g,2,none⟩ (u2)).setCell ⟨g,3,none⟩ (u3)).setCell ⟨g,4,none⟩ (u4)).setCell ⟨g,5,none⟩ (u5)).cell? a8=some v8:=
 ⟨cell_farC6 g m.1 h.1 _ _ _ _ _ _,cell_farC6 g m.2.1 h.2.1 _ _ _ _ _ _,cell_farC6 g m.2.2.1 h.2.2.1 _ _ _ _ _ _,cell_farC6 g m.2.2.2.1 h.2.2.2.1 _ _ _ _ _ _,cell_farC6 g m.2.2.2.2.1 h.2.2.2.2.1 _ _ _ _ _ _,cell_farC6 g m.2.2.2.2.2.1 h.2.2.2.2.2.1 _ _ _ _ _ _,cell_farC6 g m.2.2.2.2.2.2.1 h.2.2.2.2.2.2.1 _ _ _ _ _ _,cell_farC6 g m.2.2.2.2.2.2.2.1 h.2.2.2.2.2.2.2.1 _ _ _ _ _ _,cell_farC6 g m.2.2.2.2.2.2.2.2 h.2.2.2.2.2.2.2.2 _ _ _ _ _ _⟩
theorem putS_3_8 {W:World} {a0 a1 a2:Addr} {v0 v1 v2:Value} (m:W.cell? a0=some v0∧W.cell? a1=some v1∧W.cell? a2=some v2) (g:Nat) (h:g≠a0.block∧g≠a1.block∧g≠a2.block) (u0 u1 u2 u3 u4 u5 u6 u7:Value):((((((((W.setCell ⟨g,0,none⟩ (u0)).setCell ⟨g,1,none⟩ (u1)).setCell ⟨g,2,none⟩ (u2)).setCell ⟨g,3,none⟩ (u3)).setCell ⟨g,4,none⟩ (u4)).setCell ⟨g,5,none⟩ (u5)).setCell ⟨g,6,none⟩ (u6)).setCell ⟨g,7,none⟩ (u7)).cell? a0=some v0∧((((((((W.setCell ⟨g,0,none⟩ (u0)).setCell ⟨g,1,none⟩ (u1)).setCell ⟨g,2,none⟩ (u2)).setCell ⟨g,3,none⟩ (u3)).setCell ⟨g,4,none⟩ (u4)).setCell ⟨g,5,none⟩ (u5)).setCell ⟨g,6,none⟩ (u6)).setCell ⟨g,7,none⟩ (u7)).cell? a1=some v1∧((((((((W.setCell ⟨g,0,none⟩ (u0)).setCell ⟨g,1,none⟩ (u1)).setCell ⟨g,2,none⟩ (u2)).setCell ⟨g,3,none⟩ (u3)).setCell ⟨g,4,none⟩ (u4)).setCell ⟨g,5,none⟩ (u5)).setCell ⟨g,6,none⟩ (u6)).setCell ⟨g,7,none⟩ (u7)).cell? a2=some v2:=
 ⟨cell_farC8 g m.1 h.1 _ _ _ _ _ _ _ _,cell_farC8 g m.2.1 h.2.1 _ _ _ _ _ _ _ _,cell_farC8 g m.2.2 h.2.2 _ _ _ _ _ _ _ _⟩
theorem l2Minus_any (z:Value) (x y:Int) (w:World) (h:IsQN 0 w z x y) :
 Calls Tryz.prog 58 #[z] w fun e w'=>∃ z',e=.returned z'∧IsQN 0 w' z' (-x) y∧Up w w':=by
 obtain ⟨a1,J,H,I,c1,a2,A,t,u,c2,rfl,h1,h2⟩:=h; have H1:=Hd h1; have H2:=Hd h2; clear h1 h2; obtain ⟨s,m⟩:=exW ((w.alloc (.cells #[.int .i64 a1,.bool J,.slice H I c1,.int .i64 a2,.bool A,.slice t u c2] 51)).alloc (.cells #[.int .i64 0,.bool false,.slice none 0 0,.int .i64 0,.bool false,.slice none 0 0] 51)); have U:=Hd m; have D:Hid (Up w s):=by unfold Hid; rw [← m]; exact below_al (below_alloc _ _) _
 have b5:Hid (s.heap.size=w.heap.size+2):=by show s.heap.size=_; rw [← m]; simp
 have i:Bx s (w.heap.size) [.int .i64 a1,.bool J,.slice H I c1,.int .i64 a2,.bool A,.slice t u c2]:=by
  rw [← m]; exact (bx_new w _ _).alloc _
 have j:Bx s (w.heap.size+1) [.int .i64 0,.bool false,.slice none 0 0,.int .i64 0,.bool false,.slice none 0 0]:=by
  rw [← m]; have h:=bx_new (w.alloc (.cells #[.int .i64 a1,.bool J,.slice H I c1,.int .i64 a2,.bool A,.slice t u c2] 51)) [.int .i64 0,.bool false,.slice none 0 0,.int .i64 0,.bool false,.slice none 0 0] 51; rw [World.size_alloc] at h; exact h
 have L:Hid (∀ W,Up s W→Bx W (w.heap.size) [.int .i64 a1,.bool J,.slice H I c1,.int .i64 a2,.bool A,.slice t u c2]∧Bx W (w.heap.size+1) [.int .i64 0,.bool false,.slice none 0 0,.int .i64 0,.bool false,.slice none 0 0]):=fun W hW=>⟨i.below i.lt hW,j.below j.lt hW⟩; have T1:Hid (∀ W,Up s W→Calls Tryz.prog 32 #[.agg #[.int .i64 a1,.bool J,.slice H I c1]] W (fun e w'=>∃ z,e=.returned z∧NumZ 0 w' z (-x) 1000∧Up W w')):=fun W hW=>l1MinusN_any _ x 1000 W ((H1.o.below D.o).below hW); obtain ⟨k0,k1,k2,k3,k4,k5⟩:=i.k6; clear m i j
 go_enter Tryz.func58,Tryz.ntmps58
 go_upto_region 1 with fail
 rw [U.o]
 go_wp2_with fail
 go_region_held3 (fun W=>W.cell? ⟨w.heap.size,0,none⟩=some (.int .i64 a1)∧W.cell? ⟨w.heap.size,1,none⟩=some (.bool J)∧W.cell? ⟨w.heap.size,2,none⟩=some (.slice H I c1)∧W.cell? ⟨w.heap.size,3,none⟩=some (.int .i64 a2)∧W.cell? ⟨w.heap.size,4,none⟩=some (.bool A)∧W.cell? ⟨w.heap.size,5,none⟩=some (.slice t u c2)) (first
  | with_reducible assumption|with_reducible exact putS_6_6 (by with_reducible assumption) (w.heap.size+1) (by dsimp only; omega) _ _ _ _ _ _|go_keep) (first
  | (go_at_call 32
     refine (T1.o _ ?_).mono ?_
     ·exact (Below.refl _ s).drew
     rintro e K ⟨u1,rfl,hu,hb⟩; have HU:=Hd hu; have E:Hid (Up s K):=(Below.refl _ s).drew.trans hb; obtain ⟨M,T,O,S,c5,rfl⟩:=hu.shape'; have G:=L.o K E.o; have b8:=cc6 G.1; obtain ⟨r0,r1,r2,r3,r4,r5⟩:=G.2.k6; obtain ⟨c6,c7,c8,c9,d0,d3⟩:=G.2.f6; clear hu hb G))
 all_goals
  try simp only [List.getElem_toArray,List.getElem_cons_succ,List.getElem_cons_zero,Act.put,List.setIfInBounds_toArray,List.set_cons_succ,List.set_cons_zero]
  go_wp2
  have Q:=(L.o K E.o).2; have F:NoInt K (w.heap.size+1):=noInt_of Q (by simp); have HK:=keepsC6 K (w.heap.size+1) (.int .i64 M) (.bool T) (.slice O S c5) (.int .i64 a2) (.bool A) (.slice t u c2); have Y:=HU.o.keeps F F HK; have Z:=((H2.o.below D.o).below E.o).keeps F F HK; have V:=bs6 (D.o.trans (E.o.mono D.o.size)) (w.heap.size+1) (by omega) (.int .i64 M) (.bool T) (.slice O S c5) (.int .i64 a2) (.bool A) (.slice t u c2); have hZ:=Q.s6 (.int .i64 M) (.bool T) (.slice O S c5) (.int .i64 a2) (.bool A) (.slice t u c2); generalize (((((K.setCell ⟨w.heap.size+1,0,none⟩ (.int .i64 M)).setCell ⟨w.heap.size+1,1,none⟩ (.bool T)).setCell ⟨w.heap.size+1,2,none⟩ (.slice O S c5)).setCell ⟨w.heap.size+1,3,none⟩ (.int .i64 a2)).setCell ⟨w.heap.size+1,4,none⟩ (.bool A)).setCell ⟨w.heap.size+1,5,none⟩ (.slice t u c2)=W9 at *; obtain ⟨v0,v1,v2,v3,v4,v5⟩:=hZ.k6; refine bodyPost_ret (v:=.agg #[.int .i64 M,.bool T,.slice O S c5,.int .i64 a2,.bool A,.slice t u c2]) ?_ rfl ⟨_,rfl,qn_mk Y Z,V⟩; simp [results,Tryz.results58,go_sem,v0,v1,v2,v3,v4,v5]
theorem l2Sign_any (z:Value) (x y:Int) (w:World) (h:IsQN 0 w z x y) :
 Calls Tryz.prog 56 #[z] w fun e w'=>e=.returned (.int .i64 (ordI x 0))∧Up w w':=by
 obtain ⟨a1,G,A,E,c1,a2,H,D,F,c2,rfl,I,O⟩:=h; have J:=Hd I; clear I O; obtain ⟨s,j⟩:=exW (w.alloc (.cells #[.int .i64 a1,.bool G,.slice A E c1,.int .i64 a2,.bool H,.slice D F c2] 51)); have u:=Hd j; have m:Hid (Up w s):=by unfold Hid; rw [← j]; exact below_alloc _ _
 have L:Hid (s.heap.size=w.heap.size+1):=by show s.heap.size=_; rw [← j]; simp
 have i:Bx s (w.heap.size) [.int .i64 a1,.bool G,.slice A E c1,.int .i64 a2,.bool H,.slice D F c2]:=by
  rw [← j]; exact bx_new w _ _
 have M:Hid (∀ W,Up s W→Bx W (w.heap.size) [.int .i64 a1,.bool G,.slice A E c1,.int .i64 a2,.bool H,.slice D F c2]):=fun W hW=>i.below i.lt hW; obtain ⟨Q,S,k2,k3,k4,T⟩:=i.k6; clear j i
 go_enter Tryz.func56,Tryz.ntmps56
 go_upto_region 1 with fail
 rw [u.o]
 go_wp2_with fail
 refine (l1Sign_any 0 _ x 1000 _ (Nat.zero_le _) (J.o.below m.o)).mono ?_; rintro e U ⟨rfl,t⟩; have K:=Hd (m.o.trans (t.mono m.o.size)); clear t
 go_wp2
 go_ret
 exact ⟨rfl,K.o⟩
theorem l2IntZ_any (w:World) :
 Calls Tryz.prog 54 #[.int .i64 0] w fun e w'=>∃ z,e=.returned z∧IsQN 0 w' z 0 1∧Up w w':=by
 obtain ⟨E,j⟩:=exW (w.alloc (.cells #[.int .i64 0,.bool false,.slice none 0 0,.int .i64 0,.bool false,.slice none 0 0] 51)); have U:=Hd j; have G:Hid (Up w E):=by unfold Hid; rw [← j]; exact below_alloc _ _
 have a8:Hid (E.heap.size=w.heap.size+1):=by show E.heap.size=_; rw [← j]; simp
 have i:Bx E (w.heap.size) [.int .i64 0,.bool false,.slice none 0 0,.int .i64 0,.bool false,.slice none 0 0]:=by
  rw [← j]; exact bx_new w _ _
 have I:Hid (∀ W,Up E W→Bx W (w.heap.size) [.int .i64 0,.bool false,.slice none 0 0,.int .i64 0,.bool false,.slice none 0 0]):=fun W hW=>i.below i.lt hW; clear j i
 go_enter Tryz.func54,Tryz.ntmps54
 go_upto_region 1 with fail
 rw [U.o]
 go_wp2_with fail
 refine (l1Small_any 0 _ (by decide) (by decide)).mono ?_; rintro e w1 ⟨z1,rfl,A,L⟩; obtain ⟨a1,S,J,O,c1,rfl⟩:=A.shape'; have V:=Hd (A.mono' (B':=0) (n':=1000) (Nat.zero_le _) (by decide)); have H:=Hd L; clear A L
 go_wp2_with fail
 refine (l1Small_any 1 _ (by decide) (by decide)).mono ?_; rintro e F ⟨z2,rfl,D,t⟩; obtain ⟨a2,T,K,Q,c2,rfl⟩:=D.shape'; have Y:=Hd (D.mono' (B':=0) (n':=1000) (Nat.zero_le _) (by decide)); have Z:=Hd (V.o.below t); have s:Hid (Up E F):=H.o.trans (t.mono H.o.size); clear D t; have u:=I.o F s.o; obtain ⟨r0,r1,r2,r3,r4,r5⟩:=u.k6; obtain ⟨b3,b4,b5,b6,b7,b8⟩:=u.f6; clear u
 go_wp2
 have M:=I.o F s.o; have m:NoInt F (w.heap.size):=noInt_of M (by simp); have HK:=keepsC6 F (w.heap.size) (.int .i64 a1) (.bool S) (.slice J O c1) (.int .i64 a2) (.bool T) (.slice K Q c2); have a5:=Z.o.keeps m m HK; have a6:=Y.o.keeps m m HK; have a3:=bs6 (G.o.trans (s.o.mono G.o.size)) w.heap.size (by omega) (.int .i64 a1) (.bool S) (.slice J O c1) (.int .i64 a2) (.bool T) (.slice K Q c2); have hZ:=M.s6 (.int .i64 a1) (.bool S) (.slice J O c1) (.int .i64 a2) (.bool T) (.slice K Q c2); generalize (((((F.setCell ⟨w.heap.size,0,none⟩ (.int .i64 a1)).setCell ⟨w.heap.size,1,none⟩ (.bool S)).setCell ⟨w.heap.size,2,none⟩ (.slice J O c1)).setCell ⟨w.heap.size,3,none⟩ (.int .i64 a2)).setCell ⟨w.heap.size,4,none⟩ (.bool T)).setCell ⟨w.heap.size,5,none⟩ (.slice K Q c2)=W9 at *; obtain ⟨v0,v1,v2,v3,v4,v5⟩:=hZ.k6; refine bodyPost_ret (v:=.agg #[.int .i64 a1,.bool S,.slice J O c1,.int .i64 a2,.bool T,.slice K Q c2]) ?_ rfl ⟨_,rfl,qn_mk a5 a6,a3⟩; simp [results,Tryz.results54,go_sem,v0,v1,v2,v3,v4,v5]
theorem l2Turn_any (z zf:Value) (x y f:Int) (w:World) (h:IsQN 0 w z x y) (hf:NumZ 0 w zf f 1000) (hlt:(x - f*y).natAbs<lb 1000) :
 Calls Tryz.prog 87 #[z,zf] w fun e w'=>∃ z',e=.returned z'∧IsQN 0 w' z' y (x - f*y)∧Up w w':=by
 obtain ⟨a1,U,M,S,c1,a2,F,D,E,c2,rfl,h1,h2⟩:=h; obtain ⟨L,V,O,T,c3,rfl⟩:=hf.shape'; have H1:=Hd h1; have H2:=Hd h2; have HF:=Hd hf; have b6:=Hd hlt; clear h1 h2 hf hlt; obtain ⟨A,m⟩:=exW (((w.alloc (.cells #[.int .i64 a1,.bool U,.slice M S c1,.int .i64 a2,.bool F,.slice D E c2] 51)).alloc (.cells #[.int .i64 L,.bool V,.slice O T c3] 49)).alloc (.cells #[.int .i64 0,.bool false,.slice none 0 0,.int .i64 0,.bool false,.slice none 0 0] 51)); have b9:=Hd m; have u:Hid (Up w A):=by unfold Hid; rw [← m]; exact below_al (below_al (below_alloc _ _) _) _
 have e0:Hid (A.heap.size=w.heap.size+3):=by show A.heap.size=_; rw [← m]; simp
 have i:Bx A (w.heap.size) [.int .i64 a1,.bool U,.slice M S c1,.int .i64 a2,.bool F,.slice D E c2]:=by
  rw [← m]; exact ((bx_new w _ _).alloc _).alloc _
 have j:Bx A (w.heap.size+1) [.int .i64 L,.bool V,.slice O T c3]:=by
  rw [← m]; have h:=bx_new (w.alloc (.cells #[.int .i64 a1,.bool U,.slice M S c1,.int .i64 a2,.bool F,.slice D E c2] 51)) [.int .i64 L,.bool V,.slice O T c3] 49; rw [World.size_alloc] at h; exact (h).alloc _
 have s:Bx A (w.heap.size+1+1) [.int .i64 0,.bool false,.slice none 0 0,.int .i64 0,.bool false,.slice none 0 0]:=by
  rw [← m]; have h:=bx_new ((w.alloc (.cells #[.int .i64 a1,.bool U,.slice M S c1,.int .i64 a2,.bool F,.slice D E c2] 51)).alloc (.cells #[.int .i64 L,.bool V,.slice O T c3] 49)) [.int .i64 0,.bool false,.slice none 0 0,.int .i64 0,.bool false,.slice none 0 0] 51; rw [World.size_alloc,World.size_alloc] at h; exact h
 have I:Hid (∀ W,Up A W→Bx W (w.heap.size) [.int .i64 a1,.bool U,.slice M S c1,.int .i64 a2,.bool F,.slice D E c2]∧Bx W (w.heap.size+1) [.int .i64 L,.bool V,.slice O T c3]∧Bx W (w.heap.size+1+1) [.int .i64 0,.bool false,.slice none 0 0,.int .i64 0,.bool false,.slice none 0 0]):=fun W hW=>⟨i.below i.lt hW,j.below j.lt hW,s.below s.lt hW⟩; have T1:Hid (∀ W,Up A W→Calls Tryz.prog 67 #[.agg #[.int .i64 L,.bool V,.slice O T c3],.agg #[.int .i64 a2,.bool F,.slice D E c2]] W (fun e w'=>∃ z,e=.returned z∧NumZ 0 w' z (f*y) 2000∧Up W w')):=fun W hW=>by
  refine (l1MulN_any 0 _ _ f y 1000 1000 W (Nat.zero_le _) ((HF.o.below u.o).below hW) ((H2.o.below u.o).below hW) (by omega) (by omega)).mono ?_; rintro e w' ⟨z,rfl,hz,J⟩; refine ⟨z,rfl,numZ_lt hz ?_,J⟩; rw [Int.natAbs_mul]; exact lb_mul 1000 1000 (numZ_val HF.o) (numZ_val H2.o)
 have T2:Hid (∀ W zp,Up A W→NumZ 0 W zp (f*y) 2000→Calls Tryz.prog 70 #[.agg #[.int .i64 a1,.bool U,.slice M S c1],zp] W (fun e w'=>∃ z,e=.returned z∧NumZ 0 w' z (x - f*y) 1000∧Up W w')):=fun W zp hW hz=>by
  refine (l1SubN_any _ _ x (f*y) 1000 2000 W ((H1.o.below u.o).below hW) hz (by omega) (by omega)).mono ?_; rintro e w' ⟨z,rfl,hz,J⟩; exact ⟨z,rfl,numZ_lt hz b6.o,J⟩
 obtain ⟨k0,k1,k2,k3,k4,k5⟩:=i.k6; obtain ⟨j0,j1,j2⟩:=j.k3; clear m i j s
 go_enter Tryz.func87,Tryz.ntmps87
 go_upto_region 1 with fail
 rw [b9.o]
 go_wp2_with fail
 go_region_held3 (fun W=>W.cell? ⟨w.heap.size,0,none⟩=some (.int .i64 a1)∧W.cell? ⟨w.heap.size,1,none⟩=some (.bool U)∧W.cell? ⟨w.heap.size,2,none⟩=some (.slice M S c1)∧W.cell? ⟨w.heap.size,3,none⟩=some (.int .i64 a2)∧W.cell? ⟨w.heap.size,4,none⟩=some (.bool F)∧W.cell? ⟨w.heap.size,5,none⟩=some (.slice D E c2)∧W.cell? ⟨w.heap.size+1,0,none⟩=some (.int .i64 L)∧W.cell? ⟨w.heap.size+1,1,none⟩=some (.bool V)∧W.cell? ⟨w.heap.size+1,2,none⟩=some (.slice O T c3)) (first
  | with_reducible assumption|with_reducible exact putS_9_6 (by with_reducible assumption) (w.heap.size+1+1) (by dsimp only; omega) _ _ _ _ _ _|go_keep) (first
  | (go_at_call 67
     refine (T1.o _ ?_).mono ?_
     ·exact (Below.refl _ A).drew
     rintro e b4 ⟨u1,rfl,Z,J⟩; have b7:=Hd Z; have H:Hid (Up A b4):=(Below.refl _ A).drew.trans J; have t:=I.o b4 H.o; have c9:=cc6_3 t.1 t.2.1; clear t; clear Z J)
  | (go_at_call 70
     refine (T2.o _ _ H.o b7.o).mono ?_; rintro e Y ⟨u2,rfl,Z,J⟩; have b8:=Hd Z; have G:Hid (Up A Y):=H.o.trans (J.mono H.o.size); obtain ⟨a5,n5,d5,l5,c5,rfl⟩:=Z.shape'; have t:=I.o Y G.o; have d8:=cc6_3 t.1 t.2.1; clear t; have Q:=(I.o Y G.o).2.2; obtain ⟨r0,r1,r2,r3,r4,r5⟩:=Q.k6; obtain ⟨e4,e5,e6,e7,e8,e9⟩:=Q.f6; clear Z J Q))
 all_goals
  try simp only [List.getElem_toArray,List.getElem_cons_succ,List.getElem_cons_zero,Act.put,List.setIfInBounds_toArray,List.set_cons_succ,List.set_cons_zero]
  go_wp2
  have a8:=(I.o Y G.o).2.2; have K:NoInt Y (w.heap.size+1+1):=noInt_of a8 (by simp); have HK:=keepsC6 Y (w.heap.size+1+1) (.int .i64 a2) (.bool F) (.slice D E c2) (.int .i64 a5) (.bool n5) (.slice d5 l5 c5); have c7:=((H2.o.below u.o).below G.o).keeps K K HK; have c8:=b8.o.keeps K K HK; have c6:=bs6 (u.o.trans (G.o.mono u.o.size)) (w.heap.size+1+1) (by omega) (.int .i64 a2) (.bool F) (.slice D E c2) (.int .i64 a5) (.bool n5) (.slice d5 l5 c5); have hZ:=a8.s6 (.int .i64 a2) (.bool F) (.slice D E c2) (.int .i64 a5) (.bool n5) (.slice d5 l5 c5); generalize (((((Y.setCell ⟨w.heap.size+1+1,0,none⟩ (.int .i64 a2)).setCell ⟨w.heap.size+1+1,1,none⟩ (.bool F)).setCell ⟨w.heap.size+1+1,2,none⟩ (.slice D E c2)).setCell ⟨w.heap.size+1+1,3,none⟩ (.int .i64 a5)).setCell ⟨w.heap.size+1+1,4,none⟩ (.bool n5)).setCell ⟨w.heap.size+1+1,5,none⟩ (.slice d5 l5 c5)=W9 at *; obtain ⟨v0,v1,v2,v3,v4,v5⟩:=hZ.k6; refine bodyPost_ret (v:=.agg #[.int .i64 a2,.bool F,.slice D E c2,.int .i64 a5,.bool n5,.slice d5 l5 c5]) ?_ rfl ⟨_,rfl,qn_mk c7 c8,c6⟩; simp [results,Tryz.results87,go_sem,v0,v1,v2,v3,v4,v5]
theorem l2EndOf_any (h o:Bool) (t:ByteArray) (k:Option Nat) (x y:Int) (w:World) (ht:t.size≤maxLen) (hk:IsCut t k) (hV:h=true→RatV t k x y) (hN:h=false→x=0∧y=1) :
 Calls Tryz.prog 25 #[.agg #[.bool h,.bool o,.string t]] w fun e w'=>∃ z,e=.returned z∧IsES w' z h (h&&o) x y∧Up w w':=by
 have HK:=Hd hk; have HV:=Hd hV; have HN:=Hd hN; clear hk hV hN; obtain ⟨L,s⟩:=exW ((w.alloc (.cells #[.bool h,.bool o,.string t] 24)).alloc (.cells #[.bool false,.bool false,.int .i64 0,.bool false,.slice none 0 0,.int .i64 0,.bool false,.slice none 0 0] 66)); have a5:=Hd s; have J:Hid (Up w L):=by unfold Hid; rw [← s]; exact below_al (below_alloc _ _) _
 have e2:Hid (L.heap.size=w.heap.size+2):=by show L.heap.size=_; rw [← s]; simp
 have j:Bx L (w.heap.size) [.bool h,.bool o,.string t]:=by
  rw [← s]; exact (bx_new w _ _).alloc _
 have m:Bx L (w.heap.size+1) [.bool false,.bool false,.int .i64 0,.bool false,.slice none 0 0,.int .i64 0,.bool false,.slice none 0 0]:=by
  rw [← s]; have h:=bx_new (w.alloc (.cells #[.bool h,.bool o,.string t] 24)) [.bool false,.bool false,.int .i64 0,.bool false,.slice none 0 0,.int .i64 0,.bool false,.slice none 0 0] 66; rw [World.size_alloc] at h; exact h
 have K:Hid (∀ W,Up L W→Bx W (w.heap.size) [.bool h,.bool o,.string t]∧Bx W (w.heap.size+1) [.bool false,.bool false,.int .i64 0,.bool false,.slice none 0 0,.int .i64 0,.bool false,.slice none 0 0]):=fun W hW=>⟨j.below j.lt hW,m.below m.lt hW⟩; obtain ⟨k0,k1,k2⟩:=j.k3; clear s j m; cases h
 ·obtain ⟨rfl,rfl⟩:=HN.o rfl
  go_enter Tryz.func25,Tryz.ntmps25
  go_upto_region 1 with fail
  rw [a5.o]
  go_wp2_with fail
  refine (l2IntZ_any _).mono ?_; rintro e w1 ⟨z,rfl,hz,T⟩; obtain ⟨a1,H,A,F,c1,a2,I,D,G,c2,rfl,h1,h2⟩:=hz; have H1:=Hd h1; have H2:=Hd h2; have a3:=Hd T; have U:=(K.o w1 T).2; obtain ⟨r0,r1,r2,r3,r4,r5,r6,r7⟩:=U.k8; obtain ⟨b6,b7,b8,b9,c6,c7,c8,c9⟩:=U.f8; clear h1 h2 T U
  go_wp2
  have E:=(K.o w1 a3.o).2; have i:NoInt w1 (w.heap.size+1):=noInt_of E (by simp); have u:=keepsC8 w1 (w.heap.size+1) (.bool false) (.bool false) (.int .i64 a1) (.bool H) (.slice A F c1) (.int .i64 a2) (.bool I) (.slice D G c2); have Q:=H1.o.keeps i i u; have S:=H2.o.keeps i i u; have O:=bs8 (J.o.trans (a3.o.mono J.o.size)) (w.heap.size+1) (by omega) (.bool false) (.bool false) (.int .i64 a1) (.bool H) (.slice A F c1) (.int .i64 a2) (.bool I) (.slice D G c2); have hZ:=E.s8 (.bool false) (.bool false) (.int .i64 a1) (.bool H) (.slice A F c1) (.int .i64 a2) (.bool I) (.slice D G c2); generalize (((((((w1.setCell ⟨w.heap.size+1,0,none⟩ (.bool false)).setCell ⟨w.heap.size+1,1,none⟩ (.bool false)).setCell ⟨w.heap.size+1,2,none⟩ (.int .i64 a1)).setCell ⟨w.heap.size+1,3,none⟩ (.bool H)).setCell ⟨w.heap.size+1,4,none⟩ (.slice A F c1)).setCell ⟨w.heap.size+1,5,none⟩ (.int .i64 a2)).setCell ⟨w.heap.size+1,6,none⟩ (.bool I)).setCell ⟨w.heap.size+1,7,none⟩ (.slice D G c2)=W9 at *; obtain ⟨v0,v1,v2,v3,v4,v5,v6,v7⟩:=hZ.k8; refine bodyPost_ret (v:=.agg #[.bool false,.bool false,.int .i64 a1,.bool H,.slice A F c1,.int .i64 a2,.bool I,.slice D G c2]) ?_ rfl ⟨_,rfl,⟨_,_,_,_,_,_,_,_,_,_,rfl,Q,S⟩,O⟩; simp [results,Tryz.results25,go_sem,v0,v1,v2,v3,v4,v5,v6,v7]
 go_enter Tryz.func25,Tryz.ntmps25
 go_upto_region 1 with fail
 rw [a5.o]
 go_wp2_with fail
 go_region_held3 (fun W=>W.cell? ⟨w.heap.size,0,none⟩=some (.bool true)∧W.cell? ⟨w.heap.size,1,none⟩=some (.bool o)∧W.cell? ⟨w.heap.size,2,none⟩=some (.string t)) (first
  | with_reducible assumption|with_reducible exact putS_3_8 (by with_reducible assumption) (w.heap.size+1) (by dsimp only; omega) _ _ _ _ _ _ _ _|go_keep) (first
  | (go_at_call 29
     refine (l2Read_any t k x y _ ht HK.o (HV.o (by first|rfl|trivial))).mono ?_; rintro e Z ⟨z,rfl,hz,hb⟩; have hz:=qn_zero hz; obtain ⟨a1,H,A,F,c1,a2,I,D,G,c2,rfl,h1,h2⟩:=hz; have H1:=Hd h1; have H2:=Hd h2; have M:Hid (Up L Z):=(Below.refl _ L).drew.trans hb; have V:=K.o Z M.o; have e5:=cc3 V.1; have Y:=V.2; obtain ⟨r0,r1,r2,r3,r4,r5,r6,r7⟩:=Y.k8; obtain ⟨b6,b7,b8,b9,c6,c7,c8,c9⟩:=Y.f8; clear h1 h2 hb V Y))
 all_goals
  try simp only [List.getElem_toArray,List.getElem_cons_succ,List.getElem_cons_zero,Act.put,List.setIfInBounds_toArray,List.set_cons_succ,List.set_cons_zero]
  go_wp2
  have E:=(K.o Z M.o).2; have i:NoInt Z (w.heap.size+1):=noInt_of E (by simp); have u:=keepsC8 Z (w.heap.size+1) (.bool true) (.bool o) (.int .i64 a1) (.bool H) (.slice A F c1) (.int .i64 a2) (.bool I) (.slice D G c2); have Q:=H1.o.keeps i i u; have S:=H2.o.keeps i i u; have O:=bs8 (J.o.trans (M.o.mono J.o.size)) (w.heap.size+1) (by omega) (.bool true) (.bool o) (.int .i64 a1) (.bool H) (.slice A F c1) (.int .i64 a2) (.bool I) (.slice D G c2); have hZ:=E.s8 (.bool true) (.bool o) (.int .i64 a1) (.bool H) (.slice A F c1) (.int .i64 a2) (.bool I) (.slice D G c2); generalize (((((((Z.setCell ⟨w.heap.size+1,0,none⟩ (.bool true)).setCell ⟨w.heap.size+1,1,none⟩ (.bool o)).setCell ⟨w.heap.size+1,2,none⟩ (.int .i64 a1)).setCell ⟨w.heap.size+1,3,none⟩ (.bool H)).setCell ⟨w.heap.size+1,4,none⟩ (.slice A F c1)).setCell ⟨w.heap.size+1,5,none⟩ (.int .i64 a2)).setCell ⟨w.heap.size+1,6,none⟩ (.bool I)).setCell ⟨w.heap.size+1,7,none⟩ (.slice D G c2)=W9 at *; obtain ⟨v0,v1,v2,v3,v4,v5,v6,v7⟩:=hZ.k8; refine bodyPost_ret (v:=.agg #[.bool true,.bool o,.int .i64 a1,.bool H,.slice A F c1,.int .i64 a2,.bool I,.slice D G c2]) ?_ rfl ⟨_,rfl,⟨_,_,_,_,_,_,_,_,_,_,rfl,Q,S⟩,O⟩; simp [results,Tryz.results25,go_sem,v0,v1,v2,v3,v4,v5,v6,v7]
theorem l2Empty_any (zl zh:Value) (h1 o1:Bool) (x1 y1:Int) (h2 o2:Bool) (x2 y2:Int) (w:World) (hl:IsES w zl h1 o1 x1 y1) (hh:IsES w zh h2 o2 x2 y2) :
 Calls Tryz.prog 26 #[zl,zh] w fun e w'=>e=.returned (.bool (NoneB h1 o1 x1 y1 h2 o2 x2 y2))∧Up w w':=by
 obtain ⟨a1,U,J,O,c1,a2,V,K,Q,c2,rfl,i1,i2⟩:=hl; obtain ⟨I,Y,L,S,c3,a4,Z,M,T,c4,rfl,i3,i4⟩:=hh; have H1:=Hd i1; have H2:=Hd i2; have H3:=Hd i3; have H4:=Hd i4; clear i1 i2 i3 i4; obtain ⟨G,s⟩:=exW ((w.alloc (.cells #[.bool h1,.bool o1,.int .i64 a1,.bool U,.slice J O c1,.int .i64 a2,.bool V,.slice K Q c2] 66)).alloc (.cells #[.bool h2,.bool o2,.int .i64 I,.bool Y,.slice L S c3,.int .i64 a4,.bool Z,.slice M T c4] 66)); have D:=Hd s; have m:Hid (Up w G):=by unfold Hid; rw [← s]; exact below_al (below_alloc _ _) _
 have b9:Hid (G.heap.size=w.heap.size+2):=by show G.heap.size=_; rw [← s]; simp
 have i:Bx G (w.heap.size) [.bool h1,.bool o1,.int .i64 a1,.bool U,.slice J O c1,.int .i64 a2,.bool V,.slice K Q c2]:=by
  rw [← s]; exact (bx_new w _ _).alloc _
 have j:Bx G (w.heap.size+1) [.bool h2,.bool o2,.int .i64 I,.bool Y,.slice L S c3,.int .i64 a4,.bool Z,.slice M T c4]:=by
  rw [← s]; have h:=bx_new (w.alloc (.cells #[.bool h1,.bool o1,.int .i64 a1,.bool U,.slice J O c1,.int .i64 a2,.bool V,.slice K Q c2] 66)) [.bool h2,.bool o2,.int .i64 I,.bool Y,.slice L S c3,.int .i64 a4,.bool Z,.slice M T c4] 66; rw [World.size_alloc] at h; exact h
 have a5:Hid (∀ W,Up G W→Bx W (w.heap.size) [.bool h1,.bool o1,.int .i64 a1,.bool U,.slice J O c1,.int .i64 a2,.bool V,.slice K Q c2]∧Bx W (w.heap.size+1) [.bool h2,.bool o2,.int .i64 I,.bool Y,.slice L S c3,.int .i64 a4,.bool Z,.slice M T c4]):=fun W hW=>⟨i.below i.lt hW,j.below j.lt hW⟩; obtain ⟨k0,k1,k2,k3,k4,k5,k6,k7⟩:=i.k8; obtain ⟨j0,j1,j2,j3,j4,j5,j6,j7⟩:=j.k8; clear s i j; cases h1
 ·go_enter Tryz.func26,Tryz.ntmps26
  go_upto_region 1 with fail
  rw [D.o]
  go_wp2
  go_ret
  exact ⟨rfl,m.o⟩
 cases h2
 ·go_enter Tryz.func26,Tryz.ntmps26
  go_upto_region 1 with fail
  rw [D.o]
  go_wp2
  go_ret
  exact ⟨rfl,m.o⟩
 go_enter Tryz.func26,Tryz.ntmps26
 go_upto_region 1 with fail
 rw [D.o]
 go_wp2_with fail
 refine (l2Cmp_any 0 _ _ x1 y1 x2 y2 _ (Nat.zero_le _) (qn_mk (H1.o.below m.o) (H2.o.below m.o)) (qn_mk (H3.o.below m.o) (H4.o.below m.o))).mono ?_; rintro e wa ⟨rfl,E⟩; have A:Hid (Up w wa):=m.o.trans (E.mono m.o.size); have F:=a5.o wa E; have t:=F.1; have u:=F.2; have m1:=t.cell 1; have q1:=u.cell 1; simp only [List.getElem?_cons_zero,List.getElem?_cons_succ] at m1 q1; have H:Hid (NoneB true o1 x1 y1 true o2 x2 y2=(decide (0<ordI (x1*y2) (x2*y1))||(decide (ordI (x1*y2) (x2*y1)=0)&&(o1||o2)))):=none_ord o1 o2 x1 y1 x2 y2; have h3:=ordI_three (x1*y2) (x2*y1); clear E F t u k0 j0 k1 j1 k2 j2 k3 j3 k4 j4 k5 j5 k6 j6 k7 j7; obtain ⟨r,hr⟩:=exW (ordI (x1*y2) (x2*y1)); rw [hr] at h3 H ⊢; clear hr
 rcases h3 with rfl|rfl|rfl
 ·go_wp2
  go_ret
  exact ⟨ret_bool (by rw [H.o]; rfl),A.o⟩
 ·cases o1<;>cases o2
  all_goals
   go_wp2
   go_ret
   exact ⟨ret_bool (by rw [H.o]; rfl),A.o⟩
 go_wp2
 go_ret
 exact ⟨ret_bool (by rw [H.o]; rfl),A.o⟩
end Go.Proofs.YtnhbmpnhijgpmaaGreatDoor
