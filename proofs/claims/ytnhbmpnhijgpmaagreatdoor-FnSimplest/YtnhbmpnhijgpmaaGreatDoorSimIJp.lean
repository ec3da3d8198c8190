import Derived.Test.YtnhbmpnhijgpmaaGreatDoorSimHp
import Derived.Test.YtnhbmpnhijgpmaaGreatDoorU4p
set_option maxRecDepth 100000
set_option maxHeartbeats 8000000
namespace Go.Proofs.YtnhbmpnhijgpmaaGreatDoor
open Go.ChangeShapes Go.WideShapes Go.ChangeAt Go.RowKit
theorem low_ord (o1:Bool) (x1:Int):(!lowOut true o1 x1)=(decide (ordI x1 0<0)||(decide (ordI x1 0=0)&&!o1)):=by
 unfold lowOut ordI
 rcases Int.lt_trichotomy x1 0 with h|h|h
 ·rw [if_pos h]; have a:¬ 0<x1:=by omega
  have b:x1≠0:=by omega
  simp [a,b]
 ·subst h; cases o1<;>simp
 rw [if_neg (by omega),if_pos h]; simp [h]
theorem high_ord (o2:Bool) (x2:Int):(!highOut true o2 x2)=(decide (0<ordI x2 0)||(decide (ordI x2 0=0)&&!o2)):=by
 unfold highOut ordI
 rcases Int.lt_trichotomy x2 0 with h|h|h
 ·rw [if_pos h]; simp [h]
 ·subst h; cases o2<;>simp
 rw [if_neg (by omega),if_pos h]; have a:¬ x2<0:=by omega
 have b:x2≠0:=by omega
 simp [a,b]
theorem putS_16_6 {W:World} {a0 a1 a2 a3 a4 a5 a6 a7 a8 a9 a10 a11 a12 a13 a14 a15:Addr} {v0 v1 v2 v3 v4 v5 v6 v7 v8 v9 v10 v11 v12 v13 v14 v15:Value} (m:W.cell? a0=some v0∧W.cell? a1=some v1∧W.cell? a2=some v2∧W.cell? a3=some v3∧W.cell? a4=some v4∧W.cell? a5=some v5∧W.cell? a6=some v6∧W.cell? a7=some v7∧W.cell? a8=some v8∧W.cell? a9=some v9∧W.cell? a10=some v10∧W.cell? a11=some v11∧W.cell? a12=some v12∧W.cell? a13=some v13∧W.cell? a14=some v14∧W.cell? a15=some v15) (g:Nat) (h:g≠a0.block∧g≠a1.block∧g≠a2.block∧g≠a3.block∧g≠a4.block∧g≠a5.block∧g≠a6.block∧g≠a7.block∧g≠a8.block∧g≠a9.block∧g≠a10.block∧g≠a11.block∧g≠a12.block∧g≠a13.block∧g≠a14.block∧g≠a15.block) (u0 u1 u2 u3 u4 u5:Value):((((((W.setCell ⟨g,0,none⟩ (u0)).setCell ⟨g,1,none⟩ (u1)).setCell ⟨g,2,none⟩ (u2)).setCell ⟨g,3,none⟩ (u3)).setCell ⟨g,4,none⟩ (u4)).setCell ⟨g,5,none⟩ (u5)).cell? a0=some v0∧((((((W.setCell ⟨g,0,none⟩ (u0)).setCell ⟨g,1,none⟩ (u1)).setCell ⟨g,2,none⟩ (u2)).setCell ⟨g,3,none⟩ (u3)).setCell ⟨g,4,none⟩ (u4)).setCell ⟨g,5,none⟩ (u5)).cell? a1=some v1∧((((((W.setCell ⟨g,0,none⟩ (u0)).setCell ⟨g,1,none⟩ (u1)).setCell ⟨g,2,none⟩ (u2)).setCell ⟨g,3,none⟩ (u3)).setCell ⟨g,4,none⟩ (u4)).setCell ⟨g,5,none⟩ (u5)).cell? a2=some v2∧((((((W.setCell ⟨g,0,none⟩ (u0)).setCell ⟨g,1,none⟩ (u1)).setCell ⟨g,2,none⟩ (u2)).setCell ⟨g,3,none⟩ (u3)).setCell ⟨g,4,none⟩ (u4)).setCell ⟨g,5,none⟩ (u5)).cell? a3=some v3∧((((((W.setCell ⟨g,0,none⟩ (u0)).setCell ⟨g,1,none⟩ (u1)).setCell ⟨g,2,none⟩ (u2)).setCell ⟨g,3,none⟩ (u3)).setCell ⟨g,4,none⟩ (u4)).setCell ⟨g,5,none⟩ (u5)).cell? a4=some v4∧((((((W.setCell ⟨g,0,none⟩ (u0)).setCell ⟨g,1,none⟩ (u1)).setCell ⟨g,2,none⟩ (u2)).setCell ⟨g,3,none⟩ (u3)).setCell ⟨g,4,none⟩ (u4)).setCell ⟨g,5,none⟩ (u5)).cell? a5=some v5∧((((((W.setCell ⟨g,0,none⟩ (u0)).setCell ⟨g,1,none⟩ (u1)).setCell ⟨g,2,none⟩ (u2)).setCell ⟨g,3,none⟩ (u3)).setCell ⟨g,4,none⟩ (u4)).setCell ⟨g,5,none⟩ (u5)).cell? a6=some v6∧((((((W.setCell ⟨g,0,none⟩ (u0)).setCell ⟨g,1,none⟩ (u1)).setCell ⟨g,2,none⟩ (u2)).setCell ⟨g,3,none⟩ (u3)).setCell ⟨g,4,none⟩ (u4)).setCell ⟨g,5,none⟩ (u5)).cell? a7=some v7∧((((((W.setCell ⟨g,0,none⟩ (u0)).setCell ⟨g,1,none⟩ (u1)).setCell ⟨g,2,none⟩ (u2)).setCell ⟨g,3,none⟩ (u3)).setCell ⟨g,4,none⟩ (u4)).setCell ⟨g,5,none⟩ (u5)).cell? a8=some v8∧((((((W.setCell ⟨g,0,none⟩ (u0)).setCell ⟨g,1,none⟩ (u1)).setCell ⟨g,2,none⟩ (u2)).setCell ⟨g,3,none⟩ (u3)).setCell ⟨g,4,none⟩ (u4)).setCell ⟨g,5,none⟩ (u5)).cell? a9=some v9∧((((((W.setCell ⟨g,0,none⟩ (u0)).setCell ⟨g,1,none⟩ (u1)).setCell ⟨g,2,none⟩ (u2)).setCell ⟨g,3,none⟩ (u3)).setCell ⟨g,4,none⟩ (u4)).setCell ⟨g,5,none⟩ (u5)).cell? a10=some v10∧((((((W.setCell ⟨g,0,none⟩ (u0)).setCell ⟨g,1,none⟩ (u1)).setCell ⟨g,2,none⟩ (u2)).setCell ⟨g,3,none⟩ (u3)).setCell ⟨g,4,none⟩ (u4)).setCell ⟨g,5,none⟩ (u5)).cell? a11=some v11∧((((((W.setCell ⟨g,0,none⟩ (u0)).setCell ⟨g,1,none⟩ (u1)).setCell ⟨g,2,none⟩ (u2)).setCell ⟨g,3,none⟩ (u3)).setCell ⟨g,4,none⟩ (u4)).setCell ⟨g,5,none⟩ (u5)).cell? a12=some v12∧((((((W.setCell ⟨g,0,none⟩ (u0)).setCell ⟨g,1,none⟩ (u1)).setCell ⟨g,2,none⟩ (u2)).setCell ⟨g,3,none⟩ (u3)).setCell ⟨g,4,none⟩ (u4)).setCell ⟨g,5,none⟩ (u5)).cell? a13=some v13∧((((((W.setCell ⟨g,0,none⟩ (u0)).setCell ⟨g,1,none⟩ (u1)).setCell ⟨g,2,none⟩ (u2)).setCell ⟨g,3,none⟩ (u3)).setCell ⟨g,4,none⟩ (u4)).setCell ⟨g,5,none⟩ (u5)).cell? a14=some v14∧((((((W.setCell ⟨g,0,none⟩ (u0)).setCell ⟨g,1,none⟩ (u1)).setCell ⟨g,2,none⟩ (u2)).setCell ⟨g,3,none⟩ (u3)).setCell ⟨g,4,none⟩ (u4)).setCell ⟨g,5,none⟩ (u5)).cell? a15=some v15:=
 ⟨cell_farC6 g m.1 h.1 _ _ _ _ _ _,cell_farC6 g m.2.1 h.2.1 _ _ _ _ _ _,cell_farC6 g m.2.2.1 h.2.2.1 _ _ _ _ _ _,cell_farC6 g m.2.2.2.1 h.2.2.2.1 _ _ _ _ _ _,cell_farC6 g m.2.2.2.2.1 h.2.2.2.2.1 _ _ _ _ _ _,cell_farC6 g m.2.2.2.2.2.1 h.2.2.2.2.2.1 _ _ _ _ _ _,cell_farC6 g m.2.2.2.2.2.2.1 h.2.2.2.2.2.2.1 _ _ _ _ _ _,cell_farC6 g m.2.2.2.2.2.2.2.1 h.2.2.2.2.2.2.2.1 _ _ _ _ _ _,cell_farC6 g m.2.2.2.2.2.2.2.2.1 h.2.2.2.2.2.2.2.2.1 _ _ _ _ _ _,cell_farC6 g m.2.2.2.2.2.2.2.2.2.1 h.2.2.2.2.2.2.2.2.2.1 _ _ _ _ _ _,cell_farC6 g m.2.2.2.2.2.2.2.2.2.2.1 h.2.2.2.2.2.2.2.2.2.2.1 _ _ _ _ _ _,cell_farC6 g m.2.2.2.2.2.2.2.2.2.2.2.1 h.2.2.2.2.2.2.2.2.2.2.2.1 _ _ _ _ _ _,cell_farC6 g m.2.2.2.2.2.2.2.2.2.2.2.2.1 h.2.2.2.2.2.2.2.2.2.2.2.2.1 _ _ _ _ _ _,cell_farC6 g m.2.2.2.2.2.2.2.2.2.2.2.2.2.1 h.2.2.2.2.2.2.2.2.2.2.2.2.2.1 _ _ _ _ _ _,cell_farC6 g m.2.2.2.2.2.2.2.2.2.2.2.2.2.2.1 h.2.2.2.2.2.2.2.2.2.2.2.2.2.2.1 _ _ _ _ _ _,cell_farC6 g m.2.2.2.2.2.2.2.2.2.2.2.2.2.2.2 h.2.2.2.2.2.2.2.2.2.2.2.2.2.2.2 _ _ _ _ _ _⟩
theorem l2Best_any (zl zh:Value) (h1 o1:Bool) (x1 y1:Int) (h2 o2:Bool) (x2 y2:Int) (w:World) (hl:IsES w zl h1 o1 x1 y1) (hh:IsES w zh h2 o2 x2 y2) (t:Two h1 o1 x1 y1 h2 o2 x2 y2)
 (hb:x1.natAbs<lb 281∧y1.natAbs<lb 281∧x2.natAbs<lb 281∧y2.natAbs<lb 281) :
 Calls Tryz.prog 28 #[zl,zh] w fun e w'=>∃ z p q,e=.returned z∧IsQN 0 w' z p q∧Best h1 o1 x1 y1 h2 o2 x2 y2 p q∧Up w w':=by
 obtain ⟨a1,n1,d1,l1,c1,a2,n2,d2,l2,c2,rfl,i1,i2⟩:=hl; obtain ⟨a3,n3,d3,l3,c3,a4,n4,d4,l4,c4,rfl,i3,i4⟩:=hh; have H1:=Hd i1; have H2:=Hd i2; have H3:=Hd i3; have H4:=Hd i4; have HT:=Hd t; have e8:=Hd hb; clear i1 i2 i3 i4 t hb; obtain ⟨W0,b9⟩:=exW (((w.alloc (.cells #[.bool h1,.bool o1,.int .i64 a1,.bool n1,.slice d1 l1 c1,.int .i64 a2,.bool n2,.slice d2 l2 c2] 66)).alloc (.cells #[.bool h2,.bool o2,.int .i64 a3,.bool n3,.slice d3 l3 c3,.int .i64 a4,.bool n4,.slice d4 l4 c4] 66)).alloc (.cells #[.int .i64 0,.bool false,.slice none 0 0,.int .i64 0,.bool false,.slice none 0 0] 51)); have w7:=Hd b9; have F:Hid (Up w W0):=by unfold Hid; rw [← b9]; exact below_al (below_al (below_alloc _ _) _) _
 have w6:Hid (W0.heap.size=w.heap.size+3):=by show W0.heap.size=_; rw [← b9]; simp
 have M:Bx W0 (w.heap.size) [.bool h1,.bool o1,.int .i64 a1,.bool n1,.slice d1 l1 c1,.int .i64 a2,.bool n2,.slice d2 l2 c2]:=by
  rw [← b9]; exact ((bx_new w _ _).alloc _).alloc _
 have e1:Bx W0 (w.heap.size+1) [.bool h2,.bool o2,.int .i64 a3,.bool n3,.slice d3 l3 c3,.int .i64 a4,.bool n4,.slice d4 l4 c4]:=by
  rw [← b9]; have h:=bx_new (w.alloc (.cells #[.bool h1,.bool o1,.int .i64 a1,.bool n1,.slice d1 l1 c1,.int .i64 a2,.bool n2,.slice d2 l2 c2] 66)) [.bool h2,.bool o2,.int .i64 a3,.bool n3,.slice d3 l3 c3,.int .i64 a4,.bool n4,.slice d4 l4 c4] 66; rw [World.size_alloc] at h; exact (h).alloc _
 have e2:Bx W0 (w.heap.size+1+1) [.int .i64 0,.bool false,.slice none 0 0,.int .i64 0,.bool false,.slice none 0 0]:=by
  rw [← b9]; have h:=bx_new ((w.alloc (.cells #[.bool h1,.bool o1,.int .i64 a1,.bool n1,.slice d1 l1 c1,.int .i64 a2,.bool n2,.slice d2 l2 c2] 66)).alloc (.cells #[.bool h2,.bool o2,.int .i64 a3,.bool n3,.slice d3 l3 c3,.int .i64 a4,.bool n4,.slice d4 l4 c4] 66)) [.int .i64 0,.bool false,.slice none 0 0,.int .i64 0,.bool false,.slice none 0 0] 51; rw [World.size_alloc,World.size_alloc] at h; exact h
 have D:Hid (∀ W,Up W0 W→Bx W (w.heap.size) [.bool h1,.bool o1,.int .i64 a1,.bool n1,.slice d1 l1 c1,.int .i64 a2,.bool n2,.slice d2 l2 c2]∧Bx W (w.heap.size+1) [.bool h2,.bool o2,.int .i64 a3,.bool n3,.slice d3 l3 c3,.int .i64 a4,.bool n4,.slice d4 l4 c4]∧Bx W (w.heap.size+1+1) [.int .i64 0,.bool false,.slice none 0 0,.int .i64 0,.bool false,.slice none 0 0]):=fun W hW=>⟨M.below M.lt hW,e1.below e1.lt hW,e2.below e2.lt hW⟩; obtain ⟨k0,k1,k2,k3,k4,k5,k6,k7⟩:=M.k8; clear b9 M e1 e2
 go_enter Tryz.func28,Tryz.ntmps28
 go_upto_region 1 with fail
 rw [w7.o]
 go_cut [5,42] (fun q5 q42 wx=>q5=.bool (!lowOut h1 o1 x1)∧q42=undef∧Up W0 wx)
 case first=>
  have f9:Hid (∀ W,Up W0 W→Bx W w.heap.size [.bool h1,.bool o1,.int .i64 a1,.bool n1,.slice d1 l1 c1,.int .i64 a2,.bool n2,.slice d2 l2 c2]):=fun W hW=>(D.o W hW).1; cases h1
  ·go_wp2_with fail
   go_meet
   exact ⟨rfl,rfl,Below.refl _ _⟩
  ·have TS:Hid (∀ W,Up W0 W→Calls Tryz.prog 56 #[.agg #[.int .i64 a1,.bool n1,.slice d1 l1 c1,.int .i64 a2,.bool n2,.slice d2 l2 c2]] W (fun e w'=>e=.returned (.int .i64 (ordI x1 0))∧Up W w')):=fun W hW=>l2Sign_any _ x1 y1 W (qn_mk ((H1.o.below F.o).below hW) ((H2.o.below F.o).below hW)); have HO:Hid ((!lowOut true o1 x1)=(decide (ordI x1 0<0)||(decide (ordI x1 0=0)&&!o1))):=low_ord o1 x1; have h3:=ordI_three x1 0; obtain ⟨r,hr⟩:=exW (ordI x1 0); rw [hr] at h3 HO TS; clear hr
   rcases h3 with rfl|rfl|rfl
   all_goals
    go_wp2_with fail
    refine (TS.o _ (Below.refl _ _)).mono ?_; rintro e wx ⟨rfl,I⟩; have K:=Hd I; have i:=f9.o wx I; obtain ⟨q0,q1,q2,q3,q4,q5,q6,q7⟩:=i.k8; clear I i
    go_wp2_with fail
    try (refine (TS.o _ K.o).mono ?_; rintro e wy ⟨rfl,g4⟩; have b8:Hid (Up W0 wy):=K.o.trans (g4.mono K.o.size); have i:=f9.o wy b8.o; have s0:=i.cell 0; have s1:=i.cell 1; have s2:=i.cell 2; have s3:=i.cell 3; have s4:=i.cell 4; have s5:=i.cell 5; have s6:=i.cell 6; have s7:=i.cell 7; simp only [List.getElem?_cons_zero,List.getElem?_cons_succ] at s0 s1 s2 s3 s4 s5 s6 s7; clear g4 i; go_wp2_with fail)
    go_meet
    first
     | exact ⟨by rw [HO.o]; rfl,rfl,b8.o⟩
     | exact ⟨by rw [HO.o]; rfl,rfl,K.o⟩
     | exact ⟨by rw [HO.o]; simp,rfl,b8.o⟩
 case rest=>
  obtain ⟨rfl,rfl,L⟩:=hcut; obtain ⟨wa,rfl⟩:∃ wa,wa=wc:=⟨_,rfl⟩; have e6:=Hd L; have o4:Hid (Up w wa):=F.o.trans (L.mono F.o.size); clear L k0 k1 k2 k3 k4 k5 k6 k7; have e4:=(D.o wa e6.o).2.1; obtain ⟨k0,k1,k2,k3,k4,k5,k6,k7⟩:=e4.k8; clear e4
  go_upto_region 2 with fail
  go_cut [6] (fun q6 wx=>q6=.bool (!highOut h2 o2 x2)∧Up wa wx)
  case first=>
   have f9:Hid (∀ W,Up wa W→Bx W (w.heap.size+1) [.bool h2,.bool o2,.int .i64 a3,.bool n3,.slice d3 l3 c3,.int .i64 a4,.bool n4,.slice d4 l4 c4]):=fun W hW=>(D.o W (e6.o.trans (hW.mono e6.o.size))).2.1; cases h2
   ·go_wp2_with fail
    go_meet
    exact ⟨rfl,Below.refl _ _⟩
   ·have TS:Hid (∀ W,Up wa W→Calls Tryz.prog 56 #[.agg #[.int .i64 a3,.bool n3,.slice d3 l3 c3,.int .i64 a4,.bool n4,.slice d4 l4 c4]] W (fun e w'=>e=.returned (.int .i64 (ordI x2 0))∧Up W w')):=fun W hW=>l2Sign_any _ x2 y2 W (qn_mk ((H3.o.below o4.o).below hW) ((H4.o.below o4.o).below hW)); have HO:Hid ((!highOut true o2 x2)=(decide (0<ordI x2 0)||(decide (ordI x2 0=0)&&!o2))):=high_ord o2 x2; have h3:=ordI_three x2 0; obtain ⟨r,hr⟩:=exW (ordI x2 0); rw [hr] at h3 HO TS; clear hr
    rcases h3 with rfl|rfl|rfl
    all_goals
     go_wp2_with fail
     refine (TS.o _ (Below.refl _ _)).mono ?_; rintro e wx ⟨rfl,I⟩; have K:=Hd I; have i:=f9.o wx I; obtain ⟨q0,q1,q2,q3,q4,q5,q6,q7⟩:=i.k8; clear I i
     go_wp2_with fail
     try (refine (TS.o _ K.o).mono ?_; rintro e wy ⟨rfl,g4⟩; have b8:Hid (Up wa wy):=K.o.trans (g4.mono K.o.size); have i:=f9.o wy b8.o; have s0:=i.cell 0; have s1:=i.cell 1; have s2:=i.cell 2; have s3:=i.cell 3; have s4:=i.cell 4; have s5:=i.cell 5; have s6:=i.cell 6; have s7:=i.cell 7; simp only [List.getElem?_cons_zero,List.getElem?_cons_succ] at s0 s1 s2 s3 s4 s5 s6 s7; clear g4 i; go_wp2_with fail)
     go_meet
     first
      | exact ⟨by rw [HO.o]; rfl,b8.o⟩
      | exact ⟨by rw [HO.o]; rfl,K.o⟩
      | exact ⟨by rw [HO.o]; simp,b8.o⟩
  case rest=>
   obtain ⟨rfl,L⟩:=hcut; obtain ⟨wb,rfl⟩:∃ wb,wb=wc:=⟨_,rfl⟩; have u:Hid (Up W0 wb):=e6.o.trans (L.mono e6.o.size); have O:Hid (Up w wb):=F.o.trans (u.o.mono F.o.size); clear L k0 k1 k2 k3 k4 k5 k6 k7; have e4:=D.o wb u.o; have p5:=e4.1; have p6:=e4.2.1; obtain ⟨k0,k1,k2,k3,k4,k5,k6,k7⟩:=p5.k8; obtain ⟨j0,j1,j2,j3,j4,j5,j6,j7⟩:=p6.k8; clear e4 p5 p6
   cases d0:lowOut h1 o1 x1
   ·cases g6:highOut h2 o2 x2
    ·have e7:Hid (Best h1 o1 x1 y1 h2 o2 x2 y2 0 1):=by
      unfold Hid
      unfold Best; rw [if_neg (by rw [d0]; decide),if_neg (by rw [g6]; decide)]; exact ⟨rfl,rfl⟩
     clear d0 g6
     go_wp2_with fail
     refine (l2IntZ_any _).mono ?_; rintro e J ⟨z,rfl,hz,Y⟩; obtain ⟨Q,n5,U,Z,c5,S,n6,V,l6,T,rfl,m,s⟩:=hz; have f5:=Hd m; have f7:=Hd s; have H:Hid (Up W0 J):=u.o.trans (Y.mono u.o.size); have j:=(D.o J H.o).2.2; clear Y m s k0 j0 k1 j1 k2 j2 k3 j3 k4 j4 k5 j5 k6 j6 k7 j7; obtain ⟨q0,q1,q2,q3,q4,q5⟩:=j.k6; obtain ⟨r4,r5,r6,r7,r8,r9⟩:=j.f6; clear j
     go_wp2
     have j:=(D.o J H.o).2.2; have A:NoInt J (w.heap.size+1+1):=noInt_of j (by simp); have HK:=keepsC6 J (w.heap.size+1+1) (.int .i64 Q) (.bool n5) (.slice U Z c5) (.int .i64 S) (.bool n6) (.slice V l6 T); have g1:=(f5.o).keeps A A HK; have g2:=(f7.o).keeps A A HK; have g0:=bs6 (F.o.trans (H.o.mono F.o.size)) (w.heap.size+1+1) (by omega) (.int .i64 Q) (.bool n5) (.slice U Z c5) (.int .i64 S) (.bool n6) (.slice V l6 T); have g3:=j.s6 (.int .i64 Q) (.bool n5) (.slice U Z c5) (.int .i64 S) (.bool n6) (.slice V l6 T); generalize (((((J.setCell ⟨w.heap.size+1+1,0,none⟩ (.int .i64 Q)).setCell ⟨w.heap.size+1+1,1,none⟩ (.bool n5)).setCell ⟨w.heap.size+1+1,2,none⟩ (.slice U Z c5)).setCell ⟨w.heap.size+1+1,3,none⟩ (.int .i64 S)).setCell ⟨w.heap.size+1+1,4,none⟩ (.bool n6)).setCell ⟨w.heap.size+1+1,5,none⟩ (.slice V l6 T)=W9 at *; obtain ⟨v0,v1,v2,v3,v4,v5⟩:=g3.k6; refine bodyPost_ret (v:=.agg #[.int .i64 Q,.bool n5,.slice U Z c5,.int .i64 S,.bool n6,.slice V l6 T]) ?_ rfl ⟨_,_,_,rfl,qn_mk g1 g2,e7.o,g0⟩; simp [results,Tryz.results28,go_sem,v0,v1,v2,v3,v4,v5]
    ·have e0:=HT.o.mirror.low (by rw [← high_low]; exact g6); have y7:=e0.1; have HE:=Hd e0.2; have e7:Hid (∀ p q,Sim o2 (-x2) y2 h1 o1 (-x1) y1 p q→Best h1 o1 x1 y1 h2 o2 x2 y2 (-p) q):=fun p q hs=>by
      unfold Best; rw [if_neg (by rw [d0]; decide),if_pos g6]; exact ⟨p,rfl,hs⟩
     subst y7; have TA:Hid (∀ W,Up wb W→Calls Tryz.prog 58 #[.agg #[.int .i64 a3,.bool n3,.slice d3 l3 c3,.int .i64 a4,.bool n4,.slice d4 l4 c4]] W (fun e w'=>∃ z',e=.returned z'∧IsQN 0 w' z' (-x2) y2∧Up W w')):=fun W hW=>l2Minus_any _ x2 y2 W (qn_mk ((H3.o.below O.o).below hW) ((H4.o.below O.o).below hW)); have TB:Hid (∀ W,Up wb W→Calls Tryz.prog 58 #[.agg #[.int .i64 a1,.bool n1,.slice d1 l1 c1,.int .i64 a2,.bool n2,.slice d2 l2 c2]] W (fun e w'=>∃ z',e=.returned z'∧IsQN 0 w' z' (-x1) y1∧Up W w')):=fun W hW=>l2Minus_any _ x1 y1 W (qn_mk ((H1.o.below O.o).below hW) ((H2.o.below O.o).below hW)); have TC:Hid (∀ W za zb,Up wb W→IsES W za true o2 (-x2) y2→IsES W zb h1 o1 (-x1) y1→Calls Tryz.prog 57 #[za,zb] W (fun e w'=>∃ z p q,e=.returned z∧IsQN 0 w' z p q∧Sim o2 (-x2) y2 h1 o1 (-x1) y1 p q∧Up W w')):=fun W za zb hW ha hb=>
      l2Simple_any _ o2 (-x2) y2 h1 o1 (-x1) y1 za zb W leR ha hb HE.o ⟨by rw [Int.natAbs_neg]; exact e8.o.2.2.1,e8.o.2.2.2,by rw [Int.natAbs_neg]; exact e8.o.1,e8.o.2.1⟩
     have C9:w.heap.size+2<wb.heap.size:=by have:=u.o.size; have:=w6.o; omega
     clear d0 g6 e0
     go_upto_region 6 with fail
     go_cut [7] (fun q7 wx=>∃ (gb:Nat) (a7:Int) (n7:Bool) (d7:Option Addr) (l7 c7:Nat) (a8:Int) (n8:Bool) (d8:Option Addr) (l8 c8:Nat) (p q:Int),q7=.pointer (some ⟨gb,0,none⟩)∧wb.heap.size≤gb∧Bx wx gb [.int .i64 a7,.bool n7,.slice d7 l7 c7,.int .i64 a8,.bool n8,.slice d8 l8 c8]∧NumZ 0 wx (.agg #[.int .i64 a7,.bool n7,.slice d7 l7 c7]) (p) 1000∧NumZ 0 wx (.agg #[.int .i64 a8,.bool n8,.slice d8 l8 c8]) (q) 1000∧Sim o2 (-x2) y2 h1 o1 (-x1) y1 p q∧Up wb wx)
     case first=>
      go_wp2_with fail
      go_region_held3 (fun W=>W.cell? ⟨w.heap.size,0,none⟩=some (.bool h1)∧W.cell? ⟨w.heap.size,1,none⟩=some (.bool o1)∧W.cell? ⟨w.heap.size,2,none⟩=some (.int .i64 a1)∧W.cell? ⟨w.heap.size,3,none⟩=some (.bool n1)∧W.cell? ⟨w.heap.size,4,none⟩=some (.slice d1 l1 c1)∧W.cell? ⟨w.heap.size,5,none⟩=some (.int .i64 a2)∧W.cell? ⟨w.heap.size,6,none⟩=some (.bool n2)∧W.cell? ⟨w.heap.size,7,none⟩=some (.slice d2 l2 c2)∧W.cell? ⟨w.heap.size+1,0,none⟩=some (.bool true)∧W.cell? ⟨w.heap.size+1,1,none⟩=some (.bool o2)∧W.cell? ⟨w.heap.size+1,2,none⟩=some (.int .i64 a3)∧W.cell? ⟨w.heap.size+1,3,none⟩=some (.bool n3)∧W.cell? ⟨w.heap.size+1,4,none⟩=some (.slice d3 l3 c3)∧W.cell? ⟨w.heap.size+1,5,none⟩=some (.int .i64 a4)∧W.cell? ⟨w.heap.size+1,6,none⟩=some (.bool n4)∧W.cell? ⟨w.heap.size+1,7,none⟩=some (.slice d4 l4 c4)) (first
       | with_reducible assumption|with_reducible exact putS_16_6 (by with_reducible assumption) _ (by dsimp only; omega) _ _ _ _ _ _|go_keep) (first
       | (go_at_call_of 58 (Value.slice d3 l3 c3)
          refine (TA.o _ ?_).mono ?_
          ·repeat' (first|exact Below.refl _ _|refine Below.drew ?_|refine Below.alloc ?_ ?_ _|assumption|(simp; done)|(simp; omega))
          rintro e e5 ⟨u1,rfl,hu,hb⟩; obtain ⟨a9,n9,d9,l9,c9,p2,r3,p4,q9,p3,rfl,m,s⟩:=hu; have o7:Hid (IsES e5 (.agg #[.bool true,.bool o2,.int .i64 a9,.bool n9,.slice d9 l9 c9,.int .i64 p2,.bool r3,.slice p4 q9 p3]) true o2 (-x2) y2):=⟨_,_,_,_,_,_,_,_,_,_,rfl,m,s⟩; have h7:Hid (Up wb e5):=by
           unfold Hid
           refine Below.trans ?_ (hb.mono ?_)
           ·repeat' (first|exact Below.refl _ _|refine Below.drew ?_|refine Below.alloc ?_ ?_ _|assumption|(simp; done)|(simp; omega))
           ·simp
          have w0:=Hd (fun (gg:Nat) (l:List Value) (hx:Bx _ gg l)=>hx.below hx.lt hb); have p9:=h7.o.size
          try (have hnb:Bx e5 wb.heap.size [.int .i64 0,.bool false,.slice none 0 0,.int .i64 0,.bool false,.slice none 0 0]:=by with_reducible exact w0.o _ _ (bx_newD _ _ _))
          try have w1:=Hd hnb
          try clear hnb
          have G:=D.o e5 (u.o.trans (h7.o.mono u.o.size)); have y4:=cc8_8 G.1 G.2.1; clear G; clear m s hb)
       | (go_at_call_of 58 (Value.slice d1 l1 c1)
          refine (TB.o _ ?_).mono ?_
          ·repeat' (first|exact h7.o|refine Below.drew ?_|refine Below.alloc ?_ ?_ _|assumption|(simp; done)|(simp; omega))
          rintro e b6 ⟨u2,rfl,hu,hb⟩; obtain ⟨w8,A1,x4,z9,x0,w9,A2,x5,A0,x3,rfl,m,s⟩:=hu; have o8:Hid (IsES b6 (.agg #[.bool h1,.bool o1,.int .i64 w8,.bool A1,.slice x4 z9 x0,.int .i64 w9,.bool A2,.slice x5 A0 x3]) h1 o1 (-x1) y1):=⟨_,_,_,_,_,_,_,_,_,_,rfl,m,s⟩; have p1:Hid (IsES b6 (.agg #[.bool true,.bool o2,.int .i64 a9,.bool n9,.slice d9 l9 c9,.int .i64 p2,.bool r3,.slice p4 q9 p3]) true o2 (-x2) y2):=by
           show IsES b6 _ true o2 (-x2) y2
           first|exact o7.o.below hb|exact (o7.o.below (below_alloc _ _)).below hb
          have h8:Hid (Up wb b6):=by
           unfold Hid
           refine Below.trans ?_ (hb.mono ?_)
           ·repeat' (first|exact h7.o|refine Below.drew ?_|refine Below.alloc ?_ ?_ _|assumption|(simp; done)|(simp; omega))
           ·first|exact p9|(simp; omega)
          have o5:=Hd (fun (gg:Nat) (l:List Value) (hx:Bx _ gg l)=>hx.below hx.lt hb); have q8:=h8.o.size
          try (have hnb:Bx b6 wb.heap.size [.int .i64 0,.bool false,.slice none 0 0,.int .i64 0,.bool false,.slice none 0 0]:=by with_reducible exact o5.o _ _ w1.o)
          try (have hnb:Bx b6 e5.heap.size [.int .i64 0,.bool false,.slice none 0 0,.int .i64 0,.bool false,.slice none 0 0]:=by with_reducible exact o5.o _ _ (bx_new _ _ _))
          try have o6:=Hd hnb
          try clear hnb
          have G:=D.o b6 (u.o.trans (h8.o.mono u.o.size)); have y5:=cc8_8 G.1 G.2.1; clear G; clear m s hb)
       | (go_at_call 57
          refine (TC.o _ _ _ ?_ ?_ ?_).mono ?_
          ·repeat' (first|exact h8.o|refine Below.drew ?_|refine Below.alloc ?_ ?_ _|assumption|(simp; done)|(simp; omega))
          ·first|exact p1.o|exact p1.o.below (below_alloc _ _)
          ·first|exact o8.o|exact o8.o.below (below_alloc _ _)
          rintro e wm ⟨u3,p,q,rfl,hu,E,hb⟩; obtain ⟨a7,n7,d7,l7,c7,a8,n8,d8,l8,c8,rfl,m,s⟩:=hu; have o9:=Hd m; have p0:=Hd s; have e3:=Hd E; have e9:Hid (Up wb wm):=by
           unfold Hid
           refine Below.trans ?_ (hb.mono ?_)
           ·repeat' (first|exact h8.o|refine Below.drew ?_|refine Below.alloc ?_ ?_ _|assumption|(simp; done)|(simp; omega))
           ·first|exact q8|(simp; omega)
          have m7:=Hd (fun (gg:Nat) (l:List Value) (hx:Bx _ gg l)=>hx.below hx.lt hb); have y9:=e9.o.size
          try (have hnb:Bx wm wb.heap.size [.int .i64 0,.bool false,.slice none 0 0,.int .i64 0,.bool false,.slice none 0 0]:=by with_reducible exact m7.o _ _ o6.o)
          try (have hnb:Bx wm e5.heap.size [.int .i64 0,.bool false,.slice none 0 0,.int .i64 0,.bool false,.slice none 0 0]:=by with_reducible exact m7.o _ _ o6.o)
          try (have hnb:Bx wm b6.heap.size [.int .i64 0,.bool false,.slice none 0 0,.int .i64 0,.bool false,.slice none 0 0]:=by with_reducible exact m7.o _ _ (bx_new _ _ _))
          try (have x6:=hnb.cell 0; have B1:=hnb.frozen 0; have x7:=hnb.cell 1; have B2:=hnb.frozen 1; have x8:=hnb.cell 2; have B3:=hnb.frozen 2; have x9:=hnb.cell 3; have B4:=hnb.frozen 3; have y0:=hnb.cell 4; have B5:=hnb.frozen 4; have y3:=hnb.cell 5; have B6:=hnb.frozen 5; simp only [List.getElem?_cons_zero,List.getElem?_cons_succ] at x6 x7 x8 x9 y0 y3)
          try have w2:=Hd hnb
          try clear hnb
          have G:=D.o wm (u.o.trans (e9.o.mono u.o.size)); have B7:=cc8_8 G.1 G.2.1; clear G; clear m s E hb))
      all_goals
       go_wp2_with fail
       go_meet
       first
        | (have hnb:=w2.o; exact ⟨_,a7,n7,d7,l7,c7,a8,n8,d8,l8,c8,p,q,rfl,(by first|exact leR|exact p9|exact q8),((((((hnb.set 0 (.int .i64 a7)).set 1 (.bool n7)).set 2 (.slice d7 l7 c7)).set 3 (.int .i64 a8)).set 4 (.bool n8)).set 5 (.slice d8 l8 c8)),o9.o.keeps (noInt_of hnb (by simp)) (noInt_of hnb (by simp)) (keepsC6 wm _ _ _ _ _ _ _),p0.o.keeps (noInt_of hnb (by simp)) (noInt_of hnb (by simp)) (keepsC6 wm _ _ _ _ _ _ _),e3.o,(((((e9.o.setCell (by dsimp only; omega) _).setCell (by dsimp only; omega) _).setCell (by dsimp only; omega) _).setCell (by dsimp only; omega) _).setCell (by dsimp only; omega) _).setCell (by dsimp only; omega) _⟩)
        | exact ⟨wm.heap.size,a7,n7,d7,l7,c7,a8,n8,d8,l8,c8,p,q,rfl,y9,bx_new wm _ _,o9.o.below (below_alloc _ _),p0.o.below (below_alloc _ _),e3.o,e9.o.alloc e9.o.size _⟩
     case rest=>
      obtain ⟨gb,a7,n7,d7,l7,c7,a8,n8,d8,l8,c8,p,q,rfl,C7,I,m,s,E,L⟩:=hcut; obtain ⟨wg,rfl⟩:∃ wg,wg=wc:=⟨_,rfl⟩; have f5:=Hd m; have f7:=Hd s; have e3:=Hd E; have H:Hid (Up W0 wg):=u.o.trans (L.mono u.o.size); clear m s E L k0 j0 k1 j1 k2 j2 k3 j3 k4 j4 k5 j5 k6 j6 k7 j7; obtain ⟨m0,m1,m2,m3,m4,m5⟩:=I.k6; clear I
      go_wp2_with fail
      refine (l2Minus_any _ p q _ (qn_mk f5.o f7.o)).mono ?_; rintro e J ⟨z,rfl,hz,Y⟩; obtain ⟨Q,n5,U,Z,c5,S,n6,V,l6,T,rfl,m,s⟩:=hz; have w4:=Hd m; have w5:=Hd s; have m6:Hid (Up W0 J):=H.o.trans (Y.mono H.o.size); have j:=(D.o J m6.o).2.2; clear Y m s m0 m1 m2 m3 m4 m5; obtain ⟨q0,q1,q2,q3,q4,q5⟩:=j.k6; obtain ⟨r4,r5,r6,r7,r8,r9⟩:=j.f6; clear j
      go_wp2
      have j:=(D.o J m6.o).2.2; have A:NoInt J (w.heap.size+1+1):=noInt_of j (by simp); have HK:=keepsC6 J (w.heap.size+1+1) (.int .i64 Q) (.bool n5) (.slice U Z c5) (.int .i64 S) (.bool n6) (.slice V l6 T); have g1:=(w4.o).keeps A A HK; have g2:=(w5.o).keeps A A HK; have g0:=bs6 (F.o.trans (m6.o.mono F.o.size)) (w.heap.size+1+1) (by omega) (.int .i64 Q) (.bool n5) (.slice U Z c5) (.int .i64 S) (.bool n6) (.slice V l6 T); have g3:=j.s6 (.int .i64 Q) (.bool n5) (.slice U Z c5) (.int .i64 S) (.bool n6) (.slice V l6 T); generalize (((((J.setCell ⟨w.heap.size+1+1,0,none⟩ (.int .i64 Q)).setCell ⟨w.heap.size+1+1,1,none⟩ (.bool n5)).setCell ⟨w.heap.size+1+1,2,none⟩ (.slice U Z c5)).setCell ⟨w.heap.size+1+1,3,none⟩ (.int .i64 S)).setCell ⟨w.heap.size+1+1,4,none⟩ (.bool n6)).setCell ⟨w.heap.size+1+1,5,none⟩ (.slice V l6 T)=W9 at *; obtain ⟨v0,v1,v2,v3,v4,v5⟩:=g3.k6; refine bodyPost_ret (v:=.agg #[.int .i64 Q,.bool n5,.slice U Z c5,.int .i64 S,.bool n6,.slice V l6 T]) ?_ rfl ⟨_,_,_,rfl,qn_mk g1 g2,e7.o _ _ e3.o,g0⟩; simp [results,Tryz.results28,go_sem,v0,v1,v2,v3,v4,v5]
   ·have e0:=HT.o.low d0; have y6:=e0.1; have HE:=Hd e0.2; have e7:Hid (∀ p q,Sim o1 x1 y1 h2 o2 x2 y2 p q→Best h1 o1 x1 y1 h2 o2 x2 y2 p q):=fun p q hs=>by
     unfold Best; rw [if_pos d0]; exact hs
    subst y6; clear d0 e0
    go_wp2_with fail
    refine (l2Simple_any _ o1 x1 y1 h2 o2 x2 y2 _ _ wb leR ⟨_,_,_,_,_,_,_,_,_,_,rfl,H1.o.below O.o,H2.o.below O.o⟩ ⟨_,_,_,_,_,_,_,_,_,_,rfl,H3.o.below O.o,H4.o.below O.o⟩ HE.o e8.o).mono ?_; rintro e J ⟨z,p,q,rfl,hq,E,Y⟩; obtain ⟨Q,n5,U,Z,c5,S,n6,V,l6,T,rfl,m,s⟩:=hq; have f5:=Hd m; have f7:=Hd s; have e3:=Hd E; have H:Hid (Up W0 J):=u.o.trans (Y.mono u.o.size); have j:=(D.o J H.o).2.2; clear Y m s E k0 j0 k1 j1 k2 j2 k3 j3 k4 j4 k5 j5 k6 j6 k7 j7; obtain ⟨q0,q1,q2,q3,q4,q5⟩:=j.k6; obtain ⟨r4,r5,r6,r7,r8,r9⟩:=j.f6; clear j
    go_wp2
    have j:=(D.o J H.o).2.2; have A:NoInt J (w.heap.size+1+1):=noInt_of j (by simp); have HK:=keepsC6 J (w.heap.size+1+1) (.int .i64 Q) (.bool n5) (.slice U Z c5) (.int .i64 S) (.bool n6) (.slice V l6 T); have g1:=(f5.o).keeps A A HK; have g2:=(f7.o).keeps A A HK; have g0:=bs6 (F.o.trans (H.o.mono F.o.size)) (w.heap.size+1+1) (by omega) (.int .i64 Q) (.bool n5) (.slice U Z c5) (.int .i64 S) (.bool n6) (.slice V l6 T); have g3:=j.s6 (.int .i64 Q) (.bool n5) (.slice U Z c5) (.int .i64 S) (.bool n6) (.slice V l6 T); generalize (((((J.setCell ⟨w.heap.size+1+1,0,none⟩ (.int .i64 Q)).setCell ⟨w.heap.size+1+1,1,none⟩ (.bool n5)).setCell ⟨w.heap.size+1+1,2,none⟩ (.slice U Z c5)).setCell ⟨w.heap.size+1+1,3,none⟩ (.int .i64 S)).setCell ⟨w.heap.size+1+1,4,none⟩ (.bool n6)).setCell ⟨w.heap.size+1+1,5,none⟩ (.slice V l6 T)=W9 at *; obtain ⟨v0,v1,v2,v3,v4,v5⟩:=g3.k6; refine bodyPost_ret (v:=.agg #[.int .i64 Q,.bool n5,.slice U Z c5,.int .i64 S,.bool n6,.slice V l6 T]) ?_ rfl ⟨_,_,_,rfl,qn_mk g1 g2,e7.o _ _ e3.o,g0⟩; simp [results,Tryz.results28,go_sem,v0,v1,v2,v3,v4,v5]
def OkE (h:Bool) (t:ByteArray) (k:Option Nat):Prop:=h=true→∃ x y,RatV t k x y
theorem okE_ends {h:Bool} {t:ByteArray} {k:Option Nat} (a:OkE h t k):∃ x y x' y',(h=true→RatV t k x y)∧(h=false→x=0∧y=1)∧RdE h t k x' y'∧(h=true→x=x'∧y=y')∧x.natAbs<lb 281∧y.natAbs<lb 281∧(h=true→0<y∧Int.gcd x y=1):=by
 cases h with
 | false=>
   have m:(0:Int).natAbs<lb 281:=Nat.lt_of_lt_of_le (by decide) (Nat.le_of_lt (lb_one 281 (by decide))); exact ⟨0,1,0,0,fun e=>(by cases e),fun _=>⟨rfl,rfl⟩,⟨rfl,rfl⟩,fun e=>(by cases e),m,lb_one 281 (by decide),fun e=>(by cases e)⟩
 | true=>
   obtain ⟨x,y,i⟩:=a rfl; have j:RdE true t k x y:=i; have hl:=j.lt; exact ⟨x,y,x,y,fun _=>i,fun e=>(by cases e),j,fun _=>⟨rfl,rfl⟩,hl.1,hl.2.1,hl.2.2⟩
theorem none_irrel {h1 o1:Bool} {x1 y1:Int} {h2 o2:Bool} {x2 y2 x1' y1' x2' y2':Int} (e1:h1=true→x1=x1'∧y1=y1') (e2:h2=true→x2=x2'∧y2=y2'):NoneB h1 o1 x1 y1 h2 o2 x2 y2=NoneB h1 o1 x1' y1' h2 o2 x2' y2':=by
 unfold NoneB
 cases h1 with
 | false=>rfl
 | true=>
   cases h2 with
   | false=>rfl
   | true=>rw [(e1 rfl).1,(e1 rfl).2,(e2 rfl).1,(e2 rfl).2]
theorem specSimplest_any (h1 o1:Bool) (t1:ByteArray) (h2 o2:Bool) (t2:ByteArray) (w:World) (ht1:t1.size≤maxLen) (ht2:t2.size≤maxLen) :
 Calls Tryz.prog 7 #[.agg #[.bool h1,.bool o1,.string t1],.agg #[.bool h2,.bool o2,.string t2]] w fun e w'=>∃ u,e=.returned (.string u)∧ResS h1 o1 t1 h2 o2 t2 u∧Up w w':=by
 obtain ⟨H,i6⟩:=isCut_ex t1; obtain ⟨I,i7⟩:=isCut_ex t2; have L:=Hd i6; have M:=Hd i7; clear i6 i7; obtain ⟨W0,J⟩:=exW ((w.alloc (.cells #[.bool h1,.bool o1,.string t1] 24)).alloc (.cells #[.bool h2,.bool o2,.string t2] 24)); have m9:=Hd J; have b7:Hid (Up w W0):=by unfold Hid; rw [← J]; exact below_al (below_alloc _ _) _
 have s5:Hid (W0.heap.size=w.heap.size+2):=by show W0.heap.size=_; rw [← J]; simp
 have s:Bx W0 (w.heap.size) [.bool h1,.bool o1,.string t1]:=by
  rw [← J]; exact (bx_new w _ _).alloc _
 have t:Bx W0 (w.heap.size+1) [.bool h2,.bool o2,.string t2]:=by
  rw [← J]; have h:=bx_new (w.alloc (.cells #[.bool h1,.bool o1,.string t1] 24)) [.bool h2,.bool o2,.string t2] 24; rw [World.size_alloc] at h; exact h
 have e4:Hid (∀ W,Up W0 W→Bx W (w.heap.size) [.bool h1,.bool o1,.string t1]∧Bx W (w.heap.size+1) [.bool h2,.bool o2,.string t2]):=fun W hW=>⟨s.below s.lt hW,t.below t.lt hW⟩; obtain ⟨k0,k1,k2⟩:=s.k3; obtain ⟨j0,j1,j2⟩:=t.k3; clear J s t
 go_enter Tryz.func7,Tryz.ntmps7
 go_upto_region 1 with fail
 rw [m9.o]
 go_cut [24] (fun q24 wx=>∃ bad,q24=.bool bad∧(bad=true→¬ OkE h1 t1 H∨¬ OkE h2 t2 I)∧(bad=false→OkE h1 t1 H∧OkE h2 t2 I)∧Up W0 wx)
 case first=>
  have n9:Hid (∀ W,Calls Tryz.prog 15 #[.string t1] W (fun e w'=>∃ b,e=.returned (.bool b)∧(b=true↔∃ x y,RatV t1 H x y)∧Up W w')):=fun W=>by
   refine (specIsRat_any t1 W ht1).mono ?_; rintro e w' ⟨b,rfl,⟨k,hk,hi⟩,hb⟩; obtain rfl:=isCut_unique hk L.o; exact ⟨b,rfl,hi,hb⟩
  have i1:Hid (∀ W,Calls Tryz.prog 15 #[.string t2] W (fun e w'=>∃ b,e=.returned (.bool b)∧(b=true↔∃ x y,RatV t2 I x y)∧Up W w')):=fun W=>by
   refine (specIsRat_any t2 W ht2).mono ?_; rintro e w' ⟨b,rfl,⟨k,hk,hi⟩,hb⟩; obtain rfl:=isCut_unique hk M.o; exact ⟨b,rfl,hi,hb⟩
  cases h1
  ·cases h2
   ·go_wp2_with fail
    go_meet
    exact ⟨false,rfl,fun e=>(by cases e),fun _=>⟨fun e=>(by cases e),fun e=>(by cases e)⟩,Below.refl _ _⟩
   ·go_wp2_with fail
    refine (i1.o _).mono ?_; rintro e wx ⟨b,rfl,hi,hb⟩; have HI:=Hd hi; have E:=Hd hb; clear hi hb
    cases b
    ·go_wp2_with fail
     go_meet
     exact ⟨true,rfl,fun _=>.inr fun h=>(Bool.noConfusion (HI.o.2 (h rfl)):False),fun e=>(by cases e),E.o⟩
    ·go_wp2_with fail
     go_meet
     exact ⟨false,rfl,fun e=>(by cases e),fun _=>⟨fun e=>(by cases e),fun _=>HI.o.1 (by first|rfl|trivial)⟩,E.o⟩
  ·go_wp2_with fail
   refine (n9.o _).mono ?_; rintro e wx ⟨b,rfl,hi,hb⟩; have HI:=Hd hi; have E:=Hd hb; have a5:=(e4.o wx hb).2; obtain ⟨m0,m1,m2⟩:=a5.k3; clear hi hb a5
   cases b
   ·go_wp2_with fail
    go_meet
    exact ⟨true,rfl,fun _=>.inl fun h=>(Bool.noConfusion (HI.o.2 (h rfl)):False),fun e=>(by cases e),E.o⟩
   ·cases h2
    ·go_wp2_with fail
     go_meet
     exact ⟨false,rfl,fun e=>(by cases e),fun _=>⟨fun _=>HI.o.1 (by first|rfl|trivial),fun e=>(by cases e)⟩,E.o⟩
    ·go_wp2_with fail
     refine (i1.o _).mono ?_; rintro e wy ⟨b,rfl,i5,S⟩; have K:=Hd i5; have g4:Hid (Up W0 wy):=E.o.trans (S.mono E.o.size); clear i5 S
     cases b
     ·go_wp2_with fail
      go_meet
      exact ⟨true,rfl,fun _=>.inr fun h=>(Bool.noConfusion (K.o.2 (h rfl)):False),fun e=>(by cases e),g4.o⟩
     ·go_wp2_with fail
      go_meet
      exact ⟨false,rfl,fun e=>(by cases e),fun _=>⟨fun _=>HI.o.1 (by first|rfl|trivial),fun _=>K.o.1 (by first|rfl|trivial)⟩,g4.o⟩
 case rest=>
  obtain ⟨bad,rfl,d0,U,e5⟩:=hcut; obtain ⟨wa,rfl⟩:∃ wa,wa=wc:=⟨_,rfl⟩; have d7:=Hd e5; have l6:Hid (Up w wa):=b7.o.trans (e5.mono b7.o.size); have g3:=Hd d0; have e3:=Hd U; clear e5 d0 U k0 k1 k2 j0 j1 j2
  cases bad
  ·obtain ⟨i8,i9⟩:=e3.o (by first|rfl|trivial); obtain ⟨x1,y1,X1,Y1,v1,z1,r1,e1,b1,b2,g1⟩:=okE_ends i8; obtain ⟨x2,y2,X2,Y2,v2,z2,r2,e2,b3,b4,g2⟩:=okE_ends i9; have m7:=Hd v1; have n7:=Hd z1; have m8:=Hd v2; have n8:=Hd z2; have b9:Hid (RdE h1 t1 H X1 Y1∧RdE h2 t2 I X2 Y2):=⟨r1,r2⟩; have b8:Hid ((h1=true→x1=X1∧y1=Y1)∧(h2=true→x2=X2∧y2=Y2)):=⟨e1,e2⟩; have l8:Hid (x1.natAbs<lb 281∧y1.natAbs<lb 281∧x2.natAbs<lb 281∧y2.natAbs<lb 281):=⟨b1,b2,b3,b4⟩; have HG:Hid ((h1=true→0<y1∧Int.gcd x1 y1=1)∧(h2=true→0<y2∧Int.gcd x2 y2=1)):=⟨g1,g2⟩; clear v1 z1 v2 z2 r1 r2 e1 e2 b1 b2 b3 b4 g1 g2 i8 i9; have i:=(e4.o wa d7.o).1; obtain ⟨k0,k1,k2⟩:=i.k3; clear i
   go_wp2_with fail
   refine (l2EndOf_any h1 o1 t1 H x1 y1 _ ht1 L.o m7.o n7.o).mono ?_; rintro e w1 ⟨t7,rfl,G,i2⟩; obtain ⟨j,Y⟩:∃ b,(h1&&o1)=b:=⟨_,rfl⟩; rw [Y] at G; have c7:=Hd Y; have h6:=Hd G; obtain ⟨a1,n1,d1,l1,c1,a2,n2,d2,l2,c2,rfl,_,_⟩:=G; have g6:Hid (Up W0 w1):=d7.o.trans (i2.mono d7.o.size); clear i2 Y k0 k1 k2; obtain ⟨W1,O⟩:=exW (w1.alloc (.cells #[.bool h1,.bool j,.int .i64 a1,.bool n1,.slice d1 l1 c1,.int .i64 a2,.bool n2,.slice d2 l2 c2] 66)); have n0:=Hd O; have d8:Hid (Up w1 W1):=by unfold Hid; rw [← O]; exact below_alloc _ _
   have s7:Hid (W1.heap.size=w1.heap.size+1):=by show W1.heap.size=_; rw [← O]; simp
   have F:Bx W1 (w1.heap.size) [.bool h1,.bool j,.int .i64 a1,.bool n1,.slice d1 l1 c1,.int .i64 a2,.bool n2,.slice d2 l2 c2]:=by
    rw [← O]; exact bx_new w1 _ _
   have i0:Hid (∀ W,Up W1 W→Bx W (w1.heap.size) [.bool h1,.bool j,.int .i64 a1,.bool n1,.slice d1 l1 c1,.int .i64 a2,.bool n2,.slice d2 l2 c2]):=fun W hW=>F.below F.lt hW; have d9:Hid (Up W0 W1):=g6.o.trans (d8.o.mono g6.o.size); have i:=(e4.o W1 d9.o).2; obtain ⟨k0,k1,k2⟩:=i.k3; clear O F i
   go_upto_region 4 with fail
   rw [n0.o]
   go_wp2_with fail
   refine (l2EndOf_any h2 o2 t2 I x2 y2 _ ht2 M.o m8.o n8.o).mono ?_; rintro e w2 ⟨t8,rfl,G,S⟩; obtain ⟨m,Z⟩:∃ b,(h2&&o2)=b:=⟨_,rfl⟩; rw [Z] at G; have c8:=Hd Z; have h7:=Hd G; obtain ⟨a3,n3,d3,l3,c3,a4,n4,d4,l4,c4,rfl,_,_⟩:=G; have g7:=Hd S; clear S Z k0 k1 k2; obtain ⟨W2,Q⟩:=exW (w2.alloc (.cells #[.bool h2,.bool m,.int .i64 a3,.bool n3,.slice d3 l3 c3,.int .i64 a4,.bool n4,.slice d4 l4 c4] 66)); have n5:=Hd Q; have g0:Hid (Up w2 W2):=by unfold Hid; rw [← Q]; exact below_alloc _ _
   have s9:Hid (W2.heap.size=w2.heap.size+1):=by show W2.heap.size=_; rw [← Q]; simp
   have A:Bx W2 (w2.heap.size) [.bool h2,.bool m,.int .i64 a3,.bool n3,.slice d3 l3 c3,.int .i64 a4,.bool n4,.slice d4 l4 c4]:=by
    rw [← Q]; exact bx_new w2 _ _
   have n6:Hid (∀ W,Up W2 W→Bx W (w2.heap.size) [.bool h2,.bool m,.int .i64 a3,.bool n3,.slice d3 l3 c3,.int .i64 a4,.bool n4,.slice d4 l4 c4]):=fun W hW=>A.below A.lt hW; have D:Hid (Up W1 W2):=g7.o.trans (g0.o.mono g7.o.size); have g9:Hid (Up w W2):=b7.o.trans ((d9.o.trans (D.o.mono d9.o.size)).mono b7.o.size); have h8:=Hd (h6.o.below (d8.o.trans (D.o.mono d8.o.size))); have K:=Hd (h7.o.below g0.o); have i:=i0.o W2 D.o; obtain ⟨k0,k1,k2,k3,k4,k5,k6,k7⟩:=i.k8; obtain ⟨j0,j1,j2,j3,j4,j5,j6,j7⟩:=A.k8; clear Q A i
   go_upto_region 5 with fail
   rw [n5.o]
   go_wp2_with fail
   refine (l2Empty_any _ _ h1 j x1 y1 h2 m x2 y2 W2 h8.o K.o).mono ?_; rintro e w3 ⟨rfl,T⟩; have g8:=Hd T; have e0:Hid (Up w w3):=g9.o.trans (T.mono g9.o.size); have i:=i0.o w3 (D.o.trans (T.mono D.o.size)); have a5:=n6.o w3 T; clear T k0 j0 k1 j1 k2 j2 k3 j3 k4 j4 k5 j5 k6 j6 k7 j7; obtain ⟨k0,k1,k2,k3,k4,k5,k6,k7⟩:=i.k8; obtain ⟨j0,j1,j2,j3,j4,j5,j6,j7⟩:=a5.k8; clear i a5; have h9:Hid (NoneB h1 j x1 y1 h2 m x2 y2=NoneB h1 j X1 Y1 h2 m X2 Y2):=none_irrel b8.o.1 b8.o.2
   cases V:NoneB h1 j x1 y1 h2 m x2 y2
   ·have m6:Hid (Two h1 j x1 y1 h2 m x2 y2):=⟨HG.o.1,HG.o.2,V⟩; have HF:Hid (∀ p q u,Best h1 j x1 y1 h2 m x2 y2 p q→TextR p q u→ResS h1 o1 t1 h2 o2 t2 u):=fun p q u hbe htx=>by
     refine ⟨H,I,L.o,M.o,.inl ⟨X1,Y1,X2,Y2,b9.o.1,b9.o.2,.inl ?_⟩⟩; rw [c7.o,c8.o]; exact ⟨by rw [← h9.o]; exact V,p,q,hbe.irrel X1 Y1 X2 Y2 b8.o.1 b8.o.2,htx⟩
    clear V
    go_wp2_with fail
    refine (l2Best_any _ _ h1 j x1 y1 h2 m x2 y2 w3 (h8.o.below g8.o) (K.o.below g8.o) m6.o l8.o).mono ?_; rintro e w4 ⟨z,p,q,rfl,hq,hbe,i3⟩; have HQ:=Hd hq; have l5:=Hd hbe; have h0:Hid (Up w w4):=e0.o.trans (i3.mono e0.o.size); clear hq hbe i3
    go_wp2_with fail
    refine (l2Told_any 0 _ p q _ (Nat.zero_le _) HQ.o).mono ?_; rintro e w5 ⟨u,rfl,hu,i4⟩; have m5:=Hd (HF.o _ _ _ l5.o hu); have l7:Hid (Up w w5):=h0.o.trans (i4.mono h0.o.size); clear hu i4
    go_wp2
    go_ret
    exact ⟨_,rfl,m5.o,l7.o⟩
   ·have HN:Hid (ResS h1 o1 t1 h2 o2 t2 ⟨#[]⟩):=by
     unfold Hid
     refine ⟨H,I,L.o,M.o,.inl ⟨X1,Y1,X2,Y2,b9.o.1,b9.o.2,.inr ?_⟩⟩; rw [c7.o,c8.o]; exact ⟨by rw [← h9.o]; exact V,rfl⟩
    clear V
    go_wp2
    go_ret
    exact ⟨_,rfl,HN.o,e0.o⟩
  ·have HN:Hid (ResS h1 o1 t1 h2 o2 t2 ⟨#[]⟩):=resS_no L.o M.o (g3.o (by first|rfl|trivial))
   go_wp2
   go_ret
   exact ⟨_,rfl,HN.o,l6.o⟩
theorem szBound_any (h o:Bool) (t:ByteArray) (n:Int) (w:World) (ht:t.size≤maxLen) (h0:0≤n) (hn:n≤1048576) :
 Calls Tryz.prog 11 #[.agg #[.bool h,.bool o,.string t],.int .i64 n] w fun e w'=>e=.returned (.int .i64 (if n<t.size then -1 else n - t.size))∧Up w w':=by
 unfold maxLen at ht
 by_cases c:n<(t.size:Int)
 ·rw [if_pos c]; have z:decide (n - (t.size:Int)<0)=true:=decide_eq_true (by omega)
  go_enter Tryz.func11,Tryz.ntmps11
  go_wp2
  go_ret
  exact ⟨rfl,below_alloc _ _⟩
 rw [if_neg c]; have z:decide (n - (t.size:Int)<0)=false:=decide_eq_false (by omega)
 go_enter Tryz.func11,Tryz.ntmps11
 go_wp2
 go_ret
 exact ⟨rfl,below_alloc _ _⟩
theorem toBound_any (h o:Bool) (t:ByteArray) (w:World) :
 Calls Tryz.prog 12 #[.agg #[.bool h,.bool o,.string t]] w fun e w'=>e=.returned (.agg #[.bool h,.bool o,.string t])∧Up w w':=by
 go_enter Tryz.func12,Tryz.ntmps12
 go_wp2
 refine bodyPost_ret (v:=.agg #[.bool h,.bool o,.string t]) (by simp [results,Tryz.results12,go_sem]) rfl ⟨rfl,?_⟩
 repeat' (first|exact Below.refl _ _|refine Below.alloc ?_ ?_ _|refine Below.setCell ?_ ?_ _|(simp; done)|(simp; omega)|(dsimp only; simp; done))
end Go.Proofs.YtnhbmpnhijgpmaaGreatDoor
