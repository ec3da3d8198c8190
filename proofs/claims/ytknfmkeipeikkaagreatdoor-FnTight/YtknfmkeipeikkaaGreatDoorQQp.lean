import Derived.Test.YtknfmkeipeikkaaGreatDoorU4p
import Derived.Test.YtknfmkeipeikkaaGreatDoorU5p
import Derived.Deep.RegionHeld3
set_option maxRecDepth 100000
set_option maxHeartbeats 8000000
namespace Go.Proofs.YtknfmkeipeikkaaGreatDoor
open Go.ChangeShapes Go.WideShapes Go.ChangeAt Go.RowKit
structure BxS (h:Nat) (W:World) (a0:Int) (an:Bool) (aa:Option Addr) (al ac:Nat) (b0:Int) (bn:Bool) (ba:Option Addr) (bl bc:Nat) (d0:Int) (dn:Bool) (da:Option Addr) (dl dc:Nat) (e0:Int) (en:Bool) (ea:Option Addr) (el ec:Nat):Prop where
 a:Bx W h [.int .i64 a0,.bool an,.slice aa al ac,.int .i64 b0,.bool bn,.slice ba bl bc]
 b:Bx W (h+1) [.int .i64 d0,.bool dn,.slice da dl dc,.int .i64 e0,.bool en,.slice ea el ec]
theorem BxS.below {h N:Nat} {W W':World} {a0:Int} {an:Bool} {aa:Option Addr} {al ac:Nat} {b0:Int} {bn:Bool} {ba:Option Addr} {bl bc:Nat} {d0:Int} {dn:Bool} {da:Option Addr} {dl dc:Nat} {e0:Int} {en:Bool} {ea:Option Addr} {el ec:Nat} (m:BxS h W a0 an aa al ac b0 bn ba bl bc d0 dn da dl dc e0 en ea el ec) (hN:h+2≤N) (hb:Below N W W'):BxS h W' a0 an aa al ac b0 bn ba bl bc d0 dn da dl dc e0 en ea el ec:=
 ⟨m.a.below (by omega) hb,m.b.below (by omega) hb⟩
theorem BxS.held {h:Nat} {W:World} {a0:Int} {an:Bool} {aa:Option Addr} {al ac:Nat} {b0:Int} {bn:Bool} {ba:Option Addr} {bl bc:Nat} {d0:Int} {dn:Bool} {da:Option Addr} {dl dc:Nat} {e0:Int} {en:Bool} {ea:Option Addr} {el ec:Nat} (m:BxS h W a0 an aa al ac b0 bn ba bl bc d0 dn da dl dc e0 en ea el ec):W.cell? ⟨h,0,none⟩=some (.int .i64 a0)∧W.cell? ⟨h,1,none⟩=some (.bool an)∧W.cell? ⟨h,2,none⟩=some (.slice aa al ac)∧W.cell? ⟨h,3,none⟩=some (.int .i64 b0)∧W.cell? ⟨h,4,none⟩=some (.bool bn)∧W.cell? ⟨h,5,none⟩=some (.slice ba bl bc)∧W.cell? ⟨h+1,0,none⟩=some (.int .i64 d0)∧W.cell? ⟨h+1,1,none⟩=some (.bool dn)∧W.cell? ⟨h+1,2,none⟩=some (.slice da dl dc)∧W.cell? ⟨h+1,3,none⟩=some (.int .i64 e0)∧W.cell? ⟨h+1,4,none⟩=some (.bool en)∧W.cell? ⟨h+1,5,none⟩=some (.slice ea el ec):=
 ⟨m.a.cell 0,m.a.cell 1,m.a.cell 2,m.a.cell 3,m.a.cell 4,m.a.cell 5,m.b.cell 0,m.b.cell 1,m.b.cell 2,m.b.cell 3,m.b.cell 4,m.b.cell 5⟩
theorem l1MulN_any (B:Nat) (za zb:Value) (x y:Int) (n m:Nat) (w:World) (hBw:B≤w.heap.size) (ha:NumZ B w za x n) (hb:NumZ B w zb y m) (hn:n≤100000) (hm:m≤100000) :
 Calls Tryz.prog 78 #[za,zb] w fun e w'=>∃ z,e=.returned z∧IsN 0 w' z (x*y)∧Up w w':=by
 obtain ⟨E,a,h,rfl,s⟩:=ha; obtain ⟨H,b,j,rfl,u⟩:=hb; refine (l1Mul_any B za zb E H a b w hBw h j (by omega) (by omega)).mono ?_; rintro e w' ⟨z,rfl,D,hb⟩; exact ⟨z,rfl,D.mono (Nat.zero_le _),hb⟩
structure BxT (h:Nat) (W:World) (a0:Int) (an:Bool) (aa:Option Addr) (al ac:Nat) (b0:Int) (bn:Bool) (ba:Option Addr) (bl bc:Nat) (d0:Int) (dn:Bool) (da:Option Addr) (dl dc:Nat) (e0:Int) (en:Bool) (ea:Option Addr) (el ec:Nat):Prop where
 a:Bx W h [.int .i64 a0,.bool an,.slice aa al ac,.int .i64 b0,.bool bn,.slice ba bl bc]
 b:Bx W (h+1) [.int .i64 d0,.bool dn,.slice da dl dc,.int .i64 e0,.bool en,.slice ea el ec]
 r:Bx W (h+1+1) [.int .i64 0,.bool false,.slice none 0 0,.int .i64 0,.bool false,.slice none 0 0]
theorem BxT.below {h N:Nat} {W W':World} {a0:Int} {an:Bool} {aa:Option Addr} {al ac:Nat} {b0:Int} {bn:Bool} {ba:Option Addr} {bl bc:Nat} {d0:Int} {dn:Bool} {da:Option Addr} {dl dc:Nat} {e0:Int} {en:Bool} {ea:Option Addr} {el ec:Nat} (m:BxT h W a0 an aa al ac b0 bn ba bl bc d0 dn da dl dc e0 en ea el ec) (hN:h+3≤N) (hb:Below N W W'):BxT h W' a0 an aa al ac b0 bn ba bl bc d0 dn da dl dc e0 en ea el ec:=
 ⟨m.a.below (by omega) hb,m.b.below (by omega) hb,m.r.below (by omega) hb⟩
theorem BxT.held {h:Nat} {W:World} {a0:Int} {an:Bool} {aa:Option Addr} {al ac:Nat} {b0:Int} {bn:Bool} {ba:Option Addr} {bl bc:Nat} {d0:Int} {dn:Bool} {da:Option Addr} {dl dc:Nat} {e0:Int} {en:Bool} {ea:Option Addr} {el ec:Nat} (m:BxT h W a0 an aa al ac b0 bn ba bl bc d0 dn da dl dc e0 en ea el ec):W.cell? ⟨h,0,none⟩=some (.int .i64 a0)∧W.cell? ⟨h,1,none⟩=some (.bool an)∧W.cell? ⟨h,2,none⟩=some (.slice aa al ac)∧W.cell? ⟨h,3,none⟩=some (.int .i64 b0)∧W.cell? ⟨h,4,none⟩=some (.bool bn)∧W.cell? ⟨h,5,none⟩=some (.slice ba bl bc)∧W.cell? ⟨h+1,0,none⟩=some (.int .i64 d0)∧W.cell? ⟨h+1,1,none⟩=some (.bool dn)∧W.cell? ⟨h+1,2,none⟩=some (.slice da dl dc)∧W.cell? ⟨h+1,3,none⟩=some (.int .i64 e0)∧W.cell? ⟨h+1,4,none⟩=some (.bool en)∧W.cell? ⟨h+1,5,none⟩=some (.slice ea el ec):=
 ⟨m.a.cell 0,m.a.cell 1,m.a.cell 2,m.a.cell 3,m.a.cell 4,m.a.cell 5,m.b.cell 0,m.b.cell 1,m.b.cell 2,m.b.cell 3,m.b.cell 4,m.b.cell 5⟩
theorem cell_far6 {W:World} {a:Addr} {v:Value} (g:Nat) (h:W.cell? a=some v) (hg:g≠a.block) (u0 u1 u2 u3 u4 u5:Value):((((((W.setCell ⟨g,0,none⟩ u0).setCell ⟨g,1,none⟩ u1).setCell ⟨g,2,none⟩ u2).setCell ⟨g,3,none⟩ u3).setCell ⟨g,4,none⟩ u4).setCell ⟨g,5,none⟩ u5).cell? a=some v:=by
 rw [World.cell?_setCell_far _ _ _ _ hg,World.cell?_setCell_far _ _ _ _ hg,World.cell?_setCell_far _ _ _ _ hg,World.cell?_setCell_far _ _ _ _ hg,World.cell?_setCell_far _ _ _ _ hg,World.cell?_setCell_far _ _ _ _ hg]; exact h
theorem held_put6 {h:Nat} {W:World} {a0:Int} {an:Bool} {aa:Option Addr} {al ac:Nat} {b0:Int} {bn:Bool} {ba:Option Addr} {bl bc:Nat} {d0:Int} {dn:Bool} {da:Option Addr} {dl dc:Nat} {e0:Int} {en:Bool} {ea:Option Addr} {el ec:Nat} (m:W.cell? ⟨h,0,none⟩=some (.int .i64 a0)∧W.cell? ⟨h,1,none⟩=some (.bool an)∧W.cell? ⟨h,2,none⟩=some (.slice aa al ac)∧W.cell? ⟨h,3,none⟩=some (.int .i64 b0)∧W.cell? ⟨h,4,none⟩=some (.bool bn)∧W.cell? ⟨h,5,none⟩=some (.slice ba bl bc)∧W.cell? ⟨h+1,0,none⟩=some (.int .i64 d0)∧W.cell? ⟨h+1,1,none⟩=some (.bool dn)∧W.cell? ⟨h+1,2,none⟩=some (.slice da dl dc)∧W.cell? ⟨h+1,3,none⟩=some (.int .i64 e0)∧W.cell? ⟨h+1,4,none⟩=some (.bool en)∧W.cell? ⟨h+1,5,none⟩=some (.slice ea el ec)) (g:Nat) (h0:g≠h) (h1:g≠h+1) (u0 u1 u2 u3 u4 u5:Value):((((((W.setCell ⟨g,0,none⟩ u0).setCell ⟨g,1,none⟩ u1).setCell ⟨g,2,none⟩ u2).setCell ⟨g,3,none⟩ u3).setCell ⟨g,4,none⟩ u4).setCell ⟨g,5,none⟩ u5).cell? ⟨h,0,none⟩=some (.int .i64 a0)∧((((((W.setCell ⟨g,0,none⟩ u0).setCell ⟨g,1,none⟩ u1).setCell ⟨g,2,none⟩ u2).setCell ⟨g,3,none⟩ u3).setCell ⟨g,4,none⟩ u4).setCell ⟨g,5,none⟩ u5).cell? ⟨h,1,none⟩=some (.bool an)∧((((((W.setCell ⟨g,0,none⟩ u0).setCell ⟨g,1,none⟩ u1).setCell ⟨g,2,none⟩ u2).setCell ⟨g,3,none⟩ u3).setCell ⟨g,4,none⟩ u4).setCell ⟨g,5,none⟩ u5).cell? ⟨h,2,none⟩=some (.slice aa al ac)∧((((((W.setCell ⟨g,0,none⟩ u0).setCell ⟨g,1,none⟩ u1).setCell ⟨g,2,none⟩ u2).setCell ⟨g,3,none⟩ u3).setCell ⟨g,4,none⟩ u4).setCell ⟨g,5,none⟩ u5).cell? ⟨h,3,none⟩=some (.int .i64 b0)∧((((((W.setCell ⟨g,0,none⟩ u0).setCell ⟨g,1,none⟩ u1).setCell ⟨g,2,none⟩ u2).setCell ⟨g,3,none⟩ u3).setCell ⟨g,4,none⟩ u4).setCell ⟨g,5,none⟩ u5).cell? ⟨h,4,none⟩=some (.bool bn)∧((((((W.setCell ⟨g,0,none⟩ u0).setCell ⟨g,1,none⟩ u1).setCell ⟨g,2,none⟩ u2).setCell ⟨g,3,none⟩ u3).setCell ⟨g,4,none⟩ u4).setCell ⟨g,5,none⟩ u5).cell? ⟨h,5,none⟩=some (.slice ba bl bc)∧((((((W.setCell ⟨g,0,none⟩ u0).setCell ⟨g,1,none⟩ u1).setCell ⟨g,2,none⟩ u2).setCell ⟨g,3,none⟩ u3).setCell ⟨g,4,none⟩ u4).setCell ⟨g,5,none⟩ u5).cell? ⟨h+1,0,none⟩=some (.int .i64 d0)∧((((((W.setCell ⟨g,0,none⟩ u0).setCell ⟨g,1,none⟩ u1).setCell ⟨g,2,none⟩ u2).setCell ⟨g,3,none⟩ u3).setCell ⟨g,4,none⟩ u4).setCell ⟨g,5,none⟩ u5).cell? ⟨h+1,1,none⟩=some (.bool dn)∧((((((W.setCell ⟨g,0,none⟩ u0).setCell ⟨g,1,none⟩ u1).setCell ⟨g,2,none⟩ u2).setCell ⟨g,3,none⟩ u3).setCell ⟨g,4,none⟩ u4).setCell ⟨g,5,none⟩ u5).cell? ⟨h+1,2,none⟩=some (.slice da dl dc)∧((((((W.setCell ⟨g,0,none⟩ u0).setCell ⟨g,1,none⟩ u1).setCell ⟨g,2,none⟩ u2).setCell ⟨g,3,none⟩ u3).setCell ⟨g,4,none⟩ u4).setCell ⟨g,5,none⟩ u5).cell? ⟨h+1,3,none⟩=some (.int .i64 e0)∧((((((W.setCell ⟨g,0,none⟩ u0).setCell ⟨g,1,none⟩ u1).setCell ⟨g,2,none⟩ u2).setCell ⟨g,3,none⟩ u3).setCell ⟨g,4,none⟩ u4).setCell ⟨g,5,none⟩ u5).cell? ⟨h+1,4,none⟩=some (.bool en)∧((((((W.setCell ⟨g,0,none⟩ u0).setCell ⟨g,1,none⟩ u1).setCell ⟨g,2,none⟩ u2).setCell ⟨g,3,none⟩ u3).setCell ⟨g,4,none⟩ u4).setCell ⟨g,5,none⟩ u5).cell? ⟨h+1,5,none⟩=some (.slice ea el ec):=
 ⟨cell_far6 g m.1 h0 _ _ _ _ _ _,cell_far6 g m.2.1 h0 _ _ _ _ _ _,cell_far6 g m.2.2.1 h0 _ _ _ _ _ _,cell_far6 g m.2.2.2.1 h0 _ _ _ _ _ _,cell_far6 g m.2.2.2.2.1 h0 _ _ _ _ _ _,cell_far6 g m.2.2.2.2.2.1 h0 _ _ _ _ _ _,cell_far6 g m.2.2.2.2.2.2.1 h1 _ _ _ _ _ _,cell_far6 g m.2.2.2.2.2.2.2.1 h1 _ _ _ _ _ _,cell_far6 g m.2.2.2.2.2.2.2.2.1 h1 _ _ _ _ _ _,cell_far6 g m.2.2.2.2.2.2.2.2.2.1 h1 _ _ _ _ _ _,cell_far6 g m.2.2.2.2.2.2.2.2.2.2.1 h1 _ _ _ _ _ _,cell_far6 g m.2.2.2.2.2.2.2.2.2.2.2 h1 _ _ _ _ _ _⟩
theorem low_one (x y1 y2:Int) (h1:y1=1) (h2:y2=1):IsLow x (y1*y2) x y1:=by
 refine ⟨1,by decide,by omega,by rw [h1,h2],by omega,?_⟩; rw [h1,h2]; simp
theorem l1AddN_any (B:Nat) (za zb:Value) (x y:Int) (n m:Nat) (w:World) (hBw:B≤w.heap.size) (ha:NumZ B w za x n) (hb:NumZ B w zb y m) (hn:n≤100000) (hm:m≤100000) :
 Calls Tryz.prog 77 #[za,zb] w fun e w'=>∃ z,e=.returned z∧IsN 0 w' z (x+y)∧Up w w':=by
 obtain ⟨E,a,h,rfl,s⟩:=ha; obtain ⟨H,b,j,rfl,u⟩:=hb; refine (l1Add_any B za zb E H a b w hBw h j (by omega) (by omega)).mono ?_; rintro e w' ⟨z,rfl,D,hb⟩; exact ⟨z,rfl,D.mono (Nat.zero_le _),hb⟩
theorem l2Mul_any (B:Nat) (za zd:Value) (x1 y1 x2 y2:Int) (w:World) (hBw:B≤w.heap.size) (ha:IsQN B w za x1 y1) (hd:IsQN B w zd x2 y2) (hlt:x1.natAbs<lb 300∧y1.natAbs<lb 300∧x2.natAbs<lb 300∧y2.natAbs<lb 300) (hden:y1*y2≠0) :
 Calls Tryz.prog 53 #[za,zd] w fun e w'=>∃ z p q,e=.returned z∧IsQN 0 w' z p q∧IsLow (x1*x2) (y1*y2) p q∧Up w w':=by
 have l2:=Hd ha; have l3:=Hd hd; have HL:=Hd hlt; have HD:=Hd hden; obtain ⟨a0,an,aa,al,ac,b0,V,O,U,T,rfl,h1,h2⟩:=ha; obtain ⟨d0,dn,da,dl,dc,e0,en,ea,el,ec,rfl,h3,h4⟩:=hd; have H1:=Hd h1; have H2:=Hd h2; have H3:=Hd h3; have H4:=Hd h4; have b7:=Hd hBw; clear h1 h2 h3 h4 hBw hlt hden; obtain ⟨W0,b5⟩:=exW (((w.alloc (.cells #[.int .i64 a0,.bool an,.slice aa al ac,.int .i64 b0,.bool V,.slice O U T] 55)).alloc (.cells #[.int .i64 d0,.bool dn,.slice da dl dc,.int .i64 e0,.bool en,.slice ea el ec] 55)).alloc (.cells #[.int .i64 0,.bool false,.slice none 0 0,.int .i64 0,.bool false,.slice none 0 0] 55)); have l4:=Hd b5; have j:Hid (Up w W0):=by unfold Hid; rw [← b5]; exact below_al (below_al (below_alloc _ _) _) _
 have d2:BxT w.heap.size W0 a0 an aa al ac b0 V O U T d0 dn da dl dc e0 en ea el ec:=by
  refine ⟨?_,?_,?_⟩
  ·rw [← b5]; exact ((bx_new w _ _).alloc _).alloc _
  ·rw [← b5]; have h:=bx_new (w.alloc (.cells #[.int .i64 a0,.bool an,.slice aa al ac,.int .i64 b0,.bool V,.slice O U T] 55)) [.int .i64 d0,.bool dn,.slice da dl dc,.int .i64 e0,.bool en,.slice ea el ec] 55; rw [World.size_alloc] at h; exact h.alloc _
  rw [← b5]; have h:=bx_new ((w.alloc (.cells #[.int .i64 a0,.bool an,.slice aa al ac,.int .i64 b0,.bool V,.slice O U T] 55)).alloc (.cells #[.int .i64 d0,.bool dn,.slice da dl dc,.int .i64 e0,.bool en,.slice ea el ec] 55)) [.int .i64 0,.bool false,.slice none 0 0,.int .i64 0,.bool false,.slice none 0 0] 55; rw [World.size_alloc,World.size_alloc] at h; exact h
 have HX:Hid (∀ W,Up W0 W→BxT w.heap.size W a0 an aa al ac b0 V O U T d0 dn da dl dc e0 en ea el ec):=fun W hW=>d2.below d2.r.lt hW; have T1:Hid (∀ W,Up W0 W→Calls Tryz.prog 78 #[.agg #[.int .i64 a0,.bool an,.slice aa al ac],.agg #[.int .i64 d0,.bool dn,.slice da dl dc]] W (fun e w'=>∃ z,e=.returned z∧NumZ 0 w' z (x1*x2) 600∧Up W w')):=fun W hW=>by
  refine (l1MulN_any B _ _ _ _ 1000 1000 W (by have:=b7.o; have:=j.o.size; have:=hW.size; omega) ((H1.o.below j.o).below hW) ((H3.o.below j.o).below hW) (by omega) (by omega)).mono ?_; rintro e w' ⟨z,rfl,hz,hb⟩; exact ⟨z,rfl,numZ_lt hz (mul_lt HL.o.1 HL.o.2.2.1),hb⟩
 have T2:Hid (∀ W,Up W0 W→Calls Tryz.prog 78 #[.agg #[.int .i64 b0,.bool V,.slice O U T],.agg #[.int .i64 e0,.bool en,.slice ea el ec]] W (fun e w'=>∃ z,e=.returned z∧NumZ 0 w' z (y1*y2) 600∧Up W w')):=fun W hW=>by
  refine (l1MulN_any B _ _ _ _ 1000 1000 W (by have:=b7.o; have:=j.o.size; have:=hW.size; omega) ((H2.o.below j.o).below hW) ((H4.o.below j.o).below hW) (by omega) (by omega)).mono ?_; rintro e w' ⟨z,rfl,hz,hb⟩; exact ⟨z,rfl,numZ_lt hz (mul_lt HL.o.2.1 HL.o.2.2.2),hb⟩
 have TW:Hid (∀ W,Up W0 W→Calls Tryz.prog 78 #[.agg #[.int .i64 a0,.bool an,.slice aa al ac],.agg #[.int .i64 d0,.bool dn,.slice da dl dc]] W (fun e w'=>∃ z,e=.returned z∧NumZ 0 w' z (x1*x2) 600∧Up W w')):=fun W hW=>by
  refine (l1MulN_any B _ _ _ _ 1000 1000 W (by have:=b7.o; have:=j.o.size; have:=hW.size; omega) ((H1.o.below j.o).below hW) ((H3.o.below j.o).below hW) (by omega) (by omega)).mono ?_; rintro e w' ⟨z,rfl,hz,hb⟩; exact ⟨z,rfl,numZ_lt hz (mul_lt HL.o.1 HL.o.2.2.1),hb⟩
 obtain ⟨k0,k1,k2,k3,k4,k5⟩:=d2.a.k6; obtain ⟨j0,j1,j2,j3,j4,j5⟩:=d2.b.k6; clear b5 d2
 go_enter Tryz.func53,Tryz.ntmps53
 go_upto_region 1 with fail
 rw [l4.o]
 go_wp2_with fail
 refine (l2Whole_any B _ x1 y1 W0 (by have:=b7.o; have:=j.o.size; omega) (l2.o.below j.o)).mono ?_; rintro e w1 ⟨rfl,g5⟩; have a7:=Hd g5; have hx:=HX.o w1 g5; clear g5 k0 k1 k2 k3 k4 k5 j0 j1 j2 j3 j4 j5; obtain ⟨k0,k1,k2,k3,k4,k5⟩:=hx.a.k6; obtain ⟨j0,j1,j2,j3,j4,j5⟩:=hx.b.k6; clear hx
 by_cases d3:y1=1
 ·have z:decide (y1=1)=true:=decide_eq_true d3; have l5:=Hd d3; rw [z]; clear z d3
  go_wp2_with fail
  refine (l2Whole_any B _ x2 y2 w1 (by have:=b7.o; have:=j.o.size; have:=a7.o.size; omega) ((l3.o.below j.o).below a7.o)).mono ?_; rintro e w2 ⟨rfl,h7⟩; have a8:=Hd (a7.o.trans (h7.mono a7.o.size)); have hx:=HX.o w2 a8.o; clear h7 k0 k1 k2 k3 k4 k5 j0 j1 j2 j3 j4 j5; obtain ⟨k0,k1,k2,k3,k4,k5⟩:=hx.a.k6; obtain ⟨j0,j1,j2,j3,j4,j5⟩:=hx.b.k6; clear hx
  by_cases d4:y2=1
  ·have z:decide (y2=1)=true:=decide_eq_true d4; have l1:Hid (IsLow (x1*x2) (y1*y2) (x1*x2) y1):=by
    unfold Hid
    exact low_one _ _ _ l5.o d4
   rw [z]; clear z d4
   go_wp2_with fail
   go_region_held3 (fun W=>W.cell? ⟨w.heap.size,0,none⟩=some (.int .i64 a0)∧W.cell? ⟨w.heap.size,1,none⟩=some (.bool an)∧W.cell? ⟨w.heap.size,2,none⟩=some (.slice aa al ac)∧W.cell? ⟨w.heap.size,3,none⟩=some (.int .i64 b0)∧W.cell? ⟨w.heap.size,4,none⟩=some (.bool V)∧W.cell? ⟨w.heap.size,5,none⟩=some (.slice O U T)∧W.cell? ⟨w.heap.size+1,0,none⟩=some (.int .i64 d0)∧W.cell? ⟨w.heap.size+1,1,none⟩=some (.bool dn)∧W.cell? ⟨w.heap.size+1,2,none⟩=some (.slice da dl dc)∧W.cell? ⟨w.heap.size+1,3,none⟩=some (.int .i64 e0)∧W.cell? ⟨w.heap.size+1,4,none⟩=some (.bool en)∧W.cell? ⟨w.heap.size+1,5,none⟩=some (.slice ea el ec)) (first
    | with_reducible assumption|with_reducible exact held_put6 (by with_reducible assumption) (w.heap.size+1+1) (by omega) (by omega) _ _ _ _ _ _|go_keep) (first
    | (go_at_call 78
       refine (TW.o _ ?_).mono ?_
       ·exact a8.o.drew
       rintro e J ⟨u,rfl,hu,hb⟩; obtain ⟨y,I,D,H,E,rfl⟩:=hu.isN.shape; have HG:=Hd (numZ_le hu (n:=1000) (by omega)); have K:Hid (Up W0 J):=a8.o.drew.trans (hb.mono a8.o.size); have s:=HX.o J K.o; have g9:=s.held; obtain ⟨r0,r1,r2,r3,r4,r5⟩:=s.r.k6; obtain ⟨f0,f1,f2,f3,f4,f5⟩:=s.r.f6; clear hu hb s))
   all_goals
    try simp only [List.getElem_toArray,List.getElem_cons_succ,List.getElem_cons_zero,Act.put,List.setIfInBounds_toArray,List.set_cons_succ,List.set_cons_zero]
    go_wp2
    have a3:=(HX.o J K.o).r; have m:NoInt J (w.heap.size+1+1):=noInt_of a3 (by simp); have hk:=keeps6 J (w.heap.size+1+1) (.int .i64 y) (.bool I) (.slice D H E) (.int .i64 b0) (.bool V) (.slice O U T); have c7:=(HG.o).keeps m m hk; have c9:=(((H2.o.below j.o).below K.o).mono (Nat.zero_le _)).keeps m m hk; have b9:=set6 (j.o.trans (K.o.mono j.o.size)) (w.heap.size+1+1) (by omega) (.int .i64 y) (.bool I) (.slice D H E) (.int .i64 b0) (.bool V) (.slice O U T); have hZ:=a3.put6 (.int .i64 y) (.bool I) (.slice D H E) (.int .i64 b0) (.bool V) (.slice O U T); have d1:((((((J.setCell ⟨w.heap.size+1+1,0,none⟩ (.int .i64 y)).setCell ⟨w.heap.size+1+1,1,none⟩ (.bool I)).setCell ⟨w.heap.size+1+1,2,none⟩ (.slice D H E)).setCell ⟨w.heap.size+1+1,3,none⟩ (.int .i64 b0)).setCell ⟨w.heap.size+1+1,4,none⟩ (.bool V)).setCell ⟨w.heap.size+1+1,5,none⟩ (.slice O U T))=W6 J (w.heap.size+1+1) (.int .i64 y) (.bool I) (.slice D H E) (.int .i64 b0) (.bool V) (.slice O U T):=rfl; rw [d1]; generalize W6 J (w.heap.size+1+1) (.int .i64 y) (.bool I) (.slice D H E) (.int .i64 b0) (.bool V) (.slice O U T)=W9 at *; obtain ⟨o0,o1,o2,o3,o4,o5⟩:=hZ.k6; refine bodyPost_ret (v:=.agg #[.int .i64 y,.bool I,.slice D H E,.int .i64 b0,.bool V,.slice O U T]) ?_ rfl ⟨_,_,_,rfl,⟨y,I,D,H,E,b0,V,O,U,T,rfl,c7,c9⟩,l1.o,b9⟩; simp [results,Tryz.results53,go_sem,o0,o1,o2,o3,o4,o5]
  have z:decide (y2=1)=false:=decide_eq_false d4; rw [z]; clear z d4
  go_wp2_with fail
  go_region_held3 (fun W=>W.cell? ⟨w.heap.size,0,none⟩=some (.int .i64 a0)∧W.cell? ⟨w.heap.size,1,none⟩=some (.bool an)∧W.cell? ⟨w.heap.size,2,none⟩=some (.slice aa al ac)∧W.cell? ⟨w.heap.size,3,none⟩=some (.int .i64 b0)∧W.cell? ⟨w.heap.size,4,none⟩=some (.bool V)∧W.cell? ⟨w.heap.size,5,none⟩=some (.slice O U T)∧W.cell? ⟨w.heap.size+1,0,none⟩=some (.int .i64 d0)∧W.cell? ⟨w.heap.size+1,1,none⟩=some (.bool dn)∧W.cell? ⟨w.heap.size+1,2,none⟩=some (.slice da dl dc)∧W.cell? ⟨w.heap.size+1,3,none⟩=some (.int .i64 e0)∧W.cell? ⟨w.heap.size+1,4,none⟩=some (.bool en)∧W.cell? ⟨w.heap.size+1,5,none⟩=some (.slice ea el ec)) (first
   | with_reducible assumption|with_reducible exact held_put6 (by with_reducible assumption) (w.heap.size+1+1) (by omega) (by omega) _ _ _ _ _ _|go_keep) (first
   | (go_at_call_of 78 (Value.int IntKind.i64 a0)
      refine (T1.o _ ?_).mono ?_
      ·exact a8.o.drew
      rintro e d5 ⟨u1,rfl,hu,hb⟩; have g2:=Hd hu; have M:Hid (Up W0 d5):=a8.o.drew.trans (hb.mono a8.o.size); have l6:=(HX.o d5 M.o).held; clear hu hb)
   | (go_at_call_of 78 (Value.int IntKind.i64 b0)
      refine (T2.o _ ?_).mono ?_
      ·exact M.o
      rintro e d6 ⟨u2,rfl,hu,hb⟩; have g3:=Hd hu; have a9:Hid (Up W0 d6):=M.o.trans (hb.mono M.o.size); have g4:=Hd (g2.o.below hb); have l7:=(HX.o d6 a9.o).held; clear hu hb)
   | (go_at_call 20
      refine (l2Make_any 0 _ _ (x1*x2) (y1*y2) _ (Nat.zero_le _) (numZ_le g4.o (by omega)) (numZ_le g3.o (by omega)) HD.o).mono ?_; rintro e J ⟨zr,p,q,rfl,hr,a6,hb⟩; have b8:=Hd a6; have K:Hid (Up W0 J):=a9.o.trans (hb.mono a9.o.size); obtain ⟨y,I,D,H,E,Y,hn,Z,hl,hc,rfl,hg,hh⟩:=hr; have HG:=Hd hg; have HH:=Hd hh; have s:=HX.o J K.o; have g9:=s.held; obtain ⟨r0,r1,r2,r3,r4,r5⟩:=s.r.k6; obtain ⟨f0,f1,f2,f3,f4,f5⟩:=s.r.f6; clear hg hh a6 hb s))
  all_goals
   try simp only [List.getElem_toArray,List.getElem_cons_succ,List.getElem_cons_zero,Act.put,List.setIfInBounds_toArray,List.set_cons_succ,List.set_cons_zero]
   go_wp2
   have a3:=(HX.o J K.o).r; have m:NoInt J (w.heap.size+1+1):=noInt_of a3 (by simp); have hk:=keeps6 J (w.heap.size+1+1) (.int .i64 y) (.bool I) (.slice D H E) (.int .i64 Y) (.bool hn) (.slice Z hl hc); have c7:=(HG.o).keeps m m hk; have c9:=(HH.o).keeps m m hk; have b9:=set6 (j.o.trans (K.o.mono j.o.size)) (w.heap.size+1+1) (by omega) (.int .i64 y) (.bool I) (.slice D H E) (.int .i64 Y) (.bool hn) (.slice Z hl hc); have hZ:=a3.put6 (.int .i64 y) (.bool I) (.slice D H E) (.int .i64 Y) (.bool hn) (.slice Z hl hc); have d1:((((((J.setCell ⟨w.heap.size+1+1,0,none⟩ (.int .i64 y)).setCell ⟨w.heap.size+1+1,1,none⟩ (.bool I)).setCell ⟨w.heap.size+1+1,2,none⟩ (.slice D H E)).setCell ⟨w.heap.size+1+1,3,none⟩ (.int .i64 Y)).setCell ⟨w.heap.size+1+1,4,none⟩ (.bool hn)).setCell ⟨w.heap.size+1+1,5,none⟩ (.slice Z hl hc))=W6 J (w.heap.size+1+1) (.int .i64 y) (.bool I) (.slice D H E) (.int .i64 Y) (.bool hn) (.slice Z hl hc):=rfl; rw [d1]; generalize W6 J (w.heap.size+1+1) (.int .i64 y) (.bool I) (.slice D H E) (.int .i64 Y) (.bool hn) (.slice Z hl hc)=W9 at *; obtain ⟨o0,o1,o2,o3,o4,o5⟩:=hZ.k6; refine bodyPost_ret (v:=.agg #[.int .i64 y,.bool I,.slice D H E,.int .i64 Y,.bool hn,.slice Z hl hc]) ?_ rfl ⟨_,p,q,rfl,⟨y,I,D,H,E,Y,hn,Z,hl,hc,rfl,c7,c9⟩,b8.o,b9⟩; simp [results,Tryz.results53,go_sem,o0,o1,o2,o3,o4,o5]
 have z:decide (y1=1)=false:=decide_eq_false d3; rw [z]; clear z d3
 go_wp2_with fail
 go_region_held3 (fun W=>W.cell? ⟨w.heap.size,0,none⟩=some (.int .i64 a0)∧W.cell? ⟨w.heap.size,1,none⟩=some (.bool an)∧W.cell? ⟨w.heap.size,2,none⟩=some (.slice aa al ac)∧W.cell? ⟨w.heap.size,3,none⟩=some (.int .i64 b0)∧W.cell? ⟨w.heap.size,4,none⟩=some (.bool V)∧W.cell? ⟨w.heap.size,5,none⟩=some (.slice O U T)∧W.cell? ⟨w.heap.size+1,0,none⟩=some (.int .i64 d0)∧W.cell? ⟨w.heap.size+1,1,none⟩=some (.bool dn)∧W.cell? ⟨w.heap.size+1,2,none⟩=some (.slice da dl dc)∧W.cell? ⟨w.heap.size+1,3,none⟩=some (.int .i64 e0)∧W.cell? ⟨w.heap.size+1,4,none⟩=some (.bool en)∧W.cell? ⟨w.heap.size+1,5,none⟩=some (.slice ea el ec)) (first
  | with_reducible assumption|with_reducible exact held_put6 (by with_reducible assumption) (w.heap.size+1+1) (by omega) (by omega) _ _ _ _ _ _|go_keep) (first
  | (go_at_call_of 78 (Value.int IntKind.i64 a0)
     refine (T1.o _ ?_).mono ?_
     ·exact a7.o.drew
     rintro e d5 ⟨u1,rfl,hu,hb⟩; have g2:=Hd hu; have M:Hid (Up W0 d5):=a7.o.drew.trans (hb.mono a7.o.size); have l6:=(HX.o d5 M.o).held; clear hu hb)
  | (go_at_call_of 78 (Value.int IntKind.i64 b0)
     refine (T2.o _ ?_).mono ?_
     ·exact M.o
     rintro e d6 ⟨u2,rfl,hu,hb⟩; have g3:=Hd hu; have a9:Hid (Up W0 d6):=M.o.trans (hb.mono M.o.size); have g4:=Hd (g2.o.below hb); have l7:=(HX.o d6 a9.o).held; clear hu hb)
  | (go_at_call 20
     refine (l2Make_any 0 _ _ (x1*x2) (y1*y2) _ (Nat.zero_le _) (numZ_le g4.o (by omega)) (numZ_le g3.o (by omega)) HD.o).mono ?_; rintro e J ⟨zr,p,q,rfl,hr,a6,hb⟩; have b8:=Hd a6; have K:Hid (Up W0 J):=a9.o.trans (hb.mono a9.o.size); obtain ⟨y,I,D,H,E,Y,hn,Z,hl,hc,rfl,hg,hh⟩:=hr; have HG:=Hd hg; have HH:=Hd hh; have s:=HX.o J K.o; have g9:=s.held; obtain ⟨r0,r1,r2,r3,r4,r5⟩:=s.r.k6; obtain ⟨f0,f1,f2,f3,f4,f5⟩:=s.r.f6; clear hg hh a6 hb s))
 all_goals
  try simp only [List.getElem_toArray,List.getElem_cons_succ,List.getElem_cons_zero,Act.put,List.setIfInBounds_toArray,List.set_cons_succ,List.set_cons_zero]
  go_wp2
  have a3:=(HX.o J K.o).r; have m:NoInt J (w.heap.size+1+1):=noInt_of a3 (by simp); have hk:=keeps6 J (w.heap.size+1+1) (.int .i64 y) (.bool I) (.slice D H E) (.int .i64 Y) (.bool hn) (.slice Z hl hc); have c7:=(HG.o).keeps m m hk; have c9:=(HH.o).keeps m m hk; have b9:=set6 (j.o.trans (K.o.mono j.o.size)) (w.heap.size+1+1) (by omega) (.int .i64 y) (.bool I) (.slice D H E) (.int .i64 Y) (.bool hn) (.slice Z hl hc); have hZ:=a3.put6 (.int .i64 y) (.bool I) (.slice D H E) (.int .i64 Y) (.bool hn) (.slice Z hl hc); have d1:((((((J.setCell ⟨w.heap.size+1+1,0,none⟩ (.int .i64 y)).setCell ⟨w.heap.size+1+1,1,none⟩ (.bool I)).setCell ⟨w.heap.size+1+1,2,none⟩ (.slice D H E)).setCell ⟨w.heap.size+1+1,3,none⟩ (.int .i64 Y)).setCell ⟨w.heap.size+1+1,4,none⟩ (.bool hn)).setCell ⟨w.heap.size+1+1,5,none⟩ (.slice Z hl hc))=W6 J (w.heap.size+1+1) (.int .i64 y) (.bool I) (.slice D H E) (.int .i64 Y) (.bool hn) (.slice Z hl hc):=rfl; rw [d1]; generalize W6 J (w.heap.size+1+1) (.int .i64 y) (.bool I) (.slice D H E) (.int .i64 Y) (.bool hn) (.slice Z hl hc)=W9 at *; obtain ⟨o0,o1,o2,o3,o4,o5⟩:=hZ.k6; refine bodyPost_ret (v:=.agg #[.int .i64 y,.bool I,.slice D H E,.int .i64 Y,.bool hn,.slice Z hl hc]) ?_ rfl ⟨_,p,q,rfl,⟨y,I,D,H,E,Y,hn,Z,hl,hc,rfl,c7,c9⟩,b8.o,b9⟩; simp [results,Tryz.results53,go_sem,o0,o1,o2,o3,o4,o5]
theorem l2Add_any (B:Nat) (za zd:Value) (x1 y1 x2 y2:Int) (w:World) (hBw:B≤w.heap.size) (ha:IsQN B w za x1 y1) (hd:IsQN B w zd x2 y2) (hlt:x1.natAbs<lb 300∧y1.natAbs<lb 300∧x2.natAbs<lb 300∧y2.natAbs<lb 300) (hden:y1*y2≠0) :
 Calls Tryz.prog 52 #[za,zd] w fun e w'=>∃ z p q,e=.returned z∧IsQN 0 w' z p q∧IsLow (x1*y2+x2*y1) (y1*y2) p q∧Up w w':=by
 have m7:=Hd ha; have m8:=Hd hd; have HL:=Hd hlt; have HD:=Hd hden; obtain ⟨a0,an,aa,al,ac,b0,bn,V,Z,Y,rfl,h1,h2⟩:=ha; obtain ⟨d0,dn,da,dl,dc,e0,en,ea,el,ec,rfl,h3,h4⟩:=hd; have H1:=Hd h1; have H2:=Hd h2; have H3:=Hd h3; have H4:=Hd h4; have b8:=Hd hBw; clear h1 h2 h3 h4 hBw hlt hden; have g6:Hid ((x1*y2+x2*y1).natAbs<lb 601):=add_lt (mul_lt HL.o.1 HL.o.2.2.2) (mul_lt HL.o.2.2.1 HL.o.2.1); obtain ⟨U,b9⟩:=exW (((w.alloc (.cells #[.int .i64 a0,.bool an,.slice aa al ac,.int .i64 b0,.bool bn,.slice V Z Y] 55)).alloc (.cells #[.int .i64 d0,.bool dn,.slice da dl dc,.int .i64 e0,.bool en,.slice ea el ec] 55)).alloc (.cells #[.int .i64 0,.bool false,.slice none 0 0,.int .i64 0,.bool false,.slice none 0 0] 55)); have m9:=Hd b9; have j:Hid (Up w U):=by unfold Hid; rw [← b9]; exact below_al (below_al (below_alloc _ _) _) _
 have d8:BxT w.heap.size U a0 an aa al ac b0 bn V Z Y d0 dn da dl dc e0 en ea el ec:=by
  refine ⟨?_,?_,?_⟩
  ·rw [← b9]; exact ((bx_new w _ _).alloc _).alloc _
  ·rw [← b9]; have h:=bx_new (w.alloc (.cells #[.int .i64 a0,.bool an,.slice aa al ac,.int .i64 b0,.bool bn,.slice V Z Y] 55)) [.int .i64 d0,.bool dn,.slice da dl dc,.int .i64 e0,.bool en,.slice ea el ec] 55; rw [World.size_alloc] at h; exact h.alloc _
  rw [← b9]; have h:=bx_new ((w.alloc (.cells #[.int .i64 a0,.bool an,.slice aa al ac,.int .i64 b0,.bool bn,.slice V Z Y] 55)).alloc (.cells #[.int .i64 d0,.bool dn,.slice da dl dc,.int .i64 e0,.bool en,.slice ea el ec] 55)) [.int .i64 0,.bool false,.slice none 0 0,.int .i64 0,.bool false,.slice none 0 0] 55; rw [World.size_alloc,World.size_alloc] at h; exact h
 have HX:Hid (∀ W,Up U W→BxT w.heap.size W a0 an aa al ac b0 bn V Z Y d0 dn da dl dc e0 en ea el ec):=fun W hW=>d8.below d8.r.lt hW; have T1:Hid (∀ W,Up U W→Calls Tryz.prog 78 #[.agg #[.int .i64 a0,.bool an,.slice aa al ac],.agg #[.int .i64 e0,.bool en,.slice ea el ec]] W (fun e w'=>∃ z,e=.returned z∧NumZ 0 w' z (x1*y2) 600∧Up W w')):=fun W hW=>by
  refine (l1MulN_any B _ _ _ _ 1000 1000 W (by have:=b8.o; have:=j.o.size; have:=hW.size; omega) ((H1.o.below j.o).below hW) ((H4.o.below j.o).below hW) (by omega) (by omega)).mono ?_; rintro e w' ⟨z,rfl,hz,hb⟩; exact ⟨z,rfl,numZ_lt hz (mul_lt HL.o.1 HL.o.2.2.2),hb⟩
 have T2:Hid (∀ W,Up U W→Calls Tryz.prog 78 #[.agg #[.int .i64 d0,.bool dn,.slice da dl dc],.agg #[.int .i64 b0,.bool bn,.slice V Z Y]] W (fun e w'=>∃ z,e=.returned z∧NumZ 0 w' z (x2*y1) 600∧Up W w')):=fun W hW=>by
  refine (l1MulN_any B _ _ _ _ 1000 1000 W (by have:=b8.o; have:=j.o.size; have:=hW.size; omega) ((H3.o.below j.o).below hW) ((H2.o.below j.o).below hW) (by omega) (by omega)).mono ?_; rintro e w' ⟨z,rfl,hz,hb⟩; exact ⟨z,rfl,numZ_lt hz (mul_lt HL.o.2.2.1 HL.o.2.1),hb⟩
 have T3:Hid (∀ W,Up U W→Calls Tryz.prog 78 #[.agg #[.int .i64 b0,.bool bn,.slice V Z Y],.agg #[.int .i64 e0,.bool en,.slice ea el ec]] W (fun e w'=>∃ z,e=.returned z∧NumZ 0 w' z (y1*y2) 600∧Up W w')):=fun W hW=>by
  refine (l1MulN_any B _ _ _ _ 1000 1000 W (by have:=b8.o; have:=j.o.size; have:=hW.size; omega) ((H2.o.below j.o).below hW) ((H4.o.below j.o).below hW) (by omega) (by omega)).mono ?_; rintro e w' ⟨z,rfl,hz,hb⟩; exact ⟨z,rfl,numZ_lt hz (mul_lt HL.o.2.1 HL.o.2.2.2),hb⟩
 have TW:Hid (∀ W,Up U W→Calls Tryz.prog 77 #[.agg #[.int .i64 a0,.bool an,.slice aa al ac],.agg #[.int .i64 d0,.bool dn,.slice da dl dc]] W (fun e w'=>∃ z,e=.returned z∧NumZ 0 w' z (x1+x2) 601∧Up W w')):=fun W hW=>by
  refine (l1AddN_any B _ _ _ _ 1000 1000 W (by have:=b8.o; have:=j.o.size; have:=hW.size; omega) ((H1.o.below j.o).below hW) ((H3.o.below j.o).below hW) (by omega) (by omega)).mono ?_; rintro e w' ⟨z,rfl,hz,hb⟩; exact ⟨z,rfl,numZ_lt hz (add_lt (lb_le 300 600 (by decide) HL.o.1) (lb_le 300 600 (by decide) HL.o.2.2.1)),hb⟩
 obtain ⟨k0,k1,k2,k3,k4,k5⟩:=d8.a.k6; obtain ⟨j0,j1,j2,j3,j4,j5⟩:=d8.b.k6; clear b9 d8
 go_enter Tryz.func52,Tryz.ntmps52
 go_upto_region 1 with fail
 rw [m9.o]
 go_wp2_with fail
 refine (l2Whole_any B _ x1 y1 U (by have:=b8.o; have:=j.o.size; omega) (m7.o.below j.o)).mono ?_; rintro e w1 ⟨rfl,h9⟩; have b4:=Hd h9; have hx:=HX.o w1 h9; clear h9 k0 k1 k2 k3 k4 k5 j0 j1 j2 j3 j4 j5; obtain ⟨k0,k1,k2,k3,k4,k5⟩:=hx.a.k6; obtain ⟨j0,j1,j2,j3,j4,j5⟩:=hx.b.k6; clear hx
 by_cases d9:y1=1
 ·have z:decide (y1=1)=true:=decide_eq_true d9; have i4:=Hd d9; rw [z]; clear z d9
  go_wp2_with fail
  refine (l2Whole_any B _ x2 y2 w1 (by have:=b8.o; have:=j.o.size; have:=b4.o.size; omega) ((m8.o.below j.o).below b4.o)).mono ?_; rintro e w2 ⟨rfl,i7⟩; have b5:=Hd (b4.o.trans (i7.mono b4.o.size)); have hx:=HX.o w2 b5.o; clear i7 k0 k1 k2 k3 k4 k5 j0 j1 j2 j3 j4 j5; obtain ⟨k0,k1,k2,k3,k4,k5⟩:=hx.a.k6; obtain ⟨j0,j1,j2,j3,j4,j5⟩:=hx.b.k6; clear hx
  by_cases c7:y2=1
  ·have z:decide (y2=1)=true:=decide_eq_true c7; have m6:Hid (IsLow (x1*y2+x2*y1) (y1*y2) (x1+x2) y1):=by
    unfold Hid
    have h:=low_one (x1+x2) _ _ i4.o c7; rw [show x1*y2+x2*y1=x1+x2 by rw [i4.o,c7,Int.mul_one,Int.mul_one]]; exact h
   rw [z]; clear z c7
   go_wp2_with fail
   go_region_held3 (fun W=>W.cell? ⟨w.heap.size,0,none⟩=some (.int .i64 a0)∧W.cell? ⟨w.heap.size,1,none⟩=some (.bool an)∧W.cell? ⟨w.heap.size,2,none⟩=some (.slice aa al ac)∧W.cell? ⟨w.heap.size,3,none⟩=some (.int .i64 b0)∧W.cell? ⟨w.heap.size,4,none⟩=some (.bool bn)∧W.cell? ⟨w.heap.size,5,none⟩=some (.slice V Z Y)∧W.cell? ⟨w.heap.size+1,0,none⟩=some (.int .i64 d0)∧W.cell? ⟨w.heap.size+1,1,none⟩=some (.bool dn)∧W.cell? ⟨w.heap.size+1,2,none⟩=some (.slice da dl dc)∧W.cell? ⟨w.heap.size+1,3,none⟩=some (.int .i64 e0)∧W.cell? ⟨w.heap.size+1,4,none⟩=some (.bool en)∧W.cell? ⟨w.heap.size+1,5,none⟩=some (.slice ea el ec)) (first
    | with_reducible assumption|with_reducible exact held_put6 (by with_reducible assumption) (w.heap.size+1+1) (by omega) (by omega) _ _ _ _ _ _|go_keep) (first
    | (go_at_call 77
       refine (TW.o _ ?_).mono ?_
       ·exact b5.o.drew
       rintro e K ⟨u,rfl,y,hb⟩; obtain ⟨D,J,E,I,H,rfl⟩:=y.isN.shape; have HG:=Hd (numZ_le y (n:=1000) (by omega)); have M:Hid (Up U K):=b5.o.drew.trans (hb.mono b5.o.size); have s:=HX.o K M.o; have i5:=s.held; obtain ⟨r0,r1,r2,r3,r4,r5⟩:=s.r.k6; obtain ⟨f0,f1,f2,f3,f4,f5⟩:=s.r.f6; clear y hb s))
   all_goals
    try simp only [List.getElem_toArray,List.getElem_cons_succ,List.getElem_cons_zero,Act.put,List.setIfInBounds_toArray,List.set_cons_succ,List.set_cons_zero]
    go_wp2
    have a7:=(HX.o K M.o).r; have m:NoInt K (w.heap.size+1+1):=noInt_of a7 (by simp); have hk:=keeps6 K (w.heap.size+1+1) (.int .i64 D) (.bool J) (.slice E I H) (.int .i64 b0) (.bool bn) (.slice V Z Y); have d5:=(HG.o).keeps m m hk; have d6:=(((H2.o.below j.o).below M.o).mono (Nat.zero_le _)).keeps m m hk; have d4:=set6 (j.o.trans (M.o.mono j.o.size)) (w.heap.size+1+1) (by omega) (.int .i64 D) (.bool J) (.slice E I H) (.int .i64 b0) (.bool bn) (.slice V Z Y); have hZ:=a7.put6 (.int .i64 D) (.bool J) (.slice E I H) (.int .i64 b0) (.bool bn) (.slice V Z Y); have d7:((((((K.setCell ⟨w.heap.size+1+1,0,none⟩ (.int .i64 D)).setCell ⟨w.heap.size+1+1,1,none⟩ (.bool J)).setCell ⟨w.heap.size+1+1,2,none⟩ (.slice E I H)).setCell ⟨w.heap.size+1+1,3,none⟩ (.int .i64 b0)).setCell ⟨w.heap.size+1+1,4,none⟩ (.bool bn)).setCell ⟨w.heap.size+1+1,5,none⟩ (.slice V Z Y))=W6 K (w.heap.size+1+1) (.int .i64 D) (.bool J) (.slice E I H) (.int .i64 b0) (.bool bn) (.slice V Z Y):=rfl; rw [d7]; generalize W6 K (w.heap.size+1+1) (.int .i64 D) (.bool J) (.slice E I H) (.int .i64 b0) (.bool bn) (.slice V Z Y)=W9 at *; obtain ⟨o0,o1,o2,o3,o4,o5⟩:=hZ.k6; refine bodyPost_ret (v:=.agg #[.int .i64 D,.bool J,.slice E I H,.int .i64 b0,.bool bn,.slice V Z Y]) ?_ rfl ⟨_,_,_,rfl,⟨D,J,E,I,H,b0,bn,V,Z,Y,rfl,d5,d6⟩,m6.o,d4⟩; simp [results,Tryz.results52,go_sem,o0,o1,o2,o3,o4,o5]
  have z:decide (y2=1)=false:=decide_eq_false c7; rw [z]; clear z c7
  go_wp2_with fail
  go_region_held3 (fun W=>W.cell? ⟨w.heap.size,0,none⟩=some (.int .i64 a0)∧W.cell? ⟨w.heap.size,1,none⟩=some (.bool an)∧W.cell? ⟨w.heap.size,2,none⟩=some (.slice aa al ac)∧W.cell? ⟨w.heap.size,3,none⟩=some (.int .i64 b0)∧W.cell? ⟨w.heap.size,4,none⟩=some (.bool bn)∧W.cell? ⟨w.heap.size,5,none⟩=some (.slice V Z Y)∧W.cell? ⟨w.heap.size+1,0,none⟩=some (.int .i64 d0)∧W.cell? ⟨w.heap.size+1,1,none⟩=some (.bool dn)∧W.cell? ⟨w.heap.size+1,2,none⟩=some (.slice da dl dc)∧W.cell? ⟨w.heap.size+1,3,none⟩=some (.int .i64 e0)∧W.cell? ⟨w.heap.size+1,4,none⟩=some (.bool en)∧W.cell? ⟨w.heap.size+1,5,none⟩=some (.slice ea el ec)) (first
   | with_reducible assumption|with_reducible exact held_put6 (by with_reducible assumption) (w.heap.size+1+1) (by omega) (by omega) _ _ _ _ _ _|go_keep) (first
   | (go_at_call_of 78 (Value.int IntKind.i64 a0)
      refine (T1.o _ ?_).mono ?_
      ·exact b5.o.drew
      rintro e e2 ⟨u1,rfl,y,hb⟩; have g7:=Hd y; have O:Hid (Up U e2):=b5.o.drew.trans (hb.mono b5.o.size); have n0:=(HX.o e2 O.o).held; clear y hb)
   | (go_at_call_of 78 (Value.int IntKind.i64 d0)
      refine (T2.o _ ?_).mono ?_
      ·exact O.o
      rintro e e3 ⟨u2,rfl,y,hb⟩; have g8:=Hd y; have b6:Hid (Up U e3):=O.o.trans (hb.mono O.o.size); have h7:=Hd (g7.o.below hb); have n1:=(HX.o e3 b6.o).held; clear y hb)
   | (go_at_call 77
      refine (l1AddN_any 0 _ _ _ _ 600 600 _ (Nat.zero_le _) h7.o g8.o (by omega) (by omega)).mono ?_; rintro e wp ⟨up,rfl,y,hb⟩; have h6:Hid (NumZ 0 wp up (x1*y2+x2*y1) 601):=numZ_lt y g6.o; have T:Hid (Up U wp):=b6.o.trans (hb.mono b6.o.size); have n3:=(HX.o wp T.o).held; clear y hb)
   | (go_at_call_of 78 (Value.int IntKind.i64 e0)
      refine (T3.o _ ?_).mono ?_
      ·exact T.o
      rintro e e4 ⟨u3,rfl,y,hb⟩; have g9:=Hd y; have b7:Hid (Up U e4):=T.o.trans (hb.mono T.o.size); have h8:=Hd (h6.o.below hb); have n2:=(HX.o e4 b7.o).held; clear y hb)
   | (go_at_call 20
      refine (l2Make_any 0 _ _ (x1*y2+x2*y1) (y1*y2) _ (Nat.zero_le _) (numZ_le h8.o (by omega)) (numZ_le g9.o (by omega)) HD.o).mono ?_; rintro e K ⟨zr,p,q,rfl,hr,a9,hb⟩; have d3:=Hd a9; have M:Hid (Up U K):=b7.o.trans (hb.mono b7.o.size); obtain ⟨D,J,E,I,H,h0,hn,hA,hl,hc,rfl,hg,hh⟩:=hr; have HG:=Hd hg; have HH:=Hd hh; have s:=HX.o K M.o; have i5:=s.held; obtain ⟨r0,r1,r2,r3,r4,r5⟩:=s.r.k6; obtain ⟨f0,f1,f2,f3,f4,f5⟩:=s.r.f6; clear hg hh a9 hb s))
  all_goals
   try simp only [List.getElem_toArray,List.getElem_cons_succ,List.getElem_cons_zero,Act.put,List.setIfInBounds_toArray,List.set_cons_succ,List.set_cons_zero]
   go_wp2
   have a7:=(HX.o K M.o).r; have m:NoInt K (w.heap.size+1+1):=noInt_of a7 (by simp); have hk:=keeps6 K (w.heap.size+1+1) (.int .i64 D) (.bool J) (.slice E I H) (.int .i64 h0) (.bool hn) (.slice hA hl hc); have d5:=(HG.o).keeps m m hk; have d6:=(HH.o).keeps m m hk; have d4:=set6 (j.o.trans (M.o.mono j.o.size)) (w.heap.size+1+1) (by omega) (.int .i64 D) (.bool J) (.slice E I H) (.int .i64 h0) (.bool hn) (.slice hA hl hc); have hZ:=a7.put6 (.int .i64 D) (.bool J) (.slice E I H) (.int .i64 h0) (.bool hn) (.slice hA hl hc); have d7:((((((K.setCell ⟨w.heap.size+1+1,0,none⟩ (.int .i64 D)).setCell ⟨w.heap.size+1+1,1,none⟩ (.bool J)).setCell ⟨w.heap.size+1+1,2,none⟩ (.slice E I H)).setCell ⟨w.heap.size+1+1,3,none⟩ (.int .i64 h0)).setCell ⟨w.heap.size+1+1,4,none⟩ (.bool hn)).setCell ⟨w.heap.size+1+1,5,none⟩ (.slice hA hl hc))=W6 K (w.heap.size+1+1) (.int .i64 D) (.bool J) (.slice E I H) (.int .i64 h0) (.bool hn) (.slice hA hl hc):=rfl; rw [d7]; generalize W6 K (w.heap.size+1+1) (.int .i64 D) (.bool J) (.slice E I H) (.int .i64 h0) (.bool hn) (.slice hA hl hc)=W9 at *; obtain ⟨o0,o1,o2,o3,o4,o5⟩:=hZ.k6; refine bodyPost_ret (v:=.agg #[.int .i64 D,.bool J,.slice E I H,.int .i64 h0,.bool hn,.slice hA hl hc]) ?_ rfl ⟨_,p,q,rfl,⟨D,J,E,I,H,h0,hn,hA,hl,hc,rfl,d5,d6⟩,d3.o,d4⟩; simp [results,Tryz.results52,go_sem,o0,o1,o2,o3,o4,o5]
 have z:decide (y1=1)=false:=decide_eq_false d9; rw [z]; clear z d9
 go_wp2_with fail
 go_region_held3 (fun W=>W.cell? ⟨w.heap.size,0,none⟩=some (.int .i64 a0)∧W.cell? ⟨w.heap.size,1,none⟩=some (.bool an)∧W.cell? ⟨w.heap.size,2,none⟩=some (.slice aa al ac)∧W.cell? ⟨w.heap.size,3,none⟩=some (.int .i64 b0)∧W.cell? ⟨w.heap.size,4,none⟩=some (.bool bn)∧W.cell? ⟨w.heap.size,5,none⟩=some (.slice V Z Y)∧W.cell? ⟨w.heap.size+1,0,none⟩=some (.int .i64 d0)∧W.cell? ⟨w.heap.size+1,1,none⟩=some (.bool dn)∧W.cell? ⟨w.heap.size+1,2,none⟩=some (.slice da dl dc)∧W.cell? ⟨w.heap.size+1,3,none⟩=some (.int .i64 e0)∧W.cell? ⟨w.heap.size+1,4,none⟩=some (.bool en)∧W.cell? ⟨w.heap.size+1,5,none⟩=some (.slice ea el ec)) (first
  | with_reducible assumption|with_reducible exact held_put6 (by with_reducible assumption) (w.heap.size+1+1) (by omega) (by omega) _ _ _ _ _ _|go_keep) (first
  | (go_at_call_of 78 (Value.int IntKind.i64 a0)
     refine (T1.o _ ?_).mono ?_
     ·exact b4.o.drew
     rintro e e2 ⟨u1,rfl,y,hb⟩; have g7:=Hd y; have O:Hid (Up U e2):=b4.o.drew.trans (hb.mono b4.o.size); have n0:=(HX.o e2 O.o).held; clear y hb)
  | (go_at_call_of 78 (Value.int IntKind.i64 d0)
     refine (T2.o _ ?_).mono ?_
     ·exact O.o
     rintro e e3 ⟨u2,rfl,y,hb⟩; have g8:=Hd y; have b6:Hid (Up U e3):=O.o.trans (hb.mono O.o.size); have h7:=Hd (g7.o.below hb); have n1:=(HX.o e3 b6.o).held; clear y hb)
  | (go_at_call 77
     refine (l1AddN_any 0 _ _ _ _ 600 600 _ (Nat.zero_le _) h7.o g8.o (by omega) (by omega)).mono ?_; rintro e wp ⟨up,rfl,y,hb⟩; have h6:Hid (NumZ 0 wp up (x1*y2+x2*y1) 601):=numZ_lt y g6.o; have T:Hid (Up U wp):=b6.o.trans (hb.mono b6.o.size); have n3:=(HX.o wp T.o).held; clear y hb)
  | (go_at_call_of 78 (Value.int IntKind.i64 e0)
     refine (T3.o _ ?_).mono ?_
     ·exact T.o
     rintro e e4 ⟨u3,rfl,y,hb⟩; have g9:=Hd y; have b7:Hid (Up U e4):=T.o.trans (hb.mono T.o.size); have h8:=Hd (h6.o.below hb); have n2:=(HX.o e4 b7.o).held; clear y hb)
  | (go_at_call 20
     refine (l2Make_any 0 _ _ (x1*y2+x2*y1) (y1*y2) _ (Nat.zero_le _) (numZ_le h8.o (by omega)) (numZ_le g9.o (by omega)) HD.o).mono ?_; rintro e K ⟨zr,p,q,rfl,hr,a9,hb⟩; have d3:=Hd a9; have M:Hid (Up U K):=b7.o.trans (hb.mono b7.o.size); obtain ⟨D,J,E,I,H,h0,hn,hA,hl,hc,rfl,hg,hh⟩:=hr; have HG:=Hd hg; have HH:=Hd hh; have s:=HX.o K M.o; have i5:=s.held; obtain ⟨r0,r1,r2,r3,r4,r5⟩:=s.r.k6; obtain ⟨f0,f1,f2,f3,f4,f5⟩:=s.r.f6; clear hg hh a9 hb s))
 all_goals
  try simp only [List.getElem_toArray,List.getElem_cons_succ,List.getElem_cons_zero,Act.put,List.setIfInBounds_toArray,List.set_cons_succ,List.set_cons_zero]
  go_wp2
  have a7:=(HX.o K M.o).r; have m:NoInt K (w.heap.size+1+1):=noInt_of a7 (by simp); have hk:=keeps6 K (w.heap.size+1+1) (.int .i64 D) (.bool J) (.slice E I H) (.int .i64 h0) (.bool hn) (.slice hA hl hc); have d5:=(HG.o).keeps m m hk; have d6:=(HH.o).keeps m m hk; have d4:=set6 (j.o.trans (M.o.mono j.o.size)) (w.heap.size+1+1) (by omega) (.int .i64 D) (.bool J) (.slice E I H) (.int .i64 h0) (.bool hn) (.slice hA hl hc); have hZ:=a7.put6 (.int .i64 D) (.bool J) (.slice E I H) (.int .i64 h0) (.bool hn) (.slice hA hl hc); have d7:((((((K.setCell ⟨w.heap.size+1+1,0,none⟩ (.int .i64 D)).setCell ⟨w.heap.size+1+1,1,none⟩ (.bool J)).setCell ⟨w.heap.size+1+1,2,none⟩ (.slice E I H)).setCell ⟨w.heap.size+1+1,3,none⟩ (.int .i64 h0)).setCell ⟨w.heap.size+1+1,4,none⟩ (.bool hn)).setCell ⟨w.heap.size+1+1,5,none⟩ (.slice hA hl hc))=W6 K (w.heap.size+1+1) (.int .i64 D) (.bool J) (.slice E I H) (.int .i64 h0) (.bool hn) (.slice hA hl hc):=rfl; rw [d7]; generalize W6 K (w.heap.size+1+1) (.int .i64 D) (.bool J) (.slice E I H) (.int .i64 h0) (.bool hn) (.slice hA hl hc)=W9 at *; obtain ⟨o0,o1,o2,o3,o4,o5⟩:=hZ.k6; refine bodyPost_ret (v:=.agg #[.int .i64 D,.bool J,.slice E I H,.int .i64 h0,.bool hn,.slice hA hl hc]) ?_ rfl ⟨_,p,q,rfl,⟨D,J,E,I,H,h0,hn,hA,hl,hc,rfl,d5,d6⟩,d3.o,d4⟩; simp [results,Tryz.results52,go_sem,o0,o1,o2,o3,o4,o5]
end Go.Proofs.YtknfmkeipeikkaaGreatDoor
