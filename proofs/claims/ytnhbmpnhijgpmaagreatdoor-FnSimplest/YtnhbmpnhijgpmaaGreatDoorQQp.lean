import Derived.Test.YtnhbmpnhijgpmaaGreatDoorU4p
import Derived.Test.YtnhbmpnhijgpmaaGreatDoorU5p
import Derived.Deep.RegionHeld3
set_option maxRecDepth 100000
set_option maxHeartbeats 8000000
namespace Go.Proofs.YtnhbmpnhijgpmaaGreatDoor
open Go.ChangeShapes Go.WideShapes Go.ChangeAt Go.RowKit
structure BxS (h:Nat) (W:World) (a0:Int) (an:Bool) (aa:Option Addr) (al ac:Nat) (b0:Int) (bn:Bool) (ba:Option Addr) (bl bc:Nat) (d0:Int) (dn:Bool) (da:Option Addr) (dl dc:Nat) (e0:Int) (en:Bool) (ea:Option Addr) (el ec:Nat):Prop where
 a:Bx W h [.int .i64 a0,.bool an,.slice aa al ac,.int .i64 b0,.bool bn,.slice ba bl bc]
 b:Bx W (h+1) [.int .i64 d0,.bool dn,.slice da dl dc,.int .i64 e0,.bool en,.slice ea el ec]
theorem BxS.below {h N:Nat} {W W':World} {a0:Int} {an:Bool} {aa:Option Addr} {al ac:Nat} {b0:Int} {bn:Bool} {ba:Option Addr} {bl bc:Nat} {d0:Int} {dn:Bool} {da:Option Addr} {dl dc:Nat} {e0:Int} {en:Bool} {ea:Option Addr} {el ec:Nat} (m:BxS h W a0 an aa al ac b0 bn ba bl bc d0 dn da dl dc e0 en ea el ec) (hN:h+2≤N) (hb:Below N W W'):BxS h W' a0 an aa al ac b0 bn ba bl bc d0 dn da dl dc e0 en ea el ec:=
 ⟨m.a.below (by omega) hb,m.b.below (by omega) hb⟩
theorem BxS.held {h:Nat} {W:World} {a0:Int} {an:Bool} {aa:Option Addr} {al ac:Nat} {b0:Int} {bn:Bool} {ba:Option Addr} {bl bc:Nat} {d0:Int} {dn:Bool} {da:Option Addr} {dl dc:Nat} {e0:Int} {en:Bool} {ea:Option Addr} {el ec:Nat} (m:BxS h W a0 an aa al ac b0 bn ba bl bc d0 dn da dl dc e0 en ea el ec):W.cell? ⟨h,0,none⟩=some (.int .i64 a0)∧W.cell? ⟨h,1,none⟩=some (.bool an)∧W.cell? ⟨h,2,none⟩=some (.slice aa al ac)∧W.cell? ⟨h,3,none⟩=some (.int .i64 b0)∧W.cell? ⟨h,4,none⟩=some (.bool bn)∧W.cell? ⟨h,5,none⟩=some (.slice ba bl bc)∧W.cell? ⟨h+1,0,none⟩=some (.int .i64 d0)∧W.cell? ⟨h+1,1,none⟩=some (.bool dn)∧W.cell? ⟨h+1,2,none⟩=some (.slice da dl dc)∧W.cell? ⟨h+1,3,none⟩=some (.int .i64 e0)∧W.cell? ⟨h+1,4,none⟩=some (.bool en)∧W.cell? ⟨h+1,5,none⟩=some (.slice ea el ec):=
 ⟨m.a.cell 0,m.a.cell 1,m.a.cell 2,m.a.cell 3,m.a.cell 4,m.a.cell 5,m.b.cell 0,m.b.cell 1,m.b.cell 2,m.b.cell 3,m.b.cell 4,m.b.cell 5⟩
theorem l1MulN_any (B:Nat) (za zb:Value) (x y:Int) (n m:Nat) (w:World) (hBw:B≤w.heap.size) (ha:NumZ B w za x n) (hb:NumZ B w zb y m) (hn:n≤100000) (hm:m≤100000) :
 Calls Tryz.prog 67 #[za,zb] w fun e w'=>∃ z,e=.returned z∧IsN 0 w' z (x*y)∧Up w w':=by
 obtain ⟨A,a,i,rfl,s⟩:=ha; obtain ⟨D,b,j,rfl,t⟩:=hb; refine (l1Mul_any B za zb A D a b w hBw i j (by omega) (by omega)).mono ?_; rintro e w' ⟨z,rfl,u,hb⟩; exact ⟨z,rfl,u.mono (Nat.zero_le _),hb⟩
theorem l1CmpN_any (B:Nat) (za zb:Value) (x y:Int) (w:World) (hBw:B≤w.heap.size) (ha:IsN B w za x) (hb:IsN B w zb y) :
 Calls Tryz.prog 30 #[za,zb] w fun e w'=>e=.returned (.int .i64 (ordI x y))∧Up w w':=by
 obtain ⟨m,a,i,rfl⟩:=ha; obtain ⟨s,b,j,rfl⟩:=hb; refine (l1Cmp_any B za zb m s a b w hBw i j).mono ?_; rintro e w' ⟨rfl,hb⟩; exact ⟨by rw [cmpI_ord m s a b i.1 j.1 i.2.1 j.2.1],hb⟩
theorem l2Cmp_any (B:Nat) (za zd:Value) (x1 y1 x2 y2:Int) (w:World) (hBw:B≤w.heap.size) (ha:IsQN B w za x1 y1) (hd:IsQN B w zd x2 y2) :
 Calls Tryz.prog 40 #[za,zd] w fun e w'=>e=.returned (.int .i64 (ordI (x1*y2) (x2*y1)))∧Up w w':=by
 have e3:=Hd ha; have e4:=Hd hd; obtain ⟨a0,T,O,S,Q,b0,bn,ba,bl,bc,rfl,h1,h2⟩:=ha; obtain ⟨K,Z,U,Y,V,e0,en,ea,el,ec,rfl,h3,h4⟩:=hd; have H1:=Hd h1; have H2:=Hd h2; have H3:=Hd h3; have H4:=Hd h4; have E:=Hd hBw; clear h1 h2 h3 h4 hBw; obtain ⟨L,F⟩:=exW ((w.alloc (.cells #[.int .i64 a0,.bool T,.slice O S Q,.int .i64 b0,.bool bn,.slice ba bl bc] 51)).alloc (.cells #[.int .i64 K,.bool Z,.slice U Y V,.int .i64 e0,.bool en,.slice ea el ec] 51)); have e7:=Hd F; have i:Hid (Up w L):=by unfold Hid; rw [← F]; exact below_al (below_alloc _ _) _
 have H:BxS w.heap.size L a0 T O S Q b0 bn ba bl bc K Z U Y V e0 en ea el ec:=by
  refine ⟨?_,?_⟩
  ·rw [← F]; exact (bx_new w _ _).alloc _
  rw [← F]; have h:=bx_new (w.alloc (.cells #[.int .i64 a0,.bool T,.slice O S Q,.int .i64 b0,.bool bn,.slice ba bl bc] 51)) [.int .i64 K,.bool Z,.slice U Y V,.int .i64 e0,.bool en,.slice ea el ec] 51; rw [World.size_alloc] at h; exact h
 have M:Hid (∀ W,Up L W→BxS w.heap.size W a0 T O S Q b0 bn ba bl bc K Z U Y V e0 en ea el ec):=fun W hW=>H.below H.b.lt hW; have T1:Hid (∀ W,Up L W→Calls Tryz.prog 67 #[.agg #[.int .i64 a0,.bool T,.slice O S Q],.agg #[.int .i64 e0,.bool en,.slice ea el ec]] W (fun e w'=>∃ z,e=.returned z∧IsN 0 w' z (x1*y2)∧Up W w')):=fun W hW=>
  l1MulN_any B _ _ _ _ 1000 1000 W (by have:=E.o; have:=i.o.size; have:=hW.size; omega) ((H1.o.below i.o).below hW) ((H4.o.below i.o).below hW) (by omega) (by omega)
 have T2:Hid (∀ W,Up L W→Calls Tryz.prog 67 #[.agg #[.int .i64 K,.bool Z,.slice U Y V],.agg #[.int .i64 b0,.bool bn,.slice ba bl bc]] W (fun e w'=>∃ z,e=.returned z∧IsN 0 w' z (x2*y1)∧Up W w')):=fun W hW=>
  l1MulN_any B _ _ _ _ 1000 1000 W (by have:=E.o; have:=i.o.size; have:=hW.size; omega) ((H3.o.below i.o).below hW) ((H2.o.below i.o).below hW) (by omega) (by omega)
 have HC:Hid (∀ W,Up L W→Calls Tryz.prog 30 #[.agg #[.int .i64 a0,.bool T,.slice O S Q],.agg #[.int .i64 K,.bool Z,.slice U Y V]] W (fun e w'=>e=.returned (.int .i64 (ordI x1 x2))∧Up W w')):=fun W hW=>
  l1CmpN_any B _ _ _ _ W (by have:=E.o; have:=i.o.size; have:=hW.size; omega) ((H1.o.below i.o).below hW).isN ((H3.o.below i.o).below hW).isN
 obtain ⟨k0,k1,k2,k3,k4,k5⟩:=H.a.k6; obtain ⟨j0,j1,j2,j3,j4,j5⟩:=H.b.k6; clear F H
 go_enter Tryz.func40,Tryz.ntmps40
 go_upto_region 1 with fail
 rw [e7.o]
 go_wp2_with fail
 refine (l2Whole_any B _ x1 y1 L (by have:=E.o; have:=i.o.size; omega) (e3.o.below i.o)).mono ?_; rintro e w1 ⟨rfl,b8⟩; have s:=Hd b8; have hx:=M.o w1 b8; clear b8 k0 k1 k2 k3 k4 k5 j0 j1 j2 j3 j4 j5; obtain ⟨k0,k1,k2,k3,k4,k5⟩:=hx.a.k6; obtain ⟨j0,j1,j2,j3,j4,j5⟩:=hx.b.k6; clear hx
 by_cases I:y1=1
 ·have z:decide (y1=1)=true:=decide_eq_true I; have e8:=Hd I; rw [z]; clear z I
  go_wp2_with fail
  refine (l2Whole_any B _ x2 y2 w1 (by have:=E.o; have:=i.o.size; have:=s.o.size; omega) ((e4.o.below i.o).below s.o)).mono ?_; rintro e w2 ⟨rfl,c6⟩; have t:=Hd (s.o.trans (c6.mono s.o.size)); have hx:=M.o w2 t.o; clear c6 k0 k1 k2 k3 k4 k5 j0 j1 j2 j3 j4 j5; obtain ⟨k0,k1,k2,k3,k4,k5⟩:=hx.a.k6; obtain ⟨j0,j1,j2,j3,j4,j5⟩:=hx.b.k6; clear hx
  by_cases J:y2=1
  ·have z:decide (y2=1)=true:=decide_eq_true J; have HE:Hid (ordI x1 x2=ordI (x1*y2) (x2*y1)):=by unfold Hid; rw [e8.o,J,Int.mul_one,Int.mul_one]
   rw [z]; clear z J
   go_wp2_with fail
   refine (HC.o w2 t.o).mono ?_; rintro e w3 ⟨rfl,c7⟩; have e2:=Hd (i.o.trans ((t.o.trans (c7.mono t.o.size)).mono i.o.size)); clear c7 k0 k1 k2 k3 k4 k5 j0 j1 j2 j3 j4 j5
   go_wp2
   go_ret
   exact ⟨ret_int HE.o,e2.o⟩
  have z:decide (y2=1)=false:=decide_eq_false J; rw [z]; clear z J
  go_wp2_with fail
  go_region_held3 (fun W=>W.cell? ⟨w.heap.size,0,none⟩=some (.int .i64 a0)∧W.cell? ⟨w.heap.size,1,none⟩=some (.bool T)∧W.cell? ⟨w.heap.size,2,none⟩=some (.slice O S Q)∧W.cell? ⟨w.heap.size,3,none⟩=some (.int .i64 b0)∧W.cell? ⟨w.heap.size,4,none⟩=some (.bool bn)∧W.cell? ⟨w.heap.size,5,none⟩=some (.slice ba bl bc)∧W.cell? ⟨w.heap.size+1,0,none⟩=some (.int .i64 K)∧W.cell? ⟨w.heap.size+1,1,none⟩=some (.bool Z)∧W.cell? ⟨w.heap.size+1,2,none⟩=some (.slice U Y V)∧W.cell? ⟨w.heap.size+1,3,none⟩=some (.int .i64 e0)∧W.cell? ⟨w.heap.size+1,4,none⟩=some (.bool en)∧W.cell? ⟨w.heap.size+1,5,none⟩=some (.slice ea el ec)) (first
   | assumption|go_keep) (first
   | (go_at_call_of 67 (Value.int IntKind.i64 a0)
      refine (T1.o _ ?_).mono ?_
      ·exact t.o.drew
      rintro e wa ⟨u,rfl,hu,G⟩; have HU:=Hd hu; have m:Hid (Up L wa):=t.o.drew.trans (G.mono t.o.size); have e9:=(M.o wa m.o).held; clear hu G)
   | (go_at_call_of 67 (Value.int IntKind.i64 K)
      refine (T2.o _ ?_).mono ?_
      ·exact m.o
      rintro e wb ⟨v,rfl,hv,A⟩; have HV:=Hd hv; have j:=Hd (m.o.trans (A.mono m.o.size)); have a5:=Hd (HU.o.below A); have f5:=(M.o wb j.o).held; clear hv A)
   | (go_at_call 30
      refine (l1CmpN_any 0 _ _ _ _ _ (Nat.zero_le _) a5.o HV.o).mono ?_; rintro e wc ⟨rfl,D⟩; have f7:=(M.o wc (j.o.trans (D.mono j.o.size))).held; have a3:=Hd (i.o.trans ((j.o.trans (D.mono j.o.size)).mono i.o.size)); clear D))
  all_goals
   go_wp2
   go_ret
   exact ⟨rfl,a3.o⟩
 have z:decide (y1=1)=false:=decide_eq_false I; rw [z]; clear z I
 go_wp2_with fail
 go_region_held3 (fun W=>W.cell? ⟨w.heap.size,0,none⟩=some (.int .i64 a0)∧W.cell? ⟨w.heap.size,1,none⟩=some (.bool T)∧W.cell? ⟨w.heap.size,2,none⟩=some (.slice O S Q)∧W.cell? ⟨w.heap.size,3,none⟩=some (.int .i64 b0)∧W.cell? ⟨w.heap.size,4,none⟩=some (.bool bn)∧W.cell? ⟨w.heap.size,5,none⟩=some (.slice ba bl bc)∧W.cell? ⟨w.heap.size+1,0,none⟩=some (.int .i64 K)∧W.cell? ⟨w.heap.size+1,1,none⟩=some (.bool Z)∧W.cell? ⟨w.heap.size+1,2,none⟩=some (.slice U Y V)∧W.cell? ⟨w.heap.size+1,3,none⟩=some (.int .i64 e0)∧W.cell? ⟨w.heap.size+1,4,none⟩=some (.bool en)∧W.cell? ⟨w.heap.size+1,5,none⟩=some (.slice ea el ec)) (first
  | assumption|go_keep) (first
  | (go_at_call_of 67 (Value.int IntKind.i64 a0)
     refine (T1.o _ ?_).mono ?_
     ·exact s.o.drew
     rintro e wa ⟨u,rfl,hu,G⟩; have HU:=Hd hu; have m:Hid (Up L wa):=s.o.drew.trans (G.mono s.o.size); have e9:=(M.o wa m.o).held; clear hu G)
  | (go_at_call_of 67 (Value.int IntKind.i64 K)
     refine (T2.o _ ?_).mono ?_
     ·exact m.o
     rintro e wb ⟨v,rfl,hv,A⟩; have HV:=Hd hv; have j:=Hd (m.o.trans (A.mono m.o.size)); have a5:=Hd (HU.o.below A); have f5:=(M.o wb j.o).held; clear hv A)
  | (go_at_call 30
     refine (l1CmpN_any 0 _ _ _ _ _ (Nat.zero_le _) a5.o HV.o).mono ?_; rintro e wc ⟨rfl,D⟩; have f7:=(M.o wc (j.o.trans (D.mono j.o.size))).held; have a3:=Hd (i.o.trans ((j.o.trans (D.mono j.o.size)).mono i.o.size)); clear D))
 all_goals
  go_wp2
  go_ret
  exact ⟨rfl,a3.o⟩
structure BxT (h:Nat) (W:World) (a0:Int) (an:Bool) (aa:Option Addr) (al ac:Nat) (b0:Int) (bn:Bool) (ba:Option Addr) (bl bc:Nat) (d0:Int) (dn:Bool) (da:Option Addr) (dl dc:Nat) (e0:Int) (en:Bool) (ea:Option Addr) (el ec:Nat):Prop where
 a:Bx W h [.int .i64 a0,.bool an,.slice aa al ac,.int .i64 b0,.bool bn,.slice ba bl bc]
 b:Bx W (h+1) [.int .i64 d0,.bool dn,.slice da dl dc,.int .i64 e0,.bool en,.slice ea el ec]
 r:Bx W (h+1+1) [.int .i64 0,.bool false,.slice none 0 0,.int .i64 0,.bool false,.slice none 0 0]
theorem BxT.below {h N:Nat} {W W':World} {a0:Int} {an:Bool} {aa:Option Addr} {al ac:Nat} {b0:Int} {bn:Bool} {ba:Option Addr} {bl bc:Nat} {d0:Int} {dn:Bool} {da:Option Addr} {dl dc:Nat} {e0:Int} {en:Bool} {ea:Option Addr} {el ec:Nat} (m:BxT h W a0 an aa al ac b0 bn ba bl bc d0 dn da dl dc e0 en ea el ec) (hN:h+3≤N) (hb:Below N W W'):BxT h W' a0 an aa al ac b0 bn ba bl bc d0 dn da dl dc e0 en ea el ec:=
 ⟨m.a.below (by omega) hb,m.b.below (by omega) hb,m.r.below (by omega) hb⟩
theorem BxT.held {h:Nat} {W:World} {a0:Int} {an:Bool} {aa:Option Addr} {al ac:Nat} {b0:Int} {bn:Bool} {ba:Option Addr} {bl bc:Nat} {d0:Int} {dn:Bool} {da:Option Addr} {dl dc:Nat} {e0:Int} {en:Bool} {ea:Option Addr} {el ec:Nat} (m:BxT h W a0 an aa al ac b0 bn ba bl bc d0 dn da dl dc e0 en ea el ec):W.cell? ⟨h,0,none⟩=some (.int .i64 a0)∧W.cell? ⟨h,1,none⟩=some (.bool an)∧W.cell? ⟨h,2,none⟩=some (.slice aa al ac)∧W.cell? ⟨h,3,none⟩=some (.int .i64 b0)∧W.cell? ⟨h,4,none⟩=some (.bool bn)∧W.cell? ⟨h,5,none⟩=some (.slice ba bl bc)∧W.cell? ⟨h+1,0,none⟩=some (.int .i64 d0)∧W.cell? ⟨h+1,1,none⟩=some (.bool dn)∧W.cell? ⟨h+1,2,none⟩=some (.slice da dl dc)∧W.cell? ⟨h+1,3,none⟩=some (.int .i64 e0)∧W.cell? ⟨h+1,4,none⟩=some (.bool en)∧W.cell? ⟨h+1,5,none⟩=some (.slice ea el ec):=
 ⟨m.a.cell 0,m.a.cell 1,m.a.cell 2,m.a.cell 3,m.a.cell 4,m.a.cell 5,m.b.cell 0,m.b.cell 1,m.b.cell 2,m.b.cell 3,m.b.cell 4,m.b.cell 5⟩
theorem cell_far6 {W:World} {a:Addr} {v:Value} (g:Nat) (h:W.cell? a=some v) (hg:g≠a.block) (u0 u1 u2 u3 u4 u5:Value):((((((W.setCell ⟨g,0,none⟩ u0).setCell ⟨g,1,none⟩ u1).setCell ⟨g,2,none⟩ u2).setCell ⟨g,3,none⟩ u3).setCell ⟨g,4,none⟩ u4).setCell ⟨g,5,none⟩ u5).cell? a=some v:=by
 rw [World.cell?_setCell_far _ _ _ _ hg,World.cell?_setCell_far _ _ _ _ hg,World.cell?_setCell_far _ _ _ _ hg,World.cell?_setCell_far _ _ _ _ hg,World.cell?_setCell_far _ _ _ _ hg,World.cell?_setCell_far _ _ _ _ hg]; exact h
theorem held_put6 {h:Nat} {W:World} {a0:Int} {an:Bool} {aa:Option Addr} {al ac:Nat} {b0:Int} {bn:Bool} {ba:Option Addr} {bl bc:Nat} {d0:Int} {dn:Bool} {da:Option Addr} {dl dc:Nat} {e0:Int} {en:Bool} {ea:Option Addr} {el ec:Nat} (m:W.cell? ⟨h,0,none⟩=some (.int .i64 a0)∧W.cell? ⟨h,1,none⟩=some (.bool an)∧W.cell? ⟨h,2,none⟩=some (.slice aa al ac)∧W.cell? ⟨h,3,none⟩=some (.int .i64 b0)∧W.cell? ⟨h,4,none⟩=some (.bool bn)∧W.cell? ⟨h,5,none⟩=some (.slice ba bl bc)∧W.cell? ⟨h+1,0,none⟩=some (.int .i64 d0)∧W.cell? ⟨h+1,1,none⟩=some (.bool dn)∧W.cell? ⟨h+1,2,none⟩=some (.slice da dl dc)∧W.cell? ⟨h+1,3,none⟩=some (.int .i64 e0)∧W.cell? ⟨h+1,4,none⟩=some (.bool en)∧W.cell? ⟨h+1,5,none⟩=some (.slice ea el ec)) (g:Nat) (h0:g≠h) (h1:g≠h+1) (u0 u1 u2 u3 u4 u5:Value):((((((W.setCell ⟨g,0,none⟩ u0).setCell ⟨g,1,none⟩ u1).setCell ⟨g,2,none⟩ u2).setCell ⟨g,3,none⟩ u3).setCell ⟨g,4,none⟩ u4).setCell ⟨g,5,none⟩ u5).cell? ⟨h,0,none⟩=some (.int .i64 a0)∧((((((W.setCell ⟨g,0,none⟩ u0).setCell ⟨g,1,none⟩ u1).setCell ⟨g,2,none⟩ u2).setCell ⟨g,3,none⟩ u3).setCell ⟨g,4,none⟩ u4).setCell ⟨g,5,none⟩ u5).cell? ⟨h,1,none⟩=some (.bool an)∧((((((W.setCell ⟨g,0,none⟩ u0).setCell ⟨g,1,none⟩ u1).setCell ⟨g,2,none⟩ u2).setCell ⟨g,3,none⟩ u3).setCell ⟨g,4,none⟩ u4).setCell ⟨g,5,none⟩ u5).cell? ⟨h,2,none⟩=some (.slice aa al ac)∧((((((W.setCell ⟨g,0,none⟩ u0).setCell ⟨g,1,none⟩ u1).setCell ⟨g,2,none⟩ u2).setCell ⟨g,3,none⟩ u3).setCell ⟨g,4,none⟩ u4).setCell ⟨g,5,none⟩ u5).cell? ⟨h,3,none⟩=some (.int .i64 b0)∧((((((W.setCell ⟨g,0,none⟩ u0).setCell ⟨g,1,none⟩ u1).setCell ⟨g,2,none⟩ u2).setCell ⟨g,3,none⟩ u3).setCell ⟨g,4,none⟩ u4).setCell ⟨g,5,none⟩ u5).cell? ⟨h,4,none⟩=some (.bool bn)∧((((((W.setCell ⟨g,0,none⟩ u0).setCell ⟨g,1,none⟩ u1).setCell ⟨g,2,none⟩ u2).setCell ⟨g,3,none⟩ u3).setCell ⟨g,4,none⟩ u4).setCell ⟨g,5,none⟩ u5).cell? ⟨h,5,none⟩=some (.slice ba bl bc)∧((((((W.setCell ⟨g,0,none⟩ u0).setCell ⟨g,1,none⟩ u1).setCell ⟨g,2,none⟩ u2).setCell ⟨g,3,none⟩ u3).setCell ⟨g,4,none⟩ u4).setCell ⟨g,5,none⟩ u5).cell? ⟨h+1,0,none⟩=some (.int .i64 d0)∧((((((W.setCell ⟨g,0,none⟩ u0).setCell ⟨g,1,none⟩ u1).setCell ⟨g,2,none⟩ u2).setCell ⟨g,3,none⟩ u3).setCell ⟨g,4,none⟩ u4).setCell ⟨g,5,none⟩ u5).cell? ⟨h+1,1,none⟩=some (.bool dn)∧((((((W.setCell ⟨g,0,none⟩ u0).setCell ⟨g,1,none⟩ u1).setCell ⟨g,2,none⟩ u2).setCell ⟨g,3,none⟩ u3).setCell ⟨g,4,none⟩ u4).setCell ⟨g,5,none⟩ u5).cell? ⟨h+1,2,none⟩=some (.slice da dl dc)∧((((((W.setCell ⟨g,0,none⟩ u0).setCell ⟨g,1,none⟩ u1).setCell ⟨g,2,none⟩ u2).setCell ⟨g,3,none⟩ u3).setCell ⟨g,4,none⟩ u4).setCell ⟨g,5,none⟩ u5).cell? ⟨h+1,3,none⟩=some (.int .i64 e0)∧((((((W.setCell ⟨g,0,none⟩ u0).setCell ⟨g,1,none⟩ u1).setCell ⟨g,2,none⟩ u2).setCell ⟨g,3,none⟩ u3).setCell ⟨g,4,none⟩ u4).setCell ⟨g,5,none⟩ u5).cell? ⟨h+1,4,none⟩=some (.bool en)∧((((((W.setCell ⟨g,0,none⟩ u0).setCell ⟨g,1,none⟩ u1).setCell ⟨g,2,none⟩ u2).setCell ⟨g,3,none⟩ u3).setCell ⟨g,4,none⟩ u4).setCell ⟨g,5,none⟩ u5).cell? ⟨h+1,5,none⟩=some (.slice ea el ec):=
 ⟨cell_far6 g m.1 h0 _ _ _ _ _ _,cell_far6 g m.2.1 h0 _ _ _ _ _ _,cell_far6 g m.2.2.1 h0 _ _ _ _ _ _,cell_far6 g m.2.2.2.1 h0 _ _ _ _ _ _,cell_far6 g m.2.2.2.2.1 h0 _ _ _ _ _ _,cell_far6 g m.2.2.2.2.2.1 h0 _ _ _ _ _ _,cell_far6 g m.2.2.2.2.2.2.1 h1 _ _ _ _ _ _,cell_far6 g m.2.2.2.2.2.2.2.1 h1 _ _ _ _ _ _,cell_far6 g m.2.2.2.2.2.2.2.2.1 h1 _ _ _ _ _ _,cell_far6 g m.2.2.2.2.2.2.2.2.2.1 h1 _ _ _ _ _ _,cell_far6 g m.2.2.2.2.2.2.2.2.2.2.1 h1 _ _ _ _ _ _,cell_far6 g m.2.2.2.2.2.2.2.2.2.2.2 h1 _ _ _ _ _ _⟩
theorem low_one (x y1 y2:Int) (h1:y1=1) (h2:y2=1):IsLow x (y1*y2) x y1:=by
 refine ⟨1,by decide,by omega,by rw [h1,h2],by omega,?_⟩; rw [h1,h2]; simp
theorem l1AddN_any (B:Nat) (za zb:Value) (x y:Int) (n m:Nat) (w:World) (hBw:B≤w.heap.size) (ha:NumZ B w za x n) (hb:NumZ B w zb y m) (hn:n≤100000) (hm:m≤100000) :
 Calls Tryz.prog 68 #[za,zb] w fun e w'=>∃ z,e=.returned z∧IsN 0 w' z (x+y)∧Up w w':=by
 obtain ⟨A,a,i,rfl,s⟩:=ha; obtain ⟨D,b,j,rfl,t⟩:=hb; refine (l1Add_any B za zb A D a b w hBw i j (by omega) (by omega)).mono ?_; rintro e w' ⟨z,rfl,u,hb⟩; exact ⟨z,rfl,u.mono (Nat.zero_le _),hb⟩
theorem l2Add_any (B:Nat) (za zd:Value) (x1 y1 x2 y2:Int) (w:World) (hBw:B≤w.heap.size) (ha:IsQN B w za x1 y1) (hd:IsQN B w zd x2 y2) (hlt:x1.natAbs<lb 280∧y1.natAbs<lb 280∧x2.natAbs<lb 280∧y2.natAbs<lb 280) (hden:y1*y2≠0) :
 Calls Tryz.prog 41 #[za,zd] w fun e w'=>∃ z p q,e=.returned z∧IsQN 0 w' z p q∧IsLow (x1*y2+x2*y1) (y1*y2) p q∧Up w w':=by
 have l3:=Hd ha; have l4:=Hd hd; have HL:=Hd hlt; have HD:=Hd hden; obtain ⟨a0,an,aa,al,ac,b0,S,M,Q,O,rfl,h1,h2⟩:=ha; obtain ⟨d0,dn,da,dl,dc,e0,en,ea,el,ec,rfl,h3,h4⟩:=hd; have H1:=Hd h1; have H2:=Hd h2; have H3:=Hd h3; have H4:=Hd h4; have a9:=Hd hBw; clear h1 h2 h3 h4 hBw hlt hden; have e8:Hid ((x1*y2+x2*y1).natAbs<lb 561):=add_lt (mul_lt HL.o.1 HL.o.2.2.2) (mul_lt HL.o.2.2.1 HL.o.2.1); obtain ⟨L,b3⟩:=exW (((w.alloc (.cells #[.int .i64 a0,.bool an,.slice aa al ac,.int .i64 b0,.bool S,.slice M Q O] 51)).alloc (.cells #[.int .i64 d0,.bool dn,.slice da dl dc,.int .i64 e0,.bool en,.slice ea el ec] 51)).alloc (.cells #[.int .i64 0,.bool false,.slice none 0 0,.int .i64 0,.bool false,.slice none 0 0] 51)); have l5:=Hd b3; have i:Hid (Up w L):=by unfold Hid; rw [← b3]; exact below_al (below_al (below_alloc _ _) _) _
 have c9:BxT w.heap.size L a0 an aa al ac b0 S M Q O d0 dn da dl dc e0 en ea el ec:=by
  refine ⟨?_,?_,?_⟩
  ·rw [← b3]; exact ((bx_new w _ _).alloc _).alloc _
  ·rw [← b3]; have h:=bx_new (w.alloc (.cells #[.int .i64 a0,.bool an,.slice aa al ac,.int .i64 b0,.bool S,.slice M Q O] 51)) [.int .i64 d0,.bool dn,.slice da dl dc,.int .i64 e0,.bool en,.slice ea el ec] 51; rw [World.size_alloc] at h; exact h.alloc _
  rw [← b3]; have h:=bx_new ((w.alloc (.cells #[.int .i64 a0,.bool an,.slice aa al ac,.int .i64 b0,.bool S,.slice M Q O] 51)).alloc (.cells #[.int .i64 d0,.bool dn,.slice da dl dc,.int .i64 e0,.bool en,.slice ea el ec] 51)) [.int .i64 0,.bool false,.slice none 0 0,.int .i64 0,.bool false,.slice none 0 0] 51; rw [World.size_alloc,World.size_alloc] at h; exact h
 have HX:Hid (∀ W,Up L W→BxT w.heap.size W a0 an aa al ac b0 S M Q O d0 dn da dl dc e0 en ea el ec):=fun W hW=>c9.below c9.r.lt hW; have T1:Hid (∀ W,Up L W→Calls Tryz.prog 67 #[.agg #[.int .i64 a0,.bool an,.slice aa al ac],.agg #[.int .i64 e0,.bool en,.slice ea el ec]] W (fun e w'=>∃ z,e=.returned z∧NumZ 0 w' z (x1*y2) 560∧Up W w')):=fun W hW=>by
  refine (l1MulN_any B _ _ _ _ 1000 1000 W (by have:=a9.o; have:=i.o.size; have:=hW.size; omega) ((H1.o.below i.o).below hW) ((H4.o.below i.o).below hW) (by omega) (by omega)).mono ?_; rintro e w' ⟨z,rfl,hz,j⟩; exact ⟨z,rfl,numZ_lt hz (mul_lt HL.o.1 HL.o.2.2.2),j⟩
 have T2:Hid (∀ W,Up L W→Calls Tryz.prog 67 #[.agg #[.int .i64 d0,.bool dn,.slice da dl dc],.agg #[.int .i64 b0,.bool S,.slice M Q O]] W (fun e w'=>∃ z,e=.returned z∧NumZ 0 w' z (x2*y1) 560∧Up W w')):=fun W hW=>by
  refine (l1MulN_any B _ _ _ _ 1000 1000 W (by have:=a9.o; have:=i.o.size; have:=hW.size; omega) ((H3.o.below i.o).below hW) ((H2.o.below i.o).below hW) (by omega) (by omega)).mono ?_; rintro e w' ⟨z,rfl,hz,j⟩; exact ⟨z,rfl,numZ_lt hz (mul_lt HL.o.2.2.1 HL.o.2.1),j⟩
 have T3:Hid (∀ W,Up L W→Calls Tryz.prog 67 #[.agg #[.int .i64 b0,.bool S,.slice M Q O],.agg #[.int .i64 e0,.bool en,.slice ea el ec]] W (fun e w'=>∃ z,e=.returned z∧NumZ 0 w' z (y1*y2) 560∧Up W w')):=fun W hW=>by
  refine (l1MulN_any B _ _ _ _ 1000 1000 W (by have:=a9.o; have:=i.o.size; have:=hW.size; omega) ((H2.o.below i.o).below hW) ((H4.o.below i.o).below hW) (by omega) (by omega)).mono ?_; rintro e w' ⟨z,rfl,hz,j⟩; exact ⟨z,rfl,numZ_lt hz (mul_lt HL.o.2.1 HL.o.2.2.2),j⟩
 have TW:Hid (∀ W,Up L W→Calls Tryz.prog 68 #[.agg #[.int .i64 a0,.bool an,.slice aa al ac],.agg #[.int .i64 d0,.bool dn,.slice da dl dc]] W (fun e w'=>∃ z,e=.returned z∧NumZ 0 w' z (x1+x2) 561∧Up W w')):=fun W hW=>by
  refine (l1AddN_any B _ _ _ _ 1000 1000 W (by have:=a9.o; have:=i.o.size; have:=hW.size; omega) ((H1.o.below i.o).below hW) ((H3.o.below i.o).below hW) (by omega) (by omega)).mono ?_; rintro e w' ⟨z,rfl,hz,j⟩; exact ⟨z,rfl,numZ_lt hz (add_lt (lb_le 280 560 (by decide) HL.o.1) (lb_le 280 560 (by decide) HL.o.2.2.1)),j⟩
 obtain ⟨k0,k1,k2,k3,k4,k5⟩:=c9.a.k6; obtain ⟨j0,j1,j2,j3,j4,j5⟩:=c9.b.k6; clear b3 c9
 go_enter Tryz.func41,Tryz.ntmps41
 go_upto_region 1 with fail
 rw [l5.o]
 go_wp2_with fail
 refine (l2Whole_any B _ x1 y1 L (by have:=a9.o; have:=i.o.size; omega) (l3.o.below i.o)).mono ?_; rintro e w1 ⟨rfl,g6⟩; have a5:=Hd g6; have hx:=HX.o w1 g6; clear g6 k0 k1 k2 k3 k4 k5 j0 j1 j2 j3 j4 j5; obtain ⟨k0,k1,k2,k3,k4,k5⟩:=hx.a.k6; obtain ⟨j0,j1,j2,j3,j4,j5⟩:=hx.b.k6; clear hx
 by_cases d1:y1=1
 ·have z:decide (y1=1)=true:=decide_eq_true d1; have h7:=Hd d1; rw [z]; clear z d1
  go_wp2_with fail
  refine (l2Whole_any B _ x2 y2 w1 (by have:=a9.o; have:=i.o.size; have:=a5.o.size; omega) ((l4.o.below i.o).below a5.o)).mono ?_; rintro e w2 ⟨rfl,i0⟩; have a6:=Hd (a5.o.trans (i0.mono a5.o.size)); have hx:=HX.o w2 a6.o; clear i0 k0 k1 k2 k3 k4 k5 j0 j1 j2 j3 j4 j5; obtain ⟨k0,k1,k2,k3,k4,k5⟩:=hx.a.k6; obtain ⟨j0,j1,j2,j3,j4,j5⟩:=hx.b.k6; clear hx
  by_cases b4:y2=1
  ·have z:decide (y2=1)=true:=decide_eq_true b4; have l2:Hid (IsLow (x1*y2+x2*y1) (y1*y2) (x1+x2) y1):=by
    unfold Hid
    have h:=low_one (x1+x2) _ _ h7.o b4; rw [show x1*y2+x2*y1=x1+x2 by rw [h7.o,b4,Int.mul_one,Int.mul_one]]; exact h
   rw [z]; clear z b4
   go_wp2_with fail
   go_region_held3 (fun W=>W.cell? ⟨w.heap.size,0,none⟩=some (.int .i64 a0)∧W.cell? ⟨w.heap.size,1,none⟩=some (.bool an)∧W.cell? ⟨w.heap.size,2,none⟩=some (.slice aa al ac)∧W.cell? ⟨w.heap.size,3,none⟩=some (.int .i64 b0)∧W.cell? ⟨w.heap.size,4,none⟩=some (.bool S)∧W.cell? ⟨w.heap.size,5,none⟩=some (.slice M Q O)∧W.cell? ⟨w.heap.size+1,0,none⟩=some (.int .i64 d0)∧W.cell? ⟨w.heap.size+1,1,none⟩=some (.bool dn)∧W.cell? ⟨w.heap.size+1,2,none⟩=some (.slice da dl dc)∧W.cell? ⟨w.heap.size+1,3,none⟩=some (.int .i64 e0)∧W.cell? ⟨w.heap.size+1,4,none⟩=some (.bool en)∧W.cell? ⟨w.heap.size+1,5,none⟩=some (.slice ea el ec)) (first
    | with_reducible assumption|with_reducible exact held_put6 (by with_reducible assumption) (w.heap.size+1+1) (by omega) (by omega) _ _ _ _ _ _|go_keep) (first
    | (go_at_call 68
       refine (TW.o _ ?_).mono ?_
       ·exact a6.o.drew
       rintro e H ⟨u,rfl,t,j⟩; obtain ⟨A,G,D,F,E,rfl⟩:=t.isN.shape; have HG:=Hd (numZ_le t (n:=1000) (by omega)); have I:Hid (Up L H):=a6.o.drew.trans (j.mono a6.o.size); have s:=HX.o H I.o; have h8:=s.held; obtain ⟨r0,r1,r2,r3,r4,r5⟩:=s.r.k6; obtain ⟨f0,f1,f2,f3,f4,f5⟩:=s.r.f6; clear t j s))
   all_goals
    try simp only [List.getElem_toArray,List.getElem_cons_succ,List.getElem_cons_zero,Act.put,List.setIfInBounds_toArray,List.set_cons_succ,List.set_cons_zero]
    go_wp2
    have V:=(HX.o H I.o).r; have m:NoInt H (w.heap.size+1+1):=noInt_of V (by simp); have hk:=keeps6 H (w.heap.size+1+1) (.int .i64 A) (.bool G) (.slice D F E) (.int .i64 b0) (.bool S) (.slice M Q O); have c6:=(HG.o).keeps m m hk; have c7:=(((H2.o.below i.o).below I.o).mono (Nat.zero_le _)).keeps m m hk; have b9:=set6 (i.o.trans (I.o.mono i.o.size)) (w.heap.size+1+1) (by omega) (.int .i64 A) (.bool G) (.slice D F E) (.int .i64 b0) (.bool S) (.slice M Q O); have hZ:=V.put6 (.int .i64 A) (.bool G) (.slice D F E) (.int .i64 b0) (.bool S) (.slice M Q O); have c8:((((((H.setCell ⟨w.heap.size+1+1,0,none⟩ (.int .i64 A)).setCell ⟨w.heap.size+1+1,1,none⟩ (.bool G)).setCell ⟨w.heap.size+1+1,2,none⟩ (.slice D F E)).setCell ⟨w.heap.size+1+1,3,none⟩ (.int .i64 b0)).setCell ⟨w.heap.size+1+1,4,none⟩ (.bool S)).setCell ⟨w.heap.size+1+1,5,none⟩ (.slice M Q O))=W6 H (w.heap.size+1+1) (.int .i64 A) (.bool G) (.slice D F E) (.int .i64 b0) (.bool S) (.slice M Q O):=rfl; rw [c8]; generalize W6 H (w.heap.size+1+1) (.int .i64 A) (.bool G) (.slice D F E) (.int .i64 b0) (.bool S) (.slice M Q O)=W9 at *; obtain ⟨o0,o1,o2,o3,o4,o5⟩:=hZ.k6; refine bodyPost_ret (v:=.agg #[.int .i64 A,.bool G,.slice D F E,.int .i64 b0,.bool S,.slice M Q O]) ?_ rfl ⟨_,_,_,rfl,⟨A,G,D,F,E,b0,S,M,Q,O,rfl,c6,c7⟩,l2.o,b9⟩; simp [results,Tryz.results41,go_sem,o0,o1,o2,o3,o4,o5]
  have z:decide (y2=1)=false:=decide_eq_false b4; rw [z]; clear z b4
  go_wp2_with fail
  go_region_held3 (fun W=>W.cell? ⟨w.heap.size,0,none⟩=some (.int .i64 a0)∧W.cell? ⟨w.heap.size,1,none⟩=some (.bool an)∧W.cell? ⟨w.heap.size,2,none⟩=some (.slice aa al ac)∧W.cell? ⟨w.heap.size,3,none⟩=some (.int .i64 b0)∧W.cell? ⟨w.heap.size,4,none⟩=some (.bool S)∧W.cell? ⟨w.heap.size,5,none⟩=some (.slice M Q O)∧W.cell? ⟨w.heap.size+1,0,none⟩=some (.int .i64 d0)∧W.cell? ⟨w.heap.size+1,1,none⟩=some (.bool dn)∧W.cell? ⟨w.heap.size+1,2,none⟩=some (.slice da dl dc)∧W.cell? ⟨w.heap.size+1,3,none⟩=some (.int .i64 e0)∧W.cell? ⟨w.heap.size+1,4,none⟩=some (.bool en)∧W.cell? ⟨w.heap.size+1,5,none⟩=some (.slice ea el ec)) (first
   | with_reducible assumption|with_reducible exact held_put6 (by with_reducible assumption) (w.heap.size+1+1) (by omega) (by omega) _ _ _ _ _ _|go_keep) (first
   | (go_at_call_of 67 (Value.int IntKind.i64 a0)
      refine (T1.o _ ?_).mono ?_
      ·exact a6.o.drew
      rintro e d2 ⟨u1,rfl,t,j⟩; have f7:=Hd t; have J:Hid (Up L d2):=a6.o.drew.trans (j.mono a6.o.size); have l6:=(HX.o d2 J.o).held; clear t j)
   | (go_at_call_of 67 (Value.int IntKind.i64 d0)
      refine (T2.o _ ?_).mono ?_
      ·exact J.o
      rintro e d3 ⟨u2,rfl,t,j⟩; have f9:=Hd t; have a7:Hid (Up L d3):=J.o.trans (j.mono J.o.size); have g3:=Hd (f7.o.below j); have l7:=(HX.o d3 a7.o).held; clear t j)
   | (go_at_call 68
      refine (l1AddN_any 0 _ _ _ _ 560 560 _ (Nat.zero_le _) g3.o f9.o (by omega) (by omega)).mono ?_; rintro e wp ⟨up,rfl,t,j⟩; have g2:Hid (NumZ 0 wp up (x1*y2+x2*y1) 561):=numZ_lt t e8.o; have K:Hid (Up L wp):=a7.o.trans (j.mono a7.o.size); have l9:=(HX.o wp K.o).held; clear t j)
   | (go_at_call_of 67 (Value.int IntKind.i64 e0)
      refine (T3.o _ ?_).mono ?_
      ·exact K.o
      rintro e d4 ⟨u3,rfl,t,j⟩; have g1:=Hd t; have a8:Hid (Up L d4):=K.o.trans (j.mono K.o.size); have g4:=Hd (g2.o.below j); have l8:=(HX.o d4 a8.o).held; clear t j)
   | (go_at_call 19
      refine (l2Make_any 0 _ _ (x1*y2+x2*y1) (y1*y2) _ (Nat.zero_le _) (numZ_le g4.o (by omega)) (numZ_le g1.o (by omega)) HD.o).mono ?_; rintro e H ⟨zr,p,q,rfl,hr,Z,j⟩; have b8:=Hd Z; have I:Hid (Up L H):=a8.o.trans (j.mono a8.o.size); obtain ⟨A,G,D,F,E,T,hn,U,hl,Y,rfl,hg,hh⟩:=hr; have HG:=Hd hg; have HH:=Hd hh; have s:=HX.o H I.o; have h8:=s.held; obtain ⟨r0,r1,r2,r3,r4,r5⟩:=s.r.k6; obtain ⟨f0,f1,f2,f3,f4,f5⟩:=s.r.f6; clear hg hh Z j s))
  all_goals
   try simp only [List.getElem_toArray,List.getElem_cons_succ,List.getElem_cons_zero,Act.put,List.setIfInBounds_toArray,List.set_cons_succ,List.set_cons_zero]
   go_wp2
   have V:=(HX.o H I.o).r; have m:NoInt H (w.heap.size+1+1):=noInt_of V (by simp); have hk:=keeps6 H (w.heap.size+1+1) (.int .i64 A) (.bool G) (.slice D F E) (.int .i64 T) (.bool hn) (.slice U hl Y); have c6:=(HG.o).keeps m m hk; have c7:=(HH.o).keeps m m hk; have b9:=set6 (i.o.trans (I.o.mono i.o.size)) (w.heap.size+1+1) (by omega) (.int .i64 A) (.bool G) (.slice D F E) (.int .i64 T) (.bool hn) (.slice U hl Y); have hZ:=V.put6 (.int .i64 A) (.bool G) (.slice D F E) (.int .i64 T) (.bool hn) (.slice U hl Y); have c8:((((((H.setCell ⟨w.heap.size+1+1,0,none⟩ (.int .i64 A)).setCell ⟨w.heap.size+1+1,1,none⟩ (.bool G)).setCell ⟨w.heap.size+1+1,2,none⟩ (.slice D F E)).setCell ⟨w.heap.size+1+1,3,none⟩ (.int .i64 T)).setCell ⟨w.heap.size+1+1,4,none⟩ (.bool hn)).setCell ⟨w.heap.size+1+1,5,none⟩ (.slice U hl Y))=W6 H (w.heap.size+1+1) (.int .i64 A) (.bool G) (.slice D F E) (.int .i64 T) (.bool hn) (.slice U hl Y):=rfl; rw [c8]; generalize W6 H (w.heap.size+1+1) (.int .i64 A) (.bool G) (.slice D F E) (.int .i64 T) (.bool hn) (.slice U hl Y)=W9 at *; obtain ⟨o0,o1,o2,o3,o4,o5⟩:=hZ.k6; refine bodyPost_ret (v:=.agg #[.int .i64 A,.bool G,.slice D F E,.int .i64 T,.bool hn,.slice U hl Y]) ?_ rfl ⟨_,p,q,rfl,⟨A,G,D,F,E,T,hn,U,hl,Y,rfl,c6,c7⟩,b8.o,b9⟩; simp [results,Tryz.results41,go_sem,o0,o1,o2,o3,o4,o5]
 have z:decide (y1=1)=false:=decide_eq_false d1; rw [z]; clear z d1
 go_wp2_with fail
 go_region_held3 (fun W=>W.cell? ⟨w.heap.size,0,none⟩=some (.int .i64 a0)∧W.cell? ⟨w.heap.size,1,none⟩=some (.bool an)∧W.cell? ⟨w.heap.size,2,none⟩=some (.slice aa al ac)∧W.cell? ⟨w.heap.size,3,none⟩=some (.int .i64 b0)∧W.cell? ⟨w.heap.size,4,none⟩=some (.bool S)∧W.cell? ⟨w.heap.size,5,none⟩=some (.slice M Q O)∧W.cell? ⟨w.heap.size+1,0,none⟩=some (.int .i64 d0)∧W.cell? ⟨w.heap.size+1,1,none⟩=some (.bool dn)∧W.cell? ⟨w.heap.size+1,2,none⟩=some (.slice da dl dc)∧W.cell? ⟨w.heap.size+1,3,none⟩=some (.int .i64 e0)∧W.cell? ⟨w.heap.size+1,4,none⟩=some (.bool en)∧W.cell? ⟨w.heap.size+1,5,none⟩=some (.slice ea el ec)) (first
  | with_reducible assumption|with_reducible exact held_put6 (by with_reducible assumption) (w.heap.size+1+1) (by omega) (by omega) _ _ _ _ _ _|go_keep) (first
  | (go_at_call_of 67 (Value.int IntKind.i64 a0)
     refine (T1.o _ ?_).mono ?_
     ·exact a5.o.drew
     rintro e d2 ⟨u1,rfl,t,j⟩; have f7:=Hd t; have J:Hid (Up L d2):=a5.o.drew.trans (j.mono a5.o.size); have l6:=(HX.o d2 J.o).held; clear t j)
  | (go_at_call_of 67 (Value.int IntKind.i64 d0)
     refine (T2.o _ ?_).mono ?_
     ·exact J.o
     rintro e d3 ⟨u2,rfl,t,j⟩; have f9:=Hd t; have a7:Hid (Up L d3):=J.o.trans (j.mono J.o.size); have g3:=Hd (f7.o.below j); have l7:=(HX.o d3 a7.o).held; clear t j)
  | (go_at_call 68
     refine (l1AddN_any 0 _ _ _ _ 560 560 _ (Nat.zero_le _) g3.o f9.o (by omega) (by omega)).mono ?_; rintro e wp ⟨up,rfl,t,j⟩; have g2:Hid (NumZ 0 wp up (x1*y2+x2*y1) 561):=numZ_lt t e8.o; have K:Hid (Up L wp):=a7.o.trans (j.mono a7.o.size); have l9:=(HX.o wp K.o).held; clear t j)
  | (go_at_call_of 67 (Value.int IntKind.i64 e0)
     refine (T3.o _ ?_).mono ?_
     ·exact K.o
     rintro e d4 ⟨u3,rfl,t,j⟩; have g1:=Hd t; have a8:Hid (Up L d4):=K.o.trans (j.mono K.o.size); have g4:=Hd (g2.o.below j); have l8:=(HX.o d4 a8.o).held; clear t j)
  | (go_at_call 19
     refine (l2Make_any 0 _ _ (x1*y2+x2*y1) (y1*y2) _ (Nat.zero_le _) (numZ_le g4.o (by omega)) (numZ_le g1.o (by omega)) HD.o).mono ?_; rintro e H ⟨zr,p,q,rfl,hr,Z,j⟩; have b8:=Hd Z; have I:Hid (Up L H):=a8.o.trans (j.mono a8.o.size); obtain ⟨A,G,D,F,E,T,hn,U,hl,Y,rfl,hg,hh⟩:=hr; have HG:=Hd hg; have HH:=Hd hh; have s:=HX.o H I.o; have h8:=s.held; obtain ⟨r0,r1,r2,r3,r4,r5⟩:=s.r.k6; obtain ⟨f0,f1,f2,f3,f4,f5⟩:=s.r.f6; clear hg hh Z j s))
 all_goals
  try simp only [List.getElem_toArray,List.getElem_cons_succ,List.getElem_cons_zero,Act.put,List.setIfInBounds_toArray,List.set_cons_succ,List.set_cons_zero]
  go_wp2
  have V:=(HX.o H I.o).r; have m:NoInt H (w.heap.size+1+1):=noInt_of V (by simp); have hk:=keeps6 H (w.heap.size+1+1) (.int .i64 A) (.bool G) (.slice D F E) (.int .i64 T) (.bool hn) (.slice U hl Y); have c6:=(HG.o).keeps m m hk; have c7:=(HH.o).keeps m m hk; have b9:=set6 (i.o.trans (I.o.mono i.o.size)) (w.heap.size+1+1) (by omega) (.int .i64 A) (.bool G) (.slice D F E) (.int .i64 T) (.bool hn) (.slice U hl Y); have hZ:=V.put6 (.int .i64 A) (.bool G) (.slice D F E) (.int .i64 T) (.bool hn) (.slice U hl Y); have c8:((((((H.setCell ⟨w.heap.size+1+1,0,none⟩ (.int .i64 A)).setCell ⟨w.heap.size+1+1,1,none⟩ (.bool G)).setCell ⟨w.heap.size+1+1,2,none⟩ (.slice D F E)).setCell ⟨w.heap.size+1+1,3,none⟩ (.int .i64 T)).setCell ⟨w.heap.size+1+1,4,none⟩ (.bool hn)).setCell ⟨w.heap.size+1+1,5,none⟩ (.slice U hl Y))=W6 H (w.heap.size+1+1) (.int .i64 A) (.bool G) (.slice D F E) (.int .i64 T) (.bool hn) (.slice U hl Y):=rfl; rw [c8]; generalize W6 H (w.heap.size+1+1) (.int .i64 A) (.bool G) (.slice D F E) (.int .i64 T) (.bool hn) (.slice U hl Y)=W9 at *; obtain ⟨o0,o1,o2,o3,o4,o5⟩:=hZ.k6; refine bodyPost_ret (v:=.agg #[.int .i64 A,.bool G,.slice D F E,.int .i64 T,.bool hn,.slice U hl Y]) ?_ rfl ⟨_,p,q,rfl,⟨A,G,D,F,E,T,hn,U,hl,Y,rfl,c6,c7⟩,b8.o,b9⟩; simp [results,Tryz.results41,go_sem,o0,o1,o2,o3,o4,o5]
end Go.Proofs.YtnhbmpnhijgpmaaGreatDoor
