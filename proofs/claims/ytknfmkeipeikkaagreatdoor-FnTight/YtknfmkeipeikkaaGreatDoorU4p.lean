import Derived.Test.YtknfmkeipeikkaaGreatDoorGcdSpecp
import Derived.Test.YtknfmkeipeikkaaGreatDoorU1p
import Derived.Test.YtknfmkeipeikkaaGreatDoorCmpAp
import Derived.Laws.Strings3
set_option maxRecDepth 100000
set_option maxHeartbeats 4000000
namespace Go.Proofs.YtknfmkeipeikkaaGreatDoor
open Go.ChangeShapes Go.WideShapes Go.ChangeAt Go.RowKit
theorem isN_one {B:Nat} {w:World} {g0:Int} {gn:Bool} {ga:Option Addr} {gl gc:Nat} {G:Int} (h:IsN B w (.agg #[.int .i64 g0,.bool gn,.slice ga gl gc]) G):(((gl:Int)==0)&&(g0==1))=decide (G=1):=by
 obtain ⟨neg,t,⟨D,m,s⟩,u⟩:=h
 rcases s with ⟨h2,v,e,⟨p,c,rfl,_⟩⟩|⟨h2,e⟩
 ·simp only [Value.agg.injEq,Array.mk.injEq,List.cons.injEq,Value.slice.injEq,and_true] at e; have hl:gl=t.length:=e.2.2.2.1; have hne:t≠[]:=by rintro rfl; simp at h2
  have h3:=val_ge t m hne; have h4:1000000000 ^ 2≤1000000000 ^ (t.length - 1):=Nat.pow_le_pow_right (by decide) (by omega); have h5:(1000000000:Nat) ^ 2=1000000000000000000:=by decide
  have j:G≠1:=by
   rw [← u]
   cases neg<;>simp [sg]<;>omega
  have s:((gl:Int)==0)=false:=by rw [beq_eq_false_iff_ne]; omega
  rw [s,decide_eq_false j]; rfl
 simp only [Value.agg.injEq,Array.mk.injEq,List.cons.injEq,Value.slice.injEq,Value.int.injEq,and_true,true_and] at e; have y:g0=sg neg (val t):=e.1; have hl:gl=0:=e.2.2.2.1; subst hl y; rw [u]
 by_cases j:G=1
 ·subst j; rfl
 have:(G==1)=false:=by rw [beq_eq_false_iff_ne]; exact j
 rw [this,decide_eq_false j]; rfl
def IsQN (B:Nat) (w:World) (z:Value) (x y:Int):Prop:=∃ (p0:Int) (pn:Bool) (pa:Option Addr) (pl pc:Nat) (q0:Int) (qn:Bool) (qa:Option Addr) (ql qc:Nat),z=.agg #[.int .i64 p0,.bool pn,.slice pa pl pc,.int .i64 q0,.bool qn,.slice qa ql qc] ∧
 NumZ B w (.agg #[.int .i64 p0,.bool pn,.slice pa pl pc]) x 1000∧NumZ B w (.agg #[.int .i64 q0,.bool qn,.slice qa ql qc]) y 1000
theorem NumZ.keeps {B:Nat} {w W:World} {z:Value} {x:Int} {n:Nat} {g h:Nat} (hl:NumZ B w z x n) (n1:NoInt w g) (n2:NoInt w h) (k:Keeps g h w W):NumZ B W z x n:=by
 obtain ⟨neg,t,⟨j,m,s⟩,D⟩:=hl; refine ⟨neg,t,⟨j,m,?_⟩,D⟩
 rcases s with ⟨h2,v,y,u⟩|s
 ·exact .inl ⟨h2,v,y,u.keeps n1 n2 k⟩
 exact .inr s
theorem NumZ.mono' {B B':Nat} {w:World} {z:Value} {x:Int} {n n':Nat} (h:NumZ B w z x n) (hb:B'≤B) (hn:n≤n'):NumZ B' w z x n':=by
 obtain ⟨neg,t,j,h2,h3⟩:=h; exact ⟨neg,t,j.mono hb,h2,by omega⟩
theorem NumZ.shape' {B:Nat} {w:World} {z:Value} {x:Int} {n:Nat} (h:NumZ B w z x n):∃ (z0:Int) (zn:Bool) (za:Option Addr) (zl zc:Nat),z=.agg #[.int .i64 z0,.bool zn,.slice za zl zc]:=by
 obtain ⟨neg,t,j,_⟩:=h; exact j.shape
def W6 (W:World) (g:Nat) (u0 u1 u2 u3 u4 u5:Value):World:=(((((W.setCell ⟨g,0,none⟩ u0).setCell ⟨g,1,none⟩ u1).setCell ⟨g,2,none⟩ u2).setCell ⟨g,3,none⟩ u3).setCell ⟨g,4,none⟩ u4).setCell ⟨g,5,none⟩ u5
theorem keeps6 (W:World) (g:Nat) (u0 u1 u2 u3 u4 u5:Value):Keeps g g W (W6 W g u0 u1 u2 u3 u4 u5):=
 Keeps.setCell (Keeps.setCell (Keeps.setCell (Keeps.setCell (Keeps.setCell (Keeps.setCell (Keeps.refl g g W) ⟨g,0,none⟩ u0 (Or.inl rfl)) ⟨g,1,none⟩ u1 (Or.inl rfl)) ⟨g,2,none⟩ u2 (Or.inl rfl)) ⟨g,3,none⟩ u3 (Or.inl rfl)) ⟨g,4,none⟩ u4 (Or.inl rfl)) ⟨g,5,none⟩ u5 (Or.inl rfl)
theorem set6 {N:Nat} {w W:World} (h:Below N w W) (g:Nat) (hg:N≤g) (u0 u1 u2 u3 u4 u5:Value):Below N w (W6 W g u0 u1 u2 u3 u4 u5):=
 (((((h.setCell (p:=⟨g,0,none⟩) hg u0).setCell (p:=⟨g,1,none⟩) hg u1).setCell (p:=⟨g,2,none⟩) hg u2).setCell (p:=⟨g,3,none⟩) hg u3).setCell (p:=⟨g,4,none⟩) hg u4).setCell (p:=⟨g,5,none⟩) hg u5
theorem Bx.put6 {W:World} {g:Nat} {a b c d e f:Value} (h:Bx W g [a,b,c,d,e,f]) (u0 u1 u2 u3 u4 u5:Value):Bx (W6 W g u0 u1 u2 u3 u4 u5) g [u0,u1,u2,u3,u4,u5]:=(((((h.set 0 u0).set 1 u1).set 2 u2).set 3 u3).set 4 u4).set 5 u5
theorem l2OfZ_any (B:Nat) (a0:Int) (an:Bool) (aa:Option Addr) (al ac:Nat) (x:Int) (w:World) (hBw:B≤w.heap.size) (h:NumZ B w (.agg #[.int .i64 a0,.bool an,.slice aa al ac]) x 1000) :
 Calls Tryz.prog 50 #[.agg #[.int .i64 a0,.bool an,.slice aa al ac]] w fun e w'=>∃ z,e=.returned z∧IsQN B w' z x 1∧Up w w':=by
 have HN:=Hd h; have Z:=Hd hBw; clear h hBw; obtain ⟨M,m⟩:=exW ((w.alloc (.cells #[.int .i64 a0,.bool an,.slice aa al ac] 53)).alloc (.cells #[.int .i64 0,.bool false,.slice none 0 0,.int .i64 0,.bool false,.slice none 0 0] 55)); have a3:=Hd m; have j:Hid (Up w M):=by
  unfold Hid
  rw [← m]; exact below_al (below_alloc _ _) _
 have y:Bx M w.heap.size [.int .i64 a0,.bool an,.slice aa al ac]:=by rw [← m]; exact (bx_new w _ _).alloc _
 have O:Bx M (w.heap.size+1) [.int .i64 0,.bool false,.slice none 0 0,.int .i64 0,.bool false,.slice none 0 0]:=by
  rw [← m]; have h:=bx_new (w.alloc (.cells #[.int .i64 a0,.bool an,.slice aa al ac] 53)) [.int .i64 0,.bool false,.slice none 0 0,.int .i64 0,.bool false,.slice none 0 0] 55; rw [World.size_alloc] at h; exact h
 have HX:Hid (∀ W,Up M W→Bx W w.heap.size [.int .i64 a0,.bool an,.slice aa al ac]∧Bx W (w.heap.size+1) [.int .i64 0,.bool false,.slice none 0 0,.int .i64 0,.bool false,.slice none 0 0]):=fun W hW=>⟨y.below y.lt hW,O.below O.lt hW⟩; clear m; obtain ⟨k0,k1,k2⟩:=y.k3; clear y O
 go_enter Tryz.func50,Tryz.ntmps50
 go_upto_region 1 with fail
 rw [a3.o]
 go_region_with (first
  | (go_at_call 21
     refine (l1Small_any 1 _ (by decide) (by decide)).mono ?_; rintro e K ⟨z,rfl,hz,U⟩; have s:Hid (Up M K):=(Below.refl _ M).drew.trans U; obtain ⟨D,J,E,I,H,rfl⟩:=hz.shape'; have HZ:Hid (NumZ M.heap.size K (.agg #[.int .i64 D,.bool J,.slice E I H]) 1 3):=hz; obtain ⟨Y,T⟩:=HX.o K s.o; obtain ⟨j0,j1,j2⟩:=Y.k3; obtain ⟨r0,r1,r2,r3,r4,r5⟩:=T.k6; obtain ⟨f0,f1,f2,f3,f4,f5⟩:=T.f6; clear hz U Y T))
 all_goals
  try simp only [List.getElem_toArray,List.getElem_cons_succ,List.getElem_cons_zero,Act.put,List.setIfInBounds_toArray,List.set_cons_succ,List.set_cons_zero]
  go_wp2
  have V:=(HX.o K s.o).2; have u:NoInt K (w.heap.size+1):=noInt_of V (by simp); have hk:=keeps6 K (w.heap.size+1) (.int .i64 a0) (.bool an) (.slice aa al ac) (.int .i64 D) (.bool J) (.slice E I H); have a6:=(HN.o.below (j.o.trans (s.o.mono j.o.size))).keeps u u hk; have a7:=(HZ.o.mono' (B':=B) (n':=1000) (by have:=Z.o; have:=j.o.size; omega) (by omega)).keeps u u hk; have a5:=set6 (j.o.trans (s.o.mono j.o.size)) (w.heap.size+1) (Nat.le_succ _) (.int .i64 a0) (.bool an) (.slice aa al ac) (.int .i64 D) (.bool J) (.slice E I H); have hZ:=V.put6 (.int .i64 a0) (.bool an) (.slice aa al ac) (.int .i64 D) (.bool J) (.slice E I H); have a8:(((((K.setCell ⟨w.heap.size+1,0,none⟩ (.int .i64 a0)).setCell ⟨w.heap.size+1,1,none⟩ (.bool an)).setCell ⟨w.heap.size+1,2,none⟩ (.slice aa al ac)).setCell ⟨w.heap.size+1,3,none⟩ (.int .i64 D)).setCell ⟨w.heap.size+1,4,none⟩ (.bool J)).setCell ⟨w.heap.size+1,5,none⟩ (.slice E I H)=W6 K (w.heap.size+1) (.int .i64 a0) (.bool an) (.slice aa al ac) (.int .i64 D) (.bool J) (.slice E I H):=rfl; rw [a8]; generalize W6 K (w.heap.size+1) (.int .i64 a0) (.bool an) (.slice aa al ac) (.int .i64 D) (.bool J) (.slice E I H)=W9 at *; obtain ⟨m0,m1,m2,m3,m4,m5⟩:=hZ.k6; refine bodyPost_ret (v:=.agg #[.int .i64 a0,.bool an,.slice aa al ac,.int .i64 D,.bool J,.slice E I H]) ?_ rfl ⟨_,rfl,⟨a0,an,aa,al,ac,D,J,E,I,H,rfl,a6,a7⟩,a5⟩; simp [results,Tryz.results50,go_sem,m0,m1,m2,m3,m4,m5]
theorem NumZ.isN {B:Nat} {w:World} {z:Value} {x:Int} {n:Nat} (h:NumZ B w z x n):IsN B w z x:=by
 obtain ⟨neg,t,j,h2,_⟩:=h; exact ⟨neg,t,j,h2⟩
theorem l2Whole_any (B:Nat) (z:Value) (x y:Int) (w:World) (_hBw:B≤w.heap.size) (h:IsQN B w z x y) :
 Calls Tryz.prog 40 #[z] w fun e w'=>e=.returned (.bool (decide (y=1)))∧Up w w':=by
 obtain ⟨V,pn,Y,pl,Z,J,O,K,ql,M,rfl,hP,hQ⟩:=h; have s:=Hd (isN_one hQ.isN); clear hP hQ; obtain ⟨H,m⟩:=exW (w.alloc (.cells #[.int .i64 V,.bool pn,.slice Y pl Z,.int .i64 J,.bool O,.slice K ql M] 55)); have U:=Hd m; have D:Hid (Up w H):=by unfold Hid; rw [← m]; exact below_alloc _ _
 have j:Bx H w.heap.size [.int .i64 V,.bool pn,.slice Y pl Z,.int .i64 J,.bool O,.slice K ql M]:=by rw [← m]; exact bx_new w _ _
 have HX:Hid (∀ W,Up H W→Bx W w.heap.size [.int .i64 V,.bool pn,.slice Y pl Z,.int .i64 J,.bool O,.slice K ql M]):=fun W hW=>j.below j.lt hW; have k3:=j.cell 3; have k4:=j.cell 4; have k5:=j.cell 5; simp only [List.getElem?_cons_zero,List.getElem?_cons_succ] at k3 k4 k5; clear m j
 go_enter Tryz.func40,Tryz.ntmps40
 go_upto_region 1 with fail
 rw [U.o]
 go_wp2_with fail
 refine (l1IsSmall_ex J O K ql M H).mono ?_; rintro e w1 ⟨rfl,I⟩; have u:Up H w1:=by rw [I]; exact below_alloc _ _
 have E:Hid (Up w w1):=D.o.trans (u.mono D.o.size); have hx:=HX.o w1 u; have j3:=hx.cell 3; simp only [List.getElem?_cons_zero,List.getElem?_cons_succ] at j3; clear I u hx k3 k4 k5
 by_cases hz:ql=0
 ·have z:((ql:Int)==0)=true:=by rw [beq_iff_eq]; omega
  have T:Hid ((J==1)=decide (y=1)):=by have h:=s.o; rw [z] at h; exact h
  rw [z]
  go_wp2
  go_ret
  exact ⟨ret_bool T.o,E.o⟩
 have z:((ql:Int)==0)=false:=by rw [beq_eq_false_iff_ne]; omega
 have T:Hid (false=decide (y=1)):=by have h:=s.o; rw [z] at h; exact h
 rw [z]
 go_wp2
 go_ret
 exact ⟨ret_bool T.o,E.o⟩
theorem l2Floor_any (B:Nat) (z:Value) (x y:Int) (w:World) (hBw:B≤w.heap.size) (h:IsQN B w z x y) (hy:y≠0) :
 Calls Tryz.prog 38 #[z] w fun e w'=>∃ z' q r,e=.returned z'∧IsN B w' z' q∧IsDiv x y q r∧Up w w':=by
 have h6:=Hd h; obtain ⟨u,H,D,pl,E,q0,qn,qa,ql,qc,rfl,hP,hQ⟩:=h; have HP:=Hd hP; have HQ:=Hd hQ; have a9:=Hd hBw; clear hP hQ hBw; obtain ⟨W0,I⟩:=exW ((w.alloc (.cells #[.int .i64 u,.bool H,.slice D pl E,.int .i64 q0,.bool qn,.slice qa ql qc] 55)).alloc (.cells #[.int .i64 0,.bool false,.slice none 0 0] 53)); have e8:=Hd I; have m:Hid (Up w W0):=by
  unfold Hid
  rw [← I]; exact below_al (below_alloc _ _) _
 have a5:Bx W0 w.heap.size [.int .i64 u,.bool H,.slice D pl E,.int .i64 q0,.bool qn,.slice qa ql qc]:=by rw [← I]; exact (bx_new w _ _).alloc _
 have c7:Bx W0 (w.heap.size+1) [.int .i64 0,.bool false,.slice none 0 0]:=by
  rw [← I]; have h:=bx_new (w.alloc (.cells #[.int .i64 u,.bool H,.slice D pl E,.int .i64 q0,.bool qn,.slice qa ql qc] 55)) [.int .i64 0,.bool false,.slice none 0 0] 53; rw [World.size_alloc] at h; exact h
 have HX:Hid (∀ W,Up W0 W→Bx W w.heap.size [.int .i64 u,.bool H,.slice D pl E,.int .i64 q0,.bool qn,.slice qa ql qc]∧Bx W (w.heap.size+1) [.int .i64 0,.bool false,.slice none 0 0]):=fun W hW=>⟨a5.below a5.lt hW,c7.below c7.lt hW⟩; obtain ⟨k0,k1,k2,k3,k4,k5⟩:=a5.k6; clear I a5 c7
 go_enter Tryz.func38,Tryz.ntmps38
 go_upto_region 1 with fail
 rw [e8.o]
 go_wp2_with fail
 have d6:IsQN B W0 (.agg #[.int .i64 u,.bool H,.slice D pl E,.int .i64 q0,.bool qn,.slice qa ql qc]) x y:=⟨u,H,D,pl,E,q0,qn,qa,ql,qc,rfl,HP.o.below m.o,HQ.o.below m.o⟩; refine (l2Whole_any B _ x y W0 (by have:=a9.o; have:=m.o.size; omega) d6).mono ?_; rintro e w1 ⟨rfl,a3⟩; have O:=Hd a3; have s:=Hd (m.o.trans (a3.mono m.o.size)); obtain ⟨hb,j⟩:=HX.o w1 a3; clear k0 k1 k2 k3 k4 k5 d6; obtain ⟨k0,k1,k2,k3,k4,k5⟩:=hb.k6; obtain ⟨r0,r1,r2⟩:=j.k3; obtain ⟨f0,f1,f2⟩:=j.f3; clear a3 hb j
 by_cases h1:y=1
 ·have hd:decide (y=1)=true:=decide_eq_true h1; have b3:Hid (IsDiv x y x 0):=by
   unfold Hid
   rw [h1]; exact ⟨by omega,by decide,by decide⟩
  have e6:=Hd (HP.o.below s.o).isN; rw [hd]; clear hd
  go_wp2
  have J:=(HX.o w1 O.o).2; have K:NoInt w1 (w.heap.size+1):=noInt_of J (by simp); have b8:=e6.o.keeps K K (Keeps.three w1 (w.heap.size+1) (.int .i64 u) (.bool H) (.slice D pl E)); have b7:=belowSet3 (m.o.trans (O.o.mono m.o.size)) (w.heap.size+1) (Nat.le_succ _) (.int .i64 u) (.bool H) (.slice D pl E); have hZ:Bx (((w1.setCell ⟨w.heap.size+1,0,none⟩ (.int .i64 u)).setCell ⟨w.heap.size+1,1,none⟩ (.bool H)).setCell ⟨w.heap.size+1,2,none⟩ (.slice D pl E)) (w.heap.size+1) [.int .i64 u,.bool H,.slice D pl E]:=((J.set 0 _).set 1 _).set 2 _; generalize ((w1.setCell ⟨w.heap.size+1,0,none⟩ (.int .i64 u)).setCell ⟨w.heap.size+1,1,none⟩ (.bool H)).setCell ⟨w.heap.size+1,2,none⟩ (.slice D pl E)=W9 at *; obtain ⟨m0,m1,m2⟩:=hZ.k3; refine bodyPost_ret (v:=.agg #[.int .i64 u,.bool H,.slice D pl E]) ?_ rfl ⟨_,x,0,rfl,b8,b3.o,b7⟩; simp [results,Tryz.results38,go_sem,m0,m1,m2]
 have hd:decide (y=1)=false:=decide_eq_false h1; rw [hd]; clear hd; obtain ⟨c9,t1,d9,e1,i2⟩:=HP.o.below s.o; obtain ⟨a6,t2,e0,e2,i3⟩:=HQ.o.below s.o; have d5:Hid (IsZ B w1 (.agg #[.int .i64 u,.bool H,.slice D pl E]) c9 t1∧IsZ B w1 (.agg #[.int .i64 q0,.bool qn,.slice qa ql qc]) a6 t2):=⟨d9,e0⟩; have b4:Hid (sg c9 (val t1)=x∧sg a6 (val t2)=y):=⟨e1,e2⟩; clear d9 e0 e1 e2 r0 r1 r2 f0 f1 f2
 go_wp2_with fail
 refine (l1Div_any B _ _ c9 a6 t1 t2 _ (by have:=a9.o; have:=s.o.size; omega) d5.o.1 d5.o.2 (by omega) (by omega) (fun h=>hy (by rw [← b4.o.2,h]; cases a6<;>rfl))).mono ?_; rintro e w2 ⟨z1,z2,q,r,rfl,⟨hq,hr⟩,b9,j⟩; rw [b4.o.1,b4.o.2] at b9; have b3:=Hd b9; obtain ⟨a0,Y,T,V,U,rfl⟩:=hq.shape; obtain ⟨b0,bn,ba,bl,bc,rfl⟩:=hr.shape; obtain ⟨M,Z⟩:=exW ((w2.alloc (.cells #[.int .i64 a0,.bool Y,.slice T V U] 53)).alloc (.cells #[.int .i64 b0,.bool bn,.slice ba bl bc] 53)); have e9:=Hd Z; have b6:Up w2 M:=by rw [← Z]; exact below_al (below_alloc _ _) _
 have d8:Bx M w2.heap.size [.int .i64 a0,.bool Y,.slice T V U]:=by rw [← Z]; exact (bx_new w2 _ _).alloc _
 have a8:Hid (Up W0 M):=O.o.trans ((j.trans (b6.mono j.size)).mono O.o.size); have e7:Hid (IsN B M (.agg #[.int .i64 a0,.bool Y,.slice T V U]) q):=(hq.below b6).mono (by have:=a9.o; have:=s.o.size; omega); obtain ⟨g0,g1,g2⟩:=d8.k3; have j:=(HX.o M a8.o).2; obtain ⟨r0,r1,r2⟩:=j.k3; obtain ⟨f0,f1,f2⟩:=j.f3; clear hq hr b9 Z b6 d8 j k0 k1 k2 k3 k4 k5
 go_upto_region 4 with fail
 rw [e9.o]
 go_wp2
 have J:=(HX.o M a8.o).2; have K:NoInt M (w.heap.size+1):=noInt_of J (by simp); have b8:=e7.o.keeps K K (Keeps.three M (w.heap.size+1) (.int .i64 a0) (.bool Y) (.slice T V U)); have b7:=belowSet3 (m.o.trans (a8.o.mono m.o.size)) (w.heap.size+1) (Nat.le_succ _) (.int .i64 a0) (.bool Y) (.slice T V U); have hZ:Bx (((M.setCell ⟨w.heap.size+1,0,none⟩ (.int .i64 a0)).setCell ⟨w.heap.size+1,1,none⟩ (.bool Y)).setCell ⟨w.heap.size+1,2,none⟩ (.slice T V U)) (w.heap.size+1) [.int .i64 a0,.bool Y,.slice T V U]:=((J.set 0 _).set 1 _).set 2 _; generalize ((M.setCell ⟨w.heap.size+1,0,none⟩ (.int .i64 a0)).setCell ⟨w.heap.size+1,1,none⟩ (.bool Y)).setCell ⟨w.heap.size+1,2,none⟩ (.slice T V U)=W9 at *; obtain ⟨m0,m1,m2⟩:=hZ.k3; refine bodyPost_ret (v:=.agg #[.int .i64 a0,.bool Y,.slice T V U]) ?_ rfl ⟨_,q,r,rfl,b8,b3.o,b7⟩; simp [results,Tryz.results38,go_sem,m0,m1,m2]
theorem ordI_lt (x y:Int):decide (ordI x y<0)=decide (x<y):=by
 unfold ordI
 split
 ·rename_i h; simp [h]
 rename_i h
 split<;>simp [h]
theorem l1Sign_any (B:Nat) (z:Value) (x:Int) (n:Nat) (w:World) (hBw:B≤w.heap.size) (h:NumZ B w z x n) :
 Calls Tryz.prog 42 #[z] w fun e w'=>e=.returned (.int .i64 (ordI x 0))∧Up w w':=by
 obtain ⟨J,T,K,O,M,rfl⟩:=h.shape'; obtain ⟨neg,t,E,hx,_⟩:=h; have D:=Hd E; have H:=Hd hx; have y:=Hd hBw; have j:∀ W,IsZ B W (.agg #[.int .i64 0,.bool false,.slice none 0 0]) false []:=fun W=>⟨(fun x hx=>by cases hx),(fun h=>absurd rfl h),.inr ⟨Nat.zero_le _,rfl⟩⟩; have m:=Hd j; clear E hx hBw j
 go_enter Tryz.func42,Tryz.ntmps42
 go_wp2_with fail
 refine (l1Cmp_any B _ _ neg false t [] _ (by have:=y.o; simp; omega) (D.o.below (below_alloc _ _)) (m.o _)).mono ?_; rintro e I ⟨rfl,s⟩; have e1:sg false (val [])=0:=rfl; rw [cmpI_ord neg false t [] D.o.1 (m.o w).1 D.o.2.1 (m.o w).2.1,H.o,e1]; have u:Hid (Up w I):=(below_alloc w _).trans (s.mono (by simp)); clear s e1
 go_wp2
 go_ret
 exact ⟨rfl,u.o⟩
structure BxL (h:Nat) (W:World) (p0:Int) (pn:Bool) (pa:Option Addr) (pl pc:Nat) (q0:Int) (qn:Bool) (qa:Option Addr) (ql qc:Nat):Prop where
 a:Bx W h [.int .i64 p0,.bool pn,.slice pa pl pc]
 b:Bx W (h+1) [.int .i64 q0,.bool qn,.slice qa ql qc]
 r:Bx W (h+1+1) [.int .i64 0,.bool false,.slice none 0 0,.int .i64 0,.bool false,.slice none 0 0]
theorem BxL.below {h N:Nat} {W W':World} {p0:Int} {pn:Bool} {pa:Option Addr} {pl pc:Nat} {q0:Int} {qn:Bool} {qa:Option Addr} {ql qc:Nat} (m:BxL h W p0 pn pa pl pc q0 qn qa ql qc) (hN:h+3≤N) (hb:Below N W W'):BxL h W' p0 pn pa pl pc q0 qn qa ql qc:=
 ⟨m.a.below (by omega) hb,m.b.below (by omega) hb,m.r.below (by omega) hb⟩
theorem gcd_len2 (ng n2:Bool) (tg t2:List Nat) (x y:Int) (hy:0<y) (htg:isTrim tg) (ho2:okL t2) (vg:sg ng (val tg)=gcdI x y) (v2:sg n2 (val t2)=y) (len2:t2.length≤1000):tg.length≤1000∧tg≠[]:=by
 have j:val tg=Int.gcd x y:=by
  have h:=congrArg Int.natAbs vg; rw [sg_abs] at h; rw [h]; unfold gcdI; simp
 have h2:val t2=y.natAbs:=by
  have h:=congrArg Int.natAbs v2; rw [sg_abs] at h; exact h
 have h3:0<Int.gcd x y:=Int.gcd_pos_of_ne_zero_right _ (by omega); have h4:Int.gcd x y≤y.natAbs:=Nat.le_of_dvd (by omega) (Int.natAbs_dvd_natAbs.2 (Int.gcd_dvd_right x y)); refine ⟨?_,?_⟩
 ·have:=lenOfLe tg t2 htg ho2 (by omega); omega
 rintro rfl; simp [val] at j; omega
theorem sg_notR (n:Bool) (v:Nat):sg (!n) v = -sg n v:=by cases n<;>simp [sg]
theorem isLow_neg {x y a b:Int} (h:IsLow (-x) (-y) a b):IsLow x y a b:=by
 obtain ⟨c,c0,e1,j,p,g⟩:=h; refine ⟨-c,by omega,by rw [Int.mul_neg]; omega,by rw [Int.mul_neg]; omega,p,?_⟩; rw [Int.natAbs_neg,g,Int.neg_gcd,Int.gcd_neg]
theorem off3 {W:World} {g:Nat} {l:List Value} (h:Bx W g l) {k:Nat} (hk:k≠g) (u0 u1 u2:Value):Bx (((W.setCell ⟨k,0,none⟩ u0).setCell ⟨k,1,none⟩ u1).setCell ⟨k,2,none⟩ u2) g l:=((h.other ⟨k,0,none⟩ hk u0).other ⟨k,1,none⟩ hk u1).other ⟨k,2,none⟩ hk u2
theorem numZ_of {B:Nat} {W:World} {z:Value} {v:Int} (h:IsN B W z v) (t1:List Nat) (ok:okL t1) (hv:v.natAbs≤val t1) (len:t1.length≤1000):NumZ B W z v 1000:=by
 obtain ⟨neg,t,m,j⟩:=h; refine ⟨neg,t,m,j,?_⟩; have s:val t=v.natAbs:=by rw [← j,sg_abs]
 have:=lenOfLe t t1 m.2.1 ok (by omega); omega
theorem abs_le_mul (a c:Int) (hc:c≠0):a.natAbs≤(a*c).natAbs:=by
 rw [Int.natAbs_mul]; exact Nat.le_mul_of_pos_right _ (by omega)
theorem low_len1 {x y a b:Int} {n:Bool} {t:List Nat} (h:IsLow x y a b) (hv:sg n (val t)=x):a.natAbs≤val t:=by
 obtain ⟨c,c0,e1,_⟩:=h; have j:val t=x.natAbs:=by rw [← hv,sg_abs]
 rw [j,e1]; exact abs_le_mul a c c0
theorem low_len2 {x y a b:Int} {n:Bool} {t:List Nat} (h:IsLow x y a b) (hv:sg n (val t)=y):b.natAbs≤val t:=by
 obtain ⟨c,c0,_,j,_⟩:=h; have m:val t=y.natAbs:=by rw [← hv,sg_abs]
 rw [m,j]; exact abs_le_mul b c c0
theorem l2Make_any (B:Nat) (zp zq:Value) (x y:Int) (w:World) (hBw:B≤w.heap.size) (hp:NumZ B w zp x 1000) (hq:NumZ B w zq y 1000) (hy:y≠0) :
 Calls Tryz.prog 20 #[zp,zq] w fun e w'=>∃ z p q,e=.returned z∧IsQN B w' z p q∧IsLow x y p q∧Up w w':=by
 obtain ⟨p0,pn,pa,pl,pc,rfl⟩:=hp.shape'; obtain ⟨q0,qn,qa,ql,qc,rfl⟩:=hq.shape'; have HP:=Hd hp; have HQ:=Hd hq; have e5:=Hd hBw; clear hp hq hBw; obtain ⟨W0,l0⟩:=exW (((w.alloc (.cells #[.int .i64 p0,.bool pn,.slice pa pl pc] 53)).alloc (.cells #[.int .i64 q0,.bool qn,.slice qa ql qc] 53)).alloc (.cells #[.int .i64 0,.bool false,.slice none 0 0,.int .i64 0,.bool false,.slice none 0 0] 55)); have A2:=Hd l0; have y9:W0.heap.size=w.heap.size+3:=by rw [← l0]; simp
 have u6:=Hd y9; have s9:Hid (Up w W0):=by
  unfold Hid
  rw [← l0]; exact below_al (below_al (below_alloc _ _) _) _
 have HM:Hid (BxL w.heap.size W0 p0 pn pa pl pc q0 qn qa ql qc):=by
  have h1:Bx W0 w.heap.size [.int .i64 p0,.bool pn,.slice pa pl pc]:=by rw [← l0]; exact ((bx_new w _ _).alloc _).alloc _
  have h2:Bx W0 (w.heap.size+1) [.int .i64 q0,.bool qn,.slice qa ql qc]:=by
   rw [← l0]; have h:=bx_new (w.alloc (.cells #[.int .i64 p0,.bool pn,.slice pa pl pc] 53)) [.int .i64 q0,.bool qn,.slice qa ql qc] 53; rw [World.size_alloc] at h; exact h.alloc _
  have h3:Bx W0 (w.heap.size+1+1) [.int .i64 0,.bool false,.slice none 0 0,.int .i64 0,.bool false,.slice none 0 0]:=by
   rw [← l0]; have h:=bx_new ((w.alloc (.cells #[.int .i64 p0,.bool pn,.slice pa pl pc] 53)).alloc (.cells #[.int .i64 q0,.bool qn,.slice qa ql qc] 53)) [.int .i64 0,.bool false,.slice none 0 0,.int .i64 0,.bool false,.slice none 0 0] 55; rw [World.size_alloc,World.size_alloc] at h; exact h
  exact ⟨h1,h2,h3⟩
 obtain ⟨k0,k1,k2⟩:=HM.o.b.k3; clear l0 y9
 go_enter Tryz.func20,Tryz.ntmps20
 go_upto_region 1 with fail
 rw [A2.o]
 go_wp2_with fail
 refine (l1Sign_any B _ y 1000 _ (by have:=e5.o; have:=u6.o; omega) (HQ.o.below s9.o)).mono ?_; rintro e w1 ⟨rfl,s1⟩; have s0:=Hd (HM.o.below (N:=W0.heap.size) (by have:=u6.o; omega) s1); have n0:=Hd (s9.o.trans (s1.mono s9.o.size)); have u7:Hid (w.heap.size+3≤w1.heap.size):=by have:=u6.o; have:=s1.size; show w.heap.size+3≤w1.heap.size; omega
 have y0:=Hd (HP.o.below n0.o); have t9:=Hd (HQ.o.below n0.o); obtain ⟨a0,a1,a2⟩:=s0.o.a.k3; obtain ⟨b0,b1,b2⟩:=s0.o.b.k3; clear s1 k0 k1 k2
 by_cases s7:y<0
 ·have z:decide (ordI y 0<0)=true:=by rw [ordI_lt]; exact decide_eq_true s7
  have e6:Hid (0 < -y):=by show 0 < -y; omega
  have HL:Hid (∀ a b,IsLow (-x) (-y) a b→IsLow x y a b):=fun a b h=>isLow_neg h; obtain ⟨np,tp,z0,vp,lp⟩:=y0.o; have A3:=Hd z0; have y4:Hid (sg (!np) (val tp) = -x∧tp.length≤1000):=⟨by rw [← vp]; exact sg_notR np _,lp⟩; clear z0 vp lp
  go_wp2_with fail
  refine (l1Minus_any B _ np tp w1 A3.o).mono ?_; rintro e w2 ⟨z2,rfl,i8,s2⟩; obtain ⟨Z,Pn,Pa,Pl,Pc,rfl⟩:=i8.shape; have l8:=s0.o.below (N:=w1.heap.size) u7.o s2; have q1:NoInt w2 w.heap.size:=noInt_of l8.a (by simp); obtain ⟨W3,n5⟩:=exW (((w2.setCell ⟨w.heap.size,0,none⟩ (.int .i64 Z)).setCell ⟨w.heap.size,1,none⟩ (.bool Pn)).setCell ⟨w.heap.size,2,none⟩ (.slice Pa Pl Pc)); have y6:=Hd n5; have v8:=Keeps.three w2 w.heap.size (.int .i64 Z) (.bool Pn) (.slice Pa Pl Pc); have j4:Hid (NumZ B W3 (.agg #[.int .i64 Z,.bool Pn,.slice Pa Pl Pc]) (-x) 1000):=by
   have h:NumZ B w2 (.agg #[.int .i64 Z,.bool Pn,.slice Pa Pl Pc]) (-x) 1000:=⟨_,_,i8,y4.o.1,y4.o.2⟩; have h2:=h.keeps q1 q1 v8; rw [n5] at h2; exact h2
  have j5:Hid (NumZ B W3 (.agg #[.int .i64 q0,.bool qn,.slice qa ql qc]) y 1000):=by
   have h2:=(t9.o.below s2).keeps q1 q1 v8; rw [n5] at h2; exact h2
  have c7:Hid (Up w W3):=by
   have h:=belowSet3 (n0.o.trans (s2.mono n0.o.size)) w.heap.size leR (.int .i64 Z) (.bool Pn) (.slice Pa Pl Pc); rw [n5] at h; exact h
  have H:Hid (BxL w.heap.size W3 Z Pn Pa Pl Pc q0 qn qa ql qc):=by
   have h1:Bx (((w2.setCell ⟨w.heap.size,0,none⟩ (.int .i64 Z)).setCell ⟨w.heap.size,1,none⟩ (.bool Pn)).setCell ⟨w.heap.size,2,none⟩ (.slice Pa Pl Pc)) w.heap.size [.int .i64 Z,.bool Pn,.slice Pa Pl Pc]:=((l8.a.set 0 _).set 1 _).set 2 _; have h2:=off3 l8.b (k:=w.heap.size) (by omega) (.int .i64 Z) (.bool Pn) (.slice Pa Pl Pc); have h3:=off3 l8.r (k:=w.heap.size) (by omega) (.int .i64 Z) (.bool Pn) (.slice Pa Pl Pc); rw [n5] at h1 h2 h3; exact ⟨h1,h2,h3⟩
  have j6:Hid (w.heap.size+3≤W3.heap.size):=by
   have:=H.o.r.lt
   show w.heap.size+3≤W3.heap.size
   omega
  obtain ⟨c0,c1,c2⟩:=l8.a.k3; obtain ⟨x0,x1,x2⟩:=l8.a.f3; obtain ⟨nq,tq,z3,vq,lq⟩:=j5.o; have A4:=Hd z3; have y5:Hid (sg (!nq) (val tq) = -y∧tq.length≤1000):=⟨by rw [← vq]; exact sg_notR nq _,lq⟩; obtain ⟨d0,d1,d2⟩:=H.o.b.k3; clear i8 s2 l8 q1 n5 v8 z3 vq lq a0 a1 a2 b0 b1 b2
  go_upto_region 3 with fail
  rw [y6.o]; clear c0 c1 c2 x0 x1 x2
  go_wp2_with fail
  refine (l1Minus_any B _ nq tq W3 A4.o).mono ?_; rintro e w4 ⟨z4,rfl,w5,b4⟩; obtain ⟨Q0,Qn,Qa,Ql,Qc,rfl⟩:=w5.shape; have l9:=H.o.below (N:=W3.heap.size) j6.o b4; have q2:NoInt w4 (w.heap.size+1):=noInt_of l9.b (by simp); obtain ⟨U,M⟩:=exW (((w4.setCell ⟨w.heap.size+1,0,none⟩ (.int .i64 Q0)).setCell ⟨w.heap.size+1,1,none⟩ (.bool Qn)).setCell ⟨w.heap.size+1,2,none⟩ (.slice Qa Ql Qc)); have o7:=Hd M; have v9:=Keeps.three w4 (w.heap.size+1) (.int .i64 Q0) (.bool Qn) (.slice Qa Ql Qc); have y3:Hid (NumZ B U (.agg #[.int .i64 Q0,.bool Qn,.slice Qa Ql Qc]) (-y) 1000):=by
   have h:NumZ B w4 (.agg #[.int .i64 Q0,.bool Qn,.slice Qa Ql Qc]) (-y) 1000:=⟨_,_,w5,y5.o.1,y5.o.2⟩; have h2:=h.keeps q2 q2 v9; rw [M] at h2; exact h2
  have A1:Hid (NumZ B U (.agg #[.int .i64 Z,.bool Pn,.slice Pa Pl Pc]) (-x) 1000):=by
   have h2:=(j4.o.below b4).keeps q2 q2 v9; rw [M] at h2; exact h2
  have j1:Hid (Up w U):=by
   have h:=belowSet3 (c7.o.trans (b4.mono c7.o.size)) (w.heap.size+1) (Nat.le_succ _) (.int .i64 Q0) (.bool Qn) (.slice Qa Ql Qc); rw [M] at h; exact h
  have j2:Hid (BxL w.heap.size U Z Pn Pa Pl Pc Q0 Qn Qa Ql Qc):=by
   have h1:=off3 l9.a (k:=w.heap.size+1) (by omega) (.int .i64 Q0) (.bool Qn) (.slice Qa Ql Qc); have h2:Bx (((w4.setCell ⟨w.heap.size+1,0,none⟩ (.int .i64 Q0)).setCell ⟨w.heap.size+1,1,none⟩ (.bool Qn)).setCell ⟨w.heap.size+1,2,none⟩ (.slice Qa Ql Qc)) (w.heap.size+1) [.int .i64 Q0,.bool Qn,.slice Qa Ql Qc]:=((l9.b.set 0 _).set 1 _).set 2 _; have h3:=off3 l9.r (k:=w.heap.size+1) (by omega) (.int .i64 Q0) (.bool Qn) (.slice Qa Ql Qc); rw [M] at h1 h2 h3; exact ⟨h1,h2,h3⟩
  have n3:Hid (w.heap.size+3≤U.heap.size):=by
   have:=j2.o.r.lt
   show w.heap.size+3≤U.heap.size
   omega
  obtain ⟨c0,c1,c2⟩:=l9.b.k3; obtain ⟨x0,x1,x2⟩:=l9.b.f3; clear w5 b4 l9 q2 M v9 d0 d1 d2
  go_upto_region 4 with fail
  rw [o7.o]; clear c0 c1 c2 x0 x1 x2; obtain ⟨a0,a1,a2⟩:=j2.o.a.k3; obtain ⟨b0,b1,b2⟩:=j2.o.b.k3; clear j4 j5 c7 H j6 y6
  go_wp2_with fail
  refine (l1IsSmall_ex Q0 Qn Qa Ql Qc U).mono ?_; rintro e w3 ⟨rfl,q5⟩; have d7:Up U w3:=by rw [q5]; exact below_alloc _ _
  have H:=Hd (j2.o.below (N:=U.heap.size) n3.o d7); have c7:=Hd (j1.o.trans (d7.mono j1.o.size)); have j4:=Hd (A1.o.below d7); have j5:=Hd (y3.o.below d7); have j6:Hid (w.heap.size+3≤w3.heap.size):=Nat.le_trans n3.o d7.size; have j3:=Hd (isN_one y3.o.isN); clear q5 d7 a0 a1 a2 b0 b1 b2; obtain ⟨a0,a1,a2⟩:=H.o.a.k3; obtain ⟨b0,b1,b2⟩:=H.o.b.k3
  by_cases h1 : -y=1
  ·have j:=j3.o; rw [decide_eq_true h1,Bool.and_eq_true] at j; obtain ⟨z1,z2⟩:=j; rw [z1]; have J:Hid (IsLow x y (-x) (-y)):=HL.o _ _ (isLow_one e6.o (by rw [h1]; simp)); obtain ⟨r0,r1,r2,r3,r4,r5⟩:=H.o.r.k6; obtain ⟨f0,f1,f2,f3,f4,f5⟩:=H.o.r.f6
   go_wp2
   have m:NoInt w3 (w.heap.size+1+1):=noInt_of H.o.r (by simp); have hk:=keeps6 w3 (w.heap.size+1+1) (.int .i64 Z) (.bool Pn) (.slice Pa Pl Pc) (.int .i64 Q0) (.bool Qn) (.slice Qa Ql Qc); have e8:=j4.o.keeps m m hk; have e9:=j5.o.keeps m m hk; have e7:=set6 c7.o (w.heap.size+1+1) (by omega) (.int .i64 Z) (.bool Pn) (.slice Pa Pl Pc) (.int .i64 Q0) (.bool Qn) (.slice Qa Ql Qc); have hZ:=H.o.r.put6 (.int .i64 Z) (.bool Pn) (.slice Pa Pl Pc) (.int .i64 Q0) (.bool Qn) (.slice Qa Ql Qc); have f7:((((((w3.setCell ⟨w.heap.size+1+1,0,none⟩ (.int .i64 Z)).setCell ⟨w.heap.size+1+1,1,none⟩ (.bool Pn)).setCell ⟨w.heap.size+1+1,2,none⟩ (.slice Pa Pl Pc)).setCell ⟨w.heap.size+1+1,3,none⟩ (.int .i64 Q0)).setCell ⟨w.heap.size+1+1,4,none⟩ (.bool Qn)).setCell ⟨w.heap.size+1+1,5,none⟩ (.slice Qa Ql Qc))=W6 w3 (w.heap.size+1+1) (.int .i64 Z) (.bool Pn) (.slice Pa Pl Pc) (.int .i64 Q0) (.bool Qn) (.slice Qa Ql Qc):=rfl; rw [f7]; generalize W6 w3 (w.heap.size+1+1) (.int .i64 Z) (.bool Pn) (.slice Pa Pl Pc) (.int .i64 Q0) (.bool Qn) (.slice Qa Ql Qc)=W9 at *; obtain ⟨m0,m1,m2,m3,m4,m5⟩:=hZ.k6; refine bodyPost_ret (v:=.agg #[.int .i64 Z,.bool Pn,.slice Pa Pl Pc,.int .i64 Q0,.bool Qn,.slice Qa Ql Qc]) ?_ rfl ⟨_,_,_,rfl,⟨Z,Pn,Pa,Pl,Pc,Q0,Qn,Qa,Ql,Qc,rfl,e8,e9⟩,J.o,e7⟩; simp [results,Tryz.results20,go_sem,m0,m1,m2,m3,m4,m5]
  have j:=j3.o; rw [decide_eq_false h1] at j
  by_cases hz:Ql=0
  case' pos=>
   have z1:((Ql:Int)==0)=true:=by rw [beq_iff_eq]; omega
   have z2:(Q0==1)=false:=by rw [z1] at j; exact j
  case' neg=>
   have z1:((Ql:Int)==0)=false:=by rw [beq_eq_false_iff_ne]; omega
  all_goals
   rw [z1]; clear j hz
   go_wp2_with fail
   obtain ⟨n1,t1,q8,v1,g9⟩:=j4.o; obtain ⟨n2,t2,i8,v2,b5⟩:=j5.o; have i4:=Hd (And.intro q8 i8); have I:=Hd (And.intro v1 v2); clear q8 i8 v1 v2; refine (l1Gcd_any B _ _ n1 n2 t1 t2 1000 _ (by have:=e5.o; have:=c7.o.size; omega) i4.o.1 i4.o.2 g9 b5 (by omega)).mono ?_; rintro e w4 ⟨zg,rfl,hg,b4⟩; rw [I.o.1,I.o.2] at hg; obtain ⟨g0,gn,ga,gl,gc,rfl⟩:=hg.shape; obtain ⟨U,M⟩:=exW (w4.alloc (.cells #[.int .i64 g0,.bool gn,.slice ga gl gc] 53)); have o7:=Hd M; have l1:Up w4 U:=by rw [← M]; exact below_alloc _ _
   have i7:Bx U w4.heap.size [.int .i64 g0,.bool gn,.slice ga gl gc]:=by rw [← M]; exact bx_new w4 _ _
   have K:Up w3 U:=b4.trans (l1.mono b4.size); have j2:=Hd (H.o.below (N:=w3.heap.size) j6.o K); have j1:=Hd (c7.o.trans (K.mono c7.o.size)); have n3:Hid (w.heap.size+3≤w4.heap.size):=Nat.le_trans j6.o b4.size; have n8:=Hd (hg.below l1); have o8:=Hd (And.intro (i4.o.1.below K) (i4.o.2.below K)); have k5:Hid (∀ W,Up U W→Bx W w4.heap.size [.int .i64 g0,.bool gn,.slice ga gl gc]):=fun W hW=>i7.below i7.lt hW; obtain ⟨g1,g2,g3⟩:=i7.k3; clear hg M b4 l1 i7 K a0 a1 a2 b0 b1 b2
   go_upto_region 8 with fail
   rw [o7.o]; refine (l1IsSmall_ex g0 gn ga gl gc U).mono ?_; rintro e w6 ⟨rfl,q6⟩; have E:Up U w6:=by rw [q6]; exact below_alloc _ _
   have o4:Hid (w.heap.size+3≤U.heap.size):=Nat.le_trans n3.o (Nat.le_of_lt (k5.o U (Below.refl _ _)).lt); have O:=Hd (j2.o.below (N:=U.heap.size) o4.o E); have e4:=Hd (j1.o.trans (E.mono j1.o.size)); have t5:=Hd (n8.o.below E); have T:=Hd (And.intro (o8.o.1.below E) (o8.o.2.below E)); have n9:=Hd (isN_one n8.o); have q7:=k5.o w6 E; obtain ⟨v5,v6,v7⟩:=q7.k3; have o3:Hid (w.heap.size+3≤w6.heap.size):=Nat.le_trans o4.o E.size; have o0:Hid (∀ W,Up w6 W→Bx W w4.heap.size [.int .i64 g0,.bool gn,.slice ga gl gc]):=fun W hW=>k5.o W ((show Up U w6 from E).trans (hW.mono E.size)); clear q6 E q7 g1 g2 g3; obtain ⟨a0,a1,a2⟩:=O.o.a.k3; obtain ⟨b0,b1,b2⟩:=O.o.b.k3
   by_cases l7:gcdI (-x) (-y)=1
   ·have j:=n9.o; rw [decide_eq_true l7,Bool.and_eq_true] at j; obtain ⟨y1,y2⟩:=j; rw [y1]; have t8:Hid (NumZ B w6 (.agg #[.int .i64 Z,.bool Pn,.slice Pa Pl Pc]) (-x) 1000):=⟨_,_,T.o.1,I.o.1,g9⟩; have u5:Hid (NumZ B w6 (.agg #[.int .i64 Q0,.bool Qn,.slice Qa Ql Qc]) (-y) 1000):=⟨_,_,T.o.2,I.o.2,b5⟩; have J:Hid (IsLow x y (-x) (-y)):=HL.o _ _ (isLow_one e6.o (by unfold gcdI at l7; omega)); clear y1; obtain ⟨r0,r1,r2,r3,r4,r5⟩:=O.o.r.k6; obtain ⟨f0,f1,f2,f3,f4,f5⟩:=O.o.r.f6
    go_wp2
    have m:NoInt w6 (w.heap.size+1+1):=noInt_of O.o.r (by simp); have hk:=keeps6 w6 (w.heap.size+1+1) (.int .i64 Z) (.bool Pn) (.slice Pa Pl Pc) (.int .i64 Q0) (.bool Qn) (.slice Qa Ql Qc); have e8:=t8.o.keeps m m hk; have e9:=u5.o.keeps m m hk; have e7:=set6 e4.o (w.heap.size+1+1) (by omega) (.int .i64 Z) (.bool Pn) (.slice Pa Pl Pc) (.int .i64 Q0) (.bool Qn) (.slice Qa Ql Qc); have hZ:=O.o.r.put6 (.int .i64 Z) (.bool Pn) (.slice Pa Pl Pc) (.int .i64 Q0) (.bool Qn) (.slice Qa Ql Qc); have f7:((((((w6.setCell ⟨w.heap.size+1+1,0,none⟩ (.int .i64 Z)).setCell ⟨w.heap.size+1+1,1,none⟩ (.bool Pn)).setCell ⟨w.heap.size+1+1,2,none⟩ (.slice Pa Pl Pc)).setCell ⟨w.heap.size+1+1,3,none⟩ (.int .i64 Q0)).setCell ⟨w.heap.size+1+1,4,none⟩ (.bool Qn)).setCell ⟨w.heap.size+1+1,5,none⟩ (.slice Qa Ql Qc))=W6 w6 (w.heap.size+1+1) (.int .i64 Z) (.bool Pn) (.slice Pa Pl Pc) (.int .i64 Q0) (.bool Qn) (.slice Qa Ql Qc):=rfl; rw [f7]; generalize W6 w6 (w.heap.size+1+1) (.int .i64 Z) (.bool Pn) (.slice Pa Pl Pc) (.int .i64 Q0) (.bool Qn) (.slice Qa Ql Qc)=W9 at *; obtain ⟨m0,m1,m2,m3,m4,m5⟩:=hZ.k6; refine bodyPost_ret (v:=.agg #[.int .i64 Z,.bool Pn,.slice Pa Pl Pc,.int .i64 Q0,.bool Qn,.slice Qa Ql Qc]) ?_ rfl ⟨_,_,_,rfl,⟨Z,Pn,Pa,Pl,Pc,Q0,Qn,Qa,Ql,Qc,rfl,e8,e9⟩,J.o,e7⟩; simp [results,Tryz.results20,go_sem,m0,m1,m2,m3,m4,m5]
   have j:=n9.o; rw [decide_eq_false l7] at j; obtain ⟨ng,tg,m8,vg⟩:=t5.o; have p1:=Hd m8; have o5:=Hd vg; have V:Hid (tg.length≤1000∧tg≠[]):=gcd_len2 ng n2 tg t2 (-x) (-y) e6.o m8.2.1 T.o.2.1 vg I.o.2 b5; clear m8 vg
   by_cases hz:gl=0
   case' pos=>
    have y1:((gl:Int)==0)=true:=by rw [beq_iff_eq]; omega
    have y2:(g0==1)=false:=by rw [y1] at j; exact j
   case' neg=>
    have y1:((gl:Int)==0)=false:=by rw [beq_eq_false_iff_ne]; omega
   all_goals
    rw [y1]; clear j hz
    go_wp2_with fail
    refine (l1Div_any B _ _ n1 ng t1 tg _ (by have:=e5.o; have:=e4.o.size; omega) T.o.1 p1.o (by omega) (by have:=V.o.1; omega) V.o.2).mono ?_; rintro e w7 ⟨za,zr,m9,x4,rfl,⟨m6,q3⟩,l5,l2⟩; rw [I.o.1,o5.o] at l5; have t3:=Hd l5; obtain ⟨d0,dn,da,dl,dc,rfl⟩:=m6.shape; obtain ⟨e0,en,ea,el,ec,rfl⟩:=q3.shape; obtain ⟨W8,i5⟩:=exW ((w7.alloc (.cells #[.int .i64 d0,.bool dn,.slice da dl dc] 53)).alloc (.cells #[.int .i64 e0,.bool en,.slice ea el ec] 53)); have u9:=Hd i5; have l3:Up w7 W8:=by rw [← i5]; exact below_al (below_alloc _ _) _
    have d6:Bx W8 w7.heap.size [.int .i64 d0,.bool dn,.slice da dl dc]:=by rw [← i5]; exact (bx_new w7 _ _).alloc _
    have u:Up w6 W8:=l2.trans (l3.mono l2.size); have i3:=Hd (O.o.below (N:=w6.heap.size) o3.o u); have i2:=Hd (e4.o.trans (u.mono e4.o.size)); have u8:Hid (w.heap.size+3≤W8.heap.size):=Nat.le_trans o3.o u.size; have o9:=Hd (And.intro (T.o.2.below u) (p1.o.below u)); have t7:Hid (IsN B W8 (.agg #[.int .i64 d0,.bool dn,.slice da dl dc]) m9):=(m6.below l3).mono (by have:=e5.o; have:=e4.o.size; omega); have s8:Hid (∀ W,Up W8 W→Bx W w7.heap.size [.int .i64 d0,.bool dn,.slice da dl dc]):=fun W hW=>d6.below d6.lt hW; have i6:=o0.o W8 u; have j7:=i6.cell 0; have j8:=i6.cell 1; have j9:=i6.cell 2; have p2:=i3.o.b.cell 0; have p3:=i3.o.b.cell 1; have p4:=i3.o.b.cell 2; simp only [List.getElem?_cons_zero,List.getElem?_cons_succ] at j7 j8 j9 p2 p3 p4; clear m6 q3 l5 l2 i5 l3 d6 u i6 a0 a1 a2 b0 b1 b2 v5 v6 v7
    go_upto_region 10 with fail
    rw [u9.o]
    go_wp2_with fail
    refine (l1Div_any B _ _ n2 ng t2 tg W8 (by have:=e5.o; have:=i2.o.size; omega) o9.o.1 o9.o.2 (by omega) (by have:=V.o.1; omega) V.o.2).mono ?_; rintro e w9 ⟨zb,zs,r6,x5,rfl,⟨m7,q4⟩,l6,l4⟩; rw [I.o.2,o5.o] at l6; have k7:=Hd (low_of_div (-x) (-y) (gcdI (-x) (-y)) m9 x4 r6 x5 (by have:=e6.o; omega) (by rw [if_neg (by have:=e6.o; omega)]) t3.o l6); obtain ⟨i0,iN,ia,il,ic,rfl⟩:=m7.shape; obtain ⟨j0,jn,ja,jl,jc,rfl⟩:=q4.shape; obtain ⟨s,b3⟩:=exW ((w9.alloc (.cells #[.int .i64 i0,.bool iN,.slice ia il ic] 53)).alloc (.cells #[.int .i64 j0,.bool jn,.slice ja jl jc] 53)); have o6:=Hd b3; have f9:Up w9 s:=by rw [← b3]; exact below_al (below_alloc _ _) _
    have p9:Bx s w9.heap.size [.int .i64 i0,.bool iN,.slice ia il ic]:=by rw [← b3]; exact (bx_new w9 _ _).alloc _
    have D:Up W8 s:=l4.trans (f9.mono l4.size); have Y:=Hd (i3.o.below (N:=W8.heap.size) u8.o D); have n7:=Hd (i2.o.trans (D.mono i2.o.size)); have o1:Hid (NumZ B s (.agg #[.int .i64 d0,.bool dn,.slice da dl dc]) m9 1000):=numZ_of (t7.o.below D) t1 T.o.1.1 (low_len1 k7.o I.o.1) g9; have o2:Hid (NumZ B s (.agg #[.int .i64 i0,.bool iN,.slice ia il ic]) r6 1000):=numZ_of ((m7.below f9).mono (by have:=e5.o; have:=i2.o.size; omega)) t2 T.o.2.1 (low_len2 k7.o I.o.2) b5; have J:=Hd (HL.o _ _ k7.o); have d6:=s8.o s D; obtain ⟨u0,u1,u2⟩:=d6.k3; obtain ⟨v0,v1,v2⟩:=p9.k3; clear m7 q4 l6 l4 b3 f9 p9 D d6 p2 p3 p4 j7 j8 j9
    go_upto_region 11 with fail
    rw [o6.o]; obtain ⟨r0,r1,r2,r3,r4,r5⟩:=Y.o.r.k6; obtain ⟨f0,f1,f2,f3,f4,f5⟩:=Y.o.r.f6
    go_wp2
    have m:NoInt s (w.heap.size+1+1):=noInt_of Y.o.r (by simp); have hk:=keeps6 s (w.heap.size+1+1) (.int .i64 d0) (.bool dn) (.slice da dl dc) (.int .i64 i0) (.bool iN) (.slice ia il ic); have e8:=o1.o.keeps m m hk; have e9:=o2.o.keeps m m hk; have e7:=set6 n7.o (w.heap.size+1+1) (by omega) (.int .i64 d0) (.bool dn) (.slice da dl dc) (.int .i64 i0) (.bool iN) (.slice ia il ic); have hZ:=Y.o.r.put6 (.int .i64 d0) (.bool dn) (.slice da dl dc) (.int .i64 i0) (.bool iN) (.slice ia il ic); have f7:((((((s.setCell ⟨w.heap.size+1+1,0,none⟩ (.int .i64 d0)).setCell ⟨w.heap.size+1+1,1,none⟩ (.bool dn)).setCell ⟨w.heap.size+1+1,2,none⟩ (.slice da dl dc)).setCell ⟨w.heap.size+1+1,3,none⟩ (.int .i64 i0)).setCell ⟨w.heap.size+1+1,4,none⟩ (.bool iN)).setCell ⟨w.heap.size+1+1,5,none⟩ (.slice ia il ic))=W6 s (w.heap.size+1+1) (.int .i64 d0) (.bool dn) (.slice da dl dc) (.int .i64 i0) (.bool iN) (.slice ia il ic):=rfl; rw [f7]; generalize W6 s (w.heap.size+1+1) (.int .i64 d0) (.bool dn) (.slice da dl dc) (.int .i64 i0) (.bool iN) (.slice ia il ic)=W9 at *; obtain ⟨m0,m1,m2,m3,m4,m5⟩:=hZ.k6; refine bodyPost_ret (v:=.agg #[.int .i64 d0,.bool dn,.slice da dl dc,.int .i64 i0,.bool iN,.slice ia il ic]) ?_ rfl ⟨_,_,_,rfl,⟨d0,dn,da,dl,dc,i0,iN,ia,il,ic,rfl,e8,e9⟩,J.o,e7⟩; simp [results,Tryz.results20,go_sem,m0,m1,m2,m3,m4,m5]
 have z:decide (ordI y 0<0)=false:=by rw [ordI_lt]; exact decide_eq_false s7
 have e6:Hid (0<y):=by show 0<y; omega
 have HL:Hid (∀ a b,IsLow x y a b→IsLow x y a b):=fun _ _ h=>h
 go_wp2_with fail
 refine (l1IsSmall_ex q0 qn qa ql qc w1).mono ?_; rintro e w3 ⟨rfl,q5⟩; have d7:Up w1 w3:=by rw [q5]; exact below_alloc _ _
 have H:=Hd (s0.o.below (N:=w1.heap.size) u7.o d7); have c7:=Hd (n0.o.trans (d7.mono n0.o.size)); have j4:=Hd (y0.o.below d7); have j5:=Hd (t9.o.below d7); have j6:Hid (w.heap.size+3≤w3.heap.size):=Nat.le_trans u7.o d7.size; have j3:=Hd (isN_one t9.o.isN); clear q5 d7 a0 a1 a2 b0 b1 b2; obtain ⟨a0,a1,a2⟩:=H.o.a.k3; obtain ⟨b0,b1,b2⟩:=H.o.b.k3
 by_cases h1:y=1
 ·have j:=j3.o; rw [decide_eq_true h1,Bool.and_eq_true] at j; obtain ⟨z1,z2⟩:=j; rw [z1]; have J:Hid (IsLow x y (x) (y)):=HL.o _ _ (isLow_one e6.o (by rw [h1]; simp)); obtain ⟨r0,r1,r2,r3,r4,r5⟩:=H.o.r.k6; obtain ⟨f0,f1,f2,f3,f4,f5⟩:=H.o.r.f6
  go_wp2
  have m:NoInt w3 (w.heap.size+1+1):=noInt_of H.o.r (by simp); have hk:=keeps6 w3 (w.heap.size+1+1) (.int .i64 p0) (.bool pn) (.slice pa pl pc) (.int .i64 q0) (.bool qn) (.slice qa ql qc); have e8:=j4.o.keeps m m hk; have e9:=j5.o.keeps m m hk; have e7:=set6 c7.o (w.heap.size+1+1) (by omega) (.int .i64 p0) (.bool pn) (.slice pa pl pc) (.int .i64 q0) (.bool qn) (.slice qa ql qc); have hZ:=H.o.r.put6 (.int .i64 p0) (.bool pn) (.slice pa pl pc) (.int .i64 q0) (.bool qn) (.slice qa ql qc); have f7:((((((w3.setCell ⟨w.heap.size+1+1,0,none⟩ (.int .i64 p0)).setCell ⟨w.heap.size+1+1,1,none⟩ (.bool pn)).setCell ⟨w.heap.size+1+1,2,none⟩ (.slice pa pl pc)).setCell ⟨w.heap.size+1+1,3,none⟩ (.int .i64 q0)).setCell ⟨w.heap.size+1+1,4,none⟩ (.bool qn)).setCell ⟨w.heap.size+1+1,5,none⟩ (.slice qa ql qc))=W6 w3 (w.heap.size+1+1) (.int .i64 p0) (.bool pn) (.slice pa pl pc) (.int .i64 q0) (.bool qn) (.slice qa ql qc):=rfl; rw [f7]; generalize W6 w3 (w.heap.size+1+1) (.int .i64 p0) (.bool pn) (.slice pa pl pc) (.int .i64 q0) (.bool qn) (.slice qa ql qc)=W9 at *; obtain ⟨m0,m1,m2,m3,m4,m5⟩:=hZ.k6; refine bodyPost_ret (v:=.agg #[.int .i64 p0,.bool pn,.slice pa pl pc,.int .i64 q0,.bool qn,.slice qa ql qc]) ?_ rfl ⟨_,_,_,rfl,⟨p0,pn,pa,pl,pc,q0,qn,qa,ql,qc,rfl,e8,e9⟩,J.o,e7⟩; simp [results,Tryz.results20,go_sem,m0,m1,m2,m3,m4,m5]
 have j:=j3.o; rw [decide_eq_false h1] at j
 by_cases hz:ql=0
 case' pos=>
  have z1:((ql:Int)==0)=true:=by rw [beq_iff_eq]; omega
  have z2:(q0==1)=false:=by rw [z1] at j; exact j
 case' neg=>
  have z1:((ql:Int)==0)=false:=by rw [beq_eq_false_iff_ne]; omega
 all_goals
  rw [z1]; clear j hz
  go_wp2_with fail
  obtain ⟨n1,t1,q8,v1,g9⟩:=j4.o; obtain ⟨n2,t2,i8,v2,b5⟩:=j5.o; have i4:=Hd (And.intro q8 i8); have I:=Hd (And.intro v1 v2); clear q8 i8 v1 v2; refine (l1Gcd_any B _ _ n1 n2 t1 t2 1000 _ (by have:=e5.o; have:=c7.o.size; omega) i4.o.1 i4.o.2 g9 b5 (by omega)).mono ?_; rintro e w4 ⟨zg,rfl,hg,b4⟩; rw [I.o.1,I.o.2] at hg; obtain ⟨g0,gn,ga,gl,gc,rfl⟩:=hg.shape; obtain ⟨U,M⟩:=exW (w4.alloc (.cells #[.int .i64 g0,.bool gn,.slice ga gl gc] 53)); have o7:=Hd M; have l1:Up w4 U:=by rw [← M]; exact below_alloc _ _
  have i7:Bx U w4.heap.size [.int .i64 g0,.bool gn,.slice ga gl gc]:=by rw [← M]; exact bx_new w4 _ _
  have K:Up w3 U:=b4.trans (l1.mono b4.size); have j2:=Hd (H.o.below (N:=w3.heap.size) j6.o K); have j1:=Hd (c7.o.trans (K.mono c7.o.size)); have n3:Hid (w.heap.size+3≤w4.heap.size):=Nat.le_trans j6.o b4.size; have n8:=Hd (hg.below l1); have o8:=Hd (And.intro (i4.o.1.below K) (i4.o.2.below K)); have k5:Hid (∀ W,Up U W→Bx W w4.heap.size [.int .i64 g0,.bool gn,.slice ga gl gc]):=fun W hW=>i7.below i7.lt hW; obtain ⟨g1,g2,g3⟩:=i7.k3; clear hg M b4 l1 i7 K a0 a1 a2 b0 b1 b2
  go_upto_region 8 with fail
  rw [o7.o]; refine (l1IsSmall_ex g0 gn ga gl gc U).mono ?_; rintro e w6 ⟨rfl,q6⟩; have E:Up U w6:=by rw [q6]; exact below_alloc _ _
  have o4:Hid (w.heap.size+3≤U.heap.size):=Nat.le_trans n3.o (Nat.le_of_lt (k5.o U (Below.refl _ _)).lt); have O:=Hd (j2.o.below (N:=U.heap.size) o4.o E); have e4:=Hd (j1.o.trans (E.mono j1.o.size)); have t5:=Hd (n8.o.below E); have T:=Hd (And.intro (o8.o.1.below E) (o8.o.2.below E)); have n9:=Hd (isN_one n8.o); have q7:=k5.o w6 E; obtain ⟨v5,v6,v7⟩:=q7.k3; have o3:Hid (w.heap.size+3≤w6.heap.size):=Nat.le_trans o4.o E.size; have o0:Hid (∀ W,Up w6 W→Bx W w4.heap.size [.int .i64 g0,.bool gn,.slice ga gl gc]):=fun W hW=>k5.o W ((show Up U w6 from E).trans (hW.mono E.size)); clear q6 E q7 g1 g2 g3; obtain ⟨a0,a1,a2⟩:=O.o.a.k3; obtain ⟨b0,b1,b2⟩:=O.o.b.k3
  by_cases l7:gcdI (x) (y)=1
  ·have j:=n9.o; rw [decide_eq_true l7,Bool.and_eq_true] at j; obtain ⟨y1,y2⟩:=j; rw [y1]; have t8:Hid (NumZ B w6 (.agg #[.int .i64 p0,.bool pn,.slice pa pl pc]) (x) 1000):=⟨_,_,T.o.1,I.o.1,g9⟩; have u5:Hid (NumZ B w6 (.agg #[.int .i64 q0,.bool qn,.slice qa ql qc]) (y) 1000):=⟨_,_,T.o.2,I.o.2,b5⟩; have J:Hid (IsLow x y (x) (y)):=HL.o _ _ (isLow_one e6.o (by unfold gcdI at l7; omega)); clear y1; obtain ⟨r0,r1,r2,r3,r4,r5⟩:=O.o.r.k6; obtain ⟨f0,f1,f2,f3,f4,f5⟩:=O.o.r.f6
   go_wp2
   have m:NoInt w6 (w.heap.size+1+1):=noInt_of O.o.r (by simp); have hk:=keeps6 w6 (w.heap.size+1+1) (.int .i64 p0) (.bool pn) (.slice pa pl pc) (.int .i64 q0) (.bool qn) (.slice qa ql qc); have e8:=t8.o.keeps m m hk; have e9:=u5.o.keeps m m hk; have e7:=set6 e4.o (w.heap.size+1+1) (by omega) (.int .i64 p0) (.bool pn) (.slice pa pl pc) (.int .i64 q0) (.bool qn) (.slice qa ql qc); have hZ:=O.o.r.put6 (.int .i64 p0) (.bool pn) (.slice pa pl pc) (.int .i64 q0) (.bool qn) (.slice qa ql qc); have f7:((((((w6.setCell ⟨w.heap.size+1+1,0,none⟩ (.int .i64 p0)).setCell ⟨w.heap.size+1+1,1,none⟩ (.bool pn)).setCell ⟨w.heap.size+1+1,2,none⟩ (.slice pa pl pc)).setCell ⟨w.heap.size+1+1,3,none⟩ (.int .i64 q0)).setCell ⟨w.heap.size+1+1,4,none⟩ (.bool qn)).setCell ⟨w.heap.size+1+1,5,none⟩ (.slice qa ql qc))=W6 w6 (w.heap.size+1+1) (.int .i64 p0) (.bool pn) (.slice pa pl pc) (.int .i64 q0) (.bool qn) (.slice qa ql qc):=rfl; rw [f7]; generalize W6 w6 (w.heap.size+1+1) (.int .i64 p0) (.bool pn) (.slice pa pl pc) (.int .i64 q0) (.bool qn) (.slice qa ql qc)=W9 at *; obtain ⟨m0,m1,m2,m3,m4,m5⟩:=hZ.k6; refine bodyPost_ret (v:=.agg #[.int .i64 p0,.bool pn,.slice pa pl pc,.int .i64 q0,.bool qn,.slice qa ql qc]) ?_ rfl ⟨_,_,_,rfl,⟨p0,pn,pa,pl,pc,q0,qn,qa,ql,qc,rfl,e8,e9⟩,J.o,e7⟩; simp [results,Tryz.results20,go_sem,m0,m1,m2,m3,m4,m5]
  have j:=n9.o; rw [decide_eq_false l7] at j; obtain ⟨ng,tg,m8,vg⟩:=t5.o; have p1:=Hd m8; have o5:=Hd vg; have V:Hid (tg.length≤1000∧tg≠[]):=gcd_len2 ng n2 tg t2 (x) (y) e6.o m8.2.1 T.o.2.1 vg I.o.2 b5; clear m8 vg
  by_cases hz:gl=0
  case' pos=>
   have y1:((gl:Int)==0)=true:=by rw [beq_iff_eq]; omega
   have y2:(g0==1)=false:=by rw [y1] at j; exact j
  case' neg=>
   have y1:((gl:Int)==0)=false:=by rw [beq_eq_false_iff_ne]; omega
  all_goals
   rw [y1]; clear j hz
   go_wp2_with fail
   refine (l1Div_any B _ _ n1 ng t1 tg _ (by have:=e5.o; have:=e4.o.size; omega) T.o.1 p1.o (by omega) (by have:=V.o.1; omega) V.o.2).mono ?_; rintro e w7 ⟨za,zr,m9,x4,rfl,⟨m6,q3⟩,l5,l2⟩; rw [I.o.1,o5.o] at l5; have t3:=Hd l5; obtain ⟨d0,dn,da,dl,dc,rfl⟩:=m6.shape; obtain ⟨e0,en,ea,el,ec,rfl⟩:=q3.shape; obtain ⟨W8,i5⟩:=exW ((w7.alloc (.cells #[.int .i64 d0,.bool dn,.slice da dl dc] 53)).alloc (.cells #[.int .i64 e0,.bool en,.slice ea el ec] 53)); have u9:=Hd i5; have l3:Up w7 W8:=by rw [← i5]; exact below_al (below_alloc _ _) _
   have d6:Bx W8 w7.heap.size [.int .i64 d0,.bool dn,.slice da dl dc]:=by rw [← i5]; exact (bx_new w7 _ _).alloc _
   have u:Up w6 W8:=l2.trans (l3.mono l2.size); have i3:=Hd (O.o.below (N:=w6.heap.size) o3.o u); have i2:=Hd (e4.o.trans (u.mono e4.o.size)); have u8:Hid (w.heap.size+3≤W8.heap.size):=Nat.le_trans o3.o u.size; have o9:=Hd (And.intro (T.o.2.below u) (p1.o.below u)); have t7:Hid (IsN B W8 (.agg #[.int .i64 d0,.bool dn,.slice da dl dc]) m9):=(m6.below l3).mono (by have:=e5.o; have:=e4.o.size; omega); have s8:Hid (∀ W,Up W8 W→Bx W w7.heap.size [.int .i64 d0,.bool dn,.slice da dl dc]):=fun W hW=>d6.below d6.lt hW; have i6:=o0.o W8 u; have j7:=i6.cell 0; have j8:=i6.cell 1; have j9:=i6.cell 2; have p2:=i3.o.b.cell 0; have p3:=i3.o.b.cell 1; have p4:=i3.o.b.cell 2; simp only [List.getElem?_cons_zero,List.getElem?_cons_succ] at j7 j8 j9 p2 p3 p4; clear m6 q3 l5 l2 i5 l3 d6 u i6 a0 a1 a2 b0 b1 b2 v5 v6 v7
   go_upto_region 10 with fail
   rw [u9.o]
   go_wp2_with fail
   refine (l1Div_any B _ _ n2 ng t2 tg W8 (by have:=e5.o; have:=i2.o.size; omega) o9.o.1 o9.o.2 (by omega) (by have:=V.o.1; omega) V.o.2).mono ?_; rintro e w9 ⟨zb,zs,r6,x5,rfl,⟨m7,q4⟩,l6,l4⟩; rw [I.o.2,o5.o] at l6; have k7:=Hd (low_of_div (x) (y) (gcdI (x) (y)) m9 x4 r6 x5 (by have:=e6.o; omega) (by rw [if_neg (by have:=e6.o; omega)]) t3.o l6); obtain ⟨i0,iN,ia,il,ic,rfl⟩:=m7.shape; obtain ⟨j0,jn,ja,jl,jc,rfl⟩:=q4.shape; obtain ⟨s,b3⟩:=exW ((w9.alloc (.cells #[.int .i64 i0,.bool iN,.slice ia il ic] 53)).alloc (.cells #[.int .i64 j0,.bool jn,.slice ja jl jc] 53)); have o6:=Hd b3; have f9:Up w9 s:=by rw [← b3]; exact below_al (below_alloc _ _) _
   have p9:Bx s w9.heap.size [.int .i64 i0,.bool iN,.slice ia il ic]:=by rw [← b3]; exact (bx_new w9 _ _).alloc _
   have D:Up W8 s:=l4.trans (f9.mono l4.size); have Y:=Hd (i3.o.below (N:=W8.heap.size) u8.o D); have n7:=Hd (i2.o.trans (D.mono i2.o.size)); have o1:Hid (NumZ B s (.agg #[.int .i64 d0,.bool dn,.slice da dl dc]) m9 1000):=numZ_of (t7.o.below D) t1 T.o.1.1 (low_len1 k7.o I.o.1) g9; have o2:Hid (NumZ B s (.agg #[.int .i64 i0,.bool iN,.slice ia il ic]) r6 1000):=numZ_of ((m7.below f9).mono (by have:=e5.o; have:=i2.o.size; omega)) t2 T.o.2.1 (low_len2 k7.o I.o.2) b5; have J:=Hd (HL.o _ _ k7.o); have d6:=s8.o s D; obtain ⟨u0,u1,u2⟩:=d6.k3; obtain ⟨v0,v1,v2⟩:=p9.k3; clear m7 q4 l6 l4 b3 f9 p9 D d6 p2 p3 p4 j7 j8 j9
   go_upto_region 11 with fail
   rw [o6.o]; obtain ⟨r0,r1,r2,r3,r4,r5⟩:=Y.o.r.k6; obtain ⟨f0,f1,f2,f3,f4,f5⟩:=Y.o.r.f6
   go_wp2
   have m:NoInt s (w.heap.size+1+1):=noInt_of Y.o.r (by simp); have hk:=keeps6 s (w.heap.size+1+1) (.int .i64 d0) (.bool dn) (.slice da dl dc) (.int .i64 i0) (.bool iN) (.slice ia il ic); have e8:=o1.o.keeps m m hk; have e9:=o2.o.keeps m m hk; have e7:=set6 n7.o (w.heap.size+1+1) (by omega) (.int .i64 d0) (.bool dn) (.slice da dl dc) (.int .i64 i0) (.bool iN) (.slice ia il ic); have hZ:=Y.o.r.put6 (.int .i64 d0) (.bool dn) (.slice da dl dc) (.int .i64 i0) (.bool iN) (.slice ia il ic); have f7:((((((s.setCell ⟨w.heap.size+1+1,0,none⟩ (.int .i64 d0)).setCell ⟨w.heap.size+1+1,1,none⟩ (.bool dn)).setCell ⟨w.heap.size+1+1,2,none⟩ (.slice da dl dc)).setCell ⟨w.heap.size+1+1,3,none⟩ (.int .i64 i0)).setCell ⟨w.heap.size+1+1,4,none⟩ (.bool iN)).setCell ⟨w.heap.size+1+1,5,none⟩ (.slice ia il ic))=W6 s (w.heap.size+1+1) (.int .i64 d0) (.bool dn) (.slice da dl dc) (.int .i64 i0) (.bool iN) (.slice ia il ic):=rfl; rw [f7]; generalize W6 s (w.heap.size+1+1) (.int .i64 d0) (.bool dn) (.slice da dl dc) (.int .i64 i0) (.bool iN) (.slice ia il ic)=W9 at *; obtain ⟨m0,m1,m2,m3,m4,m5⟩:=hZ.k6; refine bodyPost_ret (v:=.agg #[.int .i64 d0,.bool dn,.slice da dl dc,.int .i64 i0,.bool iN,.slice ia il ic]) ?_ rfl ⟨_,_,_,rfl,⟨d0,dn,da,dl,dc,i0,iN,ia,il,ic,rfl,e8,e9⟩,J.o,e7⟩; simp [results,Tryz.results20,go_sem,m0,m1,m2,m3,m4,m5]
theorem IsQN.below {B:Nat} {w w':World} {z:Value} {x y:Int} (h:IsQN B w z x y) (hb:Up w w'):IsQN B w' z x y:=by
 obtain ⟨m,D,s,pl,u,E,K,H,J,I,e,j,h2⟩:=h; exact ⟨m,D,s,pl,u,E,K,H,J,I,e,j.below hb,h2.below hb⟩
theorem numZ_read (B:Nat) (w:World) (z:Value) (p:ByteArray) (hp:isIntB p=true) (h:IsZ B w z (isNeg p) (lim p)):NumZ B w z (numT p) 1000:=
 ⟨_,_,h,rfl,by have:=lim_len' p hp; omega⟩
theorem l2Read_any (s:ByteArray) (k:Option Nat) (x y:Int) (w:World) (hs:s.size≤maxLen) (hk:IsCut s k) (hV:RatV s k x y) :
 Calls Tryz.prog 23 #[.string s] w fun e w'=>∃ z,e=.returned z∧IsQN w.heap.size w' z x y∧Up w w':=by
 have HK:=Hd hk; have HV:=Hd hV; clear hk hV; obtain ⟨W0,a8⟩:=exW (w.alloc (.cells #[.int .i64 0,.bool false,.slice none 0 0,.int .i64 0,.bool false,.slice none 0 0] 55)); have d0:=Hd a8; have T:Hid (Up w W0):=by unfold Hid; rw [← a8]; exact below_alloc _ _
 have c7:Bx W0 w.heap.size [.int .i64 0,.bool false,.slice none 0 0,.int .i64 0,.bool false,.slice none 0 0]:=by rw [← a8]; exact bx_new w _ _
 have HX:Hid (∀ W,Up W0 W→Bx W w.heap.size [.int .i64 0,.bool false,.slice none 0 0,.int .i64 0,.bool false,.slice none 0 0]):=fun W hW=>c7.below c7.lt hW; clear a8 c7
 cases k with
 | none=>
   go_enter Tryz.func23,Tryz.ntmps23
   go_wp2_with fail
   rw [d0.o]; refine (l2Cut_any s none _ hs HK.o).mono ?_; rintro e w1 ⟨rfl,b9⟩; subst b9; have e1:cutI none = -1:=rfl; rw [e1]
   go_wp2_with fail
   refine (l1Read_any s _ HV.o.1).mono ?_; rintro e w2 ⟨z1,rfl,a7,a6⟩; have Y:=numZ_read _ _ _ s HV.o.1 a7; obtain ⟨a0,an,aa,al,ac,rfl⟩:=Y.shape'; have a9:=Hd Y; have U:=Hd a6; clear a7 Y a6
   go_wp2_with fail
   refine (l2OfZ_any _ a0 an aa al ac (numT s) _ U.o.size a9.o).mono ?_; rintro e O ⟨z,rfl,hq,a5⟩; obtain ⟨m,E,u,pl,D,H,M,I,K,J,rfl,hP,hQ⟩:=hq; have V:=Hd (U.o.trans (a5.mono U.o.size)); have a3:Hid (NumZ w.heap.size O (.agg #[.int .i64 m,.bool E,.slice u pl D]) x 1000∧NumZ w.heap.size O (.agg #[.int .i64 H,.bool M,.slice I K J]) y 1000):=by
    rw [HV.o.2.1,HV.o.2.2]; exact ⟨hP.mono' T.o.size leR,hQ.mono' T.o.size leR⟩
   have h:=HX.o O V.o; obtain ⟨r0,r1,r2,r3,r4,r5⟩:=h.k6; obtain ⟨f0,f1,f2,f3,f4,f5⟩:=h.f6; clear hP hQ a5 h
   go_wp2
   have h:=HX.o O V.o; have j:NoInt O w.heap.size:=noInt_of h (by simp); have hk:=keeps6 O w.heap.size (.int .i64 m) (.bool E) (.slice u pl D) (.int .i64 H) (.bool M) (.slice I K J); have b4:=a3.o.1.keeps j j hk; have b5:=a3.o.2.keeps j j hk; have b3:=set6 (T.o.trans (V.o.mono T.o.size)) w.heap.size leR (.int .i64 m) (.bool E) (.slice u pl D) (.int .i64 H) (.bool M) (.slice I K J); have hZ:=h.put6 (.int .i64 m) (.bool E) (.slice u pl D) (.int .i64 H) (.bool M) (.slice I K J); have b6:(((((O.setCell ⟨w.heap.size,0,none⟩ (.int .i64 m)).setCell ⟨w.heap.size,1,none⟩ (.bool E)).setCell ⟨w.heap.size,2,none⟩ (.slice u pl D)).setCell ⟨w.heap.size,3,none⟩ (.int .i64 H)).setCell ⟨w.heap.size,4,none⟩ (.bool M)).setCell ⟨w.heap.size,5,none⟩ (.slice I K J)=W6 O w.heap.size (.int .i64 m) (.bool E) (.slice u pl D) (.int .i64 H) (.bool M) (.slice I K J):=rfl; rw [b6]; generalize W6 O w.heap.size (.int .i64 m) (.bool E) (.slice u pl D) (.int .i64 H) (.bool M) (.slice I K J)=W9 at *; obtain ⟨m0,m1,m2,m3,m4,m5⟩:=hZ.k6; refine bodyPost_ret (v:=.agg #[.int .i64 m,.bool E,.slice u pl D,.int .i64 H,.bool M,.slice I K J]) ?_ rfl ⟨_,rfl,⟨m,E,u,pl,D,H,M,I,K,J,rfl,b4,b5⟩,b3⟩; simp [results,Tryz.results23,go_sem,m0,m1,m2,m3,m4,m5]
 | some i=>
   have hi:=isCut_lt HK.o; have c1:(0:Int)≤(i:Int):=by omega
   have c2:(i:Int)≤(s.size:Int):=by omega
   have c3:(0:Int)≤(i:Int)+1:=by omega
   have c4:(i:Int)+1≤(s.size:Int):=by omega
   have d8:s.extract 0 i=cutP s (some i):=rfl; have d1:s.extract (i+1) s.size=cutQ s (some i):=rfl; obtain ⟨p,hp⟩:=exW (cutP s (some i)); obtain ⟨q,hq⟩:=exW (cutQ s (some i)); have a3:Hid (cutP s (some i)=p∧cutQ s (some i)=q):=⟨hp,hq⟩; rw [hp] at d8; rw [hq] at d1; have Z:Hid ((isIntB p=true∧isIntB q=true)∧x=numT p∧y=numT q):=by
    obtain ⟨h1,_,h2,h3⟩:=HV.o; rw [hp,hq] at h1; rw [hp] at h2; rw [hq] at h3; exact ⟨h1,h2,h3⟩
   unfold maxLen at hs; clear hp hq; have g1:IntKind.i64.wrap ((i:Int)+1)=(i:Int)+1:=wrap_id _ (by omega) (by omega); have g0:∀ W,(Instr.slice 9 (.string s) (some (.int .i64 ((i:Int)+1))) none none).run Tryz.prog W=.ok (.string q) W:=fun W=>by
    rw [run_slice_string_from_if W 9 s .i64 _ Tryz.underlying9,if_pos ⟨c3,c4⟩,show ((i:Int)+1).toNat=i+1 by omega,d1]
   go_enter Tryz.func23,Tryz.ntmps23
   go_wp2_with fail
   rw [d0.o]; refine (l2Cut_any s (some i) _ (by unfold maxLen; exact hs) HK.o).mono ?_; rintro e w1 ⟨rfl,b9⟩; subst b9; have e1:cutI (some i)=(i:Int):=rfl; rw [e1]
   go_wp2_with fail
   go_region_with (first
    | (go_at_call_of 49 (Value.string p)
       refine (l1Read_any p _ Z.o.1.1).mono ?_; rintro e w2 ⟨z1,rfl,a7,a6⟩; have Y:=numZ_read _ _ _ p Z.o.1.1 a7; obtain ⟨m,E,u,pl,D,rfl⟩:=Y.shape'; have a9:=Hd Y; have U:Hid (Up w1 w2):=(Below.refl _ w1).drew.trans a6; clear a7 Y a6)
    | (go_at_call_of 49 (Value.string q)
       refine (l1Read_any q _ Z.o.1.2).mono ?_; rintro e O ⟨z2,rfl,d3,a5⟩; have b7:=numZ_read _ _ _ q Z.o.1.2 d3; obtain ⟨H,M,I,K,J,rfl⟩:=b7.shape'; have a3:Hid (NumZ w.heap.size O (.agg #[.int .i64 m,.bool E,.slice u pl D]) x 1000∧NumZ w.heap.size O (.agg #[.int .i64 H,.bool M,.slice I K J]) y 1000):=by
        rw [Z.o.2.1,Z.o.2.2]; exact ⟨(a9.o.below a5).mono' T.o.size leR,b7.mono' (Nat.le_trans T.o.size U.o.size) leR⟩
       have V:=Hd (U.o.trans (a5.mono U.o.size)); have h:=HX.o O V.o; obtain ⟨r0,r1,r2,r3,r4,r5⟩:=h.k6; obtain ⟨f0,f1,f2,f3,f4,f5⟩:=h.f6; clear d3 b7 a5 h))
   all_goals
    try simp only [List.getElem_toArray,List.getElem_cons_succ,List.getElem_cons_zero,Act.put,List.setIfInBounds_toArray,List.set_cons_succ,List.set_cons_zero]
    go_wp2
    have h:=HX.o O V.o; have j:NoInt O w.heap.size:=noInt_of h (by simp); have hk:=keeps6 O w.heap.size (.int .i64 m) (.bool E) (.slice u pl D) (.int .i64 H) (.bool M) (.slice I K J); have b4:=a3.o.1.keeps j j hk; have b5:=a3.o.2.keeps j j hk; have b3:=set6 (T.o.trans (V.o.mono T.o.size)) w.heap.size leR (.int .i64 m) (.bool E) (.slice u pl D) (.int .i64 H) (.bool M) (.slice I K J); have hZ:=h.put6 (.int .i64 m) (.bool E) (.slice u pl D) (.int .i64 H) (.bool M) (.slice I K J); have b6:(((((O.setCell ⟨w.heap.size,0,none⟩ (.int .i64 m)).setCell ⟨w.heap.size,1,none⟩ (.bool E)).setCell ⟨w.heap.size,2,none⟩ (.slice u pl D)).setCell ⟨w.heap.size,3,none⟩ (.int .i64 H)).setCell ⟨w.heap.size,4,none⟩ (.bool M)).setCell ⟨w.heap.size,5,none⟩ (.slice I K J)=W6 O w.heap.size (.int .i64 m) (.bool E) (.slice u pl D) (.int .i64 H) (.bool M) (.slice I K J):=rfl; rw [b6]; generalize W6 O w.heap.size (.int .i64 m) (.bool E) (.slice u pl D) (.int .i64 H) (.bool M) (.slice I K J)=W9 at *; obtain ⟨m0,m1,m2,m3,m4,m5⟩:=hZ.k6; refine bodyPost_ret (v:=.agg #[.int .i64 m,.bool E,.slice u pl D,.int .i64 H,.bool M,.slice I K J]) ?_ rfl ⟨_,rfl,⟨m,E,u,pl,D,H,M,I,K,J,rfl,b4,b5⟩,b3⟩; simp [results,Tryz.results23,go_sem,m0,m1,m2,m3,m4,m5]
end Go.Proofs.YtknfmkeipeikkaaGreatDoor
