import Derived.Test.YtnhbmpnhijgpmaaGreatDoorSimKNp
import Derived.Test.YtnhbmpnhijgpmaaGreatDoorCurXp
import Derived.Test.YtnhbmpnhijgpmaaGreatDoorQYp
import Derived.Test.YtnhbmpnhijgpmaaGreatDoorNumXp
import Derived.Maps.AppendAt
import Derived.Deep.Onto
import Derived.Test.YtnhbmpnhijgpmaaGreatDoorSimIJp
import Derived.Deep.DeepCutAuto
import Derived.Laws.OwnMore
set_option maxRecDepth 100000
set_option maxHeartbeats 8000000
namespace Go.Proofs.YtnhbmpnhijgpmaaGreatDoor
open Go.ChangeShapes Go.WideShapes Go.ChangeAt Go.RowKit
def EndP (e:Ending) (g N k:Nat) (w w':World):Prop:=∃ (h o:Bool) (t:ByteArray) (k':Nat),e=.returned (.agg #[.bool h,.bool o,.string t])∧t.size≤14000∧k'≤k+20000∧IsCur g N w' k'∧Bar g w w'
theorem end_any (g N k:Nat) (w:World) (h:IsCur g N w k) (hk:k≤1000000) :
 Calls Tryz.prog 13 #[.pointer (some ⟨g,0,none⟩)] w fun e w'=>EndP e g N k w w':=by
 have HC:=Hd h; have HG:Hid (g<w.heap.size):=Nat.lt_of_lt_of_le h.1 h.2.1; have HN:Hid (N≤w.heap.size):=h.2.1; clear h; obtain ⟨I,T⟩:=exW (w.alloc (.cells #[.bool false,.bool false,.string ⟨#[]⟩] 24)); have g6:=Hd T; have d3:Hid (Up w I):=by unfold Hid; rw [← T]; exact below_alloc _ _
 have g4:Hid (I.heap.size=w.heap.size+1):=by show I.heap.size=_; rw [← T]; simp
 have E:Bx I (w.heap.size) [.bool false,.bool false,.string ⟨#[]⟩]:=by
  rw [← T]; exact bx_new w _ _
 have i5:Hid (∀ W,Up I W→Bx W (w.heap.size) [.bool false,.bool false,.string ⟨#[]⟩]):=fun W hW=>E.below E.lt hW; have K:Hid (∀ W,Bar g I W→Bx W w.heap.size [.bool false,.bool false,.string ⟨#[]⟩]):=fun W hW=>E.bar hW (by have:=HG.o; omega); have g1:=Hd (HC.o.below (d3.o.mono HN.o)); have a7:Hid (Bar g w I):=Bar.of d3.o; clear T E
 go_enter Tryz.func13,Tryz.ntmps13
 go_upto_region 1 with fail
 rw [g6.o]
 go_wp2_with fail
 refine (pick_any g N k 6 _ g1.o (by omega) (by decide) (by decide)).mono ?_; rintro e w1 ⟨r1,k1,rfl,j0,i7,e2,e0⟩; have g2:=Hd e2; have g3:=Hd e0; obtain ⟨hb,g8⟩:∃ b,decide (0<r1)=b:=⟨_,rfl⟩; clear e2 e0
 go_wp2_with fail
 refine (pick_any g N k1 2 _ g2.o (by omega) (by decide) (by decide)).mono ?_; rintro e H ⟨r2,k2,rfl,j1,i8,e3,e1⟩; have d7:=Hd e3; have a5:Hid (Bar g I H):=g3.o.trans e1; obtain ⟨A,h1⟩:∃ b,((r2:Int)==0)=b:=⟨_,rfl⟩; clear e3 e1; have j3:w.heap.size<H.heap.size:=by have:=a5.o.size; have:=g4.o; omega
 obtain ⟨W2,U⟩:=exW (H.alloc (.cells #[.bool hb,.bool A,.string ⟨#[]⟩] 24)); have g7:=Hd U; have d4:Hid (Up H W2):=by unfold Hid; rw [← U]; exact below_alloc _ _
 have i4:Hid (W2.heap.size=H.heap.size+1):=by show W2.heap.size=_; rw [← U]; simp
 have u:Bx W2 (H.heap.size) [.bool hb,.bool A,.string ⟨#[]⟩]:=by
  rw [← U]; exact bx_new H _ _
 have i6:Hid (∀ W,Up W2 W→Bx W (H.heap.size) [.bool hb,.bool A,.string ⟨#[]⟩]):=fun W hW=>u.below u.lt hW; have O:=Hd u; have a8:=Hd (d7.o.below (d4.o.mono d7.o.2.1)); have L:Hid (Bar g I W2):=a5.o.trans (Bar.of d4.o); have d5:Hid (Bar g w W2):=a7.o.trans L.o; have b8:Hid (H.heap.size≠g):=by unfold Hid; have:=HG.o; omega
 obtain ⟨m0,m1,m2⟩:=u.k3; clear U u
 go_upto_region 2 with fail
 rw [g7.o]; clear g8 h1; cases hb
 ·go_wp2_with fail
  refine (pick_any g N k2 4 _ a8.o (by omega) (by decide) (by decide)).mono ?_; rintro e w3 ⟨r3,k3,rfl,j2,i9,e4,c8⟩; have d8:=Hd e4; have a6:Hid (Bar g I w3):=L.o.trans c8; have d6:Hid (Bar g w w3):=a7.o.trans a6.o; have i:=O.o.bar c8 b8.o; have a9:=Hd i; clear e4 c8 m0 m1 m2 i
  by_cases h0:r3=0
  ·have z3:((r3:Int)==0)=true:=by rw [beq_iff_eq]; omega
   clear h0
   go_wp2_with fail
   refine (rat_any g N k3 _ d8.o (by omega)).mono ?_; rintro e J ⟨t,k5,rfl,ht,g9,Z,D⟩; have HT:=Hd ht; have b6:=Hd Z; have b4:Hid (Bar g w J):=d6.o.trans D; have b9:Hid (Bar g I J):=a6.o.trans D; have i:=a9.o.bar D b8.o; have Q:=Hd i; clear ht Z D; obtain ⟨s0,s1,s2⟩:=i.k3; obtain ⟨c9,d0,d1⟩:=i.f3; clear i; obtain ⟨W6,m⟩:=exW (J.setCell ⟨H.heap.size,2,none⟩ (.string t)); have c6:=Hd m; have j:Below w.heap.size J W6:=by rw [← m]; exact (Below.refl _ J).setCell (p:=⟨H.heap.size,2,none⟩) (by dsimp only; omega) _
   have G:Below I.heap.size J W6:=by rw [← m]; exact (Below.refl _ J).setCell (p:=⟨H.heap.size,2,none⟩) (by dsimp only; have:=a5.o.size; omega) _
   have S:Hid (Bx W6 H.heap.size [.bool false,.bool A,.string t]):=by
    unfold Hid
    rw [← m]; exact Q.o.set 2 (.string t)
   have b7:=Hd (b6.o.below (j.mono HN.o)); have b5:Hid (Bar g w W6):=b4.o.then j; have M:Hid (Bar g I W6):=b9.o.then G; clear m j G
   go_upto_region 4 with fail
   rw [c6.o]; clear s0 s1 s2 c9 d0 d1; have i:=S.o; have s:=K.o W6 M.o; obtain ⟨m0,m1,m2⟩:=i.k3; obtain ⟨q0,q1,q2⟩:=s.k3; obtain ⟨e6,e7,e8⟩:=s.f3; clear i s
   go_wp2
   have Y:=K.o W6 M.o; have F:Below w.heap.size W6 (((W6.setCell ⟨w.heap.size,0,none⟩ (.bool false)).setCell ⟨w.heap.size,1,none⟩ (.bool A)).setCell ⟨w.heap.size,2,none⟩ (.string t)):=((((Below.refl _ W6).setCell (p:=⟨w.heap.size,0,none⟩) leR (.bool false)).setCell (p:=⟨w.heap.size,1,none⟩) leR (.bool A)).setCell (p:=⟨w.heap.size,2,none⟩) leR (.string t)); have hZ:=Y.s3 (.bool false) (.bool A) (.string t); have a3:=b7.o.below (F.mono HN.o); have V:=b5.o.then F; generalize ((W6.setCell ⟨w.heap.size,0,none⟩ (.bool false)).setCell ⟨w.heap.size,1,none⟩ (.bool A)).setCell ⟨w.heap.size,2,none⟩ (.string t)=W9 at *; obtain ⟨v0,v1,v2⟩:=hZ.k3; refine bodyPost_ret (v:=.agg #[.bool false,.bool A,.string t]) ?_ rfl ⟨false,A,t,k5,rfl,?_,?_,a3,V⟩
   ·simp [results,Tryz.results13,go_sem,v0,v1,v2]
   ·first|exact HT.o|exact Nat.zero_le _
   omega
  have z3:((r3:Int)==0)=false:=by rw [beq_eq_false_iff_ne]; omega
  clear h0
  go_upto_region 4 with fail
  have i:=a9.o; have s:=K.o w3 a6.o; obtain ⟨m0,m1,m2⟩:=i.k3; obtain ⟨q0,q1,q2⟩:=s.k3; obtain ⟨e6,e7,e8⟩:=s.f3; clear i s
  go_wp2
  have Y:=K.o w3 a6.o; have F:Below w.heap.size w3 (((w3.setCell ⟨w.heap.size,0,none⟩ (.bool false)).setCell ⟨w.heap.size,1,none⟩ (.bool A)).setCell ⟨w.heap.size,2,none⟩ (.string ⟨#[]⟩)):=((((Below.refl _ w3).setCell (p:=⟨w.heap.size,0,none⟩) leR (.bool false)).setCell (p:=⟨w.heap.size,1,none⟩) leR (.bool A)).setCell (p:=⟨w.heap.size,2,none⟩) leR (.string ⟨#[]⟩)); have hZ:=Y.s3 (.bool false) (.bool A) (.string ⟨#[]⟩); have a3:=d8.o.below (F.mono HN.o); have V:=d6.o.then F; generalize ((w3.setCell ⟨w.heap.size,0,none⟩ (.bool false)).setCell ⟨w.heap.size,1,none⟩ (.bool A)).setCell ⟨w.heap.size,2,none⟩ (.string ⟨#[]⟩)=W9 at *; obtain ⟨v0,v1,v2⟩:=hZ.k3; refine bodyPost_ret (v:=.agg #[.bool false,.bool A,.string ⟨#[]⟩]) ?_ rfl ⟨false,A,⟨#[]⟩,k3,rfl,?_,?_,a3,V⟩
  ·simp [results,Tryz.results13,go_sem,v0,v1,v2]
  ·first|exact HT.o|exact Nat.zero_le _
  omega
 clear m0 m1 m2; have i:=O.o; obtain ⟨m0,m1,m2⟩:=i.k3; clear i
 go_wp2_with fail
 refine (rat_any g N k2 _ a8.o (by omega)).mono ?_; rintro e J ⟨t,k5,rfl,ht,g9,Z,D⟩; have HT:=Hd ht; have b6:=Hd Z; have b4:Hid (Bar g w J):=d5.o.trans D; have b9:Hid (Bar g I J):=L.o.trans D; have i:=O.o.bar D b8.o; have Q:=Hd i; clear ht Z D m0 m1 m2; obtain ⟨s0,s1,s2⟩:=i.k3; obtain ⟨c9,d0,d1⟩:=i.f3; clear i; obtain ⟨W6,m⟩:=exW (J.setCell ⟨H.heap.size,2,none⟩ (.string t)); have c6:=Hd m; have j:Below w.heap.size J W6:=by rw [← m]; exact (Below.refl _ J).setCell (p:=⟨H.heap.size,2,none⟩) (by dsimp only; omega) _
 have G:Below I.heap.size J W6:=by rw [← m]; exact (Below.refl _ J).setCell (p:=⟨H.heap.size,2,none⟩) (by dsimp only; have:=a5.o.size; omega) _
 have S:Hid (Bx W6 H.heap.size [.bool true,.bool A,.string t]):=by
  unfold Hid
  rw [← m]; exact Q.o.set 2 (.string t)
 have b7:=Hd (b6.o.below (j.mono HN.o)); have b5:Hid (Bar g w W6):=b4.o.then j; have M:Hid (Bar g I W6):=b9.o.then G; clear m j G
 go_upto_region 4 with fail
 rw [c6.o]; clear s0 s1 s2 c9 d0 d1; have i:=S.o; have s:=K.o W6 M.o; obtain ⟨m0,m1,m2⟩:=i.k3; obtain ⟨q0,q1,q2⟩:=s.k3; obtain ⟨e6,e7,e8⟩:=s.f3; clear i s
 go_wp2
 have Y:=K.o W6 M.o; have F:Below w.heap.size W6 (((W6.setCell ⟨w.heap.size,0,none⟩ (.bool true)).setCell ⟨w.heap.size,1,none⟩ (.bool A)).setCell ⟨w.heap.size,2,none⟩ (.string t)):=((((Below.refl _ W6).setCell (p:=⟨w.heap.size,0,none⟩) leR (.bool true)).setCell (p:=⟨w.heap.size,1,none⟩) leR (.bool A)).setCell (p:=⟨w.heap.size,2,none⟩) leR (.string t)); have hZ:=Y.s3 (.bool true) (.bool A) (.string t); have a3:=b7.o.below (F.mono HN.o); have V:=b5.o.then F; generalize ((W6.setCell ⟨w.heap.size,0,none⟩ (.bool true)).setCell ⟨w.heap.size,1,none⟩ (.bool A)).setCell ⟨w.heap.size,2,none⟩ (.string t)=W9 at *; obtain ⟨v0,v1,v2⟩:=hZ.k3; refine bodyPost_ret (v:=.agg #[.bool true,.bool A,.string t]) ?_ rfl ⟨true,A,t,k5,rfl,?_,?_,a3,V⟩
 ·simp [results,Tryz.results13,go_sem,v0,v1,v2]
 ·first|exact HT.o|exact Nat.zero_le _
 omega
def DrawP (e:Ending) (w w':World):Prop:=∃ (h1 o1:Bool) (t1:ByteArray) (h2 o2:Bool) (t2:ByteArray),e=.returned (.tuple #[.agg #[.bool h1,.bool o1,.string t1],.agg #[.bool h2,.bool o2,.string t2]])∧t1.size≤14000∧t2.size≤14000∧Up w w'
structure Ends2 (g N b5 b6:Nat) (k:Nat) (w W:World) (h1 o1:Bool) (t1:ByteArray) (h2 o2:Bool) (t2:ByteArray):Prop where
 a:Bx W b5 [.bool h1,.bool o1,.string t1]
 b:Bx W b6 [.bool h2,.bool o2,.string t2]
 c:IsCur g N W k
 s1:t1.size≤14000
 s2:t2.size≤14000
 r:Bar g w W
 g5:w.heap.size≤b5∧b5<b6∧g<w.heap.size
theorem Ends2.bar {g N b5 b6 k k':Nat} {w W W':World} {h1 o1:Bool} {t1:ByteArray} {h2 o2:Bool} {t2:ByteArray} (h:Ends2 g N b5 b6 k w W h1 o1 t1 h2 o2 t2) (hb:Bar g W W') (hc:IsCur g N W' k'):Ends2 g N b5 b6 k' w W' h1 o1 t1 h2 o2 t2:=
 ⟨h.a.bar hb (by have:=h.g5; omega),h.b.bar hb (by have:=h.g5; omega),hc,h.s1,h.s2,h.r.trans hb,h.g5⟩
theorem Ends2.below {g N b5 b6 k:Nat} {w W W':World} {h1 o1:Bool} {t1:ByteArray} {h2 o2:Bool} {t2:ByteArray} (h:Ends2 g N b5 b6 k w W h1 o1 t1 h2 o2 t2) (hb:Up W W'):Ends2 g N b5 b6 k w W' h1 o1 t1 h2 o2 t2:=
 ⟨h.a.below h.a.lt hb,h.b.below h.b.lt hb,h.c.below (hb.mono h.c.2.1),h.s1,h.s2,h.r.trans (Bar.of hb),h.g5⟩
theorem Ends2.put5 {g N b5 b6 k:Nat} {w W:World} {h1 o1:Bool} {t1:ByteArray} {h2 o2:Bool} {t2:ByteArray} (h:Ends2 g N b5 b6 k w W h1 o1 t1 h2 o2 t2) (t:ByteArray) (ht:t.size≤14000) (hN:N≤w.heap.size):Ends2 g N b5 b6 k w (W.setCell ⟨b5,2,none⟩ (.string t)) h1 o1 t h2 o2 t2:=by
 have j:Below w.heap.size W (W.setCell ⟨b5,2,none⟩ (.string t)):=(Below.refl _ W).setCell (p:=⟨b5,2,none⟩) h.g5.1 _; have i:Below b5 W (W.setCell ⟨b5,2,none⟩ (.string t)):=(Below.refl _ W).setCell (p:=⟨b5,2,none⟩) leR _; exact ⟨h.a.set 2 _,h.b.other ⟨b5,2,none⟩ (by have:=h.g5; dsimp only; omega) _,h.c.below (i.mono (Nat.le_trans hN h.g5.1)),ht,h.s2,h.r.then j,h.g5⟩
theorem Ends2.put6 {g N b5 b6 k:Nat} {w W:World} {h1 o1:Bool} {t1:ByteArray} {h2 o2:Bool} {t2:ByteArray} (h:Ends2 g N b5 b6 k w W h1 o1 t1 h2 o2 t2) (t:ByteArray) (ht:t.size≤14000) (hN:N≤w.heap.size):Ends2 g N b5 b6 k w (W.setCell ⟨b6,2,none⟩ (.string t)) h1 o1 t1 h2 o2 t:=by
 have j:w.heap.size≤b6:=by have:=h.g5; omega
 have i:Below w.heap.size W (W.setCell ⟨b6,2,none⟩ (.string t)):=(Below.refl _ W).setCell (p:=⟨b6,2,none⟩) j _; exact ⟨h.a.other ⟨b6,2,none⟩ (by have:=h.g5; dsimp only; omega) _,h.b.set 2 _,h.c.below (i.mono hN),h.s1,ht,h.r.then i,h.g5⟩
theorem farAt {W:World} {a:Addr} {v:Value} (p:Addr) (h:W.cell? a=some v) (hp:p.block≠a.block) (u:Value):(W.setCell p u).cell? a=some v:=by
 rw [World.cell?_setCell_far _ _ _ _ hp]; exact h
theorem drawSimplest_any (a:Option Addr) (n cap:Nat) (w:World) (h:CodeArg w a n cap) :
 Calls Tryz.prog 5 #[.slice a n cap] w fun e w'=>DrawP e w w':=by
 obtain ⟨H,K⟩:=exW (((w.alloc (.cells #[.bool false,.bool false,.string ⟨#[]⟩] 24)).alloc (.cells #[.bool false,.bool false,.string ⟨#[]⟩] 24)).alloc (.cells #[.slice a n cap,.int .i64 0,.int .u64 0] 40)); have i4:=Hd K; have h7:Hid (Up w H):=by unfold Hid; rw [← K]; exact below_al (below_al (below_alloc _ _) _) _
 have i0:Hid (H.heap.size=w.heap.size+3):=by show H.heap.size=_; rw [← K]; simp
 have D:Bx H (w.heap.size) [.bool false,.bool false,.string ⟨#[]⟩]:=by
  rw [← K]; exact ((bx_new w _ _).alloc _).alloc _
 have E:Bx H (w.heap.size+1) [.bool false,.bool false,.string ⟨#[]⟩]:=by
  rw [← K]; have h:=bx_new (w.alloc (.cells #[.bool false,.bool false,.string ⟨#[]⟩] 24)) [.bool false,.bool false,.string ⟨#[]⟩] 24; rw [World.size_alloc] at h; exact (h).alloc _
 have Q:Bx H (w.heap.size+1+1) [.slice a n cap,.int .i64 0,.int .u64 0]:=by
  rw [← K]; have h:=bx_new ((w.alloc (.cells #[.bool false,.bool false,.string ⟨#[]⟩] 24)).alloc (.cells #[.bool false,.bool false,.string ⟨#[]⟩] 24)) [.slice a n cap,.int .i64 0,.int .u64 0] 40; rw [World.size_alloc,World.size_alloc] at h; exact h
 have o3:Hid (∀ W,Up H W→Bx W (w.heap.size) [.bool false,.bool false,.string ⟨#[]⟩]∧Bx W (w.heap.size+1) [.bool false,.bool false,.string ⟨#[]⟩]∧Bx W (w.heap.size+1+1) [.slice a n cap,.int .i64 0,.int .u64 0]):=fun W hW=>⟨D.below D.lt hW,E.below E.lt hW,Q.below Q.lt hW⟩; have b7:Hid (IsCur (w.heap.size+1+1) (w.heap.size+1+1+1) H 0):=by
  show IsCur _ _ _ _
  have l0:=(h.below (below_alloc w (.cells #[.bool false,.bool false,.string ⟨#[]⟩] 24))).below (below_alloc _ (.cells #[.bool false,.bool false,.string ⟨#[]⟩] 24)); have g6:=cur_new l0 40; rw [World.size_alloc,World.size_alloc] at g6; rw [← K]; exact g6
 obtain ⟨g,hg⟩:=exW (w.heap.size+1+1); obtain ⟨N,hN⟩:=exW (w.heap.size+1+1+1); rw [hg] at b7; have U:Hid (w.heap.size+1+1=g∧N=g+1):=⟨hg,by omega⟩; have S:Hid (IsCur g N H 0):=by
  unfold Hid
  have h9:=b7.o; have e9:g+1=N:=by omega
  rw [e9] at h9; exact h9
 have e0:=Hd D; have e1:=Hd E; have c6:Hid (N≤H.heap.size):=S.o.2.1; clear h K hg hN b7 Q D E
 go_enter Tryz.func5,Tryz.ntmps5
 go_upto_region 2 with fail
 rw [i4.o,U.o.1]
 go_wp2_with fail
 refine (end_any g N 0 H S.o (by decide)).mono ?_; intro e V j2; obtain ⟨I,o1,t1,k1,rfl,g7,l3,g2,e8⟩:=j2; have i1:=Hd g7; have d3:=Hd g2; have d9:=Hd e8; clear g7 g2 e8; obtain ⟨W1,Z⟩:=exW (V.alloc (.cells #[.bool I,.bool o1,.string t1] 24)); have i5:=Hd Z; have d1:Hid (Up V W1):=by unfold Hid; rw [← Z]; exact below_alloc _ _
 have e2:Hid (W1.heap.size=V.heap.size+1):=by show W1.heap.size=_; rw [← Z]; simp
 have F:Bx W1 (V.heap.size) [.bool I,.bool o1,.string t1]:=by
  rw [← Z]; exact bx_new V _ _
 have o4:Hid (∀ W,Up W1 W→Bx W (V.heap.size) [.bool I,.bool o1,.string t1]):=fun W hW=>F.below F.lt hW; have i7:=Hd F; have d4:=Hd (d3.o.below (d1.o.mono d3.o.2.1)); clear Z F
 go_upto_region 3 with fail
 rw [i5.o]
 go_wp2_with fail
 refine (end_any g N k1 W1 d4.o (by omega)).mono ?_; intro e w2 j3; obtain ⟨J,o2,t2,k2,rfl,g8,l4,c7,a8⟩:=j3; have h8:=Hd a8; obtain ⟨W2,a3⟩:=exW (w2.alloc (.cells #[.bool J,.bool o2,.string t2] 24)); have i6:=Hd a3; have b6:Hid (Up w2 W2):=by unfold Hid; rw [← a3]; exact below_alloc _ _
 have o0:Hid (W2.heap.size=w2.heap.size+1):=by show W2.heap.size=_; rw [← a3]; simp
 have G:Bx W2 (w2.heap.size) [.bool J,.bool o2,.string t2]:=by
  rw [← a3]; exact bx_new w2 _ _
 have o5:Hid (∀ W,Up W2 W→Bx W (w2.heap.size) [.bool J,.bool o2,.string t2]):=fun W hW=>G.below G.lt hW; have l7:H.heap.size≤V.heap.size:=d9.o.size; have l8:V.heap.size<w2.heap.size:=by have:=h8.o.size; have:=e2.o; omega
 have a7:Hid (Ends2 g N V.heap.size w2.heap.size k2 H W2 I o1 t1 J o2 t2):=by
  have l2:g<H.heap.size:=Nat.lt_of_lt_of_le S.o.1 S.o.2.1; refine ⟨((i7.o.bar a8 (by omega)).below (by omega) b6.o),G,c7.below (b6.o.mono c7.2.1),i1.o,g8,(d9.o.trans (Bar.of d1.o)).trans (a8.trans (Bar.of b6.o)),l7,l8,l2⟩
 have n2:k2≤40000:=by omega
 clear g8 c7 a8 a3 G l3 l4
 go_upto_region 4 with fail
 rw [i6.o]; have TR:Hid (∀ (t:ByteArray) (ht:t.size≤14000) W,Calls Tryz.prog 15 #[.string t] W (fun e w'=>∃ b,e=.returned (.bool b)∧Up W w')):=fun t ht W=>by
  refine (specIsRat_any t W (max_of ht (by decide))).mono ?_; rintro e w' ⟨b,rfl,_,s⟩; exact ⟨b,rfl,s⟩
 go_cut [35] (fun q35 wx=>∃ (bb:Bool) (k3:Nat),q35=.bool bb∧k3≤50000∧Ends2 g N V.heap.size w2.heap.size k3 H wx I o1 t1 J o2 t2)
 case first=>
  have i:=(a7.o).a; have j:=(a7.o).b; obtain ⟨m0,m1,m2⟩:=i.k3; obtain ⟨L,M,O⟩:=j.k3; clear i j
  go_wp2_with fail
  refine (pick_any g N k2 3 _ a7.o.c (by omega) (by decide) (by decide)).mono ?_; rintro e w3 ⟨r3,k3,rfl,p2,l5,g3,f5⟩; have A:=Hd (a7.o.bar f5 g3); clear g3 f5 m0 m1 m2 L M O; have i:=(A.o).a; have j:=(A.o).b; obtain ⟨m0,m1,m2⟩:=i.k3; obtain ⟨L,M,O⟩:=j.k3; clear i j
  by_cases h0:0<r3
  ·have z3:decide (0<r3)=true:=decide_eq_true h0; clear h0; cases I
   ·go_wp2_with fail
    go_meet
    exact ⟨false,k3,rfl,by omega,A.o⟩
   ·cases J
    ·go_wp2_with fail
     go_meet
     exact ⟨false,k3,rfl,by omega,A.o⟩
    ·go_wp2_with fail
     refine (TR.o t1 A.o.s1 _).mono ?_; rintro e w4 ⟨b4,rfl,f7⟩; have u:=Hd (A.o.below f7); clear f7 m0 m1 m2 L M O; have i:=(u.o).a; have j:=(u.o).b; obtain ⟨m0,m1,m2⟩:=i.k3; obtain ⟨L,M,O⟩:=j.k3; clear i j
     cases b4
     ·go_wp2_with fail
      go_meet
      exact ⟨false,k3,rfl,by omega,u.o⟩
     ·go_wp2_with fail
      refine (TR.o t2 u.o.s2 _).mono ?_; rintro e w5 ⟨b5,rfl,f9⟩; have Y:=Hd (u.o.below f9); clear f9
      go_wp2_with fail
      go_meet
      exact ⟨b5,k3,rfl,by omega,Y.o⟩
  ·have z3:decide (0<r3)=false:=decide_eq_false h0; clear h0
   go_wp2_with fail
   go_meet
   exact ⟨false,k3,rfl,by omega,A.o⟩
 case rest=>
  obtain ⟨bb,k3,rfl,l5,hE⟩:=hcut; obtain ⟨wa,rfl⟩:∃ wa,wa=wc:=⟨_,rfl⟩; have T:=Hd hE; clear hE
  go_upto_if 35 with fail
  go_cut [] (fun wx=>∃ (t3 t4:ByteArray) (k4:Nat),Ends2 g N V.heap.size w2.heap.size k4 H wx I o1 t3 J o2 t4)
  case first=>
   cases bb
   ·go_wp2_with fail
    go_meet
    exact ⟨_,_,_,T.o⟩
   have i:=(T.o).a; have j:=(T.o).b; obtain ⟨m0,m1,m2⟩:=i.k3; obtain ⟨L,M,O⟩:=j.k3; clear i j
   go_wp2_with fail
   refine (specRatCmp_any t1 t2 _ (max_of T.o.s1 (by decide)) (max_of T.o.s2 (by decide))).mono ?_; rintro e wb ⟨r5,rfl,_,s⟩; have m:=Hd (T.o.below s); clear s m0 m1 m2 L M O
   go_upto_if 41 with fail
   go_cut [] (fun wx=>∃ (t3 t4:ByteArray),Ends2 g N V.heap.size w2.heap.size k3 H wx I o1 t3 J o2 t4)
   case first=>
    have i:=(m.o).a; have j:=(m.o).b; obtain ⟨m0,m1,m2⟩:=i.k3; obtain ⟨p9,q3,q4⟩:=i.f3; obtain ⟨L,M,O⟩:=j.k3; obtain ⟨n6,n7,n8⟩:=j.f3; clear i j
    by_cases h0:0<r5
    ·have z5:decide (0<r5)=true:=decide_eq_true h0
     go_wp2_with fail
     go_meet
     exact ⟨t2,t1,(m.o.put5 t2 m.o.s2 c6.o).put6 t1 m.o.s1 c6.o⟩
    ·have z5:decide (0<r5)=false:=decide_eq_false h0
     go_wp2_with fail
     go_meet
     exact ⟨_,_,m.o⟩
   case rest=>
    obtain ⟨t3,t4,hE⟩:=hcut; obtain ⟨wd,rfl⟩:∃ wd,wd=wc:=⟨_,rfl⟩; have A:=Hd hE; clear hE
    go_wp2_with fail
    refine (pick_any g N k3 3 _ A.o.c (by omega) (by decide) (by decide)).mono ?_; rintro e we ⟨r9,k9,rfl,p3,p1,g4,g0⟩; have u:=Hd (A.o.bar g0 g4); clear g4 g0
    by_cases h0:r9=0
    ·have z9:((r9:Int)==0)=true:=by rw [beq_iff_eq]; omega
     clear h0; have l6:=u.o.a.cell 2; simp only [List.getElem?_cons_zero,List.getElem?_cons_succ] at l6; have p0:g<N:=u.o.c.1
     go_wp2_with fail
     go_region_held3 (fun W=>W.cell? ⟨V.heap.size,2,none⟩=some (.string t3)) (first
      | with_reducible assumption|with_reducible exact farAt _ (by with_reducible assumption) (by dsimp only; omega) _|go_keep) (first
      | (go_at_call_of 14 (Value.int IntKind.i64 3)
         refine (pick_any g N k9 3 _ ?_ (by omega) (by decide) (by decide)).mono ?_
         ·exact (u.o.below (Below.refl _ _).drew).c
         rintro e t6 ⟨r10,l9,rfl,n4,n0,hc,s⟩; have Y:=Hd ((u.o.below (Below.refl _ _).drew).bar s hc); have j4:=Y.o.a.cell 2; simp only [List.getElem?_cons_zero,List.getElem?_cons_succ] at j4; clear hc s)
      | (go_at_call_of 20 (Value.int IntKind.i64 (r10:Int))
         refine (l1Small_any (r10:Int) _ (by omega) (by omega)).mono ?_; rintro e t7 ⟨z1,rfl,hz,s⟩; have i8:=Hd hz; have b8:=Hd (Y.o.below s); have j5:=b8.o.a.cell 2; simp only [List.getElem?_cons_zero,List.getElem?_cons_succ] at j5; clear hz s)
      | (go_at_call_of 14 (Value.int IntKind.i64 200)
         refine (pick_any g N l9 200 _ b8.o.c (by omega) (by decide) (by decide)).mono ?_; rintro e t8 ⟨r12,p7,rfl,n5,n1,hc,s⟩; have d5:=Hd (b8.o.bar s hc); have p4:IntKind.i64.wrap (1+(r12:Int))=1+(r12:Int):=wrap_id _ (by omega) (by omega); have i9:=Hd ((i8.o.bar s (by have:=Y.o.c.2.1; omega)).mono' (B':=0) (n':=1000) (Nat.zero_le _) (by decide)); have j6:=d5.o.a.cell 2; simp only [List.getElem?_cons_zero,List.getElem?_cons_succ] at j6; clear hc s)
      | (go_at_call 20
         refine (l1Small_any (1+(r12:Int)) _ (by omega) (by omega)).mono ?_; rintro e t9 ⟨z2,rfl,hz,s⟩; have j0:=Hd (hz.mono' (B':=0) (n':=1000) (Nat.zero_le _) (by decide)); have e3:=Hd (i9.o.below s); have d6:=Hd (d5.o.below s); have j7:=d6.o.a.cell 2; simp only [List.getElem?_cons_zero,List.getElem?_cons_succ] at j7; clear hz s)
      | (go_at_call 19
         refine (l2Make_any 0 _ _ (r10:Int) (1+(r12:Int)) _ (Nat.zero_le _) e3.o j0.o (by omega)).mono ?_; rintro e u0 ⟨z3,px,qx,rfl,hq,b3,s⟩; have HQ:=Hd hq; have d2:=Hd (low_bd (k:=600) b3 (lb_le 1 600 (by decide) (by unfold lb; omega)) (lb_le 1 600 (by decide) (by unfold lb; omega))); have d7:=Hd (d6.o.below s); have j8:=d7.o.a.cell 2; simp only [List.getElem?_cons_zero,List.getElem?_cons_succ] at j8; clear hq b3 s)
      | (go_at_call 18
         refine (l2TextS_any 0 z3 px qx _ (Nat.zero_le _) HQ.o d2.o.1 d2.o.2).mono ?_; rintro e u1 ⟨u6,rfl,hu,s⟩; have i2:=Hd hu; have d8:=Hd (d7.o.below s); have j9:=d8.o.a.cell 2; simp only [List.getElem?_cons_zero,List.getElem?_cons_succ] at j9; clear hu s)
      | (go_at_call 17
         refine (specRatAdd_any t3 u6 _ (max_of u.o.s1 (by decide)) (max_of i2.o (by decide))).mono ?_; rintro e wm ⟨u7,rfl,hu,s⟩; have i3:=Hd (resQ_size hu); have b9:=Hd (d8.o.below s); have k0:=b9.o.a.cell 2; simp only [List.getElem?_cons_zero,List.getElem?_cons_succ] at k0; have c8:=b9.o.b; obtain ⟨y0,y1,y2⟩:=c8.k3; obtain ⟨v3,v5,v6⟩:=c8.f3; clear hu s c8))
     all_goals
      go_wp2_with fail
      go_meet
      exact ⟨_,_,_,b9.o.put6 u7 (Nat.le_trans i3.o (by decide)) c6.o⟩
    ·have z9:((r9:Int)==0)=false:=by rw [beq_eq_false_iff_ne]; omega
     clear h0
     go_wp2_with fail
     go_meet
     exact ⟨_,_,_,u.o⟩
  case rest=>
   obtain ⟨t3,t4,k4,hE⟩:=hcut; obtain ⟨wd,rfl⟩:∃ wd,wd=wc:=⟨_,rfl⟩; have m:=Hd hE; have e4:=e0.o.bar m.o.r (by have:=U.o; omega); have e6:=e1.o.bar m.o.r (by have:=U.o; omega); clear hE; have i:=(m.o).a; have j:=(m.o).b; obtain ⟨m0,m1,m2⟩:=i.k3; obtain ⟨L,M,O⟩:=j.k3; clear i j; obtain ⟨q0,q1,q2⟩:=e4.k3; obtain ⟨q6,q7,q8⟩:=e4.f3; obtain ⟨s0,s1,s2⟩:=e6.k3; obtain ⟨r4,r6,r7⟩:=e6.f3; have p5:w.heap.size+1<H.heap.size:=by have:=i0.o; omega
   go_wp2_with fail
   go_region
   all_goals
    go_wp2
    have e5:=e0.o.bar m.o.r (by have:=U.o; omega); have e7:=e1.o.bar m.o.r (by have:=U.o; omega); have j1:Up w (((((((wd.setCell ⟨w.heap.size,0,none⟩ (.bool I)).setCell ⟨w.heap.size,1,none⟩ (.bool o1)).setCell ⟨w.heap.size,2,none⟩ (.string t3)).setCell ⟨w.heap.size+1,0,none⟩ (.bool J)).setCell ⟨w.heap.size+1,1,none⟩ (.bool o2)).setCell ⟨w.heap.size+1,2,none⟩ (.string t4)).drew):=by
     refine Below.drew ?_; exact (((((((h7.o.trans (m.o.r.below (N:=w.heap.size) (by have:=U.o; omega) (by omega))).setCell (p:=⟨w.heap.size,0,none⟩) leR (.bool I)).setCell (p:=⟨w.heap.size,1,none⟩) leR (.bool o1)).setCell (p:=⟨w.heap.size,2,none⟩) leR (.string t3)).setCell (p:=⟨w.heap.size+1,0,none⟩) (Nat.le_succ _) (.bool J)).setCell (p:=⟨w.heap.size+1,1,none⟩) (Nat.le_succ _) (.bool o2)).setCell (p:=⟨w.heap.size+1,2,none⟩) (Nat.le_succ _) (.string t4))
    have k5:Bx (((((((wd.setCell ⟨w.heap.size,0,none⟩ (.bool I)).setCell ⟨w.heap.size,1,none⟩ (.bool o1)).setCell ⟨w.heap.size,2,none⟩ (.string t3)).setCell ⟨w.heap.size+1,0,none⟩ (.bool J)).setCell ⟨w.heap.size+1,1,none⟩ (.bool o2)).setCell ⟨w.heap.size+1,2,none⟩ (.string t4)).drew) w.heap.size [.bool I,.bool o1,.string t3]:=
     ((((((e5.set 0 (.bool I)).set 1 (.bool o1)).set 2 (.string t3)).other ⟨w.heap.size+1,0,none⟩ (by dsimp only; omega) (.bool J)).other ⟨w.heap.size+1,1,none⟩ (by dsimp only; omega) (.bool o2)).other ⟨w.heap.size+1,2,none⟩ (by dsimp only; omega) (.string t4)).drew
    have k7:Bx (((((((wd.setCell ⟨w.heap.size,0,none⟩ (.bool I)).setCell ⟨w.heap.size,1,none⟩ (.bool o1)).setCell ⟨w.heap.size,2,none⟩ (.string t3)).setCell ⟨w.heap.size+1,0,none⟩ (.bool J)).setCell ⟨w.heap.size+1,1,none⟩ (.bool o2)).setCell ⟨w.heap.size+1,2,none⟩ (.string t4)).drew) (w.heap.size+1) [.bool J,.bool o2,.string t4]:=
     ((((((((e7.other ⟨w.heap.size,0,none⟩ (by dsimp only; omega) (.bool I)).other ⟨w.heap.size,1,none⟩ (by dsimp only; omega) (.bool o1)).other ⟨w.heap.size,2,none⟩ (by dsimp only; omega) (.string t3)).set 0 (.bool J)).set 1 (.bool o2)).set 2 (.string t4)))).drew
    generalize ((((((wd.setCell ⟨w.heap.size,0,none⟩ (.bool I)).setCell ⟨w.heap.size,1,none⟩ (.bool o1)).setCell ⟨w.heap.size,2,none⟩ (.string t3)).setCell ⟨w.heap.size+1,0,none⟩ (.bool J)).setCell ⟨w.heap.size+1,1,none⟩ (.bool o2)).setCell ⟨w.heap.size+1,2,none⟩ (.string t4)).drew=W9 at *; obtain ⟨v0,v1,v2⟩:=k5.k3; obtain ⟨x0,x1,x2⟩:=k7.k3; refine bodyPost_ret (v:=.tuple #[.agg #[.bool I,.bool o1,.string t3],.agg #[.bool J,.bool o2,.string t4]]) ?_ rfl ⟨I,o1,t3,J,o2,t4,rfl,m.o.s1,m.o.s2,j1⟩; simp [results,Tryz.results5,go_sem,v0,v1,v2,x0,x1,x2]
theorem Tryz.info_str:(Tryz.prog.info? 9).map (fun i=>(i.zero,i.size,i.bytes))=some (some (.string ⟨#[]⟩),1,16):=by kernel_rfl
theorem cur_seed {w:World} {a:Option Addr} {n cap:Nat} (h:CodeArg w a n cap) (ty:TypeId):IsCur w.heap.size (w.heap.size+1) (w.alloc (.cells #[.slice a n cap,.int .i64 0,.int .u64 3] ty)) 0:=by
 refine ⟨Nat.lt_succ_self _,by rw [World.size_alloc]; exact leR,a,n,cap,3,bx_new w _ ty,by decide,h.1,h.2.1,fun i hi=>?_⟩; obtain ⟨b,j,v,e,m,s,h3⟩:=h.2.2 i hi; exact ⟨b,j,v,e,by omega,by omega,s,((below_alloc w _).cell (p:=⟨b,j+i,none⟩) m).trans h3⟩
theorem own_below {w w':World} {base:Nat} {e:TypeId} {v:Value} {n:Nat} {xs:List Value} (h:w.ownsRow base e 1 v n xs) (hb:Up w w'):w'.ownsRow base e 1 v n xs:=
 h.kept (row:=none) ⟨hb.os,hb.tape,hb.output,hb.size,fun k hk _=>hb.block k hk⟩ (by cases v.ownBlock<;>simp)
theorem own_bar {w w':World} {base g:Nat} {e:TypeId} {v:Value} {n:Nat} {xs:List Value} (h:w.ownsRow base e 1 v n xs) (hb:Bar g w w') (hg:g<base):w'.ownsRow base e 1 v n xs:=
 h.kept hb.grownBy (.inr (fun e=>by have:=(h.lt g e).1; omega))
def NumInv (g N:Nat) (w:World) (v i:Value) (W:World):Prop:=∃ (k kc:Nat) (us:List ByteArray),k≤12∧i=.int .i64 (k:Nat)∧us.length=k∧(∀ u∈us,u.size≤14000)∧W.ownsRow N 9 1 v k (us.map Value.string)∧kc≤20*k∧IsCur g N W kc∧Bar g w W
theorem numbersL_any (a:Option Addr) (n cap:Nat) (w:World) (h:CodeArg w a n cap) :
 Calls Tryz.prog 9 #[.slice a n cap,.int .i64 0,.int .i64 12] w fun e w'=>∃ (v:Value) (us:List ByteArray),e=.returned v∧us.length≤12∧(∀ u∈us,u.size≤14000)∧w'.ownsRow 0 9 1 v us.length (us.map Value.string)∧Up w w':=by
 obtain ⟨i0,a7,f5,f7,f9⟩:=info_parts Tryz.info_str; obtain ⟨t,I⟩:=exW (w.alloc (.cells #[.slice a n cap,.int .i64 0,.int .u64 3] 40)); have h1:=Hd I; have d8:Hid (Up w t):=by unfold Hid; rw [← I]; exact below_alloc _ _
 have g9:Hid (t.heap.size=w.heap.size+1):=by show t.heap.size=_; rw [← I]; simp
 have G:Bx t (w.heap.size) [.slice a n cap,.int .i64 0,.int .u64 3]:=by
  rw [← I]; exact bx_new w _ _
 have i5:Hid (∀ W,Up t W→Bx W (w.heap.size) [.slice a n cap,.int .i64 0,.int .u64 3]):=fun W hW=>G.below G.lt hW; have e0:Hid (IsCur w.heap.size (w.heap.size+1) t 0):=by show IsCur _ _ _ _; rw [← I]; exact cur_seed h _
 obtain ⟨g,hg⟩:=exW w.heap.size; obtain ⟨N,hN⟩:=exW (w.heap.size+1); have e5:Hid (t.heap.size=N):=g9.o.trans hN; have Y:g<N:=by omega
 have g4:Hid (IsCur g N t 0):=by unfold Hid; rw [← hg,← hN]; exact e0.o
 have e3:Hid (w.heap.size=g):=hg; clear h I hN e0 G hg
 go_enter Tryz.func9,Tryz.ntmps9
 go_upto_region 2 with fail
 rw [h1.o,e3.o]
 go_wp2_with fail
 go_loopw [8,9] (NumInv g N t) (fun _ i _=>12 - (intOf i).toNat)
 case atStart=>exact ⟨0,0,[],by decide,rfl,rfl,fun u hu=>(by cases hu),World.ownsRow_nil _ _ _ _,leR,g4.o,Bar.refl _ _⟩
 case round=>
  obtain ⟨k,kc,us,hk,rfl,a8,e9,s,i8,a6,a5⟩:=hrel; have H:=Hd a8; have c7:=Hd e9; have a3:=Hd s; have e2:=Hd a6; have Z:=Hd a5; clear a8 e9 s a6 a5
  by_cases i9:k<12
  ·have z1:decide ((k:Int)<12)=true:=decide_eq_true (by omega); have z2:decide ((k:Int)<40)=true:=decide_eq_true (by omega)
   go_wp2_with fail
   refine (pick_any g N kc 3 _ e2.o (by omega) (by decide) (by decide)).mono ?_; rintro e w3 ⟨r3,k3,rfl,j0,i6,T,m⟩; have e1:=Hd T; have d9:Hid (Bar g t w3):=Z.o.trans m; have e4:=Hd (own_bar a3.o m Y); clear T m
   by_cases h0:r3=0
   ·have z3:((r3:Int)==0)=true:=by rw [beq_iff_eq]; omega
    clear h0
    go_wp2_with fail
    refine (pick_any g N k3 5 _ e1.o (by omega) (by decide) (by decide)).mono ?_; rintro e w4 ⟨r4,k4,rfl,j1,i7,T,m⟩; have g6:=Hd T; have g3:Hid (Bar g t w4):=d9.o.trans m; have g7:=Hd (own_bar e4.o m Y); clear T m
    go_wp2_with fail
    refine (pick_any g N k4 17 _ g6.o (by omega) (by decide) (by decide)).mono ?_; rintro e d4 ⟨r10,d3,rfl,e8,e6,T,m⟩; have K:=Hd T; have a9:Hid (Bar g t d4):=g3.o.trans m; have b7:=Hd (own_bar g7.o m Y); clear T m
    go_wp2_with fail
    refine (l1Small_any ((r10:Int) - 8) _ (by omega) (by omega)).mono ?_; rintro e d5 ⟨z1,rfl,V,m⟩; have c9:=Hd (V.mono' (B':=0) (n':=1000) (Nat.zero_le _) (by decide)); have L:=Hd (K.o.below (m.mono K.o.2.1)); have b3:Hid (Bar g t d5):=a9.o.trans (Bar.of m); have b8:=Hd (own_below b7.o m); clear V m
    go_wp2_with fail
    refine (l1Small_any (1+(r4:Int)) _ (by omega) (by omega)).mono ?_; rintro e d6 ⟨z2,rfl,V,m⟩; have d0:=Hd (V.mono' (B':=0) (n':=1000) (Nat.zero_le _) (by decide)); have d1:=Hd (c9.o.below m); have M:=Hd (L.o.below (m.mono L.o.2.1)); have b4:Hid (Bar g t d6):=b3.o.trans (Bar.of m); have b9:=Hd (own_below b8.o m); clear V m
    go_wp2_with fail
    refine (l2Make_any 0 _ _ ((r10:Int) - 8) (1+(r4:Int)) _ (Nat.zero_le _) d1.o d0.o (by omega)).mono ?_; rintro e d7 ⟨z3,px,qx,rfl,hq,E,m⟩; have HQ:=Hd hq; have J:=Hd (low_bd (k:=600) E (lb_le 1 600 (by decide) (by unfold lb; omega)) (lb_le 1 600 (by decide) (by unfold lb; omega))); have O:=Hd (M.o.below (m.mono M.o.2.1)); have b5:Hid (Bar g t d7):=b4.o.trans (Bar.of m); have c6:=Hd (own_below b9.o m); clear hq E m
    go_wp2_with fail
    refine (l2TextS_any 0 z3 px qx _ (Nat.zero_le _) HQ.o J.o.1 J.o.2).mono ?_; rintro e D ⟨u6,rfl,hu,m⟩; have c8:=Hd hu; have Q:=Hd (O.o.below (m.mono O.o.2.1)); have b6:Hid (Bar g t D):=b5.o.trans (Bar.of m); have s:=own_below c6.o m; have d2:N≤D.heap.size:=Q.o.2.1; clear hu m
    go_wp2_with (at_builtin; refine wpList_append_own_at _ rfl _ _ 29 rfl N 9 i0 (.string ⟨#[]⟩) 1 16 Tryz.underlying29 a7 f5 f7 f9 rfl (by decide) u8 k _ rfl (s.alloc _) ⟨D.heap.size,0,none⟩ 1 1 [.string u6] rfl rfl ?c1 ?c2 ?c3 ?c4 ?c5 ?_)
    case c1=>
     intro j u hj
     match j,hj with
     | 0,hj=>simp at hj; subst hj; simp [Addr.add]
    case c2=>intro u hu; simp at hu; subst hu; rfl
    case c3=>unfold maxLen; omega
    case c4=>omega
    case c5=>simp; omega
    intro v' w1 A U _ _; have F:Below N D w1:=((Below.refl _ D).alloc d2 _).grown U (by simp; omega) (fun k e=>(s.lt k e).1); have S:Hid (NumInv g N t v' (.int .i64 ((k:Int)+1)) w1):=by
     refine ⟨k+1,d3,us++[u6],by omega,rfl,by rw [List.length_append,H.o]; rfl,?_,?_,by omega,Q.o.below F,b6.o.then (by rw [e5.o]; exact F)⟩
     ·intro u hu
      rcases List.mem_append.1 hu with h|h
      ·exact c7.o u h
      ·simp at h; subst h; have:=c8.o; omega
     ·simpa using A
    clear s A U F
    go_wp2
    go_roundw
    case rel=>exact S.o
    case measure=>simp [intOf]; omega
   ·have z3:((r3:Int)==0)=false:=by rw [beq_eq_false_iff_ne]; omega
    clear h0
    go_wp2_with fail
    refine (pick_any g N k3 17 _ e1.o (by omega) (by decide) (by decide)).mono ?_; rintro e d4 ⟨r10,d3,rfl,e8,e6,T,m⟩; have K:=Hd T; have a9:Hid (Bar g t d4):=d9.o.trans m; have b7:=Hd (own_bar e4.o m Y); clear T m
    go_wp2_with fail
    refine (l1Small_any ((r10:Int) - 8) _ (by omega) (by omega)).mono ?_; rintro e d5 ⟨z1,rfl,V,m⟩; have c9:=Hd (V.mono' (B':=0) (n':=1000) (Nat.zero_le _) (by decide)); have L:=Hd (K.o.below (m.mono K.o.2.1)); have b3:Hid (Bar g t d5):=a9.o.trans (Bar.of m); have b8:=Hd (own_below b7.o m); clear V m
    go_wp2_with fail
    refine (l1Small_any (1:Int) _ (by omega) (by omega)).mono ?_; rintro e d6 ⟨z2,rfl,V,m⟩; have d0:=Hd (V.mono' (B':=0) (n':=1000) (Nat.zero_le _) (by decide)); have d1:=Hd (c9.o.below m); have M:=Hd (L.o.below (m.mono L.o.2.1)); have b4:Hid (Bar g t d6):=b3.o.trans (Bar.of m); have b9:=Hd (own_below b8.o m); clear V m
    go_wp2_with fail
    refine (l2Make_any 0 _ _ ((r10:Int) - 8) (1:Int) _ (Nat.zero_le _) d1.o d0.o (by omega)).mono ?_; rintro e d7 ⟨z3,px,qx,rfl,hq,E,m⟩; have HQ:=Hd hq; have J:=Hd (low_bd (k:=600) E (lb_le 1 600 (by decide) (by unfold lb; omega)) (lb_le 1 600 (by decide) (by unfold lb; omega))); have O:=Hd (M.o.below (m.mono M.o.2.1)); have b5:Hid (Bar g t d7):=b4.o.trans (Bar.of m); have c6:=Hd (own_below b9.o m); clear hq E m
    go_wp2_with fail
    refine (l2TextS_any 0 z3 px qx _ (Nat.zero_le _) HQ.o J.o.1 J.o.2).mono ?_; rintro e D ⟨u6,rfl,hu,m⟩; have c8:=Hd hu; have Q:=Hd (O.o.below (m.mono O.o.2.1)); have b6:Hid (Bar g t D):=b5.o.trans (Bar.of m); have s:=own_below c6.o m; have d2:N≤D.heap.size:=Q.o.2.1; clear hu m
    go_wp2_with (at_builtin; refine wpList_append_own_at _ rfl _ _ 29 rfl N 9 i0 (.string ⟨#[]⟩) 1 16 Tryz.underlying29 a7 f5 f7 f9 rfl (by decide) u8 k _ rfl (s.alloc _) ⟨D.heap.size,0,none⟩ 1 1 [.string u6] rfl rfl ?c1 ?c2 ?c3 ?c4 ?c5 ?_)
    case c1=>
     intro j u hj
     match j,hj with
     | 0,hj=>simp at hj; subst hj; simp [Addr.add]
    case c2=>intro u hu; simp at hu; subst hu; rfl
    case c3=>unfold maxLen; omega
    case c4=>omega
    case c5=>simp; omega
    intro v' w1 A U _ _; have F:Below N D w1:=((Below.refl _ D).alloc d2 _).grown U (by simp; omega) (fun k e=>(s.lt k e).1); have S:Hid (NumInv g N t v' (.int .i64 ((k:Int)+1)) w1):=by
     refine ⟨k+1,d3,us++[u6],by omega,rfl,by rw [List.length_append,H.o]; rfl,?_,?_,by omega,Q.o.below F,b6.o.then (by rw [e5.o]; exact F)⟩
     ·intro u hu
      rcases List.mem_append.1 hu with h|h
      ·exact c7.o u h
      ·simp at h; subst h; have:=c8.o; omega
     ·simpa using A
    clear s A U F
    go_wp2
    go_roundw
    case rel=>exact S.o
    case measure=>simp [intOf]; omega
  ·obtain rfl:k=12:=by omega
   go_wp2
   go_ret
   refine ⟨_,us,rfl,by rw [H.o]; decide,c7.o,by rw [H.o]; exact World.ownsRow.mono a3.o (Nat.zero_le _),?_⟩; exact d8.o.trans (Z.o.below (Nat.le_of_eq e3.o) (by have:=d8.o.size; exact this))
theorem textR_size {p q:Int} {u:ByteArray} (h:TextR p q u):u.size≤6000:=by
 unfold TextR at h
 split at h
 ·have:=text_size h; omega
 obtain ⟨p,q,i,j,rfl⟩:=h; have m:=text_size i; have s:=text_size j
 split
 ·exact Nat.zero_le _
 have e:(p++⟨#[47]⟩++q).size=p.size+1+q.size:=by rw [ByteArray.size_append,ByteArray.size_append]; rfl
 omega
theorem resS_size {h1 o1:Bool} {t1:ByteArray} {h2 o2:Bool} {t2 u:ByteArray} (h:ResS h1 o1 t1 h2 o2 t2 u):u.size≤6000:=by
 obtain ⟨i,k2,_,_,h⟩:=h
 rcases h with ⟨j,s,m,t,_,_,⟨_,p,q,_,h⟩|⟨_,rfl⟩⟩|⟨_,rfl⟩
 ·exact textR_size h
 ·exact Nat.zero_le _
 exact Nat.zero_le _
theorem row_view {W:World} {e:TypeId} {v:Value} {us:List ByteArray} (h:W.ownsRow 0 e 1 v us.length (us.map Value.string)) (hs:∀ u∈us,u.size≤14000) (hm:us.length≤12) :
 ∃ (ra:Option Addr) (m rc:Nat),v=.slice ra m rc∧m≤12∧m≤rc∧rc≤maxLen∧∀ k,k<m→∃ (g:Nat) (x:ByteArray),ra=some ⟨g,0,none⟩∧g<W.heap.size∧x.size≤14000∧W.cell? ⟨g,k,none⟩=some (.string x):=by
 have t:=h
 rcases h.2 with ⟨rfl,D⟩|⟨g,cap,s,rfl,_,E,A,i,_,_⟩
 ·exact ⟨none,0,0,rfl,Nat.zero_le _,leR,Nat.zero_le _,fun k hk=>absurd hk (Nat.not_lt_zero _)⟩
 refine ⟨some ⟨g,0,none⟩,us.length,cap,rfl,hm,A,i,fun k hk=>?_⟩; have j:W.cell? ⟨g,k,none⟩=some (.string us[k]):=by
  rw [World.ownsRow.cellAt t k (by omega)]; simp [hk]
 exact ⟨g,us[k],rfl,World.block_lt_of_cell? W ⟨g,k,none⟩ j,hs _ (List.getElem_mem _),j⟩
theorem fnSimplest_any (a:Option Addr) (n cap:Nat) (a2:Option Addr) (n2 cap2:Nat) (w:World) (hA:CodeArg w a n cap) (hB:CodeArg w a2 n2 cap2) (h:LT w∧SP w∧NS w) :
 Calls Tryz.prog 3 #[.slice a n cap,.slice a2 n2 cap2] w fun e w'=>e=.returned (.bool true)∧Up w w':=by
 have f9:=hA.2.1; have hn:=hA.1; have d6:=hB.2.1; have l0:=hB.1; unfold maxLen at f9 d6; have HA:=Hd hA; have HB:=Hd hB; have HS:=Hd h; clear hA hB h
 by_cases c:1048576<n
 ·have z:decide (1048576<(n:Int))=true:=by rw [decide_eq_true_iff]; omega
  go_enter Tryz.func3,Tryz.ntmps3
  go_wp2
  go_ret
  exact ⟨rfl,Below.refl _ _⟩
 have z:decide (1048576<(n:Int))=false:=by rw [decide_eq_false_iff_not]; omega
 clear c
 by_cases c:1048576<n2
 ·have z2:decide (1048576<(n2:Int))=true:=by rw [decide_eq_true_iff]; omega
  go_enter Tryz.func3,Tryz.ntmps3
  go_wp2
  go_ret
  exact ⟨rfl,Below.refl _ _⟩
 have z2:decide (1048576<(n2:Int))=false:=by rw [decide_eq_false_iff_not]; omega
 clear c
 go_enter Tryz.func3,Tryz.ntmps3
 go_wp2_with fail
 refine (drawSimplest_any a n cap _ HA.o).mono ?_; rintro e w1 ⟨h1,o1,t1,h2,o2,t2,rfl,g9,h6,e7⟩; have h9:=Hd e7; have Z:t1.size≤maxLen:=max_of g9 (by decide); have a3:t2.size≤maxLen:=max_of h6 (by decide); obtain ⟨e2,g1⟩:=isCut_ex t1; obtain ⟨e3,g2⟩:=isCut_ex t2; have a7:=Hd g1; have a8:=Hd g2; clear e7 g9 h6 g1 g2
 go_upto_region 4 with fail
 obtain ⟨Q,S⟩:=exW ((w1.alloc (.cells #[.bool h1,.bool o1,.string t1] 24)).alloc (.cells #[.bool h2,.bool o2,.string t2] 24)); rw [S]; have t:Hid (Up w Q):=by unfold Hid; rw [← S]; exact below_al (below_al h9.o _) _
 have F:Bx Q (w1.heap.size) [.bool h1,.bool o1,.string t1]:=by
  rw [← S]; exact (bx_new w1 _ _).alloc _
 have G:Bx Q (w1.heap.size+1) [.bool h2,.bool o2,.string t2]:=by
  rw [← S]; have h:=bx_new (w1.alloc (.cells #[.bool h1,.bool o1,.string t1] 24)) [.bool h2,.bool o2,.string t2] 24; rw [World.size_alloc] at h; exact h
 have O:Hid (∀ W,Up Q W→Bx W (w1.heap.size) [.bool h1,.bool o1,.string t1]∧Bx W (w1.heap.size+1) [.bool h2,.bool o2,.string t2]):=fun W hW=>⟨F.below F.lt hW,G.below G.lt hW⟩; clear S F G; have i:=O.o Q (Below.refl _ _); obtain ⟨k0,k1,k2⟩:=i.1.k3; obtain ⟨j0,j1,j2⟩:=i.2.k3; clear i
 go_wp2_with fail
 refine (implSimplest_any h1 o1 t1 h2 o2 t2 _ Z a3 (HS.o.2.1.below t.o) (HS.o.2.2.below t.o) (HS.o.1.below t.o)).mono ?_; rintro e w2 ⟨s,rfl,hs,e8⟩; have i5:=Hd hs; have g8:s.size≤maxLen:=max_of (resS_size hs) (by decide); have L:=Hd (simplest_law hs a7.o a8.o); have d3:=Hd e8; clear hs e8 k0 k1 k2 j0 j1 j2; have i:=O.o w2 d3.o; obtain ⟨k0,k1,k2⟩:=i.1.k3; obtain ⟨j0,j1,j2⟩:=i.2.k3; clear i
 go_wp2_with fail
 refine (specSimplest_any h1 o1 t1 h2 o2 t2 _ Z a3).mono ?_; rintro e w3 ⟨s',rfl,g7,e9⟩; obtain rfl:s=s':=i5.o.eq g7; have H:Hid (Up Q w3):=d3.o.trans (e9.mono d3.o.size); have i2:Hid (Up w w3):=t.o.trans (H.o.mono t.o.size); clear g7 e9 k0 k1 k2 j0 j1 j2
 by_cases h0:s.size=0
 ·have hz:s.toList.isEmpty=true:=by rw [empty_iff,decide_eq_true h0]
  have i1:Hid (s=strB []):=Classical.byContradiction fun hn=>size_ne.1 hn h0; clear h0
  go_wp2_with fail
  refine (numbersL_any a2 n2 cap2 _ (HB.o.below i2.o)).mono ?_; rintro e w5 ⟨v,us,rfl,hm,a5,u,T⟩; have I:Hid (Up Q w5):=H.o.trans (T.mono H.o.size); obtain ⟨ra,m,rc,rfl,g6,i8,d7,A⟩:=row_view u a5 hm; have M:=Hd A; clear T hm a5 u A; unfold maxLen at d7
  go_wp2_with fail
  go_loopw [47] (fun iv W=>∃ k:Nat,k≤m∧iv=.int .i64 (k:Nat)∧Up w5 W) (fun iv _=>m - (intOf iv).toNat)
  case atStart=>exact ⟨0,Nat.zero_le _,rfl,Below.refl _ _⟩
  case round=>
   obtain ⟨k,hk,rfl,E⟩:=hrel; have D:=Hd E; have J:Hid (Up Q wr):=I.o.trans (E.mono I.o.size); clear E
   by_cases e0:k<m
   ·have zk:decide ((k:Int)<(m:Int))=true:=decide_eq_true (by omega); obtain ⟨g,x,e1,hg,a6,V⟩:=M.o k e0; subst e1; have d8:=(D.o.cell (p:=⟨g,k,none⟩) hg).trans V; have b9:x.size≤maxLen:=max_of a6 (by decide); obtain ⟨kx,Y⟩:=isCut_ex x; have b3:=Hd Y; clear V a6 Y hg; have i:=O.o wr J.o; obtain ⟨k0,k1,k2⟩:=i.1.k3; obtain ⟨j0,j1,j2⟩:=i.2.k3; clear i
    go_wp2_with fail
    refine (between_any h1 o1 t1 h2 o2 t2 x e2 e3 kx _ Z a3 b9 a7.o a8.o b3.o).mono ?_; rintro e w6 ⟨b6,rfl,j,U⟩; have K:Hid (Up w5 w6):=D.o.trans (U.mono D.o.size); clear U d8; clear k0 k1 k2 j0 j1 j2
    cases b6 with
    | false=>
      clear j
      go_wp2
      go_roundw
      case rel=>exact ⟨k+1,by omega,rfl,K.o⟩
      case measure=>simp [intOf]; omega
    | true=>
      have d5:=Hd (j.1 rfl); clear j; exact absurd i1.o (L.o.2 x kx d5.o).1
   ·have zk:decide ((k:Int)<(m:Int))=false:=decide_eq_false (by omega)
    go_wp2
    go_ret
    exact ⟨rfl,t.o.trans (J.o.mono t.o.size)⟩
 have hz:s.toList.isEmpty=false:=by rw [empty_iff,decide_eq_false h0]
 have i4:=Hd (size_ne.2 h0); obtain ⟨ks,g3⟩:=isCut_ex s; have a9:=Hd g3; clear h0 g3; have i:=O.o w3 H.o; obtain ⟨k0,k1,k2⟩:=i.1.k3; obtain ⟨j0,j1,j2⟩:=i.2.k3; clear i
 go_wp2_with fail
 refine (between_any h1 o1 t1 h2 o2 t2 s e2 e3 ks _ Z a3 g8 a7.o a8.o a9.o).mono ?_; rintro e w4 ⟨b4,rfl,j,f5⟩; obtain rfl:b4=true:=j.2 (L.o.1 ks a9.o i4.o); have d4:Hid (Up Q w4):=H.o.trans (f5.mono H.o.size); have i3:Hid (Up w w4):=t.o.trans (d4.o.mono t.o.size); clear j f5 k0 k1 k2 j0 j1 j2
 go_wp2_with fail
 refine (numbersL_any a2 n2 cap2 _ (HB.o.below i3.o)).mono ?_; rintro e w5 ⟨v,us,rfl,hm,a5,u,T⟩; have I:Hid (Up Q w5):=d4.o.trans (T.mono d4.o.size); obtain ⟨ra,m,rc,rfl,g6,i8,d7,A⟩:=row_view u a5 hm; have M:=Hd A; clear T hm a5 u A; unfold maxLen at d7
 go_wp2_with fail
 go_loopw [47] (fun iv W=>∃ k:Nat,k≤m∧iv=.int .i64 (k:Nat)∧Up w5 W) (fun iv _=>m - (intOf iv).toNat)
 case atStart=>exact ⟨0,Nat.zero_le _,rfl,Below.refl _ _⟩
 case round=>
  obtain ⟨k,hk,rfl,E⟩:=hrel; have D:=Hd E; have J:Hid (Up Q wr):=I.o.trans (E.mono I.o.size); clear E
  by_cases e0:k<m
  ·have zk:decide ((k:Int)<(m:Int))=true:=decide_eq_true (by omega); obtain ⟨g,x,e1,hg,a6,V⟩:=M.o k e0; subst e1; have d8:=(D.o.cell (p:=⟨g,k,none⟩) hg).trans V; have b9:x.size≤maxLen:=max_of a6 (by decide); obtain ⟨kx,Y⟩:=isCut_ex x; have b3:=Hd Y; clear V a6 Y hg; have i:=O.o wr J.o; obtain ⟨k0,k1,k2⟩:=i.1.k3; obtain ⟨j0,j1,j2⟩:=i.2.k3; clear i
   go_wp2_with fail
   refine (between_any h1 o1 t1 h2 o2 t2 x e2 e3 kx _ Z a3 b9 a7.o a8.o b3.o).mono ?_; rintro e w6 ⟨b6,rfl,j,U⟩; have K:Hid (Up w5 w6):=D.o.trans (U.mono D.o.size); clear U d8; clear k0 k1 k2 j0 j1 j2
   cases b6 with
   | false=>
     clear j
     go_wp2
     go_roundw
     case rel=>exact ⟨k+1,by omega,rfl,K.o⟩
     case measure=>simp [intOf]; omega
   | true=>
     have d5:=Hd (j.1 rfl); clear j
     go_wp2_with fail
     refine (simpler_any x s kx ks _ b9 g8 b3.o a9.o).mono ?_; rintro e w7 ⟨b7,rfl,d1,f7⟩; have i0:Hid (Up w5 w7):=K.o.trans (f7.mono K.o.size); clear f7; obtain rfl:b7=false:=by
      cases b7 with
      | false=>rfl
      | true=>
        obtain ⟨x1,y1,p1,q1,i9,j3,d9⟩:=d1 rfl; exact absurd d9 ((L.o.2 x kx d5.o).2 ks x1 y1 p1 q1 a9.o i9 j3)
     clear d1
     go_wp2
     go_roundw
     case rel=>exact ⟨k+1,by omega,rfl,i0.o⟩
     case measure=>simp [intOf]; omega
  ·have zk:decide ((k:Int)<(m:Int))=false:=decide_eq_false (by omega)
   go_wp2
   go_ret
   exact ⟨rfl,t.o.trans (J.o.mono t.o.size)⟩
end Go.Proofs.YtnhbmpnhijgpmaaGreatDoor
