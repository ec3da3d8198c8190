import Derived.Test.YtnhbmpnhijgpmaaGreatDoorU1p
import Derived.Test.YtnhbmpnhijgpmaaGreatDoorTimesp
import Derived.Deep.RegionHeld3
import Derived.Test.YtnhbmpnhijgpmaaGreatDoorQQp
import Derived.Test.YtnhbmpnhijgpmaaGreatDoorU5p
set_option maxRecDepth 100000
set_option maxHeartbeats 4000000
namespace Go.Proofs.YtnhbmpnhijgpmaaGreatDoor
open Go.ChangeShapes Go.WideShapes Go.ChangeAt Go.RowKit
theorem compareI_any (B:Nat) (za zb:Value) (x y:Int) (n m:Nat) (w:World) (ha:IsI B w za x n) (hb:IsI B w zb y m) (h:SP w) :
 Calls Tryz.prog 77 #[za,zb] w fun e w'=>e=.returned (.int .i64 (ordI x y))∧Up w w':=by
 obtain ⟨s,F,a,rfl,i,D,rfl,_⟩:=ha; obtain ⟨t,G,b,rfl,j,E,rfl,_⟩:=hb; have u:okL a:=by obtain ⟨_,_,_,_,_,o,_⟩:=i; exact o
 have A:okL b:=by obtain ⟨_,_,_,_,_,o,_⟩:=j; exact o
 refine (compare_any B _ _ F G a b w i j h).mono ?_; rintro e w' ⟨rfl,hb⟩; exact ⟨by rw [cmpI_ord s t a b u A D E],hb⟩
structure BxQ (h:Nat) (W:World) (s1:Bool) (p1:Option Addr) (l1 c1:Nat) (s2:Bool) (p2:Option Addr) (l2 c2:Nat) (s3:Bool) (p3:Option Addr) (l3 c3:Nat) (s4:Bool) (p4:Option Addr) (l4 c4:Nat):Prop where
 a:Bx W h [.bool s1,.slice p1 l1 c1,.bool s2,.slice p2 l2 c2]
 b:Bx W (h+1) [.bool s3,.slice p3 l3 c3,.bool s4,.slice p4 l4 c4]
theorem BxQ.below {h N:Nat} {W W':World} {s1:Bool} {p1:Option Addr} {l1 c1:Nat} {s2:Bool} {p2:Option Addr} {l2 c2:Nat} {s3:Bool} {p3:Option Addr} {l3 c3:Nat} {s4:Bool} {p4:Option Addr} {l4 c4:Nat} (m:BxQ h W s1 p1 l1 c1 s2 p2 l2 c2 s3 p3 l3 c3 s4 p4 l4 c4) (hN:h+2≤N) (hb:Below N W W'):BxQ h W' s1 p1 l1 c1 s2 p2 l2 c2 s3 p3 l3 c3 s4 p4 l4 c4:=
 ⟨m.a.below (by omega) hb,m.b.below (by omega) hb⟩
theorem BxQ.held {h:Nat} {W:World} {s1:Bool} {p1:Option Addr} {l1 c1:Nat} {s2:Bool} {p2:Option Addr} {l2 c2:Nat} {s3:Bool} {p3:Option Addr} {l3 c3:Nat} {s4:Bool} {p4:Option Addr} {l4 c4:Nat} (m:BxQ h W s1 p1 l1 c1 s2 p2 l2 c2 s3 p3 l3 c3 s4 p4 l4 c4):W.cell? ⟨h,0,none⟩=some (.bool s1)∧W.cell? ⟨h,1,none⟩=some (.slice p1 l1 c1)∧W.cell? ⟨h,2,none⟩=some (.bool s2)∧W.cell? ⟨h,3,none⟩=some (.slice p2 l2 c2)∧W.cell? ⟨h+1,0,none⟩=some (.bool s3)∧W.cell? ⟨h+1,1,none⟩=some (.slice p3 l3 c3)∧W.cell? ⟨h+1,2,none⟩=some (.bool s4)∧W.cell? ⟨h+1,3,none⟩=some (.slice p4 l4 c4):=
 ⟨m.a.cell 0,m.a.cell 1,m.a.cell 2,m.a.cell 3,m.b.cell 0,m.b.cell 1,m.b.cell 2,m.b.cell 3⟩
theorem compareQ_any (B:Nat) (za zb:Value) (x1 y1 x2 y2:Int) (n:Nat) (w:World) (_hBw:B≤w.heap.size) (ha:IsQR B w za x1 y1 n) (hb:IsQR B w zb x2 y2 n) (hn:n≤10000) (hSP:SP w) :
 Calls Tryz.prog 46 #[za,zb] w fun e w'=>e=.returned (.int .i64 (ordI (x1*y2) (x2*y1)))∧Up w w':=by
 obtain ⟨s1,I,G,c1,s2,M,K,c2,rfl,Z,h2⟩:=ha.shape; obtain ⟨s3,J,H,c3,s4,O,L,c4,rfl,h3,h4⟩:=hb.shape; have H1:=Hd Z; have H2:=Hd h2; have H3:=Hd h3; have H4:=Hd h4; have D:=Hd hSP; clear ha hb Z h2 h3 h4 hSP; obtain ⟨A,m⟩:=exW ((w.alloc (.cells #[.bool s1,.slice I G c1,.bool s2,.slice M K c2] 57)).alloc (.cells #[.bool s3,.slice J H c3,.bool s4,.slice O L c4] 57)); have U:=Hd m; have i:Hid (Up w A):=by unfold Hid; rw [← m]; exact below_al (below_alloc _ _) _
 have s:BxQ w.heap.size A s1 I G c1 s2 M K c2 s3 J H c3 s4 O L c4:=by
  refine ⟨?_,?_⟩
  ·rw [← m]; exact (bx_new w _ _).alloc _
  rw [← m]; have h:=bx_new (w.alloc (.cells #[.bool s1,.slice I G c1,.bool s2,.slice M K c2] 57)) [.bool s3,.slice J H c3,.bool s4,.slice O L c4] 57; rw [World.size_alloc] at h; exact h
 have V:Hid (∀ W,Up A W→BxQ w.heap.size W s1 I G c1 s2 M K c2 s3 J H c3 s4 O L c4):=fun W hW=>s.below s.b.lt hW; have T1:Hid (∀ W,Up A W→Calls Tryz.prog 76 #[.agg #[.bool s1,.slice I G c1],.agg #[.bool s4,.slice O L c4]] W (fun e w'=>∃ z,e=.returned z∧IsI 0 w' z (x1*y2) (n+n)∧Up W w')):=fun W hW=>by
  refine (times_any B _ _ _ _ n n W ((H1.o.below i.o).below hW) ((H4.o.below i.o).below hW) (by omega) (by omega) ((D.o.below i.o).below hW)).mono ?_; rintro e w' ⟨z,rfl,Y,hb⟩; exact ⟨z,rfl,Y.mono (Nat.zero_le _) leR,hb⟩
 have T2:Hid (∀ W,Up A W→Calls Tryz.prog 76 #[.agg #[.bool s3,.slice J H c3],.agg #[.bool s2,.slice M K c2]] W (fun e w'=>∃ z,e=.returned z∧IsI 0 w' z (x2*y1) (n+n)∧Up W w')):=fun W hW=>by
  refine (times_any B _ _ _ _ n n W ((H3.o.below i.o).below hW) ((H2.o.below i.o).below hW) (by omega) (by omega) ((D.o.below i.o).below hW)).mono ?_; rintro e w' ⟨z,rfl,Y,hb⟩; exact ⟨z,rfl,Y.mono (Nat.zero_le _) leR,hb⟩
 obtain ⟨k0,k1,k2,k3⟩:=s.a.k4; obtain ⟨j0,j1,j2,j3⟩:=s.b.k4; clear m s
 go_enter Tryz.func46,Tryz.ntmps46
 go_upto_region 1 with fail
 rw [U.o]
 go_wp2_with fail
 go_region_held3 (fun W=>W.cell? ⟨w.heap.size,0,none⟩=some (.bool s1)∧W.cell? ⟨w.heap.size,1,none⟩=some (.slice I G c1)∧W.cell? ⟨w.heap.size,2,none⟩=some (.bool s2)∧W.cell? ⟨w.heap.size,3,none⟩=some (.slice M K c2)∧W.cell? ⟨w.heap.size+1,0,none⟩=some (.bool s3)∧W.cell? ⟨w.heap.size+1,1,none⟩=some (.slice J H c3)∧W.cell? ⟨w.heap.size+1,2,none⟩=some (.bool s4)∧W.cell? ⟨w.heap.size+1,3,none⟩=some (.slice O L c4)) (first
  | assumption|go_keep) (first
  | (go_at_call_of 76 (Value.slice I G c1)
     refine (T1.o _ ?_).mono ?_
     ·exact (Below.refl _ A).drew
     rintro e wa ⟨u,rfl,hu,Q⟩; have HU:=Hd hu; have t:Hid (Up A wa):=(Below.refl _ A).drew.trans Q; have b9:=(V.o wa t.o).held; clear hu Q)
  | (go_at_call_of 76 (Value.slice J H c3)
     refine (T2.o _ ?_).mono ?_
     ·exact t.o
     rintro e wb ⟨v,rfl,hv,E⟩; have HV:=Hd hv; have j:=Hd (t.o.trans (E.mono t.o.size)); have T:=Hd (HU.o.below E); have c6:=(V.o wb j.o).held; clear hv E)
  | (go_at_call 77
     refine (compareI_any 0 _ _ _ _ _ _ _ T.o HV.o ((D.o.below i.o).below j.o)).mono ?_; rintro e wc ⟨rfl,F⟩; have c7:=(V.o wc (j.o.trans (F.mono j.o.size))).held; have S:=Hd (i.o.trans ((j.o.trans (F.mono j.o.size)).mono i.o.size)); clear F))
 all_goals
  go_wp2
  go_ret
  exact ⟨rfl,S.o⟩
def IsResC (s t:ByteArray) (r:Int):Prop:=∃ k m,IsCut s k∧IsCut t m∧((∃ x1 y1 x2 y2,RatV s k x1 y1∧RatV t m x2 y2∧r=ordI (x1*y2) (x2*y1))∨(¬ ((∃ x y,RatV s k x y)∧∃ x y,RatV t m x y)∧r = -2))
theorem ratV_one {s:ByteArray} {k:Option Nat} {x y x' y':Int} (h:RatV s k x y) (h':RatV s k x' y'):x=x'∧y=y':=by
 cases k with
 | none=>exact ⟨h.2.1.trans h'.2.1.symm,h.2.2.trans h'.2.2.symm⟩
 | some i=>exact ⟨h.2.2.1.trans h'.2.2.1.symm,h.2.2.2.trans h'.2.2.2.symm⟩
theorem IsResC.eq {s t:ByteArray} {u v:Int} (h:IsResC s t u) (h':IsResC s t v):u=v:=by
 obtain ⟨k,m,H,I,h⟩:=h; obtain ⟨O,Q,F,G,h'⟩:=h'; obtain rfl:=isCut_unique H F; obtain rfl:=isCut_unique I G
 rcases h with ⟨S,U,T,V,A,D,h3⟩|⟨A,D⟩<;>rcases h' with ⟨J,L,K,M,i,j,E⟩|⟨i,j⟩
 ·obtain ⟨rfl,rfl⟩:=ratV_one A i; obtain ⟨rfl,rfl⟩:=ratV_one D j; rw [h3,E]
 ·exact absurd ⟨⟨_,_,A⟩,_,_,D⟩ i
 ·exact absurd ⟨⟨_,_,i⟩,_,_,j⟩ A
 rw [D,j]
theorem qn_zero {B:Nat} {w:World} {z:Value} {x y:Int} (h:IsQN B w z x y):IsQN 0 w z x y:=by
 obtain ⟨m,A,s,u,t,D,H,E,G,F,e,i,j⟩:=h; exact ⟨m,A,s,u,t,D,H,E,G,F,e,i.mono (Nat.zero_le _),j.mono (Nat.zero_le _)⟩
theorem specRatCmp_any (s t:ByteArray) (w:World) (hs:s.size≤maxLen) (ht:t.size≤maxLen) :
 Calls Tryz.prog 16 #[.string s,.string t] w fun e w'=>∃ r,e=.returned (.int .i64 r)∧IsResC s t r∧Up w w':=by
 go_enter Tryz.func16,Tryz.ntmps16
 go_wp2_with fail
 refine (specIsRat_any s _ hs).mono ?_; rintro e w1 ⟨b,rfl,b5,M⟩; obtain ⟨k,hk,S⟩:=b5; obtain ⟨m,hm⟩:=isCut_ex t; have HK:=Hd hk; have K:=Hd hm; have I:=Hd S; have i:=Hd M; clear hk hm S M
 cases b
 ·have H:Hid (IsResC s t (-2)):=⟨k,m,HK.o,K.o,.inr ⟨fun h=>Bool.noConfusion (I.o.2 h.1),rfl⟩⟩
  go_wp2
  go_ret
  exact ⟨_,rfl,H.o,i.o⟩
 go_wp2_with fail
 refine (specIsRat_any t _ ht).mono ?_; rintro e w2 ⟨b,rfl,b6,O⟩; obtain ⟨m',U,T⟩:=b6; obtain rfl:=isCut_unique U K.o; have J:=Hd T; have j:=Hd (i.o.trans (O.mono i.o.size)); clear U T O
 cases b
 ·have H:Hid (IsResC s t (-2)):=⟨k,_,HK.o,K.o,.inr ⟨fun h=>Bool.noConfusion (J.o.2 h.2),rfl⟩⟩
  go_wp2
  go_ret
  exact ⟨_,rfl,H.o,j.o⟩
 obtain ⟨Y,y1,u⟩:=I.o.1 (by first|exact rfl|trivial); obtain ⟨Z,y2,A⟩:=J.o.1 (by first|exact rfl|trivial); have a8:=Hd u; have a9:=Hd A; have H:Hid (IsResC s t (ordI (Y*y2) (Z*y1))):=⟨k,_,HK.o,K.o,.inl ⟨Y,y1,Z,y2,u,A,rfl⟩⟩; clear u A
 go_wp2_with fail
 refine (l2Read_any s k Y y1 _ hs HK.o a8.o).mono ?_; rintro e w3 ⟨z1,rfl,V,D⟩; have b3:=Hd V; have F:=Hd (j.o.trans (D.mono j.o.size)); have c8:Hid (w2.heap.size≤w3.heap.size):=D.size; clear V D
 go_wp2_with fail
 refine (l2Read_any t _ Z y2 _ ht K.o a9.o).mono ?_; rintro e w4 ⟨z2,rfl,W,E⟩; have L:Hid (IsQN 0 w4 z1 Y y1):=qn_zero (b3.o.below E); have b4:Hid (IsQN 0 w4 z2 Z y2):=qn_zero W; have G:=Hd (F.o.trans (E.mono F.o.size)); clear W E
 go_wp2_with fail
 refine (l2Cmp_any 0 z1 z2 Y y1 Z y2 _ (Nat.zero_le _) L.o b4.o).mono ?_; rintro e w5 ⟨rfl,Q⟩; have a7:=Hd (G.o.trans (Q.mono G.o.size)); clear Q
 go_wp2
 go_ret
 exact ⟨_,rfl,H.o,a7.o⟩
end Go.Proofs.YtnhbmpnhijgpmaaGreatDoor
