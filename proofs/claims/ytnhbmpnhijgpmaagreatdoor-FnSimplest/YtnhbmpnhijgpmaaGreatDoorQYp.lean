import Derived.Test.YtnhbmpnhijgpmaaGreatDoorQXp
import Derived.Test.YtnhbmpnhijgpmaaGreatDoorQQp
import Derived.Test.YtnhbmpnhijgpmaaGreatDoorU5p
set_option maxRecDepth 100000
set_option maxHeartbeats 2000000
namespace Go.Proofs.YtnhbmpnhijgpmaaGreatDoor
open Go.ChangeShapes Go.WideShapes Go.ChangeAt Go.RowKit
def IsResQ (N D:Int→Int→Int→Int→Int) (ok:Int→Prop) (s t u:ByteArray):Prop:=∃ k m,IsCut s k∧IsCut t m∧((∃ x1 y1 x2 y2 p q,RatV s k x1 y1∧RatV t m x2 y2∧ok x2∧IsLow (N x1 y1 x2 y2) (D x1 y1 x2 y2) p q∧TextR p q u)∨(¬ (∃ x1 y1 x2 y2,RatV s k x1 y1∧RatV t m x2 y2∧ok x2)∧u=⟨#[]⟩))
theorem IsResQ.eq {N D:Int→Int→Int→Int→Int} {ok:Int→Prop} {s t u v:ByteArray} (h:IsResQ N D ok s t u) (h':IsResQ N D ok s t v):u=v:=by
 obtain ⟨k,m,K,L,h⟩:=h; obtain ⟨T,U,I,J,h'⟩:=h'; obtain rfl:=isCut_unique K I; obtain rfl:=isCut_unique L J
 rcases h with ⟨Y,y1,Z,y2,p,q,A,E,h3,h4,h5⟩|⟨A,E⟩<;>rcases h' with ⟨M,Q,O,S,V,W,i,j,F,G,H⟩|⟨i,j⟩
 ·obtain ⟨rfl,rfl⟩:=ratV_one A i; obtain ⟨rfl,rfl⟩:=ratV_one E j; obtain ⟨rfl,rfl⟩:=isLow_unique h4 G; exact h5.eq H
 ·exact absurd ⟨_,_,_,_,A,E,h3⟩ i
 ·exact absurd ⟨_,_,_,_,i,j,F⟩ A
 rw [E,j]
abbrev RatAddRes:ByteArray→ByteArray→ByteArray→Prop:=IsResQ (fun x1 y1 x2 y2=>x1*y2+x2*y1) (fun _ y1 _ y2=>y1*y2) (fun _=>True)
theorem specRatAdd_any (s t:ByteArray) (w:World) (hs:s.size≤maxLen) (ht:t.size≤maxLen) :
 Calls Tryz.prog 17 #[.string s,.string t] w fun e w'=>∃ u,e=.returned (.string u)∧RatAddRes s t u∧Up w w':=by
 go_enter Tryz.func17,Tryz.ntmps17
 go_wp2_with fail
 refine (specIsRat_any s _ hs).mono ?_; rintro e w1 ⟨b,rfl,d0,a3⟩; obtain ⟨k,hk,a9⟩:=d0; obtain ⟨m,hm⟩:=isCut_ex t; have HK:=Hd hk; have Y:=Hd hm; have U:=Hd a9; have H:=Hd a3; clear hk hm a9 a3
 cases b
 ·have T:Hid (RatAddRes s t ⟨#[]⟩):=⟨k,m,HK.o,Y.o,.inr ⟨fun h=>by obtain ⟨_,_,_,_,g,_⟩:=h; exact Bool.noConfusion (U.o.2 ⟨_,_,g⟩),rfl⟩⟩
  go_wp2
  go_ret
  exact ⟨_,rfl,T.o,H.o⟩
 go_wp2_with fail
 refine (specIsRat_any t _ ht).mono ?_; rintro e w2 ⟨b,rfl,d1,a5⟩; obtain ⟨m',b4,b3⟩:=d1; obtain rfl:=isCut_unique b4 Y.o; have V:=Hd b3; have I:=Hd (H.o.trans (a5.mono H.o.size)); clear b4 b3 a5
 cases b
 ·have T:Hid (RatAddRes s t ⟨#[]⟩):=⟨k,_,HK.o,Y.o,.inr ⟨fun h=>by obtain ⟨_,_,_,_,_,g,_⟩:=h; exact Bool.noConfusion (V.o.2 ⟨_,_,g⟩),rfl⟩⟩
  go_wp2
  go_ret
  exact ⟨_,rfl,T.o,I.o⟩
 obtain ⟨K,F,i⟩:=U.o.1 (by first|exact rfl|trivial); obtain ⟨L,G,j⟩:=V.o.1 (by first|exact rfl|trivial); have c6:=Hd i; have c7:=Hd j; have A:=ratV_lt i; have D:=ratV_lt j; have b9:Hid (K.natAbs<lb 280∧F.natAbs<lb 280∧L.natAbs<lb 280∧G.natAbs<lb 280):=⟨A.1,A.2.1,D.1,D.2.1⟩; have S:Hid (F*G≠0):=by
  unfold Hid
  have h:=Int.mul_pos A.2.2 D.2.2; omega
 have T:Hid (∀ p q u,IsLow (K*G+L*F) (F*G) p q→TextR p q u→RatAddRes s t u):=fun p q u h1 h2=>⟨k,_,HK.o,Y.o,.inl ⟨K,F,L,G,p,q,i,j,trivial,h1,h2⟩⟩; clear i j A D
 go_wp2_with fail
 refine (l2Read_any s k K F _ hs HK.o c6.o).mono ?_; rintro e w3 ⟨z1,rfl,b5,a6⟩; have c8:=Hd b5; have M:=Hd (I.o.trans (a6.mono I.o.size)); clear b5 a6
 go_wp2_with fail
 refine (l2Read_any t _ L G _ ht Y.o c7.o).mono ?_; rintro e w4 ⟨z2,rfl,b6,J⟩; have Z:Hid (IsQN 0 w4 z1 K F):=qn_zero (c8.o.below J); have c9:Hid (IsQN 0 w4 z2 L G):=qn_zero b6; have O:=Hd (M.o.trans (J.mono M.o.size)); clear b6 J
 go_wp2_with fail
 refine (l2Add_any 0 z1 z2 K F L G _ (Nat.zero_le _) Z.o c9.o b9.o S.o).mono ?_; rintro e w5 ⟨z5,p,q,rfl,hq,E,a7⟩; have HQ:=Hd hq; have W:=Hd E; have Q:=Hd (O.o.trans (a7.mono O.o.size)); clear hq E a7
 go_wp2_with fail
 refine (l2Told_any 0 z5 p q _ (Nat.zero_le _) HQ.o).mono ?_; rintro e w6 ⟨u,rfl,hu,a8⟩; have HE:=Hd (T.o _ _ _ W.o hu); have b8:=Hd (Q.o.trans (a8.mono Q.o.size)); clear hu a8
 go_wp2
 go_ret
 exact ⟨_,rfl,HE.o,b8.o⟩
end Go.Proofs.YtnhbmpnhijgpmaaGreatDoor
