import Derived.Test.YtfclfbpjjlinhaaGreatDoorTcU2p
import Derived.Test.YtfclfbpjjlinhaaGreatDoorRows
import Derived.Test.YtfclfbpjjlinhaaGreatDoorCards
import Derived.Test.YtfclfbpjjlinhaaGreatDoorTie
import Derived.Test.YtfclfbpjjlinhaaGreatDoorU7p
import Derived.Test.YtfclfbpjjlinhaaGreatDoorLrABp
import Derived.WalkKit
import Derived.ProofKit
import Derived.OpenShut
import Derived.ShutString
import Derived.ChangeOld
import Derived.ChangeVars
import Derived.Below
import Derived.WalkSmall
import Derived.LaidMore
import Derived.Lay
import Derived.Stop.Joined
import Derived.SevenTiedAt
set_option maxRecDepth 100000
set_option maxHeartbeats 8000000
namespace Go.Proofs.YtfclfbpjjlinhaaGreatDoor.L
open Go.ChangeShapes Go.WideShapes Go.ChangeAt Go.RowKit
theorem l13Bad_any (cols:Int) (wv v:Value) (Wh:List Bool) (F:List Lr) (w:World) (hw:BoolsAt w wv Wh) (h:RowsAt w v F) (hs:F.length≤1048576∧∀ f∈F,SmallR f) (hc1 : -9223372036854775808≤cols) (hc2:cols≤9223372036854775807) :
 Calls Tryz.prog 33 #[.int .i64 cols,wv,v,.int .i64 1] w fun e w'=>e=.returned (.bool (!flagOk cols Wh F))∧Up w w':=by
 have D:=Hd (fun W (hW:Up w W)=>goodRows_spec cols v F W (h.below hW) hs hc1 hc2); obtain ⟨M,K,rfl,O,J,-⟩:=hw; obtain ⟨p,c,rfl,-⟩:=h; unfold maxLen at J; clear hs; obtain ⟨I,y⟩:∃ g,goodR cols F=g:=⟨_,rfl⟩; have E:=Hd y; rw [y] at D; clear y
 cases I with
 | false=>
   have s:Hid (flagOk cols Wh F=false):=by unfold Hid flagOk; rw [E.o]; rfl
   go_enter Tryz.func33,Tryz.ntmps33
   go_wp2_with fail
   refine (D.o w (Below.refl _ _)).mono ?_; rintro e H ⟨rfl,j⟩; have m:=Hd j; clear j
   go_wp2_with fail
   go_ret
   exact ⟨ret_bool (by rw [s.o]; rfl),m.o⟩
 | true=>
   by_cases u:(Wh.length:Int)=cols
   ·have s:Hid (flagOk cols Wh F=true):=by unfold Hid flagOk; rw [E.o,decide_eq_true u]; rfl
    subst u
    go_enter Tryz.func33,Tryz.ntmps33
    go_wp2_with fail
    refine (D.o w (Below.refl _ _)).mono ?_; rintro e H ⟨rfl,j⟩; have m:=Hd j; clear j
    go_wp2_with fail
    go_ret
    exact ⟨ret_bool (by rw [s.o]; rfl),m.o⟩
   ·have s:Hid (flagOk cols Wh F=false):=by unfold Hid flagOk; rw [E.o,decide_eq_false u]; rfl
    have T:((Wh.length:Int) != cols)=true:=by simpa using u
    go_enter Tryz.func33,Tryz.ntmps33
    go_wp2_with fail
    refine (D.o w (Below.refl _ _)).mono ?_; rintro e H ⟨rfl,j⟩; have m:=Hd j; clear j
    go_wp2_with fail
    go_ret
    exact ⟨ret_bool (by rw [s.o]; rfl),m.o⟩
theorem l13Check_any (n:Nat) (wv v tv:Value) (Wh:List Bool) (F:List Lr) (T:List Tn) (w:World) (hw:BoolsAt w wv Wh) (h:RowsAt w v F) (ht:TreeAt w tv T) (hs:F.length≤1048576∧∀ f∈F,SmallR f) (hsT:T.length≤1048576∧∀ f∈T,SmallT f) (hf:flagOk (n:Int) Wh F=true) :
 Calls Tryz.prog 34 #[.int .i64 (n:Nat),wv,v,tv] w fun e w'=>∃ b,e=.returned (.bool b)∧ChkR (n:Int) Wh F T b∧Up w w':=by
 obtain ⟨p1,p2,p3,p4,p5⟩:=flag_parts hf; have Y:=Hd hf; have HW:=Hd hw; have HR:=Hd h; have e0:=Hd ht; have HS:=Hd hs; have d8:=Hd hsT; have d3:Wh.length=n:=by omega
 have e3:=Hd d3; have H5:=Hd p5; have H4:=Hd p4; have d0:n≤20:=by omega
 obtain ⟨pw,cw,rfl,w1,w2,-⟩:=hw; obtain ⟨pr,cr,rfl,r1,r2,-⟩:=h; obtain ⟨pt,ct,rfl,t1,t2,-⟩:=ht; unfold maxLen at w2 r2 t2; clear hs hsT hf p1 p2 p3 p5 d3; obtain ⟨M,D⟩:=exW (w.alloc (.cells #[.int .i64 (n:Nat),.slice pw Wh.length cw,.int .i64 0,.int .i64 0,.slice none 0 0,.slice none 0 0] 95)); have s:Hid (Up w M):=by unfold Hid; rw [← D]; exact below_alloc _ _
 have e4:Hid (Bx M w.heap.size [.int .i64 (n:Nat),.slice pw Wh.length cw,.int .i64 0,.int .i64 0,.slice none 0 0,.slice none 0 0]):=by unfold Hid; rw [← D]; exact bx_new w _ _
 obtain ⟨W1,E⟩:=exW (M.alloc (.cells #[.pointer (some ⟨w.heap.size,0,none⟩),.slice pt T.length ct,.int .i64 0] 97)); have a5:Up M W1:=by rw [← E]; exact below_alloc _ _
 have d5:Hid (Cb W1 M.heap.size [.pointer (some ⟨w.heap.size,0,none⟩),.slice pt T.length ct,.int .i64 ((0:Nat):Int)]):=by unfold Hid Cb; rw [← E]; exact heap_alloc_new M _
 have I:=Hd a5; have U:Hid (Up w W1):=s.o.trans (a5.mono s.o.size); have b5:=Hd D; have b6:=Hd E; have j:Hid (∀ f∈F,Wh.length=f.cs.length∧textOk f.bd=true∧f.cs.all textOk=true):=fun f hf=>flag_row Y.o hf; have Z:=Hd (flag_small Y.o); clear D E a5
 go_enter Tryz.func34,Tryz.ntmps34
 go_wp2_with (first|rw [b5.o]|rw [b6.o])
 try rw [b5.o]
 try rw [b6.o]
 refine (l12Read_any _ F W1 (HR.o.below U.o) HS.o (fun f hf=>⟨(j.o f hf).2.1,(j.o f hf).2.2,by have:=(j.o f hf).1; have:=Z.o.2; omega⟩)).mono ?_; rintro e w3 ⟨v3,rfl,⟨p3,c3,rfl⟩,d1,a6⟩; have d7:=Hd d1.zero; have J:=Hd a6; have d4:Hid (Up w w3):=U.o.trans (a6.mono U.o.size); clear d1 a6
 go_wp2_with fail
 refine (l13All_any _ _ Wh (F.map nrOf) _ w3 (HW.o.below d4.o) d7.o (fun m hm=>?ok) (by rw [List.length_map]; exact Z.o.1)).mono ?_
 case ok=>
  obtain ⟨f,hf,rfl⟩:=nr_mem hm; obtain ⟨O,h2,h3⟩:=j.o f hf; rw [nr_len]; exact ⟨O,by have:=Z.o.2; omega,sm_of h2 h3⟩
 rintro e w4 ⟨v4,H,rfl,a7,a8,a9,b8⟩; obtain ⟨p4,c4,rfl⟩:=a7.form; rw [List.length_map] at a8 a9; have K:Hid (Up W1 w4):=J.o.trans (b8.mono J.o.size); have b4:Hid (∀ i,i<F.length→Tight Wh (nrOf (F.getD i ⟨[],false,[]⟩)) (H.getD i nr0)):=fun i hi=>by
  have O:=a9 i hi; have e1:(F.map nrOf).getD i ⟨[],false,0⟩=nrOf (F.getD i ⟨[],false,[]⟩):=map_getD hi; rw [e1] at O; exact O
 have d6:Hid (∀ g∈H,g.cs.length=n∧SmN g):=fun g hg=>by
  obtain ⟨i,hi,rfl⟩:=List.getElem_of_mem hg; have c9:i<F.length:=by omega
  have O:=b4.o i c9; have e1:H.getD i nr0=H[i]:=by rw [List.getD_eq_getElem?_getD,List.getElem?_eq_getElem hi]; rfl
  rw [e1] at O; have hm:=H5.o _ (at_mem F ⟨[],false,[]⟩ c9); have e8:=O.small (sm_of hm.2.1 hm.2.2); refine ⟨?_,e8⟩; have hl:=nr_len (F.getD i ⟨[],false,[]⟩); obtain ⟨q,_,h2⟩:=O
  rcases h2 with ⟨_,e2⟩|⟨_,_,e2,_⟩
  ·rw [e2,hl]; omega
  rw [e2,hl]; omega
 have u:Hid (∀ b,b=doneB (takeT n Wh (T.length+1) H T)→ChkR (n:Int) Wh F T b):=fun b hb=>by
  unfold ChkR; rw [if_pos Y.o]; exact ⟨H,a8,b4.o,by rw [hb]; rfl⟩
 have b3:=Hd (node_any M M.heap.size w.heap.size n Wh [.int .i64 0,.int .i64 0,.slice none 0 0,.slice none 0 0] pw cw T pt ct e4.o (HW.o.below s.o) e3.o d0 (e0.o.below s.o) d8.o.2 leR (T.length+1) T H _ _ 0 w4 (Nat.lt_succ_self _) rfl (Nat.zero_le _) (I.o.trans (K.o.mono I.o.size)) (d5.o.below K.o) a7 d6.o (by have:=H4.o; omega)); obtain ⟨r,hr⟩:=exW (takeT n Wh (T.length+1) H T); rw [hr] at b3 u; clear a7 a8 a9 b8 hr
 go_wp2_with fail
 refine b3.o.mono ?_; rintro e w5 ⟨rfl,-,b9,-,d2⟩; have V:Hid (Up w w5):=s.o.trans (b9.mono s.o.size); have d9:=Hd d2; clear b9 d2
 cases r with
 | none=>
   go_wp2_with fail
   go_ret
   exact ⟨_,rfl,u.o _ rfl,V.o⟩
 | some T'=>
   obtain ⟨a,ha,a3,c7⟩:=d9.o T' rfl; obtain ⟨x0,x1,x2⟩:=c7.bx.c3; have y:Hid (doneB (some T')=decide (a=T.length)):=by
    unfold Hid
    by_cases e:a=T.length
    ·rw [a3,e,List.drop_length,decide_eq_true rfl]; rfl
    ·rw [decide_eq_false e,a3,List.drop_eq_getElem_cons (by omega)]; rfl
   clear c7 a3
   by_cases e:a=T.length
   ·have y0:((a:Int)==(T.length:Int))=true:=by rw [e]; simp
    rw [decide_eq_true e] at y; clear e
    go_wp2_with fail
    go_ret
    exact ⟨_,rfl,u.o _ y.o.symm,V.o⟩
   ·have y0:((a:Int)==(T.length:Int))=false:=by rw [beq_eq_false_iff_ne]; omega
    rw [decide_eq_false e] at y; clear e
    go_wp2_with fail
    go_ret
    exact ⟨_,rfl,u.o _ y.o.symm,V.o⟩
theorem checkTree_spec (cols:Int) (wv v tv:Value) (Wh:List Bool) (F:List Lr) (T:List Tn) (w:World) (hw:BoolsAt w wv Wh) (h:RowsAt w v F) (ht:TreeAt w tv T) (hs:F.length≤1048576∧∀ f∈F,SmallR f) (hsT:T.length≤1048576∧∀ f∈T,SmallT f) (hc1 : -9223372036854775808≤cols) (hc2:cols≤9223372036854775807) :
 Calls Tryz.prog 16 #[.int .i64 cols,wv,v,tv] w fun e w'=>∃ b,e=.returned (.bool b)∧ChkR cols Wh F T b∧Up w w':=by
 have y:=Hd (l13Bad_any cols wv v Wh F w hw h hs hc1 hc2)
 cases s:flagOk cols Wh F with
 | false=>
   rw [s] at y; have J:Hid (ChkR cols Wh F T false):=by unfold Hid ChkR; rw [if_neg (by rw [s]; exact Bool.false_ne_true)]
   clear s hw h ht
   go_enter Tryz.func16,Tryz.ntmps16
   go_wp2_with fail
   refine y.o.mono ?_; rintro e H ⟨rfl,m⟩; have j:=Hd m; clear m
   go_wp2_with fail
   go_ret
   exact ⟨_,rfl,J.o,j.o⟩
 | true=>
   rw [s] at y; obtain ⟨n,rfl⟩:∃ n:Nat,cols=(n:Int):=⟨cols.toNat,by have:=flag_parts s; omega⟩; have E:=Hd (fun W (hW:Up w W)=>l13Check_any n wv v tv Wh F T W (hw.below hW) (h.below hW) (ht.below hW) hs hsT s); clear s hw h ht
   go_enter Tryz.func16,Tryz.ntmps16
   go_wp2_with fail
   refine y.o.mono ?_; rintro e H ⟨rfl,m⟩; have j:=Hd m; clear m
   go_wp2_with fail
   refine (E.o H j.o).mono ?_; rintro e K ⟨b,rfl,hb,u⟩; have I:=Hd hb; have D:Hid (Up w K):=j.o.trans (u.mono j.o.size); clear hb u
   go_wp2_with fail
   go_ret
   exact ⟨_,rfl,I.o,D.o⟩
theorem OutR.plain {base:Nat} {W:World} {v:Value} {F:List Lr} {A:List Value} (h:OutR base W v F A):∀ b c,v=.slice (some ⟨b,0,none⟩) F.length c→∀ i,i<F.length→∀ va,W.cell? ⟨b,i*3,none⟩=some va→Plain va:=by
 intro b c e i s va m; have j:i<A.length:=by rw [h.len]; exact s
 have u:=h.own; rw [e] at u; have y:=own_read u (cellsR_at F A i s j).1; rw [y] at m; cases m; obtain ⟨p,c,e,D⟩:=own_form (h.rows i j s); exact ⟨p,_,c,e,D⟩
theorem checkTreeLaw (cols:Int) (wv v tv:Value) (Wh:List Bool) (F:List Lr) (T:List Tn) (w:World) (hw:ArgBools w wv Wh) (h:ArgRows w v F) (ht:ArgTree w tv T) (hT:Tabs w) (hc1 : -9223372036854775808≤cols) (hc2:cols≤9223372036854775807) :
 Calls Tryz.prog 4 #[.int .i64 cols,wv,v,tv] w fun e w'=>e=.returned (.bool true)∧Up w w':=by
 have H:=Hd h; have HW:=Hd hw; have HA:=Hd ht; have HT:=Hd hT; obtain ⟨a,c,rfl,-⟩:=h; obtain ⟨aw,cw,rfl,w1,w2,-⟩:=hw; obtain ⟨at',ct,rfl,-⟩:=ht; unfold maxLen at w2; clear hT
 by_cases g3:Wh.length≤1048576
 ·have y0:decide ((1048576:Int)<(Wh.length:Int))=false:=by rw [decide_eq_false_iff_not]; omega
  go_enter Tryz.func4,Tryz.ntmps4
  go_wp2_with fail
  refine (szLinRowS_any _ F 1048576 _ H.o leR).mono ?_; rintro e w2 ⟨(rfl|⟨z,hz,rfl,i7⟩),d1⟩
  ·have u:=Hd d1; clear d1
   go_wp2_with fail
   go_ret
   exact ⟨rfl,u.o⟩
  have u:=Hd d1; have a8:=Hd i7; have y:decide ((z:Int)<0)=false:=by rw [decide_eq_false_iff_not]; omega
  clear d1 i7
  go_wp2_with fail
  refine (szTreeNodeS_any _ T z w2 (HA.o.below u.o) (by omega)).mono ?_; rintro e w3 ⟨(rfl|⟨z3,m5,rfl,i8⟩),d2⟩
  ·have a5:Hid (Up w w3):=u.o.trans (d2.mono u.o.size); clear d2
   go_wp2_with fail
   go_ret
   exact ⟨rfl,a5.o⟩
  have a5:Hid (Up w w3):=u.o.trans (d2.mono u.o.size); have a9:=Hd i8; have y3:decide ((z3:Int)<0)=false:=by rw [decide_eq_false_iff_not]; omega
  clear d2 i8
  go_wp2_with fail
  refine (toBoolS_any _ Wh w3 (HW.o.below a5.o) g3).mono ?_; rintro e w4 ⟨g4,c4,rfl,b9,i3⟩; have j4:=Hd b9; have e6:Hid (Up w w4):=a5.o.trans (i3.mono a5.o.size); clear b9 i3
  go_wp2_with fail
  refine (toLinRowS_own _ F w4 (H.o.below e6.o) a8.o).mono ?_; rintro e w5 ⟨v5,A5,rfl,f9,g1⟩; obtain ⟨p5,c5,rfl⟩:=f9.form; have j5:=Hd f9; have d8:=Hd g1; have e7:Hid (Up w w5):=e6.o.trans (g1.mono e6.o.size); clear f9 g1
  go_wp2_with fail
  refine (toTreeNodeS_any _ T w5 (HA.o.below e7.o) a9.o).mono ?_; rintro e w6 ⟨v6,rfl,⟨p6,c6,rfl⟩,i9,d3⟩; have j7:=Hd i9; have h7:=Hd d3; have h8:Hid (Up w w6):=e7.o.trans (d3.mono e7.o.size); have h6:Hid (Up w4 w6):=d8.o.trans (d3.mono d8.o.size); clear i9 d3
  go_wp2_with fail
  refine (checkTree_spec cols _ _ _ Wh F T w6 (bools_at (row_below j4.o h6.o)) (j5.o.below h7.o).at j7.o a8.o a9.o hc1 hc2).mono ?_; rintro e w7 ⟨b7,rfl,i6,i4⟩; have j3:=Hd i6; have e8:Hid (Up w w7):=h8.o.trans (i4.mono h8.o.size); clear i6 i4
  go_wp2_with fail
  refine (toBoolS_any _ Wh w7 (HW.o.below e8.o) g3).mono ?_; rintro e w8 ⟨g8,c8,rfl,c7,i5⟩; have i1:=Hd c7; have e9:Hid (Up w w8):=e8.o.trans (i5.mono e8.o.size); clear c7 i5
  go_wp2_with fail
  refine (toLinRowS_own _ F w8 (H.o.below e9.o) a8.o).mono ?_; rintro e w9 ⟨v9,A9,rfl,g0,g2⟩; obtain ⟨p9,c9,rfl⟩:=g0.form; have j6:=Hd g0; have d9:=Hd g2; have f7:Hid (Up w w9):=e9.o.trans (g2.mono e9.o.size); clear g0 g2
  go_wp2_with fail
  refine (toTreeNodeS_any _ T w9 (HA.o.below f7.o) a9.o).mono ?_; rintro e s ⟨m9,rfl,⟨m6,l5,rfl⟩,e4,m⟩; have e0:=Hd e4; have j2:=Hd m; have V:Hid (Up w s):=f7.o.trans (m.mono f7.o.size); have D:Hid (Up w8 s):=d9.o.trans (m.mono d9.o.size); have a7:=Hd (j6.o.below m); clear e4 m
  go_wp2_with fail
  refine (checkTree_impl cols _ _ _ Wh F T s (bools_at (row_below i1.o D.o)) a7.o.at e0.o a7.o.plain a8.o a9.o hc1 hc2 (HT.o.below V.o)).mono ?_; rintro e g5 ⟨j9,rfl,e3,M⟩; obtain rfl:j9=b7:=e3.eq j3.o; have E:=Hd M; have Y:Hid (Up w g5):=V.o.trans (M.mono V.o.size); have a6:Hid (Up w8 g5):=D.o.trans (M.mono D.o.size); clear e3 M
  go_wp2_with fail
  refine (toBoolS_any _ Wh g5 (HW.o.below Y.o) g3).mono ?_; rintro e d4 ⟨l9,l6,rfl,U,O⟩; have h9:=Hd U; have d5:Hid (Up w d4):=Y.o.trans (O.mono Y.o.size); have f5:Hid (Up w8 d4):=a6.o.trans (O.mono a6.o.size); have I:Hid (Up s d4):=E.o.trans (O.mono E.o.size); clear U O
  go_wp2_with fail
  refine (eqBoolS_same _ _ Wh d4 (bools_at (row_below i1.o f5.o)) (bools_at h9.o)).mono ?_; rintro e g6 ⟨rfl,b4⟩; have Z:Hid (Up w g6):=d5.o.trans (b4.mono d5.o.size); have J:Hid (Up s g6):=I.o.trans (b4.mono I.o.size); clear b4
  go_wp2_with fail
  refine (toLinRowS_own _ F g6 (H.o.below Z.o) a8.o).mono ?_; rintro e g7 ⟨n0,l2,rfl,b3,b5⟩; obtain ⟨m7,l7,rfl⟩:=b3.form; have i0:=Hd b3; have d6:Hid (Up w g7):=Z.o.trans (b5.mono Z.o.size); have j:Hid (Up s g7):=J.o.trans (b5.mono J.o.size); clear b3 b5
  go_wp2_with fail
  refine (eqLinRowS_same _ _ F g7 (a7.o.below j.o).at i0.o.at).mono ?_; rintro e g9 ⟨rfl,b6⟩; have a3:Hid (Up w g9):=d6.o.trans (b6.mono d6.o.size); have K:Hid (Up s g9):=j.o.trans (b6.mono j.o.size); clear b6
  go_wp2_with fail
  refine (toTreeNodeS_any _ T g9 (HA.o.below a3.o) a9.o).mono ?_; rintro e h0 ⟨n1,rfl,⟨m8,l8,rfl⟩,e5,b8⟩; have i2:=Hd e5; have d7:Hid (Up w h0):=a3.o.trans (b8.mono a3.o.size); have d0:Hid (Up s h0):=K.o.trans (b8.mono K.o.size); clear e5 b8
  go_wp2_with fail
  refine (eqTreeNodeS_same _ _ T h0 (e0.o.below d0.o) i2.o).mono ?_; rintro e k0 ⟨rfl,e2⟩; have h1:Hid (Up w k0):=d7.o.trans (e2.mono d7.o.size); clear e2
  go_wp2_with fail
  go_ret
  exact ⟨rfl,h1.o⟩
 have y0:decide ((1048576:Int)<(Wh.length:Int))=true:=by rw [decide_eq_true_iff]; omega
 go_enter Tryz.func4,Tryz.ntmps4
 go_wp2_with fail
 go_ret
 exact ⟨rfl,Below.refl _ _⟩
theorem bools_of {H:Type} {enc:TypeId×Value→H} {W:World} {v:Value} {fuel:Nat} {x:DataW H×List MemPlace}
 (h:DataW.trod enc Tryz.prog W 0 (fun _=>true) true fuel 22 [v]=some x):∃ L,ArgBools W v L:=by
 rcases Go.Deep.open_slice Tryz.underlying22 h with ⟨j,_⟩|⟨A,l,c,m,n,D,Pl,j,_,hl,hm,O,_,Y⟩
 ·simp only [List.cons.injEq,and_true] at j; subst j; exact ⟨[],_,_,rfl,Nat.zero_le _,Nat.zero_le _,.inl rfl⟩
 simp only [List.cons.injEq,and_true] at j; subst j; have M:Tryz.prog.cellsOf 4=1:=by kernel_rfl
 simp only [if_true] at O; rw [M] at Y; have I:∀ i,i<l→∃ s:Bool,W.cell? (A.add i)=some (.bool s):=by
  intro i hi; obtain ⟨cs,Z,h2⟩:=Y i (by omega); obtain ⟨_,U,y⟩:=World.cells?_some Z; obtain ⟨s,e,_⟩:=DataW.trod_bool Tryz.underlying4 h2; subst e; have u:=y 0 (by decide); refine ⟨s,?_⟩
  simpa [Addr.add] using u
 obtain ⟨L,hL,V⟩:=list_of l I; subst hL; refine ⟨L,_,_,rfl,by omega,hm,?_⟩
 ·by_cases T:L=[]
  ·exact .inl T
  right
  have J:0<L.length:=List.length_pos_iff.2 T; obtain ⟨b,off,K⟩:=A; have u:=V 0 J; have E:K=none:=by simpa [Addr.add] using World.cell?_spot u
  subst E; refine ⟨b,off,rfl,?_,fun i hi=>?_⟩
  ·have:=World.block_lt_of_cell? W _ u
   simpa [Addr.add] using this
  have:=V i hi
  rwa [add0] at this
theorem tnode_of {H:Type} {enc:TypeId×Value→H} {W:World} {cs:List Value} {fuel:Nat} {x:DataW H×List MemPlace}
 (h:DataW.trod enc Tryz.prog W 0 (fun _=>true) true fuel 59 cs=some x):∃ (f:Tn) (va:Value),cs=[.int .i64 f.col,.string (strOf f.pl),va]∧ArgStrs W va f.mu∧f.pl.length≤maxLen ∧ -9223372036854775808≤f.col∧f.col≤9223372036854775807:=by
 obtain ⟨s,k,_,_,j,D,y⟩:=DataW.trod_struct Tryz.underlying59 h; have c3:Tryz.prog.cellsOf 59=3:=by kernel_rfl
 have T:Tryz.prog.cellsOf 9=1:=by kernel_rfl
 have c4:Tryz.prog.cellsOf 3=1:=by kernel_rfl
 have u:Tryz.prog.cellsOf 42=1:=by kernel_rfl
 rw [c3] at j; obtain ⟨I,J,m,rfl⟩:=three_of j; have O:s.length=3:=D; have f0:DataW.trod enc Tryz.prog W 0 (fun _=>true) true k 3 (List.take (Tryz.prog.cellsOf 3) (List.drop 0 [I,J,m]))=s[0]? := y 0 _ rfl; have f1:DataW.trod enc Tryz.prog W 0 (fun _=>true) true k 9 (List.take (Tryz.prog.cellsOf 9) (List.drop 1 [I,J,m]))=s[1]? := y 1 _ rfl; have f2:DataW.trod enc Tryz.prog W 0 (fun _=>true) true k 42 (List.take (Tryz.prog.cellsOf 42) (List.drop 2 [I,J,m]))=s[2]? := y 2 _ rfl; rw [c4,List.getElem?_eq_getElem (by omega)] at f0; rw [T,List.getElem?_eq_getElem (by omega)] at f1; rw [u,List.getElem?_eq_getElem (by omega)] at f2; obtain ⟨E,K,_,Y⟩:=DataW.trod_int Tryz.underlying3 f0; obtain ⟨V,e1,_,Z⟩:=DataW.trod_string Tryz.underlying9 f1; obtain ⟨L,U⟩:=strs_of (v:=m) (by simpa using f2); simp at K e1; subst K e1; have M : -9223372036854775808≤E∧E≤9223372036854775807:=by
  simp [Lit.wf,IntKind.min,IntKind.max,IntKind.bits,IntKind.signed] at Y; omega
 exact ⟨⟨E,V.data.toList,L⟩,m,by rw [strOf_data],U,Nat.le_trans (Nat.le_of_eq Array.length_toList) Z,M.1,M.2⟩
theorem tree_of {H:Type} {enc:TypeId×Value→H} {W:World} {v:Value} {fuel:Nat} {x:DataW H×List MemPlace}
 (h:DataW.trod enc Tryz.prog W 0 (fun _=>true) true fuel 34 [v]=some x):∃ F,ArgTree W v F:=by
 rcases Go.Deep.open_slice Tryz.underlying34 h with ⟨y,_⟩|⟨A,l,c,m,n,D,Pl,y,_,hl,hm,U,_,Z⟩
 ·simp only [List.cons.injEq,and_true] at y; subst y; exact ⟨[],_,_,rfl,Nat.zero_le _,Nat.zero_le _,fun s hs=>(by cases hs),.inl rfl⟩
 simp only [List.cons.injEq,and_true] at y; subst y; have T:Tryz.prog.cellsOf 59=3:=by kernel_rfl
 simp only [if_true] at U; rw [T] at Z; have J:∀ i,i<l→∃ f:Tn,(W.cell? ((A.add (i*3)).add 0)=some (.int .i64 f.col)∧W.cell? ((A.add (i*3)).add 1)=some (.string (strOf f.pl))∧(∃ va,W.cell? ((A.add (i*3)).add 2)=some va∧ArgStrs W va f.mu))∧f.pl.length≤maxLen ∧ -9223372036854775808≤f.col∧f.col≤9223372036854775807:=by
  intro i hi; obtain ⟨cs,h1,h2⟩:=Z i (by omega); obtain ⟨_,_,u⟩:=World.cells?_some h1; obtain ⟨f,va,rfl,I,hs⟩:=tnode_of h2; exact ⟨f,⟨u 0 (by decide),u 1 (by decide),va,u 2 (by decide),I⟩,hs⟩
 obtain ⟨L,hL,V⟩:=list_of l J; subst hL; refine ⟨L,_,_,rfl,by omega,hm,fun s hs=>?_,?_⟩
 ·obtain ⟨j,hj,rfl⟩:=List.getElem_of_mem hs; exact (V j hj).2
 by_cases Y:L=[]
 ·exact .inl Y
 right
 have M:0<L.length:=List.length_pos_iff.2 Y; obtain ⟨b,off,O⟩:=A; have K:=(V 0 M).1.1; have E:O=none:=by simpa [Addr.add] using World.cell?_spot K
 subst E; refine ⟨b,off,rfl,?_,fun i hi=>?_⟩
 ·have:=World.block_lt_of_cell? W _ K
  simpa [Addr.add] using this
 obtain ⟨⟨k0,k1,va,k2,I⟩,_⟩:=V i hi; simp only [add0] at k0 k1 k2; exact ⟨k0,k1,va,k2,I⟩
end Go.Proofs.YtfclfbpjjlinhaaGreatDoor.L
namespace Go.Proofs.YtfclfbpjjlinhaaGreatDoor.fnExactCheckTree
open Go.ChangeShapes Go.WideShapes Go.ChangeAt Go.RowKit
set_option linter.unusedVariables false
theorem own:ownKnob Tryz.prog.godebug=none:=by kernel_rfl
theorem laidOut:laidOutB Tryz.prog=true:=by kernel_rfl
theorem int_ends {n:Int} (h:(Lit.int .i64 n).wf=true) : -9223372036854775808≤n∧n≤9223372036854775807:=by
 simp [Lit.wf,IntKind.min,IntKind.max,IntKind.bits,IntKind.signed] at h; omega
theorem lifted (os:Os) (started:os.Started) (H:Type) (enc:TypeId×Value→H) :
 ReturnsInHanded {} Tryz.checked os 4 .any (fun w args=>(Rows.fnExactCheckTreeSpec.pre enc Tryz.prog Tryz.f4 [] false w args∧laidMetH Tryz.prog Rows.fnExactCheckTreeRow.laid w)∧sizedMet enc Tryz.prog Tryz.f4 (OpenSpec.ofChange Rows.fnExactCheckTreeSpec) false w args)
  (Rows.fnExactCheckTreeSpec.post enc Tryz.prog Tryz.f4 false true false false):=by
 refine returnsInHanded_of_change_and (C:=Tryz.checked) (X:=fun w _=>laidMetH Tryz.prog Rows.fnExactCheckTreeRow.laid w) (fun _ _ _ hh h=>h.of_heap hh) own started (by kernel_rfl) Tryz.func4
  (ChangeSpec.witness_shaped (enc:=enc) (C:=Tryz.checked) (os:=os) (X:=fun w _=>laidMetH Tryz.prog Rows.fnExactCheckTreeRow.laid w) false (World.laidAll Tryz.prog os Rows.fnExactCheckTreeRow.laid) #[.int .i64 0,.slice none 0 0,.slice none 0 0,.slice none 0 0] 8 (World.laidAll_os _ _ _)
    (World.shaped_of_ZipB (by kernel_rfl) (by kernel_rfl)) (by kernel_rfl) (by kernel_rfl) (by kernel_rfl)
    (by rw [MakeChecks.laidMetH_plain _ _ _ (by kernel_rfl)]; exact laidMet_laidAll _ (by kernel_rfl) (by kernel_rfl))) ?_
 intro W base args ds gs e8 K hW _ _ hL _; have y:∀ (j:Nat) t v,Tryz.f4.params[j]? = some t→args[j]? = some v→Value.okWide Tryz.prog W .any base t v:=K; have f5:=hW; obtain ⟨p,q,c7,hV,rfl,l4,l6⟩:=hW; have hA:DataW.TrodAll enc Tryz.prog W 0 (fun _=>true) true Tryz.f4.params.toList args.toList ds p:=c7; rw [Tryz.params4] at hA y; obtain ⟨v0,m5,d0,j9,p0,q0,f7,rfl,rfl,h0,r0⟩:=trodAll_cons hA; obtain ⟨v1,m6,d1,k0,p1,q1,rfl,rfl,rfl,h1,r1⟩:=trodAll_cons r0; obtain ⟨e6,m7,j6,k5,i5,q2,rfl,rfl,rfl,h2,r2⟩:=trodAll_cons r1; obtain ⟨e7,m8,j7,k7,i6,q3,rfl,rfl,rfl,h3,r3⟩:=trodAll_cons r2; obtain ⟨rfl,rfl,rfl⟩:=trodAll_nil r3; obtain rfl:args=#[v0,v1,e6,e7]:=by cases args; simp_all
 obtain ⟨g,t,cs,s,d,p',g2,t2,u,E,d2,p2,g3,t3,D,I,d3,p3,rfl,hg,ht,d8,hd,g1,g8,a5,f9,g4,g9,a6,g0,rfl⟩:=trodVars_three hV; obtain ⟨a0,rfl,rfl,rfl,w0⟩:=open_int Tryz.underlying3 (y 0 3 v0 rfl rfl) h0; obtain ⟨a1,e3,b3,rfl⟩:=okWide_slice Tryz.underlying22 (y 1 22 v1 rfl rfl); obtain ⟨a2,e4,b4,rfl⟩:=okWide_slice Tryz.underlying23 (y 2 23 e6 rfl rfl); obtain ⟨a3,e5,b5,rfl⟩:=okWide_slice Tryz.underlying34 (y 3 34 e7 rfl rfl); have k1:=h1; have k2:=h2; have k3:=h3; have i2:∀ x∈p1,x.block<W.heap.size:=by obtain ⟨m,hm⟩:=k1; exact DataW.trod_lt m _ _ _ hm
 have i3:∀ x∈i5,x.block<W.heap.size:=by obtain ⟨m,hm⟩:=k2; exact DataW.trod_lt m _ _ _ hm
 have i4:∀ x∈i6,x.block<W.heap.size:=by obtain ⟨m,hm⟩:=k3; exact DataW.trod_lt m _ _ _ hm
 obtain ⟨S,hS⟩:∃ S,L.ArgBools W (.slice a1 e3 b3) S:=by
  obtain ⟨s,hf⟩:=h1; exact L.bools_of (by simpa [Value.cells] using hf)
 obtain ⟨F,hF⟩:∃ F,L.ArgRows W (.slice a2 e4 b4) F:=by
  obtain ⟨s,hf⟩:=h2; exact L.rows_of (by simpa [Value.cells] using hf)
 obtain ⟨T,hT⟩:∃ T,L.ArgTree W (.slice a3 e5 b5) T:=by
  obtain ⟨s,hf⟩:=h3; exact L.tree_of (by simpa [Value.cells] using hf)
 rw [MakeChecks.laidMetH_plain _ _ _ (by kernel_rfl)] at hL; have J:LT W∧SP W∧NS W:=all3_of_laid hL; clear c7 K; refine (L.checkTreeLaw a0 _ _ _ S F T W hS hF hT ⟨J.2.1,J.2.2,J.1⟩ (int_ends w0).1 (int_ends w0).2).mono fun e W' ⟨he,bel⟩=>?_; subst he; have d4:0<W.heap.size:=cell_lt J.2.2.1; have d5:1<W.heap.size:=cell_lt J.2.1.1.1; have d6:2<W.heap.size:=block_lt J.1; obtain rfl:=Option.some.inj (gSteps.symm.trans hg); obtain rfl:=Option.some.inj (tSteps.symm.trans ht); obtain rfl:=Option.some.inj (gSigns.symm.trans g1); obtain rfl:=Option.some.inj (tSigns.symm.trans g8); obtain rfl:=Option.some.inj (gTens.symm.trans g4); obtain rfl:=Option.some.inj (tTens.symm.trans g9); have M:DataW.trod enc Tryz.prog W 0 (fun _=>true) true s 161 cs.toList=some (d,p'):=hd; have d9:W.var? Tryz.prog "loop.example/g00007/impl.noSteps" = some cs:=d8; have V:∀ x∈p',x.block<W.heap.size:=DataW.trod_lt s _ _ _ M; obtain ⟨b8,g5⟩:=Below.trod laidOut (by kernel_rfl) (of_decide_eq_true (by kernel_rfl)) (v:=.agg cs) (⟨s,by simpa [Value.cells] using M⟩:DataW.Trod enc Tryz.prog W 0 (fun _=>true) true 161 (.agg cs) d p') bel V; have h9:DataW.trod enc Tryz.prog W' 0 (fun b=>decide (b<W.heap.size)) true b8 161 cs.toList=some (d,p'):=by simpa [Value.cells] using g5
 have O:DataW.trod enc Tryz.prog W 0 (fun _=>true) true E 173 u.toList=some (d2,p2):=f9; have e0:W.var? Tryz.prog "loop.example/g00007/impl.signPairs" = some u:=a5; have Y:∀ x∈p2,x.block<W.heap.size:=DataW.trod_lt E _ _ _ O; obtain ⟨b9,g6⟩:=Below.trod laidOut (by kernel_rfl) (of_decide_eq_true (by kernel_rfl)) (v:=.agg u) (⟨E,by simpa [Value.cells] using O⟩:DataW.Trod enc Tryz.prog W 0 (fun _=>true) true 173 (.agg u) d2 p2) bel Y; have i0:DataW.trod enc Tryz.prog W' 0 (fun b=>decide (b<W.heap.size)) true b9 173 u.toList=some (d2,p2):=by simpa [Value.cells] using g6
 have U:DataW.trod enc Tryz.prog W 0 (fun _=>true) true I 180 D.toList=some (d3,p3):=g0; have e2:W.var? Tryz.prog "loop.example/g00007/impl.limbTens" = some D:=a6; have Z:∀ x∈p3,x.block<W.heap.size:=DataW.trod_lt I _ _ _ U; obtain ⟨e9,g7⟩:=Below.trod laidOut (by kernel_rfl) (of_decide_eq_true (by kernel_rfl)) (v:=.agg D) (⟨I,by simpa [Value.cells] using U⟩:DataW.Trod enc Tryz.prog W 0 (fun _=>true) true 180 (.agg D) d3 p3) bel Z; have i1:DataW.trod enc Tryz.prog W' 0 (fun b=>decide (b<W.heap.size)) true e9 180 D.toList=some (d3,p3):=by simpa [Value.cells] using g7
 have h8:=trodVars_mk1 (enc:=enc) (spare:=fun b=>decide (b<W.heap.size)) gTens tTens (var?_below bel gTens d6 e2) i1; have h7:DataW.TrodVars enc Tryz.prog W' (fun b=>decide (b<W.heap.size)) ["loop.example/g00007/impl.signPairs", "loop.example/g00007/impl.limbTens"] [d2,d3] (MemPlace.row ⟨1,0,none⟩ u.size++p2++(MemPlace.row ⟨2,0,none⟩ D.size++p3)):=
  ⟨_,_,u,b9,p2,_,gSigns,tSigns,var?_below bel gSigns d5 e0,i0,h8,rfl⟩
 have h6:DataW.TrodVars enc Tryz.prog W' (fun b=>decide (b<W.heap.size)) ["loop.example/g00007/impl.noSteps", "loop.example/g00007/impl.signPairs", "loop.example/g00007/impl.limbTens"] [d,d2,d3] (MemPlace.row ⟨0,0,none⟩ cs.size++p'++(MemPlace.row ⟨1,0,none⟩ u.size++p2++(MemPlace.row ⟨2,0,none⟩ D.size++p3))):=
  ⟨_,_,cs,b8,p',_,gSteps,tSteps,var?_below bel gSteps d4 d9,h9,h7,rfl⟩
 exact ⟨_,rfl,_,_,_,[],_,_,f5,trodAll_mk1 (shut_bool Tryz.underlying4 _),(trodAll_cons_mk (shut_int Tryz.underlying3 w0) (trodAll_cons_mk (Below.trod laidOut (by kernel_rfl) (of_decide_eq_true (by kernel_rfl)) k1 bel i2) (trodAll_cons_mk (Below.trod laidOut (by kernel_rfl) (of_decide_eq_true (by kernel_rfl)) k2 bel i3) (trodAll_cons_mk (Below.trod laidOut (by kernel_rfl) (of_decide_eq_true (by kernel_rfl)) k3 bel i4) trodAll_mk0)))),h6,bel.frame _,fun h=>by cases h⟩
theorem over:Rows.fnExactCheckTreeRow.holds Tryz.pinned (OpenSpec.ofChange Rows.fnExactCheckTreeSpec):=
 OpenClaim.holds_of_wide 4 Tryz.f4 rfl rfl rfl rfl rfl rfl rfl ⟨rfl,rfl,rfl,rfl,rfl⟩ rfl rfl rfl rfl rfl (by kernel_rfl) Tryz.func4 (by kernel_rfl)
  (of_decide_eq_true (by kernel_rfl)) (by unfold Func.isWrapper; first|(rw [if_pos (by decide +kernel)]; kernel_rfl)|(rw [if_neg (by decide +kernel)]; exact ⟨rfl,rfl⟩))
  (fun os started H enc _=>lifted os started H enc)
theorem plain (f:FuncId) (fn:Func) (hf:Tryz.pinned.checked.prog.funcNamed "loop.example/g00007/laws.FnExactCheckTree" = some f) (hfn:Tryz.pinned.checked.prog.funcs[f]? = some fn) :
 false=Tryz.pinned.checked.prog.looks []∧∀ (j:Nat) t,fn.params[j]? = some t→Tryz.pinned.checked.prog.wantsStandIn t=false:=by
 obtain rfl:f=4:=Option.some.inj ((show Tryz.prog.funcNamed "loop.example/g00007/laws.FnExactCheckTree" = some 4 by kernel_rfl).symm.trans hf) |>.symm; obtain rfl:fn=Tryz.f4:=(Option.some.inj (Tryz.func4.symm.trans hfn)).symm; refine ⟨by kernel_rfl,fun j t ht=>?_⟩; rw [Tryz.params4] at ht; have h:=Array.mem_of_getElem? ht; simp only [List.mem_toArray,List.mem_cons,List.not_mem_nil,or_false] at h
 rcases h with rfl|rfl|rfl|rfl
 ·exact (show Tryz.prog.wantsStandIn 3=false by kernel_rfl)
 ·exact (show Tryz.prog.wantsStandIn 22=false by kernel_rfl)
 ·exact (show Tryz.prog.wantsStandIn 23=false by kernel_rfl)
 exact (show Tryz.prog.wantsStandIn 34=false by kernel_rfl)
end Go.Proofs.YtfclfbpjjlinhaaGreatDoor.fnExactCheckTree
namespace Go.Proofs.YtfclfbpjjlinhaaGreatDoor
theorem fnExactCheckTree_holds:Rows.FnExactCheckTreeCardSaid:=
 Claim7.holds_tied_plain_at .later [] _ _ _ _ fnExactCheckTree.over (fun _ h=>by cases h) (by kernel_rfl) (fun _ h=>by cases h) fnExactCheckTree_row_tie rfl ⟨rfl,rfl⟩ (by kernel_rfl) rfl fnExactCheckTree.plain (by kernel_rfl)
#print axioms fnExactCheckTree_holds
end Go.Proofs.YtfclfbpjjlinhaaGreatDoor
