import Derived.Test.YtfclfbpjjlinhaaGreatDoorTgQVp
import Derived.ArgAppend
import Derived.Deep.RegionLawGrows
set_option maxRecDepth 100000
set_option maxHeartbeats 4000000
namespace Go.Proofs.YtfclfbpjjlinhaaGreatDoor.L
open Go.ChangeShapes Go.WideShapes Go.ChangeAt Go.RowKit
structure Tn where
 col:Int
 pl:List UInt8
 mu:List (List UInt8)
def ArgTree (w:World) (v:Value) (F:List Tn):Prop:=
 ∃ a c,v=.slice a F.length c∧F.length≤c∧c≤maxLen∧(∀ f∈F,f.pl.length≤maxLen ∧ -9223372036854775808≤f.col∧f.col≤9223372036854775807)∧(F=[]∨∃ b off,a=some ⟨b,off,none⟩∧b<w.heap.size∧∀ i (h:i<F.length),w.cell? ⟨b,off+i*3,none⟩=some (.int .i64 F[i].col)∧w.cell? ⟨b,off+i*3+1,none⟩=some (.string (strOf F[i].pl))∧(∃ va,w.cell? ⟨b,off+i*3+2,none⟩=some va∧ArgStrs w va F[i].mu))
theorem ArgTree.below {w w':World} {v:Value} {F:List Tn} (h:ArgTree w v F) (hb:Up w w'):ArgTree w' v F:=by
 obtain ⟨a,c,rfl,m,h2,h3,h4⟩:=h; refine ⟨a,c,rfl,m,h2,h3,?_⟩
 rcases h4 with h|⟨b,off,rfl,j,s⟩
 ·exact .inl h
 refine .inr ⟨b,off,rfl,Nat.lt_of_lt_of_le j hb.size,fun i hi=>?_⟩; obtain ⟨y,D,va,k2,u⟩:=s i hi; exact ⟨(hb.cell (p:=⟨b,off+i*3,none⟩) j).trans y,(hb.cell (p:=⟨b,off+i*3+1,none⟩) j).trans D,va,(hb.cell (p:=⟨b,off+i*3+2,none⟩) j).trans k2,u.below hb⟩
def TreeAt (w:World) (v:Value) (F:List Tn):Prop:=
 ∃ p c,v=.slice p F.length c∧F.length≤c∧c≤maxLen∧(F=[]∨∃ b off,p=some ⟨b,off,none⟩∧b<w.heap.size∧∀ i (h:i<F.length),w.cell? ⟨b,off+i*3,none⟩=some (.int .i64 F[i].col)∧w.cell? ⟨b,off+i*3+1,none⟩=some (.string (strOf F[i].pl))∧(∃ va,w.cell? ⟨b,off+i*3+2,none⟩=some va∧StrsAt w va F[i].mu))
theorem TreeAt.below {w w':World} {v:Value} {F:List Tn} (h:TreeAt w v F) (hb:Up w w'):TreeAt w' v F:=by
 obtain ⟨a,c,rfl,m,h2,h4⟩:=h; refine ⟨a,c,rfl,m,h2,?_⟩
 rcases h4 with h|⟨b,off,rfl,j,s⟩
 ·exact .inl h
 refine .inr ⟨b,off,rfl,Nat.lt_of_lt_of_le j hb.size,fun i hi=>?_⟩; obtain ⟨y,D,va,k2,u⟩:=s i hi; exact ⟨(hb.cell (p:=⟨b,off+i*3,none⟩) j).trans y,(hb.cell (p:=⟨b,off+i*3+1,none⟩) j).trans D,va,(hb.cell (p:=⟨b,off+i*3+2,none⟩) j).trans k2,u.below hb⟩
def SmallT (f:Tn):Prop:=SmallS f.mu∧f.pl.length≤1048576
theorem szTreeNode_any (f:Tn) (va:Value) (z0:Nat) (w:World) (h:ArgStrs w va f.mu) (hs:f.pl.length≤maxLen) (hz0:z0≤1048576) :
 Calls Tryz.prog 32 #[.agg #[.int .i64 f.col,.string (strOf f.pl),va],.int .i64 (z0:Nat)] w (Sized (SmallT f) w):=by
 have H:=Hd h; obtain ⟨a,c,rfl,-,-,-,-⟩:=h; have T:=strOf_size f.pl; obtain ⟨m,h2⟩:∃ s,strOf f.pl=s:=⟨_,rfl⟩; rw [h2] at T ⊢; unfold maxLen at hs; have x2:(m.size:Int)≤9223372036854775807:=by omega
 have K:=Hd T; clear h2 T; obtain ⟨I,u⟩:=exW (w.alloc (.cells #[.int .i64 f.col,.string m,.slice a f.mu.length c] 59)); have j:Hid (Up w I):=by unfold Hid; rw [← u]; exact below_alloc _ _
 have O:Hid (Bx I w.heap.size [.int .i64 f.col,.string m,.slice a f.mu.length c]):=by unfold Hid; rw [← u]; exact bx_new w _ _
 have E:=Hd u; clear u; obtain ⟨b0,b1,b2⟩:=O.o.c3
 by_cases g2:z0<m.size
 ·have Z:decide ((z0:Int) - (m.size:Int)<0)=true:=by rw [decide_eq_true_iff]; omega
  go_enter Tryz.func32,Tryz.ntmps32
  go_wp2_with (rw [E.o])
  go_ret
  first
   | exact ⟨.inl rfl,j.o⟩
   | (rw [E.o]; exact ⟨.inl rfl,j.o⟩)
 have Z:decide ((z0:Int) - (m.size:Int)<0)=false:=by rw [decide_eq_false_iff_not]; omega
 have Y:Hid (Calls Tryz.prog 38 #[.slice a f.mu.length c,.int .i64 ((z0:Int) - (m.size:Int))] I (Sized (SmallS f.mu) I)):=by
  unfold Hid; rw [show (z0:Int) - (m.size:Int)=((z0 - m.size:Nat):Int) by omega]; exact szStringS_any _ f.mu (z0 - m.size) I (H.o.below j.o) (by omega)
 go_enter Tryz.func32,Tryz.ntmps32
 go_wp2_with (rw [E.o])
 refine Y.o.mono ?_; rintro e V ⟨(rfl|⟨z2,U,rfl,J⟩),y⟩
 ·have D:Hid (Up w V):=j.o.trans (y.mono j.o.size); clear y
  go_wp2_with fail
  go_ret
  exact ⟨.inl rfl,D.o⟩
 have D:Hid (Up w V):=j.o.trans (y.mono j.o.size); have M:=Hd J; have y2:decide ((z2:Int)<0)=false:=by rw [decide_eq_false_iff_not]; omega
 clear y J
 go_wp2_with fail
 go_ret
 exact ⟨.inr ⟨z2,U,rfl,M.o,by have:=K.o; omega⟩,D.o⟩
theorem szTreeNodeS_any (v:Value) (F:List Tn) (z0:Nat) (w:World) (h:ArgTree w v F) (hz0:z0≤1048576) :
 Calls Tryz.prog 15 #[v,.int .i64 (z0:Nat)] w (Sized (F.length≤1048576∧∀ f∈F,SmallT f) w):=by
 obtain ⟨a,c,rfl,hc,a5,U,M⟩:=h; unfold maxLen at a5; have HA:=Hd M; have Y:=Hd U; clear M U
 by_cases hl:z0<F.length
 ·have y:decide ((z0:Int) - (F.length:Int)<0)=true:=by rw [decide_eq_true_iff]; omega
  go_enter Tryz.func15,Tryz.ntmps15
  go_wp2_with fail
  go_ret
  exact ⟨.inl rfl,Below.refl _ _⟩
 have y:decide ((z0:Int) - (F.length:Int)<0)=false:=by rw [decide_eq_false_iff_not]; omega
 go_enter Tryz.func15,Tryz.ntmps15
 go_wp2_with fail
 go_loopw [1,5] (fun zv iv wr=>∃ (i z:Nat),i≤F.length∧z≤1048576∧zv=.int .i64 (z:Nat)∧iv=.int .i64 (i:Nat)∧(∀ j (h:j<F.length),j<i→SmallT F[j])∧Up w wr) (fun _ iv _=>F.length - (intOf iv).toNat)
 case atStart=>exact ⟨0,z0 - F.length,Nat.zero_le _,by omega,by go_num,rfl,fun j _ h=>absurd h (Nat.not_lt_zero _),Below.refl _ _⟩
 case round=>
  obtain ⟨i,z,hi,hz,rfl,rfl,T,E⟩:=hrel; have K:=Hd T; have J:=Hd E; clear T
  by_cases u:i<F.length
  ·obtain ⟨b,off,rfl,hb,M⟩:∃ b off,a=some ⟨b,off,none⟩∧b<w.heap.size∧∀ i (h:i<F.length),w.cell? ⟨b,off+i*3,none⟩=some (.int .i64 F[i].col)∧w.cell? ⟨b,off+i*3+1,none⟩=some (.string (strOf F[i].pl))∧(∃ va,w.cell? ⟨b,off+i*3+2,none⟩=some va∧ArgStrs w va F[i].mu):=by
    rcases HA.o with h|h
    ·rw [h] at u; exact absurd u (Nat.not_lt_zero _)
    ·exact h
   obtain ⟨k0,k1,va,k2,I⟩:=M i u; rw [← E.cell (p:=⟨b,off+i*3,none⟩) hb] at k0; rw [← E.cell (p:=⟨b,off+i*3+1,none⟩) hb] at k1; rw [← E.cell (p:=⟨b,off+i*3+2,none⟩) hb] at k2; have H:=(Y.o _ (List.getElem_mem u)).1; obtain ⟨f,hf⟩:=exW (F[i]); have HF:=Hd hf; rw [hf] at k0 k1 I H; have a3:=Hd (I.below E); have Z:=Hd H; obtain ⟨pa,ca,rfl,-,-,-,-⟩:=I; clear hf E M H
   go_wp2_with fail
   refine (szTreeNode_any f _ z _ a3.o Z.o hz).mono ?_; rintro e w2 ⟨(rfl|⟨z2,a8,rfl,O⟩),m⟩
   ·have D:Hid (Up w w2):=J.o.trans (m.mono J.o.size); clear m
    go_wp2_with fail
    go_ret
    exact ⟨.inl rfl,D.o⟩
   ·have D:Hid (Up w w2):=J.o.trans (m.mono J.o.size); have V:=Hd O; have y2:decide ((z2:Int)<0)=false:=by rw [decide_eq_false_iff_not]; omega
    clear m O
    go_wp2_with fail
    go_roundw
    case rel=>
     refine ⟨i+1,z2,by omega,a8,by go_num,by go_num,fun j hj hji=>?_,D.o⟩
     by_cases e:j=i
     ·subst e; rw [HF.o]; exact V.o
     ·exact K.o j hj (by omega)
    case measure=>simp [intOf]; omega
  ·have a7:i=F.length:=by omega
   subst a7; clear E
   go_wp2_with fail
   go_ret
   refine ⟨.inr ⟨z,hz,rfl,by omega,fun s hs=>?_⟩,J.o⟩; obtain ⟨j,hj,rfl⟩:=List.getElem_of_mem hs; exact K.o j hj hj
theorem info_tn0:(Tryz.prog.info? 61).map (fun i=>(i.zero,i.size,i.bytes))=some (some (.agg #[.int .i64 0,.string ⟨#[]⟩,.slice none 0 0]),3,48):=by kernel_rfl
theorem info_tn:∃ i:TypeInfo,Tryz.prog.info? 61=some i∧i.zero=some (.agg #[.int .i64 0,.string ⟨#[]⟩,.slice none 0 0])∧i.size=3∧i.bytes=48:=info_parts info_tn0
theorem toTreeNode_any (f:Tn) (va:Value) (w:World) (h:ArgStrs w va f.mu) (hs:SmallS f.mu) :
 Calls Tryz.prog 35 #[.agg #[.int .i64 f.col,.string (strOf f.pl),va]] w fun e w'=>∃ g c,e=.returned (.agg #[.int .i64 f.col,.string (strOf f.pl),.slice (some ⟨g,0,none⟩) f.mu.length c])∧w'.ownsRow w.heap.size 9 1 (.slice (some ⟨g,0,none⟩) f.mu.length c) f.mu.length (strsC f.mu)∧Up w w':=by
 have H:=Hd h; obtain ⟨a,c,rfl,-,-,-,-⟩:=h; obtain ⟨W3,V,a3,x1,x2,x3,a5⟩:=box3 w [.int .i64 f.col,.string (strOf f.pl),.slice a f.mu.length c] [.int .i64 0,.string ⟨#[]⟩,.slice none 0 0] [.int .i64 0,.string ⟨#[]⟩,.slice none 0 0] 59 61 61; have b6:=Hd V; have a7:=Hd a3; have d4:=Hd x1; have b8:=Hd x2; have b9:=Hd x3; have b5:=Hd a5; obtain ⟨b0,b1,b2⟩:=x1.c3; obtain ⟨q0,q1,q2⟩:=x3.c3; have r0:=x3.frozen 0; have r1:=x3.frozen 1; clear V a3 x1 x2 x3 a5
 go_enter Tryz.func35,Tryz.ntmps35
 go_wp2_with (rw [b6.o])
 obtain ⟨M,j⟩:=exW ((W3.setCell ⟨w.heap.size+1+1,0,none⟩ (.int .i64 f.col)).setCell ⟨w.heap.size+1+1,1,none⟩ (.string (strOf f.pl))); rw [j]; have K:Hid (Up w M):=by unfold Hid; rw [← j]; exact (a7.o.setCell (p:=⟨w.heap.size+1+1,0,none⟩) (by show _≤w.heap.size+1+1; omega) _).setCell (p:=⟨w.heap.size+1+1,1,none⟩) (by show _≤w.heap.size+1+1; omega) _
 have I:Hid (Bx M (w.heap.size+1+1) [.int .i64 f.col,.string (strOf f.pl),.slice none 0 0]):=by unfold Hid; rw [← j]; exact (b9.o.set 0 _).set 1 _
 have E:Hid (Bx M (w.heap.size+1) [.int .i64 0,.string ⟨#[]⟩,.slice none 0 0]):=by unfold Hid; rw [← j]; exact bx_far b8.o (by omega) _ _ _ _
 have T:Hid (w.heap.size+1+1+1=M.heap.size):=by unfold Hid; rw [← j]; simp [b5.o]
 clear j b0 b1 b2 q0 q1 q2 r0 r1; refine (toStringS_any _ f.mu M (H.o.below K.o) hs).mono ?_; rintro e w5 ⟨J,c5,rfl,u,D⟩; have b3:=Hd u; have a8:Hid (Up w w5):=K.o.trans (D.mono K.o.size); have y:=I.o.below I.o.lt D; have Y:=E.o.below E.o.lt D; obtain ⟨W6,m⟩:=exW (w5.setCell ⟨w.heap.size+1+1,2,none⟩ (.slice (some ⟨J,0,none⟩) f.mu.length c5)); have Z:Bx W6 (w.heap.size+1+1) [.int .i64 f.col,.string (strOf f.pl),.slice (some ⟨J,0,none⟩) f.mu.length c5]:=by rw [← m]; exact y.set 2 _
 have s:Bx W6 (w.heap.size+1) [.int .i64 0,.string ⟨#[]⟩,.slice none 0 0]:=by rw [← m]; exact bx_one Y (by omega) _ _
 have a9:Hid (Up w W6):=by unfold Hid; rw [← m]; exact a8.o.setCell (p:=⟨w.heap.size+1+1,2,none⟩) (by show _≤w.heap.size+1+1; omega) _
 have b4:Hid (W6.ownsRow M.heap.size 9 1 (.slice (some ⟨J,0,none⟩) f.mu.length c5) f.mu.length (strsC f.mu)):=by
  unfold Hid; rw [← m]; exact ownsRow_setCell_below b3.o (a:=⟨w.heap.size+1+1,2,none⟩) (by have:=T.o; show w.heap.size+1+1<_; omega) _
 have b7:=Hd m; have c7:=Hd s; obtain ⟨y0,y1,y2⟩:=y.c3; have y3:=y.frozen 2; obtain ⟨z0,z1,z2⟩:=Z.c3; obtain ⟨t0,t1,t2⟩:=s.c3; have t3:=s.frozen 0; have t4:=s.frozen 1; have t5:=s.frozen 2; clear y Y Z s m u D
 go_wp2_with (rw [b7.o])
 have hE:=((c7.o.set 0 (.int .i64 f.col)).set 1 (.string (strOf f.pl))).set 2 (.slice (some ⟨J,0,none⟩) f.mu.length c5); obtain ⟨e0,e1,e2⟩:=hE.c3; have O:w.heap.size+1<M.heap.size:=by have:=T.o; omega
 have hO:=own_lower (ownsRow_setCell_below (ownsRow_setCell_below (ownsRow_setCell_below b4.o (a:=⟨w.heap.size+1,0,none⟩) O (.int .i64 f.col)) (a:=⟨w.heap.size+1,1,none⟩) O (.string (strOf f.pl))) (a:=⟨w.heap.size+1,2,none⟩) O (.slice (some ⟨J,0,none⟩) f.mu.length c5)) (base':=w.heap.size) (by omega); have U:=((a9.o.setCell (p:=⟨w.heap.size+1,0,none⟩) (by show _≤w.heap.size+1; omega) (.int .i64 f.col)).setCell (p:=⟨w.heap.size+1,1,none⟩) (by show _≤w.heap.size+1; omega) (.string (strOf f.pl))).setCell (p:=⟨w.heap.size+1,2,none⟩) (by show _≤w.heap.size+1; omega) (.slice (some ⟨J,0,none⟩) f.mu.length c5); refine bodyPost_ret (v:=.agg #[.int .i64 f.col,.string (strOf f.pl),.slice (some ⟨J,0,none⟩) f.mu.length c5]) ?_ rfl ⟨J,c5,rfl,hO,U⟩; clear hE hO U; simp [results,Tryz.results35,go_sem,e0,e1,e2]
def LaidT (wr:World) (N:Nat) (xs:List Value) (F:List Tn) (i:Nat):Prop:=
 ∀ j (h:j<F.length),j<i→xs[j*3]? = some (.int .i64 F[j].col)∧xs[j*3+1]? = some (.string (strOf F[j].pl))∧(∃ va,xs[j*3+2]? = some va∧wr.ownsRow N 9 1 va F[j].mu.length (strsC F[j].mu))
theorem LaidT.next {wr wr':World} {N:Nat} {xs:List Value} {F:List Tn} {i:Nat} (hx:xs.length=F.length*3) (h:LaidT wr N xs F i) (hi:i<F.length) {va:Value} (hk:∀ k,N≤k→k<wr.heap.size→wr'.heap[k]? = wr.heap[k]?) (hva:wr'.ownsRow N 9 1 va F[i].mu.length (strsC F[i].mu)) :
 LaidT wr' N (((xs.set (i*3) (.int .i64 F[i].col)).set (i*3+1) (.string (strOf F[i].pl))).set (i*3+2) va) F (i+1):=by
 intro j m s
 by_cases e:j=i
 ·subst e; refine ⟨?_,?_,va,?_,hva⟩
  ·rw [List.getElem?_set_ne (by omega),List.getElem?_set_ne (by omega),List.getElem?_set_self (by omega)]
  ·rw [List.getElem?_set_ne (by omega),List.getElem?_set_self (by simp; omega)]
  rw [List.getElem?_set_self (by simp; omega)]
 obtain ⟨y,D,u,h2,hb⟩:=h j m (by omega); refine ⟨?_,?_,u,?_,own_other' hb (fun g hg=>hk g (own_base hb g hg) (hb.lt g hg).2)⟩<;>rw [List.getElem?_set_ne (by omega),List.getElem?_set_ne (by omega),List.getElem?_set_ne (by omega)]<;>assumption
theorem toTreeNodeS_any (v:Value) (F:List Tn) (w:World) (h:ArgTree w v F) (hs:F.length≤1048576∧∀ f∈F,SmallT f) :
 Calls Tryz.prog 17 #[v] w fun e w'=>∃ v',e=.returned v'∧(∃ p c,v'=.slice p F.length c)∧TreeAt w' v' F∧Up w w':=by
 obtain ⟨a,c,rfl,hc,d0,-,Y⟩:=h; unfold maxLen at d0; obtain ⟨i0,a3,d2,d3,d4⟩:=info_tn; have e6:=hs.1; have HA:=Hd Y; have b8:=Hd hs.2; clear Y hs
 go_enter Tryz.func17,Tryz.ntmps17
 go_wp2_with (at_make; refine wpList_make_full _ rfl _ _ 37 rfl w.heap.size 61 i0 _ 3 Tryz.underlying37 a3 d2 d3 .i64 .i64 _ _ F.length rfl rfl (by simp) (by simp) (by rw [d4]; omega) (by unfold maxLen; omega) leR ?_)
 intro w1 D Z; have b3:Hid (Up w w1):=(Below.refl _ _).grown Z leR (fun k e=>by cases e); have b6:=Hd D; clear D Z
 go_wp2_with fail
 go_loopw [4] (fun iv wr=>∃ (i:Nat) (xs:List Value),i≤F.length∧iv=.int .i64 i∧LaidT wr (w.heap.size+1) xs F i∧wr.ownsRow w.heap.size 61 3 (.slice (some ⟨w.heap.size,0,none⟩) F.length F.length) F.length xs∧Up w wr) (fun iv _=>F.length - (intOf iv).toNat)
 case atStart=>exact ⟨0,_,Nat.zero_le _,rfl,fun j _ h=>absurd h (Nat.not_lt_zero _),b6.o,b3.o⟩
 case round=>
  obtain ⟨i,xs,hi,rfl,u,s,K⟩:=hrel; have HB:=Hd K; have O:=Hd u; have c7:Hid (xs.length=F.length*3):=s.1; have HO:=Hd s; have I:Hid (w.heap.size<wr.heap.size):=(s.lt _ rfl).2
  by_cases y:i<F.length
  ·obtain ⟨b,off,rfl,hb,Y⟩:∃ b off,a=some ⟨b,off,none⟩∧b<w.heap.size∧∀ i (h:i<F.length),w.cell? ⟨b,off+i*3,none⟩=some (.int .i64 F[i].col)∧w.cell? ⟨b,off+i*3+1,none⟩=some (.string (strOf F[i].pl))∧(∃ va,w.cell? ⟨b,off+i*3+2,none⟩=some va∧ArgStrs w va F[i].mu):=by
    rcases HA.o with h|h
    ·rw [h] at y; exact absurd y (Nat.not_lt_zero _)
    ·exact h
   obtain ⟨k0,k1,va,k2,H⟩:=Y i y; rw [← K.cell (p:=⟨b,off+i*3,none⟩) hb] at k0; rw [← K.cell (p:=⟨b,off+i*3+1,none⟩) hb] at k1; rw [← K.cell (p:=⟨b,off+i*3+2,none⟩) hb] at k2; have J:=Hd (H.below K); have V:=Hd (b8.o _ (List.getElem_mem y)).1; have T:Hid (∀ wr' va,(∀ k,w.heap.size+1≤k→k<wr.heap.size→wr'.heap[k]? = wr.heap[k]?)→wr'.ownsRow (w.heap.size+1) 9 1 va F[i].mu.length (strsC F[i].mu)→LaidT wr' (w.heap.size+1) (((xs.set (i*3) (.int .i64 F[i].col)).set (i*3+1) (.string (strOf F[i].pl))).set (i*3+2) va) F (i+1)):=fun wr' va hk hv=>LaidT.next c7.o O.o y hk hv; obtain ⟨f,hf⟩:=exW (F[i]); rw [hf] at k0 k1 J V T; obtain ⟨pa,ca,rfl,-,-,-,-⟩:=H; rw [hf] at k2; rw [hf] at J; clear hf u s K Y
   go_wp2_with (go_at_call 35; refine (toTreeNode_any f _ _ J.o V.o).mono ?_; rintro e w2 ⟨g2,c2,rfl,a5,E⟩; have m:=row_below HO.o E; have b4:Hid (Up w w2):=HB.o.trans (E.mono HB.o.size); obtain ⟨x0,e0⟩:=row_at m (i*3) (by omega); obtain ⟨x1,e1⟩:=row_at m (i*3+1) (by omega); obtain ⟨x2,e2⟩:=row_at m (i*3+2) (by omega); have g0:=m.frozenAt (i*3); have g1:=m.frozenAt (i*3+1); have e3:=m.frozenAt (i*3+2); have b7:=Hd m; have U:=Hd a5; have b5:=Hd E; clear E m a5)
   have a6:=(((b7.o.stored (i*3) (.int .i64 f.col)).1.stored (i*3+1) (.string (strOf f.pl))).1.stored (i*3+2) (.slice (some ⟨g2,0,none⟩) f.mu.length c2)).1; have b9:=Hd a6; have hh:∀ k,k≠w.heap.size→(((w2.setCell ⟨w.heap.size,i*3,none⟩ (.int .i64 f.col)).setCell ⟨w.heap.size,i*3+1,none⟩ (.string (strOf f.pl))).setCell ⟨w.heap.size,i*3+2,none⟩ (.slice (some ⟨g2,0,none⟩) f.mu.length c2)).heap[k]? = w2.heap[k]? := fun k hk=>by rw [Below.heap_setCell _ ⟨w.heap.size,i*3+2,none⟩ _ _ hk,Below.heap_setCell _ ⟨w.heap.size,i*3+1,none⟩ _ _ hk,Below.heap_setCell _ ⟨w.heap.size,i*3,none⟩ _ _ hk]
   have M:=Hd hh; clear a6 hh
   go_roundw
   case rel=>
    refine ⟨i+1,_,by omega,by go_num,T.o _ (.slice (some ⟨g2,0,none⟩) f.mu.length c2) (fun k hk hk2=>(M.o k (by omega)).trans (b5.o.block k hk2)) ?_,b9.o,((b4.o.setCell (p:=⟨w.heap.size,i*3,none⟩) leR _).setCell (p:=⟨w.heap.size,i*3+1,none⟩) leR _).setCell (p:=⟨w.heap.size,i*3+2,none⟩) leR _⟩; exact own_lower (own_other' U.o (fun g hg=>M.o g (fun e=>by have:=own_base U.o g hg; have:=I.o; omega))) I.o
   case measure=>simp [intOf]; omega
  ·have d1:i=F.length:=by omega
   subst d1; clear s K u
   go_wp2_with fail
   go_ret
   refine ⟨_,rfl,⟨_,_,rfl⟩,⟨_,_,rfl,leR,by unfold maxLen; omega,.inr ⟨w.heap.size,0,rfl,I.o,fun j hj=>?_⟩⟩,HB.o⟩; obtain ⟨h0,h1,va,h2,H⟩:=O.o j hj hj; simp only [Nat.zero_add]; refine ⟨?_,?_,va,?_,strs_at H⟩
   ·rw [HO.o.cellAt (j*3) (by omega)]; exact h0
   ·rw [HO.o.cellAt (j*3+1) (by omega)]; exact h1
   ·rw [HO.o.cellAt (j*3+2) (by omega)]; exact h2
theorem eqTreeNode_same (f:Tn) (va vb:Value) (w:World) (h1:StrsAt w va f.mu) (h2:StrsAt w vb f.mu) :
 Calls Tryz.prog 37 #[.agg #[.int .i64 f.col,.string (strOf f.pl),va],.agg #[.int .i64 f.col,.string (strOf f.pl),vb]] w fun e w'=>e=.returned (.bool true)∧Up w w':=by
 have I:=Hd h1; have J:=Hd h2; obtain ⟨K,c1,rfl,-,-,-⟩:=h1; obtain ⟨M,c2,rfl,-,-,-⟩:=h2; generalize strOf f.pl=D; generalize f.col=k; obtain ⟨W2,j,m,E,H,-⟩:=box2 w [.int .i64 k,.string D,.slice K f.mu.length c1] [.int .i64 k,.string D,.slice M f.mu.length c2] 61 61; have y:=Hd j; have h:=Hd m; obtain ⟨b0,b1,b2⟩:=E.c3; obtain ⟨T,U,V⟩:=H.c3; clear j m E H
 go_enter Tryz.func37,Tryz.ntmps37
 go_wp2_with (rw [y.o])
 refine (eqStringS_same _ _ f.mu W2 (I.o.below h.o) (J.o.below h.o)).mono ?_; rintro e O ⟨rfl,s⟩; have u:Hid (Up w O):=h.o.trans (s.mono h.o.size); clear s
 go_wp2_with fail
 go_ret
 exact ⟨rfl,u.o⟩
theorem eqTreeNodeS_same (v1 v2:Value) (L:List Tn) (w:World) (h1:TreeAt w v1 L) (h2:TreeAt w v2 L) :
 Calls Tryz.prog 19 #[v1,v2] w fun e w'=>e=.returned (.bool true)∧Up w w':=by
 obtain ⟨p1,c1,rfl,l1,m1,r1⟩:=h1; obtain ⟨p2,c2,rfl,l2,m2,r2⟩:=h2; unfold maxLen at m1 m2; have H1:=Hd r1; have H2:=Hd r2; clear r1 r2
 go_enter Tryz.func19,Tryz.ntmps19
 go_wp2_with fail
 go_loopw [5] (fun iv wr=>∃ i:Nat,i≤L.length∧iv=.int .i64 (i:Nat)∧Up w wr) (fun iv _=>L.length - (intOf iv).toNat)
 case atStart=>exact ⟨0,Nat.zero_le _,rfl,Below.refl _ _⟩
 case round=>
  obtain ⟨i,hi,rfl,V⟩:=hrel; have u:=Hd V
  by_cases j:i<L.length
  ·obtain ⟨b1,m,rfl,y,K⟩:∃ b off,p1=some ⟨b,off,none⟩∧b<w.heap.size∧∀ i (h:i<L.length),w.cell? ⟨b,off+i*3,none⟩=some (.int .i64 L[i].col)∧w.cell? ⟨b,off+i*3+1,none⟩=some (.string (strOf L[i].pl))∧(∃ va,w.cell? ⟨b,off+i*3+2,none⟩=some va∧StrsAt w va L[i].mu):=by
    rcases H1.o with h|h
    ·rw [h] at j; exact absurd j (Nat.not_lt_zero _)
    ·exact h
   obtain ⟨b2,s,rfl,D,M⟩:∃ b off,p2=some ⟨b,off,none⟩∧b<w.heap.size∧∀ i (h:i<L.length),w.cell? ⟨b,off+i*3,none⟩=some (.int .i64 L[i].col)∧w.cell? ⟨b,off+i*3+1,none⟩=some (.string (strOf L[i].pl))∧(∃ va,w.cell? ⟨b,off+i*3+2,none⟩=some va∧StrsAt w va L[i].mu):=by
    rcases H2.o with h|h
    ·rw [h] at j; exact absurd j (Nat.not_lt_zero _)
    ·exact h
   obtain ⟨Y,Z,va,k2,H⟩:=K i j; obtain ⟨m0,m1,vb,m2,I⟩:=M i j; obtain ⟨f,hx⟩:=exW (L[i]); rw [hx] at Y Z m0 m1 H I; have T:=Hd H; have U:=Hd I; obtain ⟨pa,ca,rfl,-,-,-⟩:=H; obtain ⟨pb,cb,rfl,-,-,-⟩:=I; have J:Hid (∀ W,Up w W→W.cell? ⟨b1,m+i*3,none⟩=some (.int .i64 f.col)∧W.cell? ⟨b1,m+i*3+1,none⟩=some (.string (strOf f.pl))∧W.cell? ⟨b1,m+i*3+2,none⟩=some (.slice pa f.mu.length ca)∧W.cell? ⟨b2,s+i*3,none⟩=some (.int .i64 f.col)∧W.cell? ⟨b2,s+i*3+1,none⟩=some (.string (strOf f.pl))∧W.cell? ⟨b2,s+i*3+2,none⟩=some (.slice pb f.mu.length cb)):=fun W h=>⟨(h.cell (p:=⟨b1,m+i*3,none⟩) y).trans Y,(h.cell (p:=⟨b1,m+i*3+1,none⟩) y).trans Z,(h.cell (p:=⟨b1,m+i*3+2,none⟩) y).trans k2,(h.cell (p:=⟨b2,s+i*3,none⟩) D).trans m0,(h.cell (p:=⟨b2,s+i*3+1,none⟩) D).trans m1,(h.cell (p:=⟨b2,s+i*3+2,none⟩) D).trans m2⟩; clear V K M hx Y Z k2 m0 m1 m2; have i1:(i:Int)<(L.length:Int):=by omega
   go_wp2_with fail
   go_region_held3 (fun W=>W.cell? ⟨b1,m+i*3,none⟩=some (.int .i64 f.col)∧W.cell? ⟨b1,m+i*3+1,none⟩=some (.string (strOf f.pl))∧W.cell? ⟨b1,m+i*3+2,none⟩=some (.slice pa f.mu.length ca)∧W.cell? ⟨b2,s+i*3,none⟩=some (.int .i64 f.col)∧W.cell? ⟨b2,s+i*3+1,none⟩=some (.string (strOf f.pl))∧W.cell? ⟨b2,s+i*3+2,none⟩=some (.slice pb f.mu.length cb))
    (first
      | exact J.o _ u.o.drew
      | exact J.o _ (u.o.drew.trans (E.mono u.o.size)))
    ((go_at_call 37; refine (eqTreeNode_same f _ _ _ (T.o.below u.o.drew) (U.o.below u.o.drew)).mono ?_; rintro e w2 ⟨rfl,E⟩))
   all_goals
    have O:Hid (Up w w2):=u.o.drew.trans (E.mono u.o.size); clear E
    go_wp2_with fail
    go_roundw
    case rel=>exact ⟨i+1,by omega,by go_num,O.o⟩
    case measure=>simp [intOf]; omega
  ·clear V
   go_wp2_with fail
   go_ret
   exact ⟨rfl,u.o⟩
theorem mul64_one (n:Nat) (w:World) (hn:n≤20) :
 Calls Tryz.prog 152 #[.int .u64 1,.int .u64 (n:Nat)] w fun e w'=>e=.returned (.tuple #[.int .u64 0,.int .u64 (n:Nat)])∧Up w w':=by
 have h:n=0∨n=1∨n=2∨n=3∨n=4∨n=5∨n=6∨n=7∨n=8∨n=9∨n=10∨n=11∨n=12∨n=13∨n=14∨n=15∨n=16∨n=17∨n=18∨n=19∨n=20:=by omega
 rcases h with rfl|rfl|rfl|rfl|rfl|rfl|rfl|rfl|rfl|rfl|rfl|rfl|rfl|rfl|rfl|rfl|rfl|rfl|rfl|rfl|rfl
 all_goals
  go_enter Tryz.func152,Tryz.ntmps152
  go_wp2_with fail
  refine bodyPost_ret (v:=.tuple #[.int .u64 0,.int .u64 _]) ?_ rfl ⟨rfl,Below.refl _ _⟩; simp [results,Tryz.results152,go_sem]
  first
   | kernel_rfl
   | (constructor<;>kernel_rfl)
theorem bitsMul_one (n:Nat) (w:World) (hn:n≤20) :
 Calls Tryz.prog 141 #[.int .u64 1,.int .u64 (n:Nat)] w fun e w'=>e=.returned (.tuple #[.int .u64 0,.int .u64 (n:Nat)])∧Up w w':=by
 have j:=Hd (mul64_one n)
 go_enter Tryz.func141,Tryz.ntmps141
 go_wp2_with (go_at_call 152; refine (j.o _ hn).mono ?_; rintro e w' ⟨rfl,hb⟩; have h:=Hd hb; clear hb)
 refine bodyPost_ret (v:=.tuple #[.int .u64 0,.int .u64 (n:Nat)]) ?_ rfl ⟨rfl,h.o⟩; simp [results,Tryz.results141,go_sem]
def fillL (n k:Nat):List Value:=List.replicate k (.string (strOf [48]))++List.replicate (n - k) (.string ⟨#[]⟩)
theorem fillL_len {n k:Nat} (h:k≤n):(fillL n k).length=n:=by unfold fillL; simp; omega
theorem fillL_all (n:Nat):fillL n n=strsC (List.replicate n [48]):=by unfold fillL strsC; simp
theorem fillL_splice {n k m:Nat} (hk:k+m≤n):splice (fillL n k) k (List.replicate m (.string (strOf [48])))=fillL n (k+m):=by
 unfold splice fillL; rw [List.take_left' (by simp),List.length_replicate,List.drop_append,List.length_replicate,List.drop_replicate,List.drop_replicate,show k - (k+m)=0 by omega,show n - k - (k+m - k)=n - (k+m) by omega,List.replicate_zero,List.nil_append,← List.append_assoc,List.replicate_append_replicate]
theorem made_fill (n:Nat):(madeCells #[.string ⟨#[]⟩] n).toList=fillL n 0:=by
 unfold fillL madeCells; refine List.ext_getElem? fun i=>?_
 by_cases h:i<n
 ·simp [h]; rw [Nat.mod_one]; rfl
 simp [h]
theorem own_heap {w:World} {base g n:Nat} {e:TypeId} {xs:List Value} (h:w.ownsRow base e 1 (.slice (some ⟨g,0,none⟩) n n) n xs):w.heap[g]? = some (.cells xs.toArray e (0,0)):=by
 rcases h.2 with ⟨m,_⟩|⟨y,cap,j,u,_,hb,_,_,D,s⟩
 ·cases m
 cases u; rw [hb,← s,List.take_of_length_le (by simp; omega)]
theorem heap_own {w:World} {base g n:Nat} {e:TypeId} {xs:List Value} (h:w.heap[g]? = some (.cells xs.toArray e (0,0))) (hb:base≤g) (hl:xs.length=n) (hn:n≤maxLen):w.ownsRow base e 1 (.slice (some ⟨g,0,none⟩) n n) n xs:=
 ⟨by omega,.inr ⟨g,n,_,rfl,hb,h,leR,hn,by simp [hl],by rw [Nat.mul_one,← hl]; simp⟩⟩
theorem copy_fill (w0 W:World) (R n k m:Nat) (ad:Addr) (sLen sCap:Nat) (hk:k+m≤n) (hm:m=Nat.min sLen (n - k)) (hR:W.heap[R]? = some (.cells (fillL n k).toArray 9 (0,0))) (hsrc:∀ j,j<m→W.cell? (ad.add j)=some (.string (strOf [48]))) (hRw:w0.heap.size≤R) (hB:Up w0 W) :
 ∃ W',(∀ ty dCap,(Builtin.copy_ #[42,42] ty #[.slice (some ⟨R,k,none⟩) (n - k) dCap,.slice (some ad) sLen sCap]).run Tryz.prog W=.ok (goInt m) W')∧W'.heap[R]? = some (.cells (fillL n (k+m)).toArray 9 (0,0))∧Up w0 W':=by
 obtain ⟨I,s,E,y,H⟩:=info_str; have u:(Tryz.prog.info? 9).map (·.size)=some 1:=by rw [s]; simp [y]
 have hl:(List.replicate m (Value.string (strOf [48]))).length=m:=List.length_replicate; refine ⟨W.setRow R (splice (fillL n k) k (List.replicate m (.string (strOf [48])))).toArray,fun ty dCap=>?_,?_,below_setRow hB hRw _⟩
 ·have h:=Go.run_copy_row (P:=Tryz.prog) W 42 42 ty 9 R k (n - k) dCap ad sLen sCap (fillL n k).toArray 9 (List.replicate m (.string (strOf [48]))) Tryz.underlying42 u hR (by rw [hl]; exact hm) (fun j v hj=>by
   obtain ⟨D,h2⟩:=List.getElem?_eq_some_iff.1 hj; rw [hl] at D; rw [List.getElem_replicate] at h2; rw [← h2]; exact hsrc j D) (by rw [hl,List.size_toArray,fillL_len (by omega)]; exact hk) (fun v hv=>by rw [(List.mem_replicate.1 hv).2]; rfl)
  simpa [splice,hl] using h
 rw [← fillL_splice hk]; exact setRow_heap W R _ _ _ _ hR
theorem repeat_any (g n:Nat) (w:World) (hn:n≤20) (hx:Bx w g [.string (strOf [48])]) :
 Calls Tryz.prog 121 #[.slice (some ⟨g,0,none⟩) 1 1,.int .i64 (n:Nat)] w fun e w'=>∃ g',e=.returned (.slice (some ⟨g',0,none⟩) n n)∧w'.ownsRow w.heap.size 9 1 (.slice (some ⟨g',0,none⟩) n n) n (strsC (List.replicate n [48]))∧Up w w':=by
 have HX:=Hd hx; have y0:decide ((n:Int)<0)=false:=decide_eq_false (by omega); have y1:decide ((9223372036854775807:Int)<(n:Int))=false:=decide_eq_false (by omega); obtain ⟨i0,H,d7,b4,d8⟩:=info_str; clear hx
 go_enter Tryz.func121,Tryz.ntmps121
 go_wp2_with fail
 refine (bitsMul_one n w hn).mono ?_; rintro e y ⟨rfl,Y⟩; have I:=Hd Y; clear Y
 go_wp2_with (at_make; refine wpList_make_full _ rfl _ _ 42 rfl y.heap.size 9 i0 (.string ⟨#[]⟩) 1 Tryz.underlying42 H d7 b4 .i64 .i64 _ _ n rfl rfl (by simp) (by simp) (by rw [d8]; omega) (by unfold maxLen; omega) leR ?_)
 intro w2 h a5; rw [made_fill] at h; have a7:=own_heap h; have b8:=Hd a7; have O:Hid (Up w w2):=I.o.grown a5 I.o.size (fun k e=>by cases e); have J:Hid (w.heap.size≤y.heap.size):=I.o.size; have c9:=Hd (HX.o.below HX.o.lt O.o); have e2:(Tryz.prog.info? 9).map (·.size)=some 1:=by rw [H]; simp [b4]
 clear h a5 a7; obtain ⟨w3,s,D,Z⟩:=copy_fill w w2 y.heap.size n 0 (Nat.min 1 n) ⟨g,0,none⟩ 1 1 (by rw [Nat.zero_add]; exact Nat.min_le_right _ _) rfl b8.o (fun j hj=>by
  have d2:j=0:=by have:=Nat.lt_of_lt_of_le hj (Nat.min_le_left 1 n); omega
  subst d2; exact c9.o.cell 0) J.o O.o
 have b3:∀ ty,(Builtin.copy_ #[42,42] ty #[.slice (some ⟨y.heap.size,0,none⟩) (n - 0) n,.slice (some ⟨g,0,none⟩) 1 1]).run Tryz.prog w2=.ok (goInt (Nat.min 1 n:Nat)) w3:=fun ty=>s ty n; obtain ⟨m,hm⟩:=exW (Nat.min 1 n); simp only [hm,Nat.sub_zero] at b3; rw [hm] at D; rw [Nat.zero_add] at D; have d6:m≤n:=by rw [← hm]; exact Nat.min_le_right _ _
 have V:Hid (m=0→n=0):=fun e=>by have h1:min 1 n=m:=hm; omega
 have U:=Hd D; have T:=Hd Z; clear s D Z hm
 go_wp2_with fail
 clear b3
 go_loopw [8] (fun kv wr=>∃ k:Nat,k≤n∧kv=.int .i64 (k:Nat)∧(k=0→n=0)∧wr.heap[y.heap.size]? = some (.cells (fillL n k).toArray 9 (0,0))∧Up w wr) (fun kv _=>n - (intOf kv).toNat)
 case atStart=>exact ⟨m,d6,rfl,V.o,U.o,T.o⟩
 case round=>
  obtain ⟨k,hk,rfl,a8,hh,hB⟩:=hrel; have HH:=Hd hh; have HB:=Hd hB; have c7:=Hd a8; clear a8 V U T
  by_cases e6:k<n
  ·have e5:0<k:=by
    rcases Nat.eq_zero_or_pos k with e|e
    ·have:=c7.o e; omega
    ·exact e
   obtain ⟨w4,u,M,a3⟩:=copy_fill w wr.drew y.heap.size n k (Nat.min k (n - k)) ⟨y.heap.size,0,none⟩ k n (by have:min k (n - k)≤n - k:=Nat.min_le_right _ _; show k+min k (n - k)≤n; omega) rfl hh (fun j hj=>by
    have d1:j<k:=Nat.lt_of_lt_of_le hj (Nat.min_le_left _ _); rw [add0,Nat.zero_add,cell_of_row wr.drew y.heap.size j _ _ _ hh]; unfold fillL; simp [List.getElem?_append_left,d1]) J.o hB.drew
   obtain ⟨m',E⟩:=exW (Nat.min k (n - k)); have d4:min k (n - k)=m':=E; have e7:∀ ty,(Builtin.copy_ #[42,42] ty #[.slice (some ⟨y.heap.size,k,none⟩) (n - k) (n - k),.slice (some ⟨y.heap.size,0,none⟩) k n]).run Tryz.prog wr.drew=.ok (goInt m') w4:=fun ty=>by
    have:=u ty (n - k); rw [E] at this; exact this
   rw [E] at M; have d5:0<m'∧k+m'≤n:=by omega
   have b9:=Hd M; have b7:=Hd a3; have K:=Hd d5; clear u M a3 E d4 hh hB; have i1:(k:Int)≤(n:Int):=by omega
   have i2:¬ n=k:=by omega
   go_wp2_with fail
   go_region
   all_goals
    go_wp2_with fail
    go_roundw
    case rel=>exact ⟨k+m',K.o.2,by go_num,fun e=>by have:=K.o.1; omega,b9.o,b7.o⟩
    case measure=>have:=K.o; simp [intOf]; omega
  ·have d3:k=n:=by omega
   subst d3; clear hh hB
   go_wp2_with fail
   go_ret
   have h1:=HH.o; rw [fillL_all] at h1; exact ⟨y.heap.size,rfl,heap_own h1 J.o (by simp [strsC]) (by unfold maxLen; omega),HB.o⟩
def oneRow (n col:Nat) (co bd:List UInt8):Lr:=⟨(List.replicate n [48]).set col co,false,bd⟩
theorem oneRow_len (n col:Nat) (co bd:List UInt8):(oneRow n col co bd).cs.length=n:=by unfold oneRow; simp
theorem columnRow_any (n col:Nat) (co bd:List UInt8) (w:World) (hn:n≤20) (hc:col<n) :
 Calls Tryz.prog 94 #[.int .i64 (n:Nat),.int .i64 (col:Nat),.string (strOf co),.string (strOf bd)] w fun e w'=>∃ g,e=.returned (.agg #[.slice (some ⟨g,0,none⟩) n n,.bool false,.string (strOf bd)])∧w'.ownsRow w.heap.size 9 1 (.slice (some ⟨g,0,none⟩) n n) n (strsC (oneRow n col co bd).cs)∧Up w w':=by
 obtain ⟨y,D⟩:=exW (w.alloc (.cells #[.slice none 0 0,.bool false,.string ⟨#[]⟩] 50)); have O:Hid (Up w y):=by unfold Hid; rw [← D]; exact below_alloc _ _
 have E:Hid (Bx y w.heap.size [.slice none 0 0,.bool false,.string ⟨#[]⟩]):=by unfold Hid; rw [← D]; exact bx_new w _ _
 have Y:=Hd D; clear D
 go_enter Tryz.func94,Tryz.ntmps94
 go_wp2_with (rw [Y.o])
 have I:Hid (Up w (y.alloc (.cells #[.string ⟨#[48]⟩] 9))):=up_alloc O.o _; refine (repeat_any y.heap.size n _ hn (bx_new y [.string (strOf [48])] 9)).mono ?_; rintro e w3 ⟨u,rfl,h,H⟩; have T:Hid (Up w w3):=I.o.trans (H.mono I.o.size); have a6:=own_base h u rfl; simp only [World.size_alloc] at a6; have M:=E.o.below E.o.lt (((below_alloc y (.cells #[.string ⟨#[48]⟩] 9)).trans (H.mono (below_alloc y (.cells #[.string ⟨#[48]⟩] 9)).size))); have s:w.heap.size<y.heap.size:=E.o.lt; obtain ⟨x0,k0⟩:=row_at h col (by omega); have f0:=h.frozenAt col; have K:=(h.stored col (.string (strOf co))).1; obtain ⟨W4,m⟩:=exW (w3.setCell ⟨u,col,none⟩ (.string (strOf co))); have j:Bx W4 w.heap.size [.slice none 0 0,.bool false,.string ⟨#[]⟩]:=by rw [← m]; exact bx_one M (by omega) _ _
 have V:Hid (W4.ownsRow y.heap.size 9 1 (.slice (some ⟨u,0,none⟩) n n) n (strsC (oneRow n col co bd).cs)):=by
  unfold Hid oneRow; rw [← m,← strsC_set]; exact own_lower K (by simp)
 have U:Hid (Up w W4):=by unfold Hid; rw [← m]; exact T.o.setCell (p:=⟨u,col,none⟩) (by show w.heap.size≤u; omega) _
 have a3:=Hd j; have Z:=Hd m; obtain ⟨t0,t1,t2⟩:=j.c3; have t3:=j.frozen 0; have t4:=j.frozen 1; have t5:=j.frozen 2; have i1:(col:Int)<(n:Int):=by omega
 clear h H M K m j
 go_wp2_with (rw [Z.o])
 have hE:=((a3.o.set 0 (.slice (some ⟨u,0,none⟩) n n)).set 1 (.bool false)).set 2 (.string (strOf bd)); obtain ⟨e0,e1,e2⟩:=hE.c3; have hO:=own_lower (ownsRow_setCell_below (ownsRow_setCell_below (ownsRow_setCell_below V.o (a:=⟨w.heap.size,0,none⟩) s (.slice (some ⟨u,0,none⟩) n n)) (a:=⟨w.heap.size,1,none⟩) s (.bool false)) (a:=⟨w.heap.size,2,none⟩) s (.string (strOf bd))) (base':=w.heap.size) (by omega); have J:=((U.o.setCell (p:=⟨w.heap.size,0,none⟩) leR (.slice (some ⟨u,0,none⟩) n n)).setCell (p:=⟨w.heap.size,1,none⟩) leR (.bool false)).setCell (p:=⟨w.heap.size,2,none⟩) leR (.string (strOf bd)); refine bodyPost_ret (v:=.agg #[.slice (some ⟨u,0,none⟩) n n,.bool false,.string (strOf bd)]) ?_ rfl ⟨u,rfl,hO,J⟩; clear hE hO J; simp [results,Tryz.results94,go_sem,e0,e1,e2]
theorem clip_any (p:Option Addr) (n c:Nat) (w:World) (hc:n≤c) (_hm:c≤maxLen) :
 Calls Tryz.prog 96 #[.slice p n c] w fun e w'=>e=.returned (.slice p n n)∧w'=w:=by
 unfold maxLen at _hm
 go_enter Tryz.func96,Tryz.ntmps96
 go_wp2_with fail
 go_ret
 exact ⟨rfl,rfl⟩
theorem rows_cells {w:World} {p:Option Addr} {c:Nat} {F:List Lr} (h:RowsAt w (.slice p F.length c) F):∃ A:List Value,A.length=F.length∧(∀ b,p=some b→∀ j u,(cellsR F A)[j]? = some u→w.cell? (b.add j)=some u)∧∀ i (h:i<A.length) (h':i<F.length),StrsAt w A[i] F[i].cs:=by
 obtain ⟨U,T,e,_,_,h3⟩:=h; simp only [Value.slice.injEq] at e; obtain ⟨rfl,-,rfl⟩:=e
 rcases h3 with rfl|⟨b,rfl,hb,E⟩
 ·exact ⟨[],rfl,fun _ _ j u hj=>by simp [cellsR] at hj,fun i h=>absurd h (Nat.not_lt_zero _)⟩
 obtain ⟨A,hl,H⟩:=list_of (Q:=fun i va=>∀ (h:i<F.length),w.cell? ⟨b,i*3,none⟩=some va∧StrsAt w va F[i].cs) F.length (fun i hi=>by
  obtain ⟨⟨va,D,K⟩,_⟩:=E i hi; exact ⟨va,fun _=>⟨D,K⟩⟩)
 refine ⟨A,hl,fun b' e j u hj=>?_,fun i h h'=>(H i h h').2⟩
 cases e
 have y:=(List.getElem?_eq_some_iff.1 hj).1; rw [cellsR_len F A hl] at y; obtain ⟨q,m,M⟩:∃ q,q<F.length∧(j=q*3∨j=q*3+1∨j=q*3+2):=⟨j / 3,by omega,by omega⟩; have s:q<A.length:=by rw [hl]; exact m
 obtain ⟨I,e1,J⟩:=cellsR_at F A q m s; obtain ⟨_,O,k2⟩:=E q m; have D:=(H q s m).1; rw [add0,Nat.zero_add]
 rcases M with rfl|rfl|rfl
 ·rw [I] at hj; rw [D]; exact hj
 ·rw [e1] at hj; rw [O]; exact hj
 rw [J] at hj; rw [k2]; exact hj
theorem rows_grown {w:World} {base:Nat} {v va:Value} {F:List Lr} {A:List Value} {f:Lr} (h:w.ownsRow base 50 3 v (F.length+1) (cellsR F A++[va,.bool f.st,.string (strOf f.bd)])) (hl:A.length=F.length) (hA:∀ i (h:i<A.length) (h':i<F.length),StrsAt w A[i] F[i].cs) (hv:StrsAt w va f.cs):RowsAt w v (F++[f]):=by
 rw [← cellsR_app F A f va hl] at h; obtain ⟨p,c,rfl,D,h2,h3⟩:=own_row h; have j:(F++[f]).length=F.length+1:=by simp
 refine ⟨p,c,by rw [j],by rw [j]; exact D,h2,?_⟩
 rcases h3 with h3|⟨g,rfl,E⟩
 ·omega
 refine .inr ⟨g,rfl,E,fun i hi=>?_⟩; have m:i<(A++[va]).length:=by simp at hi ⊢; omega
 obtain ⟨u,e1,y⟩:=cellsR_at (F++[f]) (A++[va]) i hi m; refine ⟨⟨(A++[va])[i],own_read h u,?_⟩,own_read h e1,own_read h y⟩
 by_cases e:i<F.length
 ·have s:i<A.length:=by rw [hl]; exact e
  rw [List.getElem_append_left s,List.getElem_append_left e]; exact hA i s e
 have e1:i=F.length:=by simp at hi; omega
 subst e1; rw [List.getElem_append_right leR,List.getElem_append_right (by rw [hl]; exact leR)]; simp only [Nat.sub_self,List.getElem_cons_zero,hl]; exact hv
theorem withRow_any (v va:Value) (F:List Lr) (f:Lr) (w:World) (h:RowsAt w v F) (hva:StrsAt w va f.cs) (hl:F.length≤1000) :
 Calls Tryz.prog 57 #[v,.agg #[va,.bool f.st,.string (strOf f.bd)]] w fun e w'=>∃ v',e=.returned v'∧RowsAt w' v' (F++[f])∧Up w w':=by
 have H:=Hd h; have HV:=Hd hva; obtain ⟨Z,O,rfl,-,-,-⟩:=hva; obtain ⟨p,c,rfl,h1,h2,h3⟩:=h; have hp:p=none→F.length=0:=fun e=>by
  rcases h3 with h3|⟨b,e2,_⟩
  ·rw [h3]; rfl
  rw [e] at e2; cases e2
 have HP:=Hd hp; have a8:=Hd (clip_any p F.length c); obtain ⟨W1,s⟩:=exW (w.alloc (.cells #[.slice Z f.cs.length O,.bool f.st,.string (strOf f.bd)] 50)); have HB1:Hid (Up w W1):=by unfold Hid; rw [← s]; exact below_alloc _ _
 have b5:Hid (Bx W1 w.heap.size [.slice Z f.cs.length O,.bool f.st,.string (strOf f.bd)]):=by unfold Hid; rw [← s]; exact bx_new w _ _
 have b4:=Hd s; obtain ⟨b0,b1,b2⟩:=b5.o.c3; obtain ⟨i0,Y,b6,b7,b8⟩:=info_row; clear s h3 hp
 go_enter Tryz.func57,Tryz.ntmps57
 go_wp2_with (rw [b4.o])
 obtain ⟨A,E,T,U⟩:=rows_cells H.o; have V:=cellsR_len F A E; have a6:=Hd E; have a5:=Hd T; have a7:=Hd U; have J:=Hd V; have D:∀ u∈[Value.slice Z f.cs.length O,.bool f.st,.string (strOf f.bd)],u.oneCell'=true:=by simp [Value.oneCell']
 have M:=Hd D; have K:Hid (∀ (W:World) (o:Obj),Up W1 W→∀ b,p=some b→∀ j u,(cellsR F A)[j]? = some u→(W.alloc o).cell? (b.add j)=some u):=fun W o hW b hb j u hj=>by
  have hw:=a5.o b hb j u hj; have h2:=HB1.o.trans (hW.mono HB1.o.size); have h3:=up_alloc h2 o; exact (h3.cell (p:=b.add j) (World.block_lt_of_cell? w _ hw)).trans hw
 have a9:Hid (p=none→F.length=0∧F.length=0):=fun e=>⟨HP.o e,HP.o e⟩; clear E T U V D
 go_region_law (first
  | (refine step_append_grows (by rfl) _ _ 25 (by rfl) 50 i0 _ 3 48 Tryz.underlying25 Y b6 b7 b8 (by rfl) (by decide) p F.length F.length (cellsR F A) (by rfl) a9.o J.o (K.o _ _ (by first|exact Below.refl _ _|exact (Below.refl _ _).drew)) ⟨W1.heap.size,0,none⟩ 1 1 [.slice Z f.cs.length O,.bool f.st,.string (strOf f.bd)] (by rfl) (by rfl) (World.news_of_block (cs:=#[.slice Z f.cs.length O,.bool f.st,.string (strOf f.bd)]) (t:=50) (fr:=(0,0)) (heap_alloc_new _ _)) M.o (by omega) (by unfold maxLen; omega) (by omega) ?_; intro v5 w5 m y; obtain ⟨p5,c5,rfl,d3⟩:=own_form m; have b3:=Hd m; have HG5:=Hd y; clear m y)
  | (go_simp; refine (a8.o _ h1 h2).mono ?_; rintro e w' ⟨rfl,rfl⟩; go_wp2_with fail))
 all_goals
  go_wp2_with fail
  go_ret
  have I:Up w w5:=by
   first
    | exact (up_alloc HB1.o _).drew.grown HG5.o (up_alloc HB1.o _).drew.size (fun k e=>by cases e)
    | exact (up_alloc HB1.o.drew _).grown HG5.o (up_alloc HB1.o.drew _).size (fun k e=>by cases e)
  exact ⟨_,rfl,rows_grown b3.o a6.o (fun i hi hi'=>(a7.o i hi hi').below I) (HV.o.below I),I⟩
def placeOk (s:List UInt8):Bool:=isIntB (strOf s)&&decide ((dgs (strOf s)).size<40)
theorem isPlace_any (s:List UInt8) (w:World) (hs:s.length≤1048576) :
 Calls Tryz.prog 93 #[.string (strOf s)] w fun e w'=>e=.returned (.bool (placeOk s))∧Up w w':=by
 have u:=strOf_size s; have h2:(strOf s).size≤maxLen:=by unfold maxLen; omega
 have h3:=dgs_size (strOf s); unfold placeOk; obtain ⟨X,j⟩:=exW (strOf s); rw [j] at h2 h3 ⊢; obtain ⟨b,hb⟩:=exW (isIntB X); have m:=Hd hb; obtain ⟨D,h⟩:=exW (dgs X); have y:=Hd h; rw [hb,h]; have E:(D.size:Int)≤1048576:=by rw [h] at h3; rw [j] at u; omega
 clear hb h j u h3
 cases b
 ·go_enter Tryz.func93,Tryz.ntmps93
  go_wp2_with (go_at_call 103; refine (isInt_impl _ _ h2).mono ?_; rintro e w' ⟨rfl,rfl⟩; rw [m.o])
  go_ret
  exact ⟨rfl,Below.refl _ _⟩
 go_enter Tryz.func93,Tryz.ntmps93
 go_wp2_with (first
  | (go_at_call 103; refine (isInt_impl _ _ h2).mono ?_; rintro e w' ⟨rfl,rfl⟩; rw [m.o])
  | (go_at_call 77; refine (trim_any _ _ h2).mono ?_; rintro e w' ⟨rfl,rfl⟩; rw [y.o]))
 go_ret
 refine ⟨ret_bool ?_,Below.refl _ _⟩; rw [Bool.true_and,decide_eq_decide]; omega
end Go.Proofs.YtfclfbpjjlinhaaGreatDoor.L
