import Derived.Test.YtnhbmpnhijgpmaaGreatDoorU1p
set_option maxRecDepth 100000
set_option maxHeartbeats 2000000
namespace Go.Proofs.YtnhbmpnhijgpmaaGreatDoor
open Go.ChangeShapes Go.WideShapes Go.ChangeAt Go.RowKit
theorem cutP_size (s:ByteArray) (k:Option Nat):(cutP s k).size≤s.size:=by
 cases k with
 | none=>exact leR
 | some i=>show (s.extract 0 i).size≤s.size; rw [ByteArray.size_extract]; omega
theorem cutQ_size (s:ByteArray) (k:Option Nat):(cutQ s k).size≤s.size:=by
 cases k with
 | none=>exact Nat.zero_le _
 | some i=>show (s.extract (i+1) s.size).size≤s.size; rw [ByteArray.size_extract]; omega
theorem readRational_any (s:ByteArray) (k:Option Nat) (w:World) (hs:s.size≤maxLen) (hk:IsCut s k) (hSP:SP w) (hNS:NS w) (hLT:LT w) :
 Calls Tryz.prog 45 #[.string s] w fun e w'=>∃ z ok,e=.returned (.tuple #[z,.bool ok])∧ReadR w.heap.size w' s k z ok∧Up w w':=by
 have HK:=Hd hk; have l4:=Hd hSP; have o6:=Hd hNS; have o5:=Hd hLT; clear hk hSP hNS hLT; obtain ⟨p,hp⟩:=exW (cutP s k); obtain ⟨q,hq⟩:=exW (cutQ s k); obtain ⟨b,hb⟩:=exW k.isSome; have HP:Hid (cutP s k=p∧cutQ s k=q∧k.isSome=b):=⟨hp,hq,hb⟩; have m9:p.size≤maxLen:=by rw [← hp]; exact Nat.le_trans (cutP_size s k) hs
 have n0:q.size≤maxLen:=by rw [← hq]; exact Nat.le_trans (cutQ_size s k) hs
 have d6:Hid (s.size≤maxLen∧p.size≤maxLen∧q.size≤maxLen):=⟨hs,m9,n0⟩; clear hp hq hb m9 n0; obtain ⟨W0,e5⟩:=exW (w.alloc (.cells #[.bool false,.slice none 0 0,.bool false,.slice none 0 0] 57)); have o8:=Hd e5; have D:Hid (Up w W0):=by unfold Hid; rw [← e5]; exact below_alloc _ _
 have i6:Bx W0 w.heap.size [.bool false,.slice none 0 0,.bool false,.slice none 0 0]:=by rw [← e5]; exact bx_new w _ _
 have HX:Hid (∀ W,Up W0 W→Bx W w.heap.size [.bool false,.slice none 0 0,.bool false,.slice none 0 0]):=fun W hW=>i6.below i6.lt hW; clear e5 i6
 go_enter Tryz.func45,Tryz.ntmps45
 go_wp2_with fail
 rw [o8.o]; refine (cutForm_any s k _ d6.o.1 HK.o).mono ?_; rintro e w1 ⟨rfl,e7⟩; rw [HP.o.1,HP.o.2.1,HP.o.2.2]; obtain ⟨T,a8⟩:=exW ((w1.alloc (.cells #[.string p,.bool b,.string q] 94)).alloc (.cells #[.string p,.bool false,.string ⟨#[]⟩] 94)); have o9:=Hd a8; have g9:Up w1 T:=by rw [← a8]; exact below_al (below_alloc _ _) _
 have e8:Bx T w1.heap.size [.string p,.bool b,.string q]:=by rw [← a8]; exact (bx_new w1 _ _).alloc _
 have m7:Bx T (w1.heap.size+1) [.string p,.bool false,.string ⟨#[]⟩]:=by
  rw [← a8]; have h:=bx_new (w1.alloc (.cells #[.string p,.bool b,.string q] 94)) [.string p,.bool false,.string ⟨#[]⟩] 94; rw [World.size_alloc] at h; exact h
 have H:Hid (Up W0 T):=e7.trans (g9.mono e7.size); have j6:Hid (∀ W,Up T W→Bx W w1.heap.size [.string p,.bool b,.string q]):=fun W hW=>e8.below e8.lt hW; have u5:w.heap.size<w1.heap.size:=by have:=e7.size; have:=(HX.o W0 (Below.refl _ _)).lt; omega
 clear a8 g9 e7; obtain ⟨k0,k1,k2⟩:=e8.k3; obtain ⟨j0,j1,j2⟩:=m7.k3; clear e8 m7
 go_upto_region 3 with fail
 rw [o9.o]; have E:Hid (Up w T):=D.o.trans (H.o.mono D.o.size)
 cases k with
 | none=>
   have f9:∀ W,(Op.equalIn 10000 94 (.agg #[.string p,.bool b,.string q]) (.agg #[.string p,.bool false,.string ⟨#[]⟩])).run Tryz.prog W=.ok true W:=fun W=>by
    rw [eqForm,← HP.o.2.1,← HP.o.2.2]; have:(cutQ s none).toList=(⟨#[]⟩:ByteArray).toList:=rfl; rw [this]; simp
   have l0:Hid (p=s):=HP.o.1.symm
   go_wp2_with fail
   refine (readInteger_any p _ d6.o.2.1).mono ?_; rintro e K ⟨n,a,l,c,rfl,hI,b4⟩; have HI:=Hd hI; have G:=Hd b4; obtain ⟨ok,A⟩:=exW (isIntB p); have a5:=Hd A; rw [A]; clear hI b4 A k0 k1 k2 j0 j1 j2 f9
   go_wp2_with fail
   refine (wholeRational_any n a l c _).mono ?_; rintro e w4 ⟨s2,p2,l2,c2,rfl,h7,m5⟩; have b5:Up K w4:=(below_alloc K _).trans (m5.mono (by simp)); have o3:Hid (Up T w4):=G.o.trans (b5.mono G.o.size); have m:Hid (Up W0 w4):=H.o.trans (o3.o.mono H.o.size); have k9:Hid (IsI w.heap.size w4 (.agg #[.bool s2,.slice p2 l2 c2]) 1 300):=h7.mono (by have:=E.o.size; have:=G.o.size; simp; omega) (by omega); have a3:Hid (ok=true→IsI w.heap.size w4 (.agg #[.bool n,.slice a l c]) (numT s) 300):=fun e=>by
    have hi:isIntB p=true:=a5.o.trans e; obtain ⟨hn,hL⟩:=HI.o hi; have O:IsI T.heap.size K (.agg #[.bool n,.slice a l c]) (numT p) 280:=⟨isNeg p,_,lim p,by rw [hn]; rfl,hL,trimL_trim _,rfl,lim_len' p hi⟩; rw [l0.o] at O; exact (O.below b5).mono E.o.size (by omega)
   have j:=HX.o w4 m.o; obtain ⟨r0,r1,r2,r3⟩:=j.k4; obtain ⟨f0,f1,f2,f3⟩:=j.f4; clear h7 m5 b5 j
   go_wp2
   have j:=HX.o w4 m.o; have f7:NoInt w4 w.heap.size:=noInt_of j (by simp); have hE:=set4 (D.o.trans (m.o.mono D.o.size)) w.heap.size leR (.bool n) (.slice a l c) (.bool s2) (.slice p2 l2 c2); have O:=k9.o.put4 f7 (.bool n) (.slice a l c) (.bool s2) (.slice p2 l2 c2); have h2:=fun e=>(a3.o e).put4 f7 (.bool n) (.slice a l c) (.bool s2) (.slice p2 l2 c2); have hZ:Bx ((((w4.setCell ⟨w.heap.size,0,none⟩ (.bool n)).setCell ⟨w.heap.size,1,none⟩ (.slice a l c)).setCell ⟨w.heap.size,2,none⟩ (.bool s2)).setCell ⟨w.heap.size,3,none⟩ (.slice p2 l2 c2)) w.heap.size [.bool n,.slice a l c,.bool s2,.slice p2 l2 c2]:=(((j.set 0 _).set 1 _).set 2 _).set 3 _; generalize (((w4.setCell ⟨w.heap.size,0,none⟩ (.bool n)).setCell ⟨w.heap.size,1,none⟩ (.slice a l c)).setCell ⟨w.heap.size,2,none⟩ (.bool s2)).setCell ⟨w.heap.size,3,none⟩ (.slice p2 l2 c2)=WE at *; obtain ⟨m0,m1,m2,m3⟩:=hZ.k4; have q3:ReadR w.heap.size WE s none (.agg #[.bool n,.slice a l c,.bool s2,.slice p2 l2 c2]) ok:=by
    have i4:isIntB s=ok:=by rw [← l0.o]; exact a5.o
    refine ⟨⟨n,a,l,c,s2,p2,l2,c2,rfl⟩,?_,?_⟩
    ·constructor
     ·intro e; exact ⟨numT s,1,i4.trans e,rfl,rfl⟩
     ·rintro ⟨x,y,h,_⟩; rw [← i4]; exact h
    ·intro e; exact ⟨numT s,1,⟨i4.trans e,rfl,rfl⟩,n,_,s2,_,rfl,h2 e,O⟩
   refine bodyPost_ret (v:=.tuple #[.agg #[.bool n,.slice a l c,.bool s2,.slice p2 l2 c2],.bool ok]) ?_ rfl ⟨_,ok,rfl,q3,hE⟩; simp [results,Tryz.results45,go_sem,m0,m1,m2,m3]
 | some i=>
   have f9:∀ W,(Op.equalIn 10000 94 (.agg #[.string p,.bool b,.string q]) (.agg #[.string p,.bool false,.string ⟨#[]⟩])).run Tryz.prog W=.ok false W:=fun W=>by
    rw [eqForm,← HP.o.2.2]; simp
   go_wp2_with fail
   refine (readPair_any p q _ d6.o.2.1 d6.o.2.2).mono ?_; rintro e K ⟨n1,a1,l1,c1,n2,a2,l2,c2,rfl,l8,l9,b4⟩; have o4:=Hd l8; have j7:=Hd l9; have G:=Hd b4; obtain ⟨ok,A⟩:=exW (isIntB p&&isIntB q); have a5:=Hd A; rw [A]; clear l8 l9 b4 A j0 j1 j2 f9; obtain ⟨W4,a9⟩:=exW ((K.alloc (.cells #[.bool n1,.slice a1 l1 c1] 55)).alloc (.cells #[.bool n2,.slice a2 l2 c2] 55)); have p0:=Hd a9; have d9:Up K W4:=by rw [← a9]; exact below_al (below_alloc _ _) _
   have i5:Bx W4 K.heap.size [.bool n1,.slice a1 l1 c1]:=by rw [← a9]; exact (bx_new K _ _).alloc _
   have f5:Bx W4 (K.heap.size+1) [.bool n2,.slice a2 l2 c2]:=by
    rw [← a9]; have h:=bx_new (K.alloc (.cells #[.bool n1,.slice a1 l1 c1] 55)) [.bool n2,.slice a2 l2 c2] 55; rw [World.size_alloc] at h; exact h
   have HN:Hid (∀ W,Up W4 W→Bx W K.heap.size [.bool n1,.slice a1 l1 c1]∧Bx W (K.heap.size+1) [.bool n2,.slice a2 l2 c2]):=fun W hW=>⟨i5.below i5.lt hW,f5.below f5.lt hW⟩; have g8:=Hd d9; have m:Hid (Up W0 W4):=H.o.trans ((G.o.trans (d9.mono G.o.size)).mono H.o.size); have g7:Hid (Up T W4):=G.o.trans (d9.mono G.o.size); obtain ⟨d0,d1⟩:=f5.k2; clear a9 d9 i5 f5
   go_upto_region 7 with fail
   rw [p0.o]; clear k0 k1 k2
   cases ok
   ·have h8:Hid (∀ x y,¬ RatV s (some i) x y):=fun x y h=>by
     have O:=h.1.1; have h2:=h.1.2; rw [HP.o.1] at O; rw [HP.o.2.1] at h2; have:=a5.o; rw [O,h2] at this
     cases this
    have j:=HX.o W4 m.o; obtain ⟨r0,r1,r2,r3⟩:=j.k4; obtain ⟨f0,f1,f2,f3⟩:=j.f4; clear j
    go_wp2
    have j:=HX.o W4 m.o; have hE:=set4 (D.o.trans (m.o.mono D.o.size)) w.heap.size leR (.bool false) (.slice none 0 0) (.bool false) (.slice none 0 0); have hZ:Bx ((((W4.setCell ⟨w.heap.size,0,none⟩ (.bool false)).setCell ⟨w.heap.size,1,none⟩ (.slice none 0 0)).setCell ⟨w.heap.size,2,none⟩ (.bool false)).setCell ⟨w.heap.size,3,none⟩ (.slice none 0 0)) w.heap.size [.bool false,.slice none 0 0,.bool false,.slice none 0 0]:=(((j.set 0 _).set 1 _).set 2 _).set 3 _; generalize (((W4.setCell ⟨w.heap.size,0,none⟩ (.bool false)).setCell ⟨w.heap.size,1,none⟩ (.slice none 0 0)).setCell ⟨w.heap.size,2,none⟩ (.bool false)).setCell ⟨w.heap.size,3,none⟩ (.slice none 0 0)=WE at *; obtain ⟨m0,m1,m2,m3⟩:=hZ.k4; refine bodyPost_ret (v:=.tuple #[.agg #[.bool false,.slice none 0 0,.bool false,.slice none 0 0],.bool false]) ?_ rfl ⟨_,false,rfl,⟨⟨false,none,0,0,false,none,0,0,rfl⟩,⟨(fun e=>by cases e),fun ⟨x,y,h⟩=>(h8.o x y h).elim⟩,(fun e=>by cases e)⟩,hE⟩; simp [results,Tryz.results45,go_sem,m0,m1,m2,m3]
   ·have S:Hid (isIntB p=true∧isIntB q=true):=by
     unfold Hid
     have:=a5.o
     simpa using this
    go_wp2_with fail
    refine (isZero_any _ _ _ _ _).mono ?_; rintro e U ⟨rfl,n3⟩; have M:Hid (Up W4 U):=by unfold Hid; rw [n3]; exact below_alloc _ _
    have V:Hid (Up W0 U):=m.o.trans (M.o.mono m.o.size); have m8:l2=(lim q).length:=by
     obtain ⟨_,hL⟩:=j7.o S.o.2; obtain ⟨_,_,e,_⟩:=hL; simp only [Value.slice.injEq] at e; exact e.2.1
    have j8:=Hd m8; clear n3 m8 d0 d1
    by_cases hz:l2=0
    ·have z:((l2:Int)==0)=true:=by rw [beq_iff_eq]; omega
     have h8:Hid (∀ x y,¬ RatV s (some i) x y):=fun x y h=>by
      have O:=h.2.1.1; rw [HP.o.2.1] at O; exact O ((sg_zero_iff _ _ (trimL_trim _)).2 (List.eq_nil_of_length_eq_zero (j8.o.symm.trans hz)))
     rw [z]; have j:=HX.o U V.o; obtain ⟨r0,r1,r2,r3⟩:=j.k4; obtain ⟨f0,f1,f2,f3⟩:=j.f4; clear j
     go_wp2
     have j:=HX.o U V.o; have hE:=set4 (D.o.trans (V.o.mono D.o.size)) w.heap.size leR (.bool false) (.slice none 0 0) (.bool false) (.slice none 0 0); have hZ:Bx ((((U.setCell ⟨w.heap.size,0,none⟩ (.bool false)).setCell ⟨w.heap.size,1,none⟩ (.slice none 0 0)).setCell ⟨w.heap.size,2,none⟩ (.bool false)).setCell ⟨w.heap.size,3,none⟩ (.slice none 0 0)) w.heap.size [.bool false,.slice none 0 0,.bool false,.slice none 0 0]:=(((j.set 0 _).set 1 _).set 2 _).set 3 _; generalize (((U.setCell ⟨w.heap.size,0,none⟩ (.bool false)).setCell ⟨w.heap.size,1,none⟩ (.slice none 0 0)).setCell ⟨w.heap.size,2,none⟩ (.bool false)).setCell ⟨w.heap.size,3,none⟩ (.slice none 0 0)=WE at *; obtain ⟨m0,m1,m2,m3⟩:=hZ.k4; refine bodyPost_ret (v:=.tuple #[.agg #[.bool false,.slice none 0 0,.bool false,.slice none 0 0],.bool false]) ?_ rfl ⟨_,false,rfl,⟨⟨false,none,0,0,false,none,0,0,rfl⟩,⟨(fun e=>by cases e),fun ⟨x,y,h⟩=>(h8.o x y h).elim⟩,(fun e=>by cases e)⟩,hE⟩; simp [results,Tryz.results45,go_sem,m0,m1,m2,m3]
    ·have z:((l2:Int)==0)=false:=by rw [beq_eq_false_iff_ne]; omega
     rw [z]; have i7:=HN.o U M.o; obtain ⟨d0,d1⟩:=i7.1.k2; obtain ⟨d2,d3⟩:=i7.2.k2; clear i7; have Y:Hid (Up T U):=g7.o.trans (M.o.mono g7.o.size); have Z:Hid (Up w U):=E.o.trans (Y.o.mono E.o.size); have b6:Up K U:=g8.o.trans (M.o.mono g8.o.size); have a3:Hid (IsI w.heap.size U (.agg #[.bool n1,.slice a1 l1 c1]) (numT p) 280):=by
      obtain ⟨hn,hL⟩:=o4.o S.o.1; have O:IsI T.heap.size K (.agg #[.bool n1,.slice a1 l1 c1]) (numT p) 280:=⟨isNeg p,_,lim p,by rw [hn]; rfl,hL,trimL_trim _,rfl,lim_len' p S.o.1⟩; exact (O.below b6).mono E.o.size leR
     have j5:Hid (IsI w.heap.size U (.agg #[.bool n2,.slice a2 l2 c2]) (numT q) 280):=by
      obtain ⟨hn,hL⟩:=j7.o S.o.2; have O:IsI T.heap.size K (.agg #[.bool n2,.slice a2 l2 c2]) (numT q) 280:=⟨isNeg q,_,lim q,by rw [hn]; rfl,hL,trimL_trim _,rfl,lim_len' q S.o.2⟩; exact (O.below b6).mono E.o.size leR
     have k5:Hid (numT q≠0):=fun h=>hz (by
      have h2:lim q=[]:=(sg_zero_iff _ _ (trimL_trim _)).1 h; rw [j8.o,h2]; rfl)
     clear b6
     go_wp2_with fail
     refine (makeRational_any w.heap.size _ _ (numT p) (numT q) 280 _ Z.o.size a3.o j5.o k5.o (by omega) (l4.o.below Z.o) (o6.o.below Z.o)).mono ?_; rintro e w6 ⟨z,xn,xd,rfl,hR,h6,i2⟩; have j9:=Hd h6; obtain ⟨s5,p5,l5,c5,s6,p6,l6,c6,rfl,_,_⟩:=hR.shape; obtain ⟨I,e6⟩:=exW (w6.alloc (.cells #[.bool s5,.slice p5 l5 c5,.bool s6,.slice p6 l6 c6] 57)); have p1:=Hd e6; have i3:Up w6 I:=by rw [← e6]; exact below_alloc _ _
     have J:Bx I w6.heap.size [.bool s5,.slice p5 l5 c5,.bool s6,.slice p6 l6 c6]:=by rw [← e6]; exact bx_new w6 _ _
     have l3:Hid (∀ W,Up I W→IsQR w.heap.size W (.agg #[.bool s5,.slice p5 l5 c5,.bool s6,.slice p6 l6 c6]) xn xd 283):=fun W hW=>(hR.below i3).below hW; have p3:Hid (∀ W,Up I W→Bx W w6.heap.size [.bool s5,.slice p5 l5 c5,.bool s6,.slice p6 l6 c6]):=fun W hW=>J.below J.lt hW; have h0:Up U I:=i2.trans (i3.mono i2.size); have L:Hid (Up T I):=Y.o.trans (h0.mono Y.o.size); have F:Hid (Up W0 I):=H.o.trans (L.o.mono H.o.size); have t:Hid (Up w I):=D.o.trans (F.o.mono D.o.size); have e0:=J.cell 0; have e1:=J.cell 1; have e2:=J.cell 2; have e3:=J.cell 3; have e9:=j6.o I L.o; have k0:=e9.cell 0; have k1:=e9.cell 1; have k2:=e9.cell 2; simp only [List.getElem?_cons_zero,List.getElem?_cons_succ] at e0 e1 e2 e3 k0 k1 k2; clear hR h6 i2 e6 i3 J h0 e9 d0 d1 d2 d3
     go_upto_region 10 with fail
     rw [p1.o]
     go_region_with (first
      | (go_at_call 53
         refine (form_any w.heap.size _ xn xd 283 I.drew t.o.size (l3.o _ (Below.refl _ I).drew) (by omega) (l4.o.below (t.o.trans ((Below.refl _ I).drew.mono t.o.size))) (o5.o.below (t.o.trans ((Below.refl _ I).drew.mono t.o.size)))).mono ?_; rintro e w8 ⟨r,rfl,q4,m6⟩; obtain ⟨u,v,bb,rfl,hu,hv⟩:=q4; have Q:Hid (Up I w8):=(Below.refl _ I).drew.trans m6; have o7:Hid (IsText xn u∧(if xd=1 then bb=false∧v=⟨#[]⟩ else bb=true∧IsText xd v)):=⟨hu,hv⟩; obtain ⟨ok,A⟩:=exW (u.toList==p.toList&&bb==b&&v.toList==q.toList); have k7:=Hd A; have f9:∀ W,(Op.equalIn 10000 94 (.agg #[.string u,.bool bb,.string v]) (.agg #[.string p,.bool b,.string q])).run Tryz.prog W=.ok ok W:=fun W=>by rw [eqForm,A]
         have b3:=p3.o w8 Q.o; have g0:=b3.cell 0; have g1:=b3.cell 1; have g2:=b3.cell 2; have g3:=b3.cell 3; have e4:=j6.o w8 (L.o.trans (Q.o.mono L.o.size)); have q0:=e4.cell 0; have q1:=e4.cell 1; have q2:=e4.cell 2; have j:=HX.o w8 (F.o.trans (Q.o.mono F.o.size)); have r0:=j.cell 0; have r1:=j.cell 1; have r2:=j.cell 2; have r3:=j.cell 3; simp only [List.getElem?_cons_zero,List.getElem?_cons_succ] at g0 g1 g2 g3 q0 q1 q2 r0 r1 r2 r3; obtain ⟨f0,f1,f2,f3⟩:=j.f4; have u6:w.heap.size≠w1.heap.size:=by omega
         clear m6 hu hv A b3 e4 j))
     all_goals
      try simp only [List.getElem_toArray,List.getElem_cons_succ,List.getElem_cons_zero,Act.put,List.setIfInBounds_toArray,List.set_cons_succ,List.set_cons_zero]
      go_wp2
      have j:=HX.o w8 (F.o.trans (Q.o.mono F.o.size)); have f7:NoInt w8 w.heap.size:=noInt_of j (by simp); have hE:=set4 (t.o.trans (Q.o.mono t.o.size)) w.heap.size leR (.bool s5) (.slice p5 l5 c5) (.bool s6) (.slice p6 l6 c6); have p9:=(l3.o w8 Q.o).put4 f7 (.bool s5) (.slice p5 l5 c5) (.bool s6) (.slice p6 l6 c6); have hZ:Bx ((((w8.setCell ⟨w.heap.size,0,none⟩ (.bool s5)).setCell ⟨w.heap.size,1,none⟩ (.slice p5 l5 c5)).setCell ⟨w.heap.size,2,none⟩ (.bool s6)).setCell ⟨w.heap.size,3,none⟩ (.slice p6 l6 c6)) w.heap.size [.bool s5,.slice p5 l5 c5,.bool s6,.slice p6 l6 c6]:=(((j.set 0 _).set 1 _).set 2 _).set 3 _; generalize (((w8.setCell ⟨w.heap.size,0,none⟩ (.bool s5)).setCell ⟨w.heap.size,1,none⟩ (.slice p5 l5 c5)).setCell ⟨w.heap.size,2,none⟩ (.bool s6)).setCell ⟨w.heap.size,3,none⟩ (.slice p6 l6 c6)=WE at *; obtain ⟨m0,m1,m2,m3⟩:=hZ.k4; refine bodyPost_ret (v:=.tuple #[.agg #[.bool s5,.slice p5 l5 c5,.bool s6,.slice p6 l6 c6],.bool ok]) ?_ rfl ⟨_,ok,rfl,readR_of _ _ s p q u v i b bb ok _ xn xd HP.o S.o k5.o j9.o o7.o k7.o p9,hE⟩; simp [results,Tryz.results45,go_sem,m0,m1,m2,m3]
end Go.Proofs.YtnhbmpnhijgpmaaGreatDoor
