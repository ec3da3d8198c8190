import Derived.Test.YtknfmkeipeikkaaGreatDoorDivFp
import Derived.Deep.DeepCutAuto
set_option maxRecDepth 100000
set_option maxHeartbeats 40000000
namespace Go.Proofs.YtknfmkeipeikkaaGreatDoor
open Go.ChangeShapes Go.WideShapes Go.ChangeAt Go.RowKit
theorem l1Make_at (B:Nat) (neg:Bool) (v:Value) (l:List Nat) (w W:World) (h:IsL B w v l) (hb:Up w W) :
 Calls Tryz.prog 75 #[.bool neg,v] W fun e w'=>∃ z,e=.returned z∧IsZ B w' z neg (trimL l)∧Up w w'∧Up W w':=by
 refine (l1Make_any B neg v l W (h.below hb)).mono ?_; rintro e s ⟨z,rfl,m,j⟩; exact ⟨z,rfl,(m _ _ (h.below hb)).below j,hb.trans (j.mono hb.size),j⟩
theorem l1Div_big (B:Nat) (x y:Int) (xn yn:Bool) (pa:Option Addr) (la ca:Nat) (pb:Option Addr) (lb cb:Nat) (na nb:Bool) (a b:List Nat) (w:World) (hBw:B≤w.heap.size) (hz:((la:Int)==0)=false∨((la:Int)==0)=true∧((lb:Int)==0)=false)
 (hza:IsZ B w (.agg #[.int .i64 x,.bool xn,.slice pa la ca]) na a) (hzb:IsZ B w (.agg #[.int .i64 y,.bool yn,.slice pb lb cb]) nb b) (s t:Bool) (ha:ngZ x xn la=s) (hb:ngZ y yn lb=t) (hla:a.length≤100000) (hlb:b.length≤100000) (hne:b≠[]) :
 Calls Tryz.prog 46 #[.agg #[.int .i64 x,.bool xn,.slice pa la ca],.agg #[.int .i64 y,.bool yn,.slice pb lb cb]] w fun e w'=>∃ z1 z2 q r,e=.returned (.tuple #[z1,z2])∧(IsN w.heap.size w' z1 q∧IsN w.heap.size w' z2 r)∧IsDiv (sg s (val a)) (sg t (val b)) q r∧Up w w':=by
 have x6:=Hd ha; have x7:=Hd hb; have d3:Hid (a.length≤100000∧b.length≤100000∧b≠[]∧isTrim b):=⟨hla,hlb,hne,hzb.2.1⟩; have x8:Hid (okL b):=hzb.1; have p5:Hid (okL a):=hza.1; have HX:=boxQ_first w x xn pa la ca y yn pb lb cb 53; obtain ⟨W0,l2⟩:=exW ((((w.alloc (.cells #[.int .i64 x,.bool xn,.slice pa la ca] 53)).alloc (.cells #[.int .i64 y,.bool yn,.slice pb lb cb] 53)).alloc (.cells #[.int .i64 0,.bool false,.slice none 0 0] 53)).alloc (.cells #[.int .i64 0,.bool false,.slice none 0 0] 53)); have B7:=hide l2; have l1:Up w W0:=by rw [← l2]; exact below_al (below_al (below_al (below_alloc _ _) _) _) _
 have F5:=hide l1; have A2:W0.heap.size=w.heap.size+4:=by rw [← l2]; simp
 rw [l2] at HX; have HS:=hide A2; have Y:=Hd hBw; have c9:Hid (∀ W,Up W0 W→BoxQ w.heap.size W x xn pa la ca y yn pb lb cb):=fun W hW=>HX.below (by omega) hW; have HF:Hid (∀ W,Up W0 W→Up w W):=fun W hW=>l1.trans (hW.mono (by omega)); have C2:Hid (∀ W,Up W0 W→IsZ B W (.agg #[.int .i64 x,.bool xn,.slice pa la ca]) na a):=fun W hW=>(hza.below l1).below hW; have y7:Hid (∀ W,Up W0 W→IsZ B W (.agg #[.int .i64 y,.bool yn,.slice pb lb cb]) nb b):=fun W hW=>(hzb.below l1).below hW; obtain ⟨a0,a1,a2,b0,b1,b2,r0,r1,r2,t0,t1,t2,f⟩:=HX; clear f l2 A2 ha hb hza hzb l1 hBw hne
 go_enter Tryz.func46,Tryz.ntmps46
 go_wp2_with fail
 rw [B7.o]; refine (l1IsSmall_ex _ _ _ _ _ _).mono ?_; rintro e wA ⟨rfl,hA⟩; have n5:Hid (Up W0 wA):=by rw [hA]; exact below_alloc _ _
 clear hA a0 a1 a2 b0 b1 b2 r0 r1 r2 t0 t1 t2; obtain ⟨a0,a1,a2,b0,b1,b2,r0,r1,r2,t0,t1,t2,f⟩:=c9.o wA n5.o; clear f; have x4:Hid (∃ W1,Up W0 W1∧((((la:Int)==0)=false∧wA=W1)∨(((la:Int)==0)=true∧((lb:Int)==0)=false∧wA.alloc (.cells #[.int .i64 y,.bool yn,.slice pb lb cb] 53)=W1))):=by
  rcases hz with h|⟨h,h'⟩
  ·exact ⟨_,n5.o,.inl ⟨h,rfl⟩⟩
  exact ⟨_,n5.o.alloc n5.o.size _,.inr ⟨h,h',rfl⟩⟩
 obtain ⟨W1,p8,m5⟩:=x4.o; have c7:=Hd p8; clear hz x4 p8
 rcases m5 with ⟨hz,s5⟩|⟨hz,D1,s5⟩
 all_goals
  have B8:=hide s5; clear s5; rw [hz]
  go_upto_region 9 with (go_at_call 44; refine (l1IsSmall_ex _ _ _ _ _ _).mono ?_; rintro e w' ⟨rfl,rfl⟩; try rw [D1])
  rw [B8.o]; clear a0 a1 a2 b0 b1 b2 r0 r1 r2 t0 t1 t2; obtain ⟨a0,a1,a2,b0,b1,b2,r0,r1,r2,t0,t1,t2,f⟩:=c9.o W1 c7.o; clear f
  go_cut [8,9] (fun s8 s9 wx=>∃ (pv:Option Addr) (lv cv:Nat) (pu:Option Addr) (lu cu:Nat) (Q U:List Nat),s8=.slice pv lv cv∧s9=.slice pu lu cu∧(IsL (w.heap.size+4) wx (.slice pv lv cv) Q∧IsL (w.heap.size+4) wx (.slice pu lu cu) U)∧val a=val Q*val b+val U∧val U<val b∧Up W0 wx)
  case first=>
   go_region_with (first
    | (go_at_call_of 72 (Value.int IntKind.i64 x); refine (l1Limbs_two B _ na a _ (C2.o _ c7.o.drew) (by have:=c7.o.size; have:=HS.o; have:=Y.o; show B≤W1.heap.size; omega)).mono ?_
       rintro e wa ⟨va,rfl,t9,A3,z6⟩; have y4:Hid (IsL B wa va a∧(a=[]→va=.slice none 0 0)):=⟨t9,A3⟩; have i8:Hid (Up W0 wa):=c7.o.drew.trans (z6.mono c7.o.size); obtain ⟨c0,c1,c2,d0,d1,d2,_,_,_,_,_,_,f⟩:=c9.o wa i8.o; obtain ⟨q1,k1,e1,_⟩:=id t9; subst e1; clear t9 A3 z6 f)
    | (go_at_call_of 72 (Value.int IntKind.i64 y); refine (l1Limbs_two B _ nb b _ (y7.o _ i8.o) (by have:=i8.o.size; have:=HS.o; have:=Y.o; omega)).mono ?_
       rintro e wb ⟨vb,rfl,u0,_,t5⟩; have B6:=Hd u0; have y5:Hid (IsL B wb (.slice q1 a.length k1) a):=y4.o.1.below t5; have i9:Hid (Up W0 wb):=i8.o.trans (t5.mono i8.o.size); obtain ⟨q2,k2,e2,_⟩:=id u0; subst e2; clear u0 t5)
    | (go_at_call 76; refine (l1DivD_any B _ _ a b _ (by have:=i9.o.size; have:=HS.o; have:=Y.o; omega) d3.o.1 y5.o y4.o.2 B6.o d3.o.2.1 d3.o.2.2.2 d3.o.2.2.1).mono ?_
       rintro e wd ⟨v,u,Q,U,rfl,⟨hv,hu⟩,e4,l7,z7⟩; have n7:Hid (IsL (w.heap.size+4) wd v Q∧IsL (w.heap.size+4) wd u U):=⟨hv.mono (by have:=i9.o.size; have:=HS.o; omega),hu.mono (by have:=i9.o.size; have:=HS.o; omega)⟩; have O:Hid (val a=val Q*val b+val U∧val U<val b∧Up W0 wd):=⟨e4,l7,i9.o.trans (z7.mono i9.o.size)⟩; obtain ⟨pv,cv,ev,_⟩:=id hv; obtain ⟨pu,cu,eu,_⟩:=id hu; subst ev eu; clear hv hu e4 l7 z7))
   all_goals
    go_wp2_with fail
    go_meet
    exact ⟨_,_,_,_,_,_,Q,U,rfl,rfl,n7.o,O.o.1,O.o.2.1,O.o.2.2⟩
  case rest=>
   obtain ⟨pv,lv,cv,pu,lu,cu,Q,U,rfl,rfl,t7,e4,l7,h6⟩:=hcut; have n7:Hid (∀ W,Up wc W→IsL (w.heap.size+4) W (.slice pv lv cv) Q∧IsL (w.heap.size+4) W (.slice pu lu cu) U):=fun W hW=>⟨t7.1.below hW,t7.2.below hW⟩; have O:Hid (val a=val Q*val b+val U∧val U<val b):=⟨e4,l7⟩; have b8:=Hd h6; obtain ⟨w1,D0⟩:=exW wc; subst D0; clear t7 e4 l7 h6 a0 a1 a2 b0 b1 b2 r0 r1 r2 t0 t1 t2; obtain ⟨a0,a1,a2,b0,b1,b2,r0,r1,r2,t0,t1,t2,f⟩:=c9.o _ b8.o; clear f; have C6:w.heap.size<wc.heap.size:=by have:=b8.o.size; have:=HS.o; omega
   have C7:w.heap.size+1<wc.heap.size:=by have:=b8.o.size; have:=HS.o; omega
   go_upto_region 10 with fail
   go_cut [10] (fun s10 wx=>∃ (gq:Nat) (z0:Int) (zn:Bool) (za:Option Addr) (zl zc:Nat),s10=.pointer (some ⟨gq,0,none⟩)∧W0.heap.size≤gq∧BoxV gq wx z0 zn za zl zc∧IsN (w.heap.size+4) wx (.agg #[.int .i64 z0,.bool zn,.slice za zl zc]) (sg (s != t) (val Q))∧Up wc wx)
   case first=>
    go_region_with (first
     | (go_at_call_of 73 (Value.int IntKind.i64 x); refine (l1Neg_ex _ _ _ _ _ _).mono ?_; rintro e w' ⟨rfl,rfl⟩; rw [x6.o])
     | (go_at_call_of 73 (Value.int IntKind.i64 y); refine (l1Neg_ex _ _ _ _ _ _).mono ?_; rintro e w' ⟨rfl,rfl⟩; rw [x7.o])
     | (go_at_call 75; refine (l1Make_at (w.heap.size+4) _ _ Q wc _ (n7.o wc (Below.refl _ _)).1 ?_).mono ?_
        ·repeat' (first|exact Below.refl _ _|refine Below.drew ?_|refine Below.alloc ?_ ?_ _|(simp; done)|(simp; omega))
        rintro e we ⟨z,rfl,a9,z8,o9⟩; have hN:IsN (w.heap.size+4) we z (sg (s != t) (val Q)):=⟨s != t,trimL Q,a9,by rw [val_trimL]⟩; have HN:=Hd hN; have g5:=Hd z8; have y8:∀ g,BoxV g _ 0 false none 0 0→BoxV g we 0 false none 0 0:=fun g h=>h.below h.lt o9; have r4:=hide y8; have G2:=fun (i:Nat) (g:Nat) hp=>o9.cell (p:=⟨g,i,none⟩) hp; have G3:=fun (i:Nat) (g:Nat) hp=>o9.frozen (p:=⟨g,i,none⟩) hp; obtain ⟨z0,zn,za,zl,zc,m6⟩:=hN.shape; subst m6; clear a9 z8 hN o9 y8))
    all_goals
     go_wp2_with fail
     go_meet
     first
      | exact ⟨we.heap.size,z0,zn,za,zl,zc,rfl,(by have:=g5.o.size; have:=b8.o.size; omega),boxV_new we z0 zn za zl zc _,HN.o.below (below_alloc _ _),g5.o.alloc g5.o.size _⟩
      | (have hbv:BoxV wc.heap.size we 0 false none 0 0:=r4.o _ (by repeat' (first|exact boxV_new' _ _ (by simp) _ _ _ _ _ _|refine BoxV.alloc ?_ _|refine BoxV.drew ?_)); exact ⟨wc.heap.size,z0,zn,za,zl,zc,rfl,(by have:=b8.o.size; omega),hbv.put z0 zn za zl zc,HN.o.keeps hbv.n hbv.n (Keeps.three _ _ _ _ _),((g5.o.setCell (by simp) _).setCell (by simp) _).setCell (by simp) _⟩)
      | (have hbv:BoxV (wc.heap.size+1) we 0 false none 0 0:=r4.o _ (by repeat' (first|exact boxV_new' _ _ (by simp) _ _ _ _ _ _|refine BoxV.alloc ?_ _|refine BoxV.drew ?_)); exact ⟨wc.heap.size+1,z0,zn,za,zl,zc,rfl,(by have:=b8.o.size; omega),hbv.put z0 zn za zl zc,HN.o.keeps hbv.n hbv.n (Keeps.three _ _ _ _ _),((g5.o.setCell (by simp) _).setCell (by simp) _).setCell (by simp) _⟩)
      | (have hbv:BoxV (wc.heap.size+1+1) we 0 false none 0 0:=r4.o _ (by repeat' (first|exact boxV_new' _ _ (by simp) _ _ _ _ _ _|refine BoxV.alloc ?_ _|refine BoxV.drew ?_)); exact ⟨wc.heap.size+1+1,z0,zn,za,zl,zc,rfl,(by have:=b8.o.size; omega),hbv.put z0 zn za zl zc,HN.o.keeps hbv.n hbv.n (Keeps.three _ _ _ _ _),((g5.o.setCell (by simp; omega) _).setCell (by simp; omega) _).setCell (by simp; omega) _⟩)
   case rest=>
    obtain ⟨gq,z0,zn,za,zl,zc,rfl,A0,hbv,hN,h6⟩:=hcut; have j0:Hid (W0.heap.size≤gq∧BoxV gq wc z0 zn za zl zc∧IsN (w.heap.size+4) wc (.agg #[.int .i64 z0,.bool zn,.slice za zl zc]) (sg (s != t) (val Q))):=⟨A0,hbv,hN⟩; have x3:Hid (Up W0 wc):=b8.o.trans (h6.mono b8.o.size); have B4:Hid (IsL (w.heap.size+4) wc (.slice pu lu cu) U):=(n7.o wc h6).2; clear A0 hbv hN h6 a0 a1 a2 b0 b1 b2 r0 r1 r2 t0 t1 t2 C6 C7
    go_wp2_with fail
    refine (l1Make_at (w.heap.size+4) false _ U wc wc B4.o (Below.refl _ _)).mono ?_; rintro e M ⟨zr,rfl,a9,y9,_⟩; have x5:=Hd a9; have q7:=Hd y9; obtain ⟨y0,b3,ya,yl,yc,m6⟩:=a9.shape; subst m6; clear a9 y9; obtain ⟨w3,p0⟩:=exW (M.alloc (.cells #[.int .i64 y0,.bool b3,.slice ya yl yc] 53)); have B9:=hide p0; have t3:Up M w3:=by rw [← p0]; exact below_alloc _ _
    have o7:Up wc w3:=q7.o.trans (t3.mono q7.o.size); have q8:Hid (Up W0 w3):=x3.o.trans (o7.mono x3.o.size); have n6:Hid (BoxV gq w3 z0 zn za zl zc∧IsN (w.heap.size+4) w3 (.agg #[.int .i64 z0,.bool zn,.slice za zl zc]) (sg (s != t) (val Q))∧gq<M.heap.size):=⟨j0.o.2.1.below j0.o.2.1.lt o7,j0.o.2.2.below o7,Nat.lt_of_lt_of_le j0.o.2.1.lt q7.o.size⟩; have r7:Hid (BoxV M.heap.size w3 y0 b3 ya yl yc∧IsN (w.heap.size+4) w3 (.agg #[.int .i64 y0,.bool b3,.slice ya yl yc]) (sg false (val U))):=by
     refine ⟨by rw [← p0]; exact boxV_new _ _ _ _ _ _ _,⟨false,trimL U,x5.o.below t3,by rw [val_trimL]⟩⟩
    have C3:Hid ((((yl:Int)==0)&&(y0==0))=decide (val U=0)):=by
     have h:=zero_of_isZ x5.o; rw [val_trimL] at h; exact h
    clear p0 t3 o7; obtain ⟨a0,a1,a2,b0,b1,b2,r0,r1,r2,t0,t1,t2,f⟩:=c9.o _ q8.o; clear f
    go_upto_region 12 with fail
    rw [B9.o]
    go_wp2_with fail
    refine (l1Neg_ex _ _ _ _ _ _).mono ?_; rintro e w4 ⟨rfl,A5⟩; rw [x6.o]; have g9:Up w3 w4:=by rw [A5]; exact below_alloc _ _
    have n4:Hid (Up W0 w4):=q8.o.trans (g9.mono q8.o.size); have e7:Hid (BoxV gq w4 z0 zn za zl zc∧IsN (w.heap.size+4) w4 (.agg #[.int .i64 z0,.bool zn,.slice za zl zc]) (sg (s != t) (val Q))∧gq<M.heap.size):=⟨n6.o.1.below n6.o.1.lt g9,n6.o.2.1.below g9,n6.o.2.2⟩; have j2:Hid (BoxV M.heap.size w4 y0 b3 ya yl yc∧IsN (w.heap.size+4) w4 (.agg #[.int .i64 y0,.bool b3,.slice ya yl yc]) (sg false (val U))):=⟨r7.o.1.below r7.o.1.lt g9,r7.o.2.below g9⟩; clear A5 g9 a0 a1 a2 b0 b1 b2 r0 r1 r2 t0 t1 t2; obtain ⟨a0,a1,a2,b0,b1,b2,r0,r1,r2,t0,t1,t2,f⟩:=c9.o _ n4.o; have j6:=f 2 (by omega) 0; have j7:=f 2 (by omega) 1; have j8:=f 2 (by omega) 2; have j9:=f 3 (by omega) 0; have k0:=f 3 (by omega) 1; have k5:=f 3 (by omega) 2; clear f; obtain ⟨_,q0,q1,q2,fq,_⟩:=e7.o.1; obtain ⟨_,g0,g1,g2,fg,_⟩:=j2.o.1; clear fq fg; have G4:w.heap.size+4≤gq:=by have:=j0.o.1; have:=HS.o; omega
    have G5:w.heap.size+4≤M.heap.size:=by have:=e7.o.2.2; omega
    have e5:Hid (Up w w4):=HF.o _ n4.o
    cases s
    ·go_wp2_with fail
     go_region
     all_goals
      go_wp2
      refine bodyPost_ret ?_ rfl ⟨_,_,_,_,rfl,⟨((((((e7.o.2.1.setCell _ _ ?_).setCell _ _ ?_).setCell _ _ ?_).setCell _ _ ?_).setCell _ _ ?_).setCell _ _ ?_).drew.mono ?_,((((((j2.o.2.setCell _ _ ?_).setCell _ _ ?_).setCell _ _ ?_).setCell _ _ ?_).setCell _ _ ?_).setCell _ _ ?_).drew.mono ?_⟩,isDiv_pos t _ _ _ _ O.o.1 O.o.2,((((((e5.o.setCell ?_ _).setCell ?_ _).setCell ?_ _).setCell ?_ _).setCell ?_ _).setCell ?_ _).drew⟩
      all_goals first
       | (simp [results,Tryz.results46,go_sem,r0,r1,r2,t0,t1,t2]; done)
       | (simp; omega)
       | omega
    ·go_wp2_with fail
     refine (l1Zero_ex _ _ _ _ _ _).mono ?_; rintro e w5 ⟨rfl,h0⟩; rw [C3.o]; have g4:Hid (Up W0 w5):=n4.o.trans (h0.mono n4.o.size); have g6:Hid (BoxV gq w5 z0 zn za zl zc∧IsN (w.heap.size+4) w5 (.agg #[.int .i64 z0,.bool zn,.slice za zl zc]) (sg (true != t) (val Q))∧gq<M.heap.size):=⟨e7.o.1.below e7.o.1.lt h0,e7.o.2.1.below h0,e7.o.2.2⟩; have g7:Hid (BoxV M.heap.size w5 y0 b3 ya yl yc∧IsN (w.heap.size+4) w5 (.agg #[.int .i64 y0,.bool b3,.slice ya yl yc]) (sg false (val U))):=⟨j2.o.1.below j2.o.1.lt h0,j2.o.2.below h0⟩; have e5:Hid (Up w w5):=HF.o _ g4.o; clear h0 a0 a1 a2 b0 b1 b2 r0 r1 r2 t0 t1 t2 j6 j7 j8 j9 k0 k5 q0 q1 q2 g0 g1 g2; obtain ⟨a0,a1,a2,b0,b1,b2,r0,r1,r2,t0,t1,t2,f⟩:=c9.o _ g4.o; have j6:=f 2 (by omega) 0; have j7:=f 2 (by omega) 1; have j8:=f 2 (by omega) 2; have j9:=f 3 (by omega) 0; have k0:=f 3 (by omega) 1; have k5:=f 3 (by omega) 2; clear f; obtain ⟨_,q0,q1,q2,fq,_⟩:=g6.o.1; obtain ⟨_,g0,g1,g2,fg,_⟩:=g7.o.1; have k7:=fg 0; have k9:=fg 1; have l0:=fg 2; have n9:=fq 0; have o0:=fq 1; have o2:=fq 2; clear fq fg
     by_cases hU:val U=0
     ·have zz:decide (val U=0)=true:=decide_eq_true hU; have B0:Hid (IsDiv (sg true (val a)) (sg t (val b)) (sg (true != t) (val Q)) (sg false (val U))):=by
       have h:=O.o; rw [hU] at h ⊢; exact isDiv_zero t _ _ _ h.1 h.2
      rw [zz]; clear hU
      go_wp2_with fail
      go_region
      all_goals
       go_wp2
       refine bodyPost_ret ?_ rfl ⟨_,_,_,_,rfl,⟨((((((g6.o.2.1.setCell _ _ ?_).setCell _ _ ?_).setCell _ _ ?_).setCell _ _ ?_).setCell _ _ ?_).setCell _ _ ?_).drew.mono ?_,((((((g7.o.2.setCell _ _ ?_).setCell _ _ ?_).setCell _ _ ?_).setCell _ _ ?_).setCell _ _ ?_).setCell _ _ ?_).drew.mono ?_⟩,B0.o,((((((e5.o.setCell ?_ _).setCell ?_ _).setCell ?_ _).setCell ?_ _).setCell ?_ _).setCell ?_ _).drew⟩
       all_goals first
        | (simp [results,Tryz.results46,go_sem,r0,r1,r2,t0,t1,t2]; done)
        | (simp; omega)
        | omega
     ·have zz:decide (val U=0)=false:=decide_eq_false hU; rw [zz]; have y3:Hid (0<val U):=Nat.pos_of_ne_zero hU; clear hU
      go_wp2_with fail
      refine (l1Limbs_any B _ nb b _ (y7.o _ g4.o) (by have:=g4.o.size; have:=HS.o; have:=Y.o; omega)).mono ?_; rintro e w6 ⟨v6,rfl,t8,z3⟩; have B5:=Hd t8; have w0:=Hd z3; obtain ⟨p6,c6,e6,_⟩:=id t8; subst e6; clear t8 z3
      go_wp2_with fail
      refine (l1Make_at B false _ b w6 w6 B5.o (Below.refl _ _)).mono ?_; rintro e w7 ⟨zs,rfl,a9,z5,_⟩; have B2:=Hd a9; have q9:Hid (Up w5 w7):=w0.o.trans (z5.mono w0.o.size); obtain ⟨x0,v7,xa,xl,xc,m6⟩:=a9.shape; subst m6; clear a9 z5; obtain ⟨w8,p1⟩:=exW (w7.alloc (.cells #[.int .i64 x0,.bool v7,.slice xa xl xc] 53)); have C0:=hide p1; have l3:Up w7 w8:=by rw [← p1]; exact below_alloc _ _
      have g8:Up w5 w8:=q9.o.trans (l3.mono q9.o.size); have r3:Hid (Up W0 w8):=g4.o.trans (g8.mono g4.o.size); have d6:Hid (BoxV gq w8 z0 zn za zl zc∧IsN (w.heap.size+4) w8 (.agg #[.int .i64 z0,.bool zn,.slice za zl zc]) (sg (true != t) (val Q))∧gq<M.heap.size):=⟨g6.o.1.below g6.o.1.lt g8,g6.o.2.1.below g8,g6.o.2.2⟩; have j3:Hid (BoxV M.heap.size w8 y0 b3 ya yl yc∧IsN (w.heap.size+4) w8 (.agg #[.int .i64 y0,.bool b3,.slice ya yl yc]) (sg false (val U))∧M.heap.size<w7.heap.size):=⟨g7.o.1.below g7.o.1.lt g8,g7.o.2.below g8,Nat.lt_of_lt_of_le g7.o.1.lt q9.o.size⟩; have y2:Hid (BoxV w7.heap.size w8 x0 v7 xa xl xc∧IsZ B w8 (.agg #[.int .i64 x0,.bool v7,.slice xa xl xc]) false (trimL b)):=⟨by rw [← p1]; exact boxV_new _ _ _ _ _ _ _,B2.o.below l3⟩; clear p1 l3 g8 a0 a1 a2 b0 b1 b2 r0 r1 r2 t0 t1 t2 j6 j7 j8 j9 k0 k5 q0 q1 q2 g0 g1 g2 k7 k9 l0 n9 o0 o2; obtain ⟨_,g0,g1,g2,fg,_⟩:=j3.o.1; obtain ⟨_,s0,s1,s2,fs,_⟩:=y2.o.1; have k7:=fg 0; have k9:=fg 1; have l0:=fg 2; clear fs fg
      go_upto_region 14 with fail
      rw [C0.o]
      go_wp2_with fail
      obtain ⟨nr,tr,s7,u1⟩:=j3.o.2.1; have A4:val tr=val U:=by cases nr<;>simp [sg] at u1<;>omega
      have C4:tr.length≤b.length:=len_of_val tr b s7.2.1 x8.o (by rw [A4]; exact O.o.2); refine (l1Sub_any B _ _ false nr (trimL b) tr _ (by have:=r3.o.size; have:=HS.o; have:=Y.o; omega) y2.o.2 (s7.mono (by have:=Y.o; omega)) (by have:=trimL_len b; have:=d3.o.2.1; omega) (by have:=d3.o.2.1; omega)).mono ?_; rintro e w9 ⟨z9,rfl,o8,h1⟩; have B3:Hid (IsN w8.heap.size w9 z9 (sg false (val b - val U:Nat))):=by
       have e:sg false (val (trimL b)) - sg nr (val tr)=sg false (val b - val U:Nat):=by rw [u1,val_trimL]; have:=O.o.2; simp [sg]; omega
       rw [e] at o8; exact o8
      have n8:Hid (BoxV M.heap.size w9 y0 b3 ya yl yc):=j3.o.1.below j3.o.1.lt h1; have x9:Hid (BoxV gq w9 z0 zn za zl zc∧IsN (w.heap.size+4) w9 (.agg #[.int .i64 z0,.bool zn,.slice za zl zc]) (sg (true != t) (val Q))):=⟨d6.o.1.below d6.o.1.lt h1,d6.o.2.1.below h1⟩; have x2:Hid (Up W0 w9):=r3.o.trans (h1.mono r3.o.size); have d4:Hid (M.heap.size<w8.heap.size):=j3.o.1.lt; have x1:Hid (w8.heap.size≤w9.heap.size):=h1.size; obtain ⟨n0,nn,np,nl,nc,C5⟩:=o8.shape; subst C5; clear s7 u1 A4 C4 o8 h1 g0 g1 g2 s0 s1 s2 k7 k9 l0; obtain ⟨_,g0,g1,g2,fg,_⟩:=n8.o; have k7:=fg 0; have k9:=fg 1; have l0:=fg 2; clear fg; obtain ⟨b9,a7⟩:=exW (((w9.setCell ⟨M.heap.size,0,none⟩ (.int .i64 n0)).setCell ⟨M.heap.size,1,none⟩ (.bool nn)).setCell ⟨M.heap.size,2,none⟩ (.slice np nl nc)); have y6:=hide a7; have l4:Keeps M.heap.size M.heap.size w9 b9:=by rw [← a7]; exact Keeps.three _ _ _ _ _
      have d7:Hid (BoxV M.heap.size b9 n0 nn np nl nc∧IsN w8.heap.size b9 (.agg #[.int .i64 n0,.bool nn,.slice np nl nc]) (sg false (val b - val U:Nat))):=by
       rw [← a7]; exact ⟨n8.o.put _ _ _ _ _,((B3.o.setCell _ _ d4.o).setCell _ _ d4.o).setCell _ _ d4.o⟩
      have j1:Hid (BoxV gq b9 z0 zn za zl zc∧IsN (w.heap.size+4) b9 (.agg #[.int .i64 z0,.bool zn,.slice za zl zc]) (sg (true != t) (val Q))):=⟨x9.o.1.other (by have:=d6.o.2.2; omega) l4,x9.o.2.keeps n8.o.n n8.o.n l4⟩; have p4:Hid (Up w b9):=by
       rw [← a7]; exact (((HF.o _ x2.o).setCell (by show w.heap.size≤M.heap.size; omega) _).setCell (by show w.heap.size≤M.heap.size; omega) _).setCell (by show w.heap.size≤M.heap.size; omega) _
      have p7:Hid (BoxQ w.heap.size b9 x xn pa la ca y yn pb lb cb∧w8.heap.size≤b9.heap.size):=by
       refine ⟨?_,by rw [← a7]; simpa using x1.o⟩; rw [← a7]; exact (((c9.o _ x2.o).far _ (by show w.heap.size+4≤M.heap.size; omega) _).far _ (by show w.heap.size+4≤M.heap.size; omega) _).far _ (by show w.heap.size+4≤M.heap.size; omega) _
      clear a7 l4
      go_upto_region 15 with fail
      rw [y6.o]; clear g0 g1 g2 k7 k9 l0; obtain ⟨a0,a1,a2,b0,b1,b2,r0,r1,r2,t0,t1,t2,f⟩:=p7.o.1; clear f
      go_wp2_with fail
      refine (l1Neg_ex _ _ _ _ _ _).mono ?_; rintro e m ⟨rfl,p9⟩; rw [x7.o]; have V:Up b9 m:=by rw [p9]; exact below_alloc _ _
      have D:Hid (BoxV gq m z0 zn za zl zc∧IsN (w.heap.size+4) m (.agg #[.int .i64 z0,.bool zn,.slice za zl zc]) (sg (true != t) (val Q))):=⟨j1.o.1.below j1.o.1.lt V,j1.o.2.below V⟩; have b4:Hid (BoxV M.heap.size m n0 nn np nl nc∧IsN w8.heap.size m (.agg #[.int .i64 n0,.bool nn,.slice np nl nc]) (sg false (val b - val U:Nat))):=⟨d7.o.1.below d7.o.1.lt V,d7.o.2.below V⟩; have b5:Hid (w.heap.size+4≤m.heap.size):=by have:=V.size; have:=d7.o.1.lt; show w.heap.size+4≤m.heap.size; omega
      have Z:Hid (BoxQ w.heap.size m x xn pa la ca y yn pb lb cb∧Up w m):=⟨p7.o.1.below (by have:=d7.o.1.lt; omega) V,p4.o.trans (V.mono p4.o.size)⟩; have y1:Hid (val Q≤val a):=by
       have h:=O.o; have hp:1≤val b:=by omega
       have:val Q*1≤val Q*val b:=Nat.mul_le_mul_left _ hp
       show val Q≤val a
       omega
      clear p9 V a0 a1 a2 b0 b1 b2 r0 r1 r2 t0 t1 t2; obtain ⟨a0,a1,a2,b0,b1,b2,r0,r1,r2,t0,t1,t2,f⟩:=Z.o.1; obtain ⟨_,q0,q1,q2,fq,_⟩:=D.o.1; have n9:=fq 0; have o0:=fq 1; have o2:=fq 2; clear f fq
      cases t
      ·go_wp2_with fail
       go_region_with (first
        | (go_at_call 21; refine (l1Small_any 1 _ (by omega) (by omega)).mono ?_
           rintro e K ⟨z1,rfl,⟨n1,o1,e9,l8,l5⟩,a6⟩; have a3:Up m K:=(Below.refl _ m).drew.trans (a6.mono leR); obtain ⟨nq,tq,f5,g3⟩:=D.o.2; have l9:val tq=val Q:=by cases nq<;>simp [sg] at g3<;>omega
           have l6:tq.length≤a.length:=len_of_le tq a f5.2.1 p5.o (by rw [l9]; exact y1.o); obtain ⟨i0,i1,i2,i3,i4,m5⟩:=e9.shape; subst m5; have j:Hid (IsZ m.heap.size K (.agg #[.int .i64 i0,.bool i1,.slice i2 i3 i4]) n1 o1∧sg n1 (val o1)=1∧o1.length≤3∧Up m K∧IsZ (w.heap.size+4) m (.agg #[.int .i64 z0,.bool zn,.slice za zl zc]) nq tq∧tq.length≤a.length):=⟨e9,l8,l5,a3,f5,l6⟩; have r8:=Hd g3; obtain ⟨_,D8,D9,E0,_,_⟩:=D.o.1.below D.o.1.lt a3; clear e9 l8 l5 a6 a3 f5 g3 l9 l6)
        | (go_at_call 71; refine (l1Sub_any B _ _ nq n1 tq o1 _ (by have:=j.o.2.2.2.1.size; have:=b5.o; have:=Y.o; omega) ((j.o.2.2.2.2.1.below j.o.2.2.2.1).mono (by have:=Y.o; omega)) (j.o.1.mono (by have:=b5.o; have:=Y.o; omega)) (by have:=d3.o.1; have:=j.o.2.2.2.2.2; omega) (by have:=j.o.2.2.1; omega)).mono ?_
           rintro e J ⟨zq,rfl,a5,e3⟩; have H:Up m J:=j.o.2.2.2.1.trans (e3.mono j.o.2.2.2.1.size); have r6:Hid (IsN K.heap.size J zq (sg true (val Q+1))):=by
            rw [r8.o,j.o.2.1] at a5; have e:sg (true != false) (val Q) - 1=sg true (val Q+1):=by simp [sg]<;>omega
            rw [e] at a5; exact a5
           have E:Hid (BoxV gq J z0 zn za zl zc∧gq<K.heap.size):=⟨D.o.1.below D.o.1.lt H,Nat.lt_of_lt_of_le D.o.1.lt j.o.2.2.2.1.size⟩; have d8:Hid (BoxV M.heap.size J n0 nn np nl nc∧IsN w8.heap.size J (.agg #[.int .i64 n0,.bool nn,.slice np nl nc]) (sg false (val b - val U:Nat))):=⟨b4.o.1.below b4.o.1.lt H,b4.o.2.below H⟩; have e0:Hid (BoxQ w.heap.size J x xn pa la ca y yn pb lb cb∧Up w J):=⟨Z.o.1.below (by have:=b5.o; omega) H,Z.o.2.trans (H.mono Z.o.2.size)⟩; obtain ⟨m0,mn,mp,ml,mc,t6⟩:=a5.shape; subst t6; obtain ⟨_,v0,v1,v2,fv,_⟩:=E.o.1; have r9:=fv 0; have s3:=fv 1; have s4:=fv 2; clear a5 e3 H fv))
       all_goals
        try simp only [List.getElem_toArray,List.getElem_cons_succ,List.getElem_cons_zero,Act.put,List.setIfInBounds_toArray,List.set_cons_succ,List.set_cons_zero]
        clear a0 a1 a2 b0 b1 b2 r0 r1 r2 t0 t1 t2 q0 q1 q2 n9 o0 o2 v0 v1 v2 r9 s3 s4; obtain ⟨T,I⟩:=exW (((J.setCell ⟨gq,0,none⟩ (.int .i64 m0)).setCell ⟨gq,1,none⟩ (.bool mn)).setCell ⟨gq,2,none⟩ (.slice mp ml mc)); have j4:=hide I; have f9:w.heap.size≤gq:=by omega
        have f7:gq<w8.heap.size:=by have:=d4.o; have:=d6.o.2.2; omega
        have d5:Hid (BoxV gq T m0 mn mp ml mc∧IsN K.heap.size T (.agg #[.int .i64 m0,.bool mn,.slice mp ml mc]) (sg true (val Q+1))):=by
         rw [← I]; exact ⟨E.o.1.put _ _ _ _ _,((r6.o.setCell _ _ E.o.2).setCell _ _ E.o.2).setCell _ _ E.o.2⟩
        have d9:Hid (BoxV M.heap.size T n0 nn np nl nc∧IsN w8.heap.size T (.agg #[.int .i64 n0,.bool nn,.slice np nl nc]) (sg false (val b - val U:Nat))):=by
         rw [← I]; exact ⟨d8.o.1.other (by have:=d6.o.2.2; omega) (Keeps.three _ _ _ _ _),((d8.o.2.setCell _ _ f7).setCell _ _ f7).setCell _ _ f7⟩
        have j5:Hid (BoxQ w.heap.size T x xn pa la ca y yn pb lb cb):=by
         rw [← I]; exact ((e0.o.1.far _ (by show w.heap.size+4≤gq; omega) _).far _ (by show w.heap.size+4≤gq; omega) _).far _ (by show w.heap.size+4≤gq; omega) _
        have e5:Hid (Up w T):=by
         rw [← I]; exact ((e0.o.2.setCell f9 _).setCell f9 _).setCell f9 _
        have r5:Hid (IsDiv (sg true (val a)) (sg false (val b)) (sg true (val Q+1)) (sg false (val b - val U:Nat))):=isDiv_neg false _ _ _ _ _ O.o.1 (by have:=O.o.2; omega) y3.o; have a6:w.heap.size+4≤K.heap.size:=by have:=E.o.2; omega
        have l3:w.heap.size+4≤w8.heap.size:=by omega
        clear I
        go_upto_region 18 with fail
        rw [j4.o]; obtain ⟨_,_,_,_,_,_,r0,r1,r2,t0,t1,t2,f⟩:=j5.o; have j6:=f 2 (by omega) 0; have j7:=f 2 (by omega) 1; have j8:=f 2 (by omega) 2; have j9:=f 3 (by omega) 0; have k0:=f 3 (by omega) 1; have k5:=f 3 (by omega) 2; clear f; obtain ⟨_,q0,q1,q2,fq,_⟩:=d5.o.1; obtain ⟨_,g0,g1,g2,fg,_⟩:=d9.o.1; clear fq fg
        go_wp2_with fail
        go_region
        all_goals
         go_wp2
         refine bodyPost_ret ?_ rfl ⟨_,_,_,_,rfl,⟨((((((d5.o.2.setCell _ _ ?_).setCell _ _ ?_).setCell _ _ ?_).setCell _ _ ?_).setCell _ _ ?_).setCell _ _ ?_).drew.mono ?_,((((((d9.o.2.setCell _ _ ?_).setCell _ _ ?_).setCell _ _ ?_).setCell _ _ ?_).setCell _ _ ?_).setCell _ _ ?_).drew.mono ?_⟩,r5.o,((((((e5.o.setCell ?_ _).setCell ?_ _).setCell ?_ _).setCell ?_ _).setCell ?_ _).setCell ?_ _).drew⟩
         all_goals first
          | (simp [results,Tryz.results46,go_sem,r0,r1,r2,t0,t1,t2]; done)
          | (simp; omega)
          | omega
      ·go_wp2_with fail
       go_region_with (first
        | (go_at_call 21; refine (l1Small_any 1 _ (by omega) (by omega)).mono ?_
           rintro e K ⟨z1,rfl,⟨n1,o1,e9,l8,l5⟩,a6⟩; have a3:Up m K:=(Below.refl _ m).drew.trans (a6.mono leR); obtain ⟨nq,tq,f5,g3⟩:=D.o.2; have l9:val tq=val Q:=by cases nq<;>simp [sg] at g3<;>omega
           have l6:tq.length≤a.length:=len_of_le tq a f5.2.1 p5.o (by rw [l9]; exact y1.o); obtain ⟨i0,i1,i2,i3,i4,m5⟩:=e9.shape; subst m5; have j:Hid (IsZ m.heap.size K (.agg #[.int .i64 i0,.bool i1,.slice i2 i3 i4]) n1 o1∧sg n1 (val o1)=1∧o1.length≤3∧Up m K∧IsZ (w.heap.size+4) m (.agg #[.int .i64 z0,.bool zn,.slice za zl zc]) nq tq∧tq.length≤a.length):=⟨e9,l8,l5,a3,f5,l6⟩; have r8:=Hd g3; obtain ⟨_,D8,D9,E0,_,_⟩:=D.o.1.below D.o.1.lt a3; clear e9 l8 l5 a6 a3 f5 g3 l9 l6)
        | (go_at_call 77; refine (l1Add_any B _ _ nq n1 tq o1 _ (by have:=j.o.2.2.2.1.size; have:=b5.o; have:=Y.o; omega) ((j.o.2.2.2.2.1.below j.o.2.2.2.1).mono (by have:=Y.o; omega)) (j.o.1.mono (by have:=b5.o; have:=Y.o; omega)) (by have:=d3.o.1; have:=j.o.2.2.2.2.2; omega) (by have:=j.o.2.2.1; omega)).mono ?_
           rintro e J ⟨zq,rfl,a5,e3⟩; have H:Up m J:=j.o.2.2.2.1.trans (e3.mono j.o.2.2.2.1.size); have r6:Hid (IsN K.heap.size J zq (sg false (val Q+1))):=by
            rw [r8.o,j.o.2.1] at a5; have e:sg (true != true) (val Q)+1=sg false (val Q+1):=by simp [sg]<;>omega
            rw [e] at a5; exact a5
           have E:Hid (BoxV gq J z0 zn za zl zc∧gq<K.heap.size):=⟨D.o.1.below D.o.1.lt H,Nat.lt_of_lt_of_le D.o.1.lt j.o.2.2.2.1.size⟩; have d8:Hid (BoxV M.heap.size J n0 nn np nl nc∧IsN w8.heap.size J (.agg #[.int .i64 n0,.bool nn,.slice np nl nc]) (sg false (val b - val U:Nat))):=⟨b4.o.1.below b4.o.1.lt H,b4.o.2.below H⟩; have e0:Hid (BoxQ w.heap.size J x xn pa la ca y yn pb lb cb∧Up w J):=⟨Z.o.1.below (by have:=b5.o; omega) H,Z.o.2.trans (H.mono Z.o.2.size)⟩; obtain ⟨m0,mn,mp,ml,mc,t6⟩:=a5.shape; subst t6; obtain ⟨_,v0,v1,v2,fv,_⟩:=E.o.1; have r9:=fv 0; have s3:=fv 1; have s4:=fv 2; clear a5 e3 H fv))
       all_goals
        try simp only [List.getElem_toArray,List.getElem_cons_succ,List.getElem_cons_zero,Act.put,List.setIfInBounds_toArray,List.set_cons_succ,List.set_cons_zero]
        clear a0 a1 a2 b0 b1 b2 r0 r1 r2 t0 t1 t2 q0 q1 q2 n9 o0 o2 v0 v1 v2 r9 s3 s4; obtain ⟨T,I⟩:=exW (((J.setCell ⟨gq,0,none⟩ (.int .i64 m0)).setCell ⟨gq,1,none⟩ (.bool mn)).setCell ⟨gq,2,none⟩ (.slice mp ml mc)); have j4:=hide I; have f9:w.heap.size≤gq:=by omega
        have f7:gq<w8.heap.size:=by have:=d4.o; have:=d6.o.2.2; omega
        have d5:Hid (BoxV gq T m0 mn mp ml mc∧IsN K.heap.size T (.agg #[.int .i64 m0,.bool mn,.slice mp ml mc]) (sg false (val Q+1))):=by
         rw [← I]; exact ⟨E.o.1.put _ _ _ _ _,((r6.o.setCell _ _ E.o.2).setCell _ _ E.o.2).setCell _ _ E.o.2⟩
        have d9:Hid (BoxV M.heap.size T n0 nn np nl nc∧IsN w8.heap.size T (.agg #[.int .i64 n0,.bool nn,.slice np nl nc]) (sg false (val b - val U:Nat))):=by
         rw [← I]; exact ⟨d8.o.1.other (by have:=d6.o.2.2; omega) (Keeps.three _ _ _ _ _),((d8.o.2.setCell _ _ f7).setCell _ _ f7).setCell _ _ f7⟩
        have j5:Hid (BoxQ w.heap.size T x xn pa la ca y yn pb lb cb):=by
         rw [← I]; exact ((e0.o.1.far _ (by show w.heap.size+4≤gq; omega) _).far _ (by show w.heap.size+4≤gq; omega) _).far _ (by show w.heap.size+4≤gq; omega) _
        have e5:Hid (Up w T):=by
         rw [← I]; exact ((e0.o.2.setCell f9 _).setCell f9 _).setCell f9 _
        have r5:Hid (IsDiv (sg true (val a)) (sg true (val b)) (sg false (val Q+1)) (sg false (val b - val U:Nat))):=isDiv_neg true _ _ _ _ _ O.o.1 (by have:=O.o.2; omega) y3.o; have a6:w.heap.size+4≤K.heap.size:=by have:=E.o.2; omega
        have l3:w.heap.size+4≤w8.heap.size:=by omega
        clear I
        go_upto_region 18 with fail
        rw [j4.o]; obtain ⟨_,_,_,_,_,_,r0,r1,r2,t0,t1,t2,f⟩:=j5.o; have j6:=f 2 (by omega) 0; have j7:=f 2 (by omega) 1; have j8:=f 2 (by omega) 2; have j9:=f 3 (by omega) 0; have k0:=f 3 (by omega) 1; have k5:=f 3 (by omega) 2; clear f; obtain ⟨_,q0,q1,q2,fq,_⟩:=d5.o.1; obtain ⟨_,g0,g1,g2,fg,_⟩:=d9.o.1; clear fq fg
        go_wp2_with fail
        go_region
        all_goals
         go_wp2
         refine bodyPost_ret ?_ rfl ⟨_,_,_,_,rfl,⟨((((((d5.o.2.setCell _ _ ?_).setCell _ _ ?_).setCell _ _ ?_).setCell _ _ ?_).setCell _ _ ?_).setCell _ _ ?_).drew.mono ?_,((((((d9.o.2.setCell _ _ ?_).setCell _ _ ?_).setCell _ _ ?_).setCell _ _ ?_).setCell _ _ ?_).setCell _ _ ?_).drew.mono ?_⟩,r5.o,((((((e5.o.setCell ?_ _).setCell ?_ _).setCell ?_ _).setCell ?_ _).setCell ?_ _).setCell ?_ _).drew⟩
         all_goals first
          | (simp [results,Tryz.results46,go_sem,r0,r1,r2,t0,t1,t2]; done)
          | (simp; omega)
          | omega
end Go.Proofs.YtknfmkeipeikkaaGreatDoor
