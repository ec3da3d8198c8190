import Derived.Test.YtnhbmpnhijgpmaaGreatDoorDivFp
import Derived.Deep.DeepCutAuto
set_option maxRecDepth 100000
set_option maxHeartbeats 40000000
namespace Go.Proofs.YtnhbmpnhijgpmaaGreatDoor
open Go.ChangeShapes Go.WideShapes Go.ChangeAt Go.RowKit
theorem l1Make_at (B:Nat) (neg:Bool) (v:Value) (l:List Nat) (w W:World) (h:IsL B w v l) (hb:Up w W) :
 Calls Tryz.prog 65 #[.bool neg,v] W fun e w'=>∃ z,e=.returned z∧IsZ B w' z neg (trimL l)∧Up w w'∧Up W w':=by
 refine (l1Make_any B neg v l W (h.below hb)).mono ?_; rintro e m ⟨z,rfl,j,i⟩; exact ⟨z,rfl,(j _ _ (h.below hb)).below i,hb.trans (i.mono hb.size),i⟩
theorem l1Div_big (B:Nat) (x y:Int) (xn yn:Bool) (pa:Option Addr) (la ca:Nat) (pb:Option Addr) (lb cb:Nat) (na nb:Bool) (a b:List Nat) (w:World) (hBw:B≤w.heap.size) (hz:((la:Int)==0)=false∨((la:Int)==0)=true∧((lb:Int)==0)=false)
 (hza:IsZ B w (.agg #[.int .i64 x,.bool xn,.slice pa la ca]) na a) (hzb:IsZ B w (.agg #[.int .i64 y,.bool yn,.slice pb lb cb]) nb b) (s t:Bool) (ha:ngZ x xn la=s) (hb:ngZ y yn lb=t) (hla:a.length≤100000) (hlb:b.length≤100000) (hne:b≠[]) :
 Calls Tryz.prog 44 #[.agg #[.int .i64 x,.bool xn,.slice pa la ca],.agg #[.int .i64 y,.bool yn,.slice pb lb cb]] w fun e w'=>∃ z1 z2 q r,e=.returned (.tuple #[z1,z2])∧(IsN w.heap.size w' z1 q∧IsN w.heap.size w' z2 r)∧IsDiv (sg s (val a)) (sg t (val b)) q r∧Up w w':=by
 have x3:=Hd ha; have x4:=Hd hb; have b7:Hid (a.length≤100000∧b.length≤100000∧b≠[]∧isTrim b):=⟨hla,hlb,hne,hzb.2.1⟩; have x5:Hid (okL b):=hzb.1; have o9:Hid (okL a):=hza.1; have HX:=boxQ_first w x xn pa la ca y yn pb lb cb 49; obtain ⟨W0,k0⟩:=exW ((((w.alloc (.cells #[.int .i64 x,.bool xn,.slice pa la ca] 49)).alloc (.cells #[.int .i64 y,.bool yn,.slice pb lb cb] 49)).alloc (.cells #[.int .i64 0,.bool false,.slice none 0 0] 49)).alloc (.cells #[.int .i64 0,.bool false,.slice none 0 0] 49)); have B4:=hide k0; have j9:Up w W0:=by rw [← k0]; exact below_al (below_al (below_al (below_alloc _ _) _) _) _
 have F3:=hide j9; have z8:W0.heap.size=w.heap.size+4:=by rw [← k0]; simp
 rw [k0] at HX; have HS:=hide z8; have M:=Hd hBw; have b6:Hid (∀ W,Up W0 W→BoxQ w.heap.size W x xn pa la ca y yn pb lb cb):=fun W hW=>HX.below (by omega) hW; have HF:Hid (∀ W,Up W0 W→Up w W):=fun W hW=>j9.trans (hW.mono (by omega)); have B9:Hid (∀ W,Up W0 W→IsZ B W (.agg #[.int .i64 x,.bool xn,.slice pa la ca]) na a):=fun W hW=>(hza.below j9).below hW; have y4:Hid (∀ W,Up W0 W→IsZ B W (.agg #[.int .i64 y,.bool yn,.slice pb lb cb]) nb b):=fun W hW=>(hzb.below j9).below hW; obtain ⟨a0,a1,a2,b0,b1,b2,r0,r1,r2,t0,t1,t2,f⟩:=HX; clear f k0 z8 ha hb hza hzb j9 hBw hne
 go_enter Tryz.func44,Tryz.ntmps44
 go_wp2_with fail
 rw [B4.o]; refine (l1IsSmall_ex _ _ _ _ _ _).mono ?_; rintro e wA ⟨rfl,hA⟩; have m7:Hid (Up W0 wA):=by rw [hA]; exact below_alloc _ _
 clear hA a0 a1 a2 b0 b1 b2 r0 r1 r2 t0 t1 t2; obtain ⟨a0,a1,a2,b0,b1,b2,r0,r1,r2,t0,t1,t2,f⟩:=b6.o wA m7.o; clear f; have x1:Hid (∃ W1,Up W0 W1∧((((la:Int)==0)=false∧wA=W1)∨(((la:Int)==0)=true∧((lb:Int)==0)=false∧wA.alloc (.cells #[.int .i64 y,.bool yn,.slice pb lb cb] 49)=W1))):=by
  rcases hz with h|⟨h,h'⟩
  ·exact ⟨_,m7.o,.inl ⟨h,rfl⟩⟩
  exact ⟨_,m7.o.alloc m7.o.size _,.inr ⟨h,h',rfl⟩⟩
 obtain ⟨W1,p1,l4⟩:=x1.o; have b5:=Hd p1; clear hz x1 p1
 rcases l4 with ⟨hz,r6⟩|⟨hz,C8,r6⟩
 all_goals
  have B5:=hide r6; clear r6; rw [hz]
  go_upto_region 9 with (go_at_call 39; refine (l1IsSmall_ex _ _ _ _ _ _).mono ?_; rintro e w' ⟨rfl,rfl⟩; try rw [C8])
  rw [B5.o]; clear a0 a1 a2 b0 b1 b2 r0 r1 r2 t0 t1 t2; obtain ⟨a0,a1,a2,b0,b1,b2,r0,r1,r2,t0,t1,t2,f⟩:=b6.o W1 b5.o; clear f
  go_cut [8,9] (fun s8 s9 wx=>∃ (pv:Option Addr) (lv cv:Nat) (pu:Option Addr) (lu cu:Nat) (Q U:List Nat),s8=.slice pv lv cv∧s9=.slice pu lu cu∧(IsL (w.heap.size+4) wx (.slice pv lv cv) Q∧IsL (w.heap.size+4) wx (.slice pu lu cu) U)∧val a=val Q*val b+val U∧val U<val b∧Up W0 wx)
  case first=>
   go_region_with (first
    | (go_at_call_of 62 (Value.int IntKind.i64 x); refine (l1Limbs_two B _ na a _ (B9.o _ b5.o.drew) (by have:=b5.o.size; have:=HS.o; have:=M.o; show B≤W1.heap.size; omega)).mono ?_
       rintro e wa ⟨va,rfl,t5,A0,y9⟩; have y1:Hid (IsL B wa va a∧(a=[]→va=.slice none 0 0)):=⟨t5,A0⟩; have h7:Hid (Up W0 wa):=b5.o.drew.trans (y9.mono b5.o.size); obtain ⟨c0,c1,c2,d0,d1,d2,_,_,_,_,_,_,f⟩:=b6.o wa h7.o; obtain ⟨q1,k1,e1,_⟩:=id t5; subst e1; clear t5 A0 y9 f)
    | (go_at_call_of 62 (Value.int IntKind.i64 y); refine (l1Limbs_two B _ nb b _ (y4.o _ h7.o) (by have:=h7.o.size; have:=HS.o; have:=M.o; omega)).mono ?_
       rintro e wb ⟨vb,rfl,t6,_,r9⟩; have B3:=Hd t6; have y2:Hid (IsL B wb (.slice q1 a.length k1) a):=y1.o.1.below r9; have h8:Hid (Up W0 wb):=h7.o.trans (r9.mono h7.o.size); obtain ⟨q2,k2,e2,_⟩:=id t6; subst e2; clear t6 r9)
    | (go_at_call 69; refine (l1DivD_any B _ _ a b _ (by have:=h8.o.size; have:=HS.o; have:=M.o; omega) b7.o.1 y2.o y1.o.2 B3.o b7.o.2.1 b7.o.2.2.2 b7.o.2.2.1).mono ?_
       rintro e wd ⟨v,u,Q,U,rfl,⟨hv,hu⟩,d6,l1,z3⟩; have m9:Hid (IsL (w.heap.size+4) wd v Q∧IsL (w.heap.size+4) wd u U):=⟨hv.mono (by have:=h8.o.size; have:=HS.o; omega),hu.mono (by have:=h8.o.size; have:=HS.o; omega)⟩; have J:Hid (val a=val Q*val b+val U∧val U<val b∧Up W0 wd):=⟨d6,l1,h8.o.trans (z3.mono h8.o.size)⟩; obtain ⟨pv,cv,ev,_⟩:=id hv; obtain ⟨pu,cu,eu,_⟩:=id hu; subst ev eu; clear hv hu d6 l1 z3))
   all_goals
    go_wp2_with fail
    go_meet
    exact ⟨_,_,_,_,_,_,Q,U,rfl,rfl,m9.o,J.o.1,J.o.2.1,J.o.2.2⟩
  case rest=>
   obtain ⟨pv,lv,cv,pu,lu,cu,Q,U,rfl,rfl,s7,d6,l1,g7⟩:=hcut; have m9:Hid (∀ W,Up wc W→IsL (w.heap.size+4) W (.slice pv lv cv) Q∧IsL (w.heap.size+4) W (.slice pu lu cu) U):=fun W hW=>⟨s7.1.below hW,s7.2.below hW⟩; have J:Hid (val a=val Q*val b+val U∧val U<val b):=⟨d6,l1⟩; have b3:=Hd g7; obtain ⟨w1,C7⟩:=exW wc; subst C7; clear s7 d6 l1 g7 a0 a1 a2 b0 b1 b2 r0 r1 r2 t0 t1 t2; obtain ⟨a0,a1,a2,b0,b1,b2,r0,r1,r2,t0,t1,t2,f⟩:=b6.o _ b3.o; clear f; have C3:w.heap.size<wc.heap.size:=by have:=b3.o.size; have:=HS.o; omega
   have C4:w.heap.size+1<wc.heap.size:=by have:=b3.o.size; have:=HS.o; omega
   go_upto_region 10 with fail
   go_cut [10] (fun s10 wx=>∃ (gq:Nat) (z0:Int) (zn:Bool) (za:Option Addr) (zl zc:Nat),s10=.pointer (some ⟨gq,0,none⟩)∧W0.heap.size≤gq∧BoxV gq wx z0 zn za zl zc∧IsN (w.heap.size+4) wx (.agg #[.int .i64 z0,.bool zn,.slice za zl zc]) (sg (s != t) (val Q))∧Up wc wx)
   case first=>
    go_region_with (first
     | (go_at_call_of 60 (Value.int IntKind.i64 x); refine (l1Neg_ex _ _ _ _ _ _).mono ?_; rintro e w' ⟨rfl,rfl⟩; rw [x3.o])
     | (go_at_call_of 60 (Value.int IntKind.i64 y); refine (l1Neg_ex _ _ _ _ _ _).mono ?_; rintro e w' ⟨rfl,rfl⟩; rw [x4.o])
     | (go_at_call 65; refine (l1Make_at (w.heap.size+4) _ _ Q wc _ (m9.o wc (Below.refl _ _)).1 ?_).mono ?_
        ·repeat' (first|exact Below.refl _ _|refine Below.drew ?_|refine Below.alloc ?_ ?_ _|(simp; done)|(simp; omega))
        rintro e we ⟨z,rfl,a3,z5,o4⟩; have hN:IsN (w.heap.size+4) we z (sg (s != t) (val Q)):=⟨s != t,trimL Q,a3,by rw [val_trimL]⟩; have HN:=Hd hN; have e9:=Hd z5; have y5:∀ g,BoxV g _ 0 false none 0 0→BoxV g we 0 false none 0 0:=fun g h=>h.below h.lt o4; have q5:=hide y5; have G1:=fun (i:Nat) (g:Nat) hp=>o4.cell (p:=⟨g,i,none⟩) hp; have G2:=fun (i:Nat) (g:Nat) hp=>o4.frozen (p:=⟨g,i,none⟩) hp; obtain ⟨z0,zn,za,zl,zc,l5⟩:=hN.shape; subst l5; clear a3 z5 hN o4 y5))
    all_goals
     go_wp2_with fail
     go_meet
     first
      | exact ⟨we.heap.size,z0,zn,za,zl,zc,rfl,(by have:=e9.o.size; have:=b3.o.size; omega),boxV_new we z0 zn za zl zc _,HN.o.below (below_alloc _ _),e9.o.alloc e9.o.size _⟩
      | (have hbv:BoxV wc.heap.size we 0 false none 0 0:=q5.o _ (by repeat' (first|exact boxV_new' _ _ (by simp) _ _ _ _ _ _|refine BoxV.alloc ?_ _|refine BoxV.drew ?_)); exact ⟨wc.heap.size,z0,zn,za,zl,zc,rfl,(by have:=b3.o.size; omega),hbv.put z0 zn za zl zc,HN.o.keeps hbv.n hbv.n (Keeps.three _ _ _ _ _),((e9.o.setCell (by simp) _).setCell (by simp) _).setCell (by simp) _⟩)
      | (have hbv:BoxV (wc.heap.size+1) we 0 false none 0 0:=q5.o _ (by repeat' (first|exact boxV_new' _ _ (by simp) _ _ _ _ _ _|refine BoxV.alloc ?_ _|refine BoxV.drew ?_)); exact ⟨wc.heap.size+1,z0,zn,za,zl,zc,rfl,(by have:=b3.o.size; omega),hbv.put z0 zn za zl zc,HN.o.keeps hbv.n hbv.n (Keeps.three _ _ _ _ _),((e9.o.setCell (by simp) _).setCell (by simp) _).setCell (by simp) _⟩)
      | (have hbv:BoxV (wc.heap.size+1+1) we 0 false none 0 0:=q5.o _ (by repeat' (first|exact boxV_new' _ _ (by simp) _ _ _ _ _ _|refine BoxV.alloc ?_ _|refine BoxV.drew ?_)); exact ⟨wc.heap.size+1+1,z0,zn,za,zl,zc,rfl,(by have:=b3.o.size; omega),hbv.put z0 zn za zl zc,HN.o.keeps hbv.n hbv.n (Keeps.three _ _ _ _ _),((e9.o.setCell (by simp; omega) _).setCell (by simp; omega) _).setCell (by simp; omega) _⟩)
   case rest=>
    obtain ⟨gq,z0,zn,za,zl,zc,rfl,z6,hbv,hN,g7⟩:=hcut; have h9:Hid (W0.heap.size≤gq∧BoxV gq wc z0 zn za zl zc∧IsN (w.heap.size+4) wc (.agg #[.int .i64 z0,.bool zn,.slice za zl zc]) (sg (s != t) (val Q))):=⟨z6,hbv,hN⟩; have w0:Hid (Up W0 wc):=b3.o.trans (g7.mono b3.o.size); have B1:Hid (IsL (w.heap.size+4) wc (.slice pu lu cu) U):=(m9.o wc g7).2; clear z6 hbv hN g7 a0 a1 a2 b0 b1 b2 r0 r1 r2 t0 t1 t2 C3 C4
    go_wp2_with fail
    refine (l1Make_at (w.heap.size+4) false _ U wc wc B1.o (Below.refl _ _)).mono ?_; rintro e I ⟨zr,rfl,a3,y6,_⟩; have x2:=Hd a3; have p8:=Hd y6; obtain ⟨y0,a5,ya,yl,yc,l5⟩:=a3.shape; subst l5; clear a3 y6; obtain ⟨w3,o5⟩:=exW (I.alloc (.cells #[.int .i64 y0,.bool a5,.slice ya yl yc] 49)); have B6:=hide o5; have r8:Up I w3:=by rw [← o5]; exact below_alloc _ _
    have o0:Up wc w3:=p8.o.trans (r8.mono p8.o.size); have p9:Hid (Up W0 w3):=w0.o.trans (o0.mono w0.o.size); have m8:Hid (BoxV gq w3 z0 zn za zl zc∧IsN (w.heap.size+4) w3 (.agg #[.int .i64 z0,.bool zn,.slice za zl zc]) (sg (s != t) (val Q))∧gq<I.heap.size):=⟨h9.o.2.1.below h9.o.2.1.lt o0,h9.o.2.2.below o0,Nat.lt_of_lt_of_le h9.o.2.1.lt p8.o.size⟩; have q8:Hid (BoxV I.heap.size w3 y0 a5 ya yl yc∧IsN (w.heap.size+4) w3 (.agg #[.int .i64 y0,.bool a5,.slice ya yl yc]) (sg false (val U))):=by
     refine ⟨by rw [← o5]; exact boxV_new _ _ _ _ _ _ _,⟨false,trimL U,x2.o.below r8,by rw [val_trimL]⟩⟩
    have C0:Hid ((((yl:Int)==0)&&(y0==0))=decide (val U=0)):=by
     have h:=zero_of_isZ x2.o; rw [val_trimL] at h; exact h
    clear o5 r8 o0; obtain ⟨a0,a1,a2,b0,b1,b2,r0,r1,r2,t0,t1,t2,f⟩:=b6.o _ p9.o; clear f
    go_upto_region 12 with fail
    rw [B6.o]
    go_wp2_with fail
    refine (l1Neg_ex _ _ _ _ _ _).mono ?_; rintro e w4 ⟨rfl,A2⟩; rw [x3.o]; have g3:Up w3 w4:=by rw [A2]; exact below_alloc _ _
    have m6:Hid (Up W0 w4):=p9.o.trans (g3.mono p9.o.size); have d8:Hid (BoxV gq w4 z0 zn za zl zc∧IsN (w.heap.size+4) w4 (.agg #[.int .i64 z0,.bool zn,.slice za zl zc]) (sg (s != t) (val Q))∧gq<I.heap.size):=⟨m8.o.1.below m8.o.1.lt g3,m8.o.2.1.below g3,m8.o.2.2⟩; have i6:Hid (BoxV I.heap.size w4 y0 a5 ya yl yc∧IsN (w.heap.size+4) w4 (.agg #[.int .i64 y0,.bool a5,.slice ya yl yc]) (sg false (val U))):=⟨q8.o.1.below q8.o.1.lt g3,q8.o.2.below g3⟩; clear A2 g3 a0 a1 a2 b0 b1 b2 r0 r1 r2 t0 t1 t2; obtain ⟨a0,a1,a2,b0,b1,b2,r0,r1,r2,t0,t1,t2,f⟩:=b6.o _ m6.o; have j0:=f 2 (by omega) 0; have j1:=f 2 (by omega) 1; have j2:=f 2 (by omega) 2; have j3:=f 3 (by omega) 0; have j4:=f 3 (by omega) 1; have j5:=f 3 (by omega) 2; clear f; obtain ⟨_,q0,q1,q2,fq,_⟩:=d8.o.1; obtain ⟨_,g0,g1,g2,fg,_⟩:=i6.o.1; clear fq fg; have G3:w.heap.size+4≤gq:=by have:=h9.o.1; have:=HS.o; omega
    have G4:w.heap.size+4≤I.heap.size:=by have:=d8.o.2.2; omega
    have d7:Hid (Up w w4):=HF.o _ m6.o
    cases s
    ·go_wp2_with fail
     go_region
     all_goals
      go_wp2
      refine bodyPost_ret ?_ rfl ⟨_,_,_,_,rfl,⟨((((((d8.o.2.1.setCell _ _ ?_).setCell _ _ ?_).setCell _ _ ?_).setCell _ _ ?_).setCell _ _ ?_).setCell _ _ ?_).drew.mono ?_,((((((i6.o.2.setCell _ _ ?_).setCell _ _ ?_).setCell _ _ ?_).setCell _ _ ?_).setCell _ _ ?_).setCell _ _ ?_).drew.mono ?_⟩,isDiv_pos t _ _ _ _ J.o.1 J.o.2,((((((d7.o.setCell ?_ _).setCell ?_ _).setCell ?_ _).setCell ?_ _).setCell ?_ _).setCell ?_ _).drew⟩
      all_goals first
       | (simp [results,Tryz.results44,go_sem,r0,r1,r2,t0,t1,t2]; done)
       | (simp; omega)
       | omega
    ·go_wp2_with fail
     refine (l1Zero_ex _ _ _ _ _ _).mono ?_; rintro e w5 ⟨rfl,g4⟩; rw [C0.o]; have e8:Hid (Up W0 w5):=m6.o.trans (g4.mono m6.o.size); have f5:Hid (BoxV gq w5 z0 zn za zl zc∧IsN (w.heap.size+4) w5 (.agg #[.int .i64 z0,.bool zn,.slice za zl zc]) (sg (true != t) (val Q))∧gq<I.heap.size):=⟨d8.o.1.below d8.o.1.lt g4,d8.o.2.1.below g4,d8.o.2.2⟩; have f7:Hid (BoxV I.heap.size w5 y0 a5 ya yl yc∧IsN (w.heap.size+4) w5 (.agg #[.int .i64 y0,.bool a5,.slice ya yl yc]) (sg false (val U))):=⟨i6.o.1.below i6.o.1.lt g4,i6.o.2.below g4⟩; have d7:Hid (Up w w5):=HF.o _ e8.o; clear g4 a0 a1 a2 b0 b1 b2 r0 r1 r2 t0 t1 t2 j0 j1 j2 j3 j4 j5 q0 q1 q2 g0 g1 g2; obtain ⟨a0,a1,a2,b0,b1,b2,r0,r1,r2,t0,t1,t2,f⟩:=b6.o _ e8.o; have j0:=f 2 (by omega) 0; have j1:=f 2 (by omega) 1; have j2:=f 2 (by omega) 2; have j3:=f 3 (by omega) 0; have j4:=f 3 (by omega) 1; have j5:=f 3 (by omega) 2; clear f; obtain ⟨_,q0,q1,q2,fq,_⟩:=f5.o.1; obtain ⟨_,g0,g1,g2,fg,_⟩:=f7.o.1; have j6:=fg 0; have j7:=fg 1; have j8:=fg 2; have n3:=fq 0; have n4:=fq 1; have n5:=fq 2; clear fq fg
     by_cases hU:val U=0
     ·have zz:decide (val U=0)=true:=decide_eq_true hU; have A7:Hid (IsDiv (sg true (val a)) (sg t (val b)) (sg (true != t) (val Q)) (sg false (val U))):=by
       have h:=J.o; rw [hU] at h ⊢; exact isDiv_zero t _ _ _ h.1 h.2
      rw [zz]; clear hU
      go_wp2_with fail
      go_region
      all_goals
       go_wp2
       refine bodyPost_ret ?_ rfl ⟨_,_,_,_,rfl,⟨((((((f5.o.2.1.setCell _ _ ?_).setCell _ _ ?_).setCell _ _ ?_).setCell _ _ ?_).setCell _ _ ?_).setCell _ _ ?_).drew.mono ?_,((((((f7.o.2.setCell _ _ ?_).setCell _ _ ?_).setCell _ _ ?_).setCell _ _ ?_).setCell _ _ ?_).setCell _ _ ?_).drew.mono ?_⟩,A7.o,((((((d7.o.setCell ?_ _).setCell ?_ _).setCell ?_ _).setCell ?_ _).setCell ?_ _).setCell ?_ _).drew⟩
       all_goals first
        | (simp [results,Tryz.results44,go_sem,r0,r1,r2,t0,t1,t2]; done)
        | (simp; omega)
        | omega
     ·have zz:decide (val U=0)=false:=decide_eq_false hU; rw [zz]; have x9:Hid (0<val U):=Nat.pos_of_ne_zero hU; clear hU
      go_wp2_with fail
      refine (l1Limbs_any B _ nb b _ (y4.o _ e8.o) (by have:=e8.o.size; have:=HS.o; have:=M.o; omega)).mono ?_; rintro e w6 ⟨v6,rfl,t3,y7⟩; have B2:=Hd t3; have v7:=Hd y7; obtain ⟨p6,c6,e6,_⟩:=id t3; subst e6; clear t3 y7
      go_wp2_with fail
      refine (l1Make_at B false _ b w6 w6 B2.o (Below.refl _ _)).mono ?_; rintro e w7 ⟨zs,rfl,a3,y8,_⟩; have A9:=Hd a3; have q3:Hid (Up w5 w7):=v7.o.trans (y8.mono v7.o.size); obtain ⟨x0,u9,xa,xl,xc,l5⟩:=a3.shape; subst l5; clear a3 y8; obtain ⟨Z,o6⟩:=exW (w7.alloc (.cells #[.int .i64 x0,.bool u9,.slice xa xl xc] 49)); have B7:=hide o6; have k5:Up w7 Z:=by rw [← o6]; exact below_alloc _ _
      have f9:Up w5 Z:=q3.o.trans (k5.mono q3.o.size); have q4:Hid (Up W0 Z):=e8.o.trans (f9.mono e8.o.size); have c7:Hid (BoxV gq Z z0 zn za zl zc∧IsN (w.heap.size+4) Z (.agg #[.int .i64 z0,.bool zn,.slice za zl zc]) (sg (true != t) (val Q))∧gq<I.heap.size):=⟨f5.o.1.below f5.o.1.lt f9,f5.o.2.1.below f9,f5.o.2.2⟩; have i7:Hid (BoxV I.heap.size Z y0 a5 ya yl yc∧IsN (w.heap.size+4) Z (.agg #[.int .i64 y0,.bool a5,.slice ya yl yc]) (sg false (val U))∧I.heap.size<w7.heap.size):=⟨f7.o.1.below f7.o.1.lt f9,f7.o.2.below f9,Nat.lt_of_lt_of_le f7.o.1.lt q3.o.size⟩; have x8:Hid (BoxV w7.heap.size Z x0 u9 xa xl xc∧IsZ B Z (.agg #[.int .i64 x0,.bool u9,.slice xa xl xc]) false (trimL b)):=⟨by rw [← o6]; exact boxV_new _ _ _ _ _ _ _,A9.o.below k5⟩; clear o6 k5 f9 a0 a1 a2 b0 b1 b2 r0 r1 r2 t0 t1 t2 j0 j1 j2 j3 j4 j5 q0 q1 q2 g0 g1 g2 j6 j7 j8 n3 n4 n5; obtain ⟨_,g0,g1,g2,fg,_⟩:=i7.o.1; obtain ⟨_,s0,s1,s2,fs,_⟩:=x8.o.1; have j6:=fg 0; have j7:=fg 1; have j8:=fg 2; clear fs fg
      go_upto_region 14 with fail
      rw [B7.o]
      go_wp2_with fail
      obtain ⟨nr,tr,r7,t7⟩:=i7.o.2.1; have A1:val tr=val U:=by cases nr<;>simp [sg] at t7<;>omega
      have C1:tr.length≤b.length:=len_of_val tr b r7.2.1 x5.o (by rw [A1]; exact J.o.2); refine (l1Sub_any B _ _ false nr (trimL b) tr _ (by have:=q4.o.size; have:=HS.o; have:=M.o; omega) x8.o.2 (r7.mono (by have:=M.o; omega)) (by have:=trimL_len b; have:=b7.o.2.1; omega) (by have:=b7.o.2.1; omega)).mono ?_; rintro e w9 ⟨z9,rfl,o3,g6⟩; have B0:Hid (IsN Z.heap.size w9 z9 (sg false (val b - val U:Nat))):=by
       have e:sg false (val (trimL b)) - sg nr (val tr)=sg false (val b - val U:Nat):=by rw [t7,val_trimL]; have:=J.o.2; simp [sg]; omega
       rw [e] at o3; exact o3
      have n2:Hid (BoxV I.heap.size w9 y0 a5 ya yl yc):=i7.o.1.below i7.o.1.lt g6; have x6:Hid (BoxV gq w9 z0 zn za zl zc∧IsN (w.heap.size+4) w9 (.agg #[.int .i64 z0,.bool zn,.slice za zl zc]) (sg (true != t) (val Q))):=⟨c7.o.1.below c7.o.1.lt g6,c7.o.2.1.below g6⟩; have v9:Hid (Up W0 w9):=q4.o.trans (g6.mono q4.o.size); have b8:Hid (I.heap.size<Z.heap.size):=i7.o.1.lt; have v8:Hid (Z.heap.size≤w9.heap.size):=g6.size; obtain ⟨n0,nn,np,nl,nc,C2⟩:=o3.shape; subst C2; clear r7 t7 A1 C1 o3 g6 g0 g1 g2 s0 s1 s2 j6 j7 j8; obtain ⟨_,g0,g1,g2,fg,_⟩:=n2.o; have j6:=fg 0; have j7:=fg 1; have j8:=fg 2; clear fg; obtain ⟨b4,Y⟩:=exW (((w9.setCell ⟨I.heap.size,0,none⟩ (.int .i64 n0)).setCell ⟨I.heap.size,1,none⟩ (.bool nn)).setCell ⟨I.heap.size,2,none⟩ (.slice np nl nc)); have y3:=hide Y; have k7:Keeps I.heap.size I.heap.size w9 b4:=by rw [← Y]; exact Keeps.three _ _ _ _ _
      have c8:Hid (BoxV I.heap.size b4 n0 nn np nl nc∧IsN Z.heap.size b4 (.agg #[.int .i64 n0,.bool nn,.slice np nl nc]) (sg false (val b - val U:Nat))):=by
       rw [← Y]; exact ⟨n2.o.put _ _ _ _ _,((B0.o.setCell _ _ b8.o).setCell _ _ b8.o).setCell _ _ b8.o⟩
      have i5:Hid (BoxV gq b4 z0 zn za zl zc∧IsN (w.heap.size+4) b4 (.agg #[.int .i64 z0,.bool zn,.slice za zl zc]) (sg (true != t) (val Q))):=⟨x6.o.1.other (by have:=c7.o.2.2; omega) k7,x6.o.2.keeps n2.o.n n2.o.n k7⟩; have o8:Hid (Up w b4):=by
       rw [← Y]; exact (((HF.o _ v9.o).setCell (by show w.heap.size≤I.heap.size; omega) _).setCell (by show w.heap.size≤I.heap.size; omega) _).setCell (by show w.heap.size≤I.heap.size; omega) _
      have p0:Hid (BoxQ w.heap.size b4 x xn pa la ca y yn pb lb cb∧Z.heap.size≤b4.heap.size):=by
       refine ⟨?_,by rw [← Y]; simpa using v8.o⟩; rw [← Y]; exact (((b6.o _ v9.o).far _ (by show w.heap.size+4≤I.heap.size; omega) _).far _ (by show w.heap.size+4≤I.heap.size; omega) _).far _ (by show w.heap.size+4≤I.heap.size; omega) _
      clear Y k7
      go_upto_region 15 with fail
      rw [y3.o]; clear g0 g1 g2 j6 j7 j8; obtain ⟨a0,a1,a2,b0,b1,b2,r0,r1,r2,t0,t1,t2,f⟩:=p0.o.1; clear f
      go_wp2_with fail
      refine (l1Neg_ex _ _ _ _ _ _).mono ?_; rintro e m ⟨rfl,p2⟩; rw [x4.o]; have L:Up b4 m:=by rw [p2]; exact below_alloc _ _
      have A:Hid (BoxV gq m z0 zn za zl zc∧IsN (w.heap.size+4) m (.agg #[.int .i64 z0,.bool zn,.slice za zl zc]) (sg (true != t) (val Q))):=⟨i5.o.1.below i5.o.1.lt L,i5.o.2.below L⟩; have a6:Hid (BoxV I.heap.size m n0 nn np nl nc∧IsN Z.heap.size m (.agg #[.int .i64 n0,.bool nn,.slice np nl nc]) (sg false (val b - val U:Nat))):=⟨c8.o.1.below c8.o.1.lt L,c8.o.2.below L⟩; have a7:Hid (w.heap.size+4≤m.heap.size):=by have:=L.size; have:=c8.o.1.lt; show w.heap.size+4≤m.heap.size; omega
      have O:Hid (BoxQ w.heap.size m x xn pa la ca y yn pb lb cb∧Up w m):=⟨p0.o.1.below (by have:=c8.o.1.lt; omega) L,o8.o.trans (L.mono o8.o.size)⟩; have x7:Hid (val Q≤val a):=by
       have h:=J.o; have hp:1≤val b:=by omega
       have:val Q*1≤val Q*val b:=Nat.mul_le_mul_left _ hp
       show val Q≤val a
       omega
      clear p2 L a0 a1 a2 b0 b1 b2 r0 r1 r2 t0 t1 t2; obtain ⟨a0,a1,a2,b0,b1,b2,r0,r1,r2,t0,t1,t2,f⟩:=O.o.1; obtain ⟨_,q0,q1,q2,fq,_⟩:=A.o.1; have n3:=fq 0; have n4:=fq 1; have n5:=fq 2; clear f fq
      cases t
      ·go_wp2_with fail
       go_region_with (first
        | (go_at_call 20; refine (l1Small_any 1 _ (by omega) (by omega)).mono ?_
           rintro e H ⟨z1,rfl,⟨n1,o1,e0,l2,k9⟩,V⟩; have S:Up m H:=(Below.refl _ m).drew.trans (V.mono leR); obtain ⟨nq,tq,e3,e7⟩:=A.o.2; have l3:val tq=val Q:=by cases nq<;>simp [sg] at e7<;>omega
           have l0:tq.length≤a.length:=len_of_le tq a e3.2.1 o9.o (by rw [l3]; exact x7.o); obtain ⟨i0,i1,i2,i3,i4,l4⟩:=e0.shape; subst l4; have j:Hid (IsZ m.heap.size H (.agg #[.int .i64 i0,.bool i1,.slice i2 i3 i4]) n1 o1∧sg n1 (val o1)=1∧o1.length≤3∧Up m H∧IsZ (w.heap.size+4) m (.agg #[.int .i64 z0,.bool zn,.slice za zl zc]) nq tq∧tq.length≤a.length):=⟨e0,l2,k9,S,e3,l0⟩; have q9:=Hd e7; obtain ⟨_,D5,D6,D7,_,_⟩:=A.o.1.below A.o.1.lt S; clear e0 l2 k9 V S e3 e7 l3 l0)
        | (go_at_call 70; refine (l1Sub_any B _ _ nq n1 tq o1 _ (by have:=j.o.2.2.2.1.size; have:=a7.o; have:=M.o; omega) ((j.o.2.2.2.2.1.below j.o.2.2.2.1).mono (by have:=M.o; omega)) (j.o.1.mono (by have:=a7.o; have:=M.o; omega)) (by have:=b7.o.1; have:=j.o.2.2.2.2.2; omega) (by have:=j.o.2.2.1; omega)).mono ?_
           rintro e G ⟨zq,rfl,T,d5⟩; have E:Up m G:=j.o.2.2.2.1.trans (d5.mono j.o.2.2.2.1.size); have q7:Hid (IsN H.heap.size G zq (sg true (val Q+1))):=by
            rw [q9.o,j.o.2.1] at T; have e:sg (true != false) (val Q) - 1=sg true (val Q+1):=by simp [sg]<;>omega
            rw [e] at T; exact T
           have D:Hid (BoxV gq G z0 zn za zl zc∧gq<H.heap.size):=⟨A.o.1.below A.o.1.lt E,Nat.lt_of_lt_of_le A.o.1.lt j.o.2.2.2.1.size⟩; have c9:Hid (BoxV I.heap.size G n0 nn np nl nc∧IsN Z.heap.size G (.agg #[.int .i64 n0,.bool nn,.slice np nl nc]) (sg false (val b - val U:Nat))):=⟨a6.o.1.below a6.o.1.lt E,a6.o.2.below E⟩; have d4:Hid (BoxQ w.heap.size G x xn pa la ca y yn pb lb cb∧Up w G):=⟨O.o.1.below (by have:=a7.o; omega) E,O.o.2.trans (E.mono O.o.2.size)⟩; obtain ⟨m0,mn,mp,ml,mc,s5⟩:=T.shape; subst s5; obtain ⟨_,v0,v1,v2,fv,_⟩:=D.o.1; have r3:=fv 0; have r4:=fv 1; have r5:=fv 2; clear T d5 E fv))
       all_goals
        try simp only [List.getElem_toArray,List.getElem_cons_succ,List.getElem_cons_zero,Act.put,List.setIfInBounds_toArray,List.set_cons_succ,List.set_cons_zero]
        clear a0 a1 a2 b0 b1 b2 r0 r1 r2 t0 t1 t2 q0 q1 q2 n3 n4 n5 v0 v1 v2 r3 r4 r5; obtain ⟨K,F⟩:=exW (((G.setCell ⟨gq,0,none⟩ (.int .i64 m0)).setCell ⟨gq,1,none⟩ (.bool mn)).setCell ⟨gq,2,none⟩ (.slice mp ml mc)); have i8:=hide F; have e5:w.heap.size≤gq:=by omega
        have e4:gq<Z.heap.size:=by have:=b8.o; have:=c7.o.2.2; omega
        have b9:Hid (BoxV gq K m0 mn mp ml mc∧IsN H.heap.size K (.agg #[.int .i64 m0,.bool mn,.slice mp ml mc]) (sg true (val Q+1))):=by
         rw [← F]; exact ⟨D.o.1.put _ _ _ _ _,((q7.o.setCell _ _ D.o.2).setCell _ _ D.o.2).setCell _ _ D.o.2⟩
        have d3:Hid (BoxV I.heap.size K n0 nn np nl nc∧IsN Z.heap.size K (.agg #[.int .i64 n0,.bool nn,.slice np nl nc]) (sg false (val b - val U:Nat))):=by
         rw [← F]; exact ⟨c9.o.1.other (by have:=c7.o.2.2; omega) (Keeps.three _ _ _ _ _),((c9.o.2.setCell _ _ e4).setCell _ _ e4).setCell _ _ e4⟩
        have i9:Hid (BoxQ w.heap.size K x xn pa la ca y yn pb lb cb):=by
         rw [← F]; exact ((d4.o.1.far _ (by show w.heap.size+4≤gq; omega) _).far _ (by show w.heap.size+4≤gq; omega) _).far _ (by show w.heap.size+4≤gq; omega) _
        have d7:Hid (Up w K):=by
         rw [← F]; exact ((d4.o.2.setCell e5 _).setCell e5 _).setCell e5 _
        have q6:Hid (IsDiv (sg true (val a)) (sg false (val b)) (sg true (val Q+1)) (sg false (val b - val U:Nat))):=isDiv_neg false _ _ _ _ _ J.o.1 (by have:=J.o.2; omega) x9.o; have V:w.heap.size+4≤H.heap.size:=by have:=D.o.2; omega
        have k5:w.heap.size+4≤Z.heap.size:=by omega
        clear F
        go_upto_region 18 with fail
        rw [i8.o]; obtain ⟨_,_,_,_,_,_,r0,r1,r2,t0,t1,t2,f⟩:=i9.o; have j0:=f 2 (by omega) 0; have j1:=f 2 (by omega) 1; have j2:=f 2 (by omega) 2; have j3:=f 3 (by omega) 0; have j4:=f 3 (by omega) 1; have j5:=f 3 (by omega) 2; clear f; obtain ⟨_,q0,q1,q2,fq,_⟩:=b9.o.1; obtain ⟨_,g0,g1,g2,fg,_⟩:=d3.o.1; clear fq fg
        go_wp2_with fail
        go_region
        all_goals
         go_wp2
         refine bodyPost_ret ?_ rfl ⟨_,_,_,_,rfl,⟨((((((b9.o.2.setCell _ _ ?_).setCell _ _ ?_).setCell _ _ ?_).setCell _ _ ?_).setCell _ _ ?_).setCell _ _ ?_).drew.mono ?_,((((((d3.o.2.setCell _ _ ?_).setCell _ _ ?_).setCell _ _ ?_).setCell _ _ ?_).setCell _ _ ?_).setCell _ _ ?_).drew.mono ?_⟩,q6.o,((((((d7.o.setCell ?_ _).setCell ?_ _).setCell ?_ _).setCell ?_ _).setCell ?_ _).setCell ?_ _).drew⟩
         all_goals first
          | (simp [results,Tryz.results44,go_sem,r0,r1,r2,t0,t1,t2]; done)
          | (simp; omega)
          | omega
      ·go_wp2_with fail
       go_region_with (first
        | (go_at_call 20; refine (l1Small_any 1 _ (by omega) (by omega)).mono ?_
           rintro e H ⟨z1,rfl,⟨n1,o1,e0,l2,k9⟩,V⟩; have S:Up m H:=(Below.refl _ m).drew.trans (V.mono leR); obtain ⟨nq,tq,e3,e7⟩:=A.o.2; have l3:val tq=val Q:=by cases nq<;>simp [sg] at e7<;>omega
           have l0:tq.length≤a.length:=len_of_le tq a e3.2.1 o9.o (by rw [l3]; exact x7.o); obtain ⟨i0,i1,i2,i3,i4,l4⟩:=e0.shape; subst l4; have j:Hid (IsZ m.heap.size H (.agg #[.int .i64 i0,.bool i1,.slice i2 i3 i4]) n1 o1∧sg n1 (val o1)=1∧o1.length≤3∧Up m H∧IsZ (w.heap.size+4) m (.agg #[.int .i64 z0,.bool zn,.slice za zl zc]) nq tq∧tq.length≤a.length):=⟨e0,l2,k9,S,e3,l0⟩; have q9:=Hd e7; obtain ⟨_,D5,D6,D7,_,_⟩:=A.o.1.below A.o.1.lt S; clear e0 l2 k9 V S e3 e7 l3 l0)
        | (go_at_call 68; refine (l1Add_any B _ _ nq n1 tq o1 _ (by have:=j.o.2.2.2.1.size; have:=a7.o; have:=M.o; omega) ((j.o.2.2.2.2.1.below j.o.2.2.2.1).mono (by have:=M.o; omega)) (j.o.1.mono (by have:=a7.o; have:=M.o; omega)) (by have:=b7.o.1; have:=j.o.2.2.2.2.2; omega) (by have:=j.o.2.2.1; omega)).mono ?_
           rintro e G ⟨zq,rfl,T,d5⟩; have E:Up m G:=j.o.2.2.2.1.trans (d5.mono j.o.2.2.2.1.size); have q7:Hid (IsN H.heap.size G zq (sg false (val Q+1))):=by
            rw [q9.o,j.o.2.1] at T; have e:sg (true != true) (val Q)+1=sg false (val Q+1):=by simp [sg]<;>omega
            rw [e] at T; exact T
           have D:Hid (BoxV gq G z0 zn za zl zc∧gq<H.heap.size):=⟨A.o.1.below A.o.1.lt E,Nat.lt_of_lt_of_le A.o.1.lt j.o.2.2.2.1.size⟩; have c9:Hid (BoxV I.heap.size G n0 nn np nl nc∧IsN Z.heap.size G (.agg #[.int .i64 n0,.bool nn,.slice np nl nc]) (sg false (val b - val U:Nat))):=⟨a6.o.1.below a6.o.1.lt E,a6.o.2.below E⟩; have d4:Hid (BoxQ w.heap.size G x xn pa la ca y yn pb lb cb∧Up w G):=⟨O.o.1.below (by have:=a7.o; omega) E,O.o.2.trans (E.mono O.o.2.size)⟩; obtain ⟨m0,mn,mp,ml,mc,s5⟩:=T.shape; subst s5; obtain ⟨_,v0,v1,v2,fv,_⟩:=D.o.1; have r3:=fv 0; have r4:=fv 1; have r5:=fv 2; clear T d5 E fv))
       all_goals
        try simp only [List.getElem_toArray,List.getElem_cons_succ,List.getElem_cons_zero,Act.put,List.setIfInBounds_toArray,List.set_cons_succ,List.set_cons_zero]
        clear a0 a1 a2 b0 b1 b2 r0 r1 r2 t0 t1 t2 q0 q1 q2 n3 n4 n5 v0 v1 v2 r3 r4 r5; obtain ⟨K,F⟩:=exW (((G.setCell ⟨gq,0,none⟩ (.int .i64 m0)).setCell ⟨gq,1,none⟩ (.bool mn)).setCell ⟨gq,2,none⟩ (.slice mp ml mc)); have i8:=hide F; have e5:w.heap.size≤gq:=by omega
        have e4:gq<Z.heap.size:=by have:=b8.o; have:=c7.o.2.2; omega
        have b9:Hid (BoxV gq K m0 mn mp ml mc∧IsN H.heap.size K (.agg #[.int .i64 m0,.bool mn,.slice mp ml mc]) (sg false (val Q+1))):=by
         rw [← F]; exact ⟨D.o.1.put _ _ _ _ _,((q7.o.setCell _ _ D.o.2).setCell _ _ D.o.2).setCell _ _ D.o.2⟩
        have d3:Hid (BoxV I.heap.size K n0 nn np nl nc∧IsN Z.heap.size K (.agg #[.int .i64 n0,.bool nn,.slice np nl nc]) (sg false (val b - val U:Nat))):=by
         rw [← F]; exact ⟨c9.o.1.other (by have:=c7.o.2.2; omega) (Keeps.three _ _ _ _ _),((c9.o.2.setCell _ _ e4).setCell _ _ e4).setCell _ _ e4⟩
        have i9:Hid (BoxQ w.heap.size K x xn pa la ca y yn pb lb cb):=by
         rw [← F]; exact ((d4.o.1.far _ (by show w.heap.size+4≤gq; omega) _).far _ (by show w.heap.size+4≤gq; omega) _).far _ (by show w.heap.size+4≤gq; omega) _
        have d7:Hid (Up w K):=by
         rw [← F]; exact ((d4.o.2.setCell e5 _).setCell e5 _).setCell e5 _
        have q6:Hid (IsDiv (sg true (val a)) (sg true (val b)) (sg false (val Q+1)) (sg false (val b - val U:Nat))):=isDiv_neg true _ _ _ _ _ J.o.1 (by have:=J.o.2; omega) x9.o; have V:w.heap.size+4≤H.heap.size:=by have:=D.o.2; omega
        have k5:w.heap.size+4≤Z.heap.size:=by omega
        clear F
        go_upto_region 18 with fail
        rw [i8.o]; obtain ⟨_,_,_,_,_,_,r0,r1,r2,t0,t1,t2,f⟩:=i9.o; have j0:=f 2 (by omega) 0; have j1:=f 2 (by omega) 1; have j2:=f 2 (by omega) 2; have j3:=f 3 (by omega) 0; have j4:=f 3 (by omega) 1; have j5:=f 3 (by omega) 2; clear f; obtain ⟨_,q0,q1,q2,fq,_⟩:=b9.o.1; obtain ⟨_,g0,g1,g2,fg,_⟩:=d3.o.1; clear fq fg
        go_wp2_with fail
        go_region
        all_goals
         go_wp2
         refine bodyPost_ret ?_ rfl ⟨_,_,_,_,rfl,⟨((((((b9.o.2.setCell _ _ ?_).setCell _ _ ?_).setCell _ _ ?_).setCell _ _ ?_).setCell _ _ ?_).setCell _ _ ?_).drew.mono ?_,((((((d3.o.2.setCell _ _ ?_).setCell _ _ ?_).setCell _ _ ?_).setCell _ _ ?_).setCell _ _ ?_).setCell _ _ ?_).drew.mono ?_⟩,q6.o,((((((d7.o.setCell ?_ _).setCell ?_ _).setCell ?_ _).setCell ?_ _).setCell ?_ _).setCell ?_ _).drew⟩
         all_goals first
          | (simp [results,Tryz.results44,go_sem,r0,r1,r2,t0,t1,t2]; done)
          | (simp; omega)
          | omega
end Go.Proofs.YtnhbmpnhijgpmaaGreatDoor
