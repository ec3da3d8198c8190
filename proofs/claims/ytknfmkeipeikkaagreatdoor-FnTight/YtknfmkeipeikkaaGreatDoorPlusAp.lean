import Derived.Test.YtknfmkeipeikkaaGreatDoorCLSp
import Derived.Test.YtknfmkeipeikkaaGreatDoorAddLimbsp
import Derived.Test.YtknfmkeipeikkaaGreatDoorSpecSump
import Derived.Test.YtknfmkeipeikkaaGreatDoorCmpImplp
import Derived.Test.YtknfmkeipeikkaaGreatDoorOfImplp
set_option maxRecDepth 100000
set_option maxHeartbeats 1000000
namespace Go.Proofs.YtknfmkeipeikkaaGreatDoor
open Go.ChangeShapes Go.WideShapes Go.ChangeAt Go.RowKit
def IsI (B:Nat) (w:World) (z:Value) (x:Int) (n:Nat):Prop:=∃ neg v t,z=.agg #[.bool (negOf neg t),v]∧IsL B w v t∧isTrim t∧sg neg (val t)=x∧t.length≤n
theorem field_sum (x z:Int) (y:Bool) (w:World):(Instr.field 115 (.agg #[.int .i64 x,.bool y,.int .i64 z]) 0).run Tryz.prog w=.ok (.int .i64 x) w:=by kernel_rfl
structure BoxI (g:Nat) (W:World) (x:Bool) (pa:Option Addr) (la ca:Nat) (y:Bool) (pb:Option Addr) (lb cb:Nat):Prop where
 a0:W.cell? ⟨g,0,none⟩=some (.bool x)
 a1:W.cell? ⟨g,1,none⟩=some (.slice pa la ca)
 b0:W.cell? ⟨g+1,0,none⟩=some (.bool y)
 b1:W.cell? ⟨g+1,1,none⟩=some (.slice pb lb cb)
 r0:W.cell? ⟨g+2,0,none⟩=some (.bool false)
 r1:W.cell? ⟨g+2,1,none⟩=some (.slice none 0 0)
 f:∀ k,k<3→∀ i,W.frozen? ⟨g+k,i,none⟩=false
theorem BoxI.below {g:Nat} {W W':World} {x:Bool} {pa:Option Addr} {la ca:Nat} {y:Bool} {pb:Option Addr} {lb cb:Nat} (h:BoxI g W x pa la ca y pb lb cb) {N:Nat} (hN:g+3≤N) (hb:Below N W W'):BoxI g W' x pa la ca y pb lb cb:=by
 have q:∀ k,k<3→∀ i,W'.cell? ⟨g+k,i,none⟩=W.cell? ⟨g+k,i,none⟩:=fun k hk i=>hb.cell (p:=⟨g+k,i,none⟩) (by show g+k<N; omega); have f:∀ k,k<3→∀ i,W'.frozen? ⟨g+k,i,none⟩=W.frozen? ⟨g+k,i,none⟩:=fun k hk i=>hb.frozen (p:=⟨g+k,i,none⟩) (by show g+k<N; omega); exact ⟨(q 0 (by omega) 0).trans h.a0,(q 0 (by omega) 1).trans h.a1,(q 1 (by omega) 0).trans h.b0,(q 1 (by omega) 1).trans h.b1,(q 2 (by omega) 0).trans h.r0,(q 2 (by omega) 1).trans h.r1,fun k hk i=>(f k hk i).trans (h.f k hk i)⟩
theorem boxI_first (w:World) (x:Bool) (pa:Option Addr) (la ca:Nat) (y:Bool) (pb:Option Addr) (lb cb:Nat) (ty:TypeId) :
 BoxI w.heap.size (((w.alloc (.cells #[.bool x,.slice pa la ca] ty)).alloc (.cells #[.bool y,.slice pb lb cb] ty)).alloc (.cells #[.bool false,.slice none 0 0] ty)) x pa la ca y pb lb cb:=by
 refine ⟨?_,?_,?_,?_,?_,?_,?_⟩
 ·rw [World.cell?_alloc_past _ _ _ (by simp; omega),World.cell?_alloc_past _ _ _ (by simp),World.cell?_alloc_at _ _ _ _ rfl]; rfl
 ·rw [World.cell?_alloc_past _ _ _ (by simp; omega),World.cell?_alloc_past _ _ _ (by simp),World.cell?_alloc_at _ _ _ _ rfl]; rfl
 ·rw [World.cell?_alloc_past _ _ _ (by simp),World.cell?_alloc_at _ _ _ _ (by simp)]; rfl
 ·rw [World.cell?_alloc_past _ _ _ (by simp),World.cell?_alloc_at _ _ _ _ (by simp)]; rfl
 ·rw [World.cell?_alloc_at _ _ _ _ (by simp)]; rfl
 ·rw [World.cell?_alloc_at _ _ _ _ (by simp)]; rfl
 intro k hk i
 match k,hk with
 | 0,_=>rw [World.frozen?_alloc_past _ _ _ (by simp; omega),World.frozen?_alloc_past _ _ _ (by simp),World.frozen?_alloc_at _ _ _ _ (by simp)]
 | 1,_=>rw [World.frozen?_alloc_past _ _ _ (by simp),World.frozen?_alloc_at _ _ _ _ (by simp)]
 | 2,_=>rw [World.frozen?_alloc_at _ _ _ _ (by simp)]
theorem plus_same (B:Nat) (s:Bool) (va vb:Value) (a b:List Nat) (w:World) (ha:IsL B w va a) (hb:IsL B w vb b) (hla:a.length≤100000) (hlb:b.length≤100000) (hSP:SP w) :
 Calls Tryz.prog 65 #[.agg #[.bool s,va],.agg #[.bool s,vb]] w fun e w'=>∃ z,e=.returned z∧IsI w.heap.size w' z (sg s (val a)+sg s (val b)) (a.length+b.length+1)∧Up w w':=by
 obtain ⟨Z,V,rfl,_⟩:=id ha; obtain ⟨pb,Y,rfl,_⟩:=id hb; have HX:=boxI_first w s Z a.length V s pb b.length Y 67; obtain ⟨u,m⟩:=exW (((w.alloc (.cells #[.bool s,.slice Z a.length V] 67)).alloc (.cells #[.bool s,.slice pb b.length Y] 67)).alloc (.cells #[.bool false,.slice none 0 0] 67)); have a9:=hide m; have j:Up w u:=by rw [← m]; exact below_al (below_al (below_alloc _ _) _) _
 have a6:=hide j; have U:u.heap.size=w.heap.size+3:=by rw [← m]; simp
 rw [m] at HX; have HS:=hide U; have E:Hid (∀ W,Up u W→BoxI w.heap.size W s Z a.length V s pb b.length Y):=fun W hW=>HX.below (by omega) hW; have HA:Hid (∀ W,Up u W→IsL B W (.slice Z a.length V) a):=fun W hW=>(ha.below j).below hW; have HB:Hid (∀ W,Up u W→IsL B W (.slice pb b.length Y) b):=fun W hW=>(hb.below j).below hW; have a8:Hid (SP u):=hSP.below j; have J:Hid (a.length≤100000∧b.length≤100000):=⟨hla,hlb⟩; obtain ⟨a0,a1,b0,b1,r0,r1,f⟩:=HX; clear f m U ha hb j hla hlb hSP; have a7:Hid (sgSum s s=0):=by cases s<;>rfl
 have e0:=field_sum
 go_enter Tryz.func65,Tryz.ntmps65
 go_wp2_with fail
 rw [a9.o]; refine (signsOf_any _ _ _ _ _ _ _ _ _ a8.o).mono ?_; rintro e ws ⟨rfl,O⟩; rw [a7.o]; have h:=hide O; clear a0 a1 b0 b1 r0 r1 O; obtain ⟨a0,a1,b0,b1,r0,r1,f⟩:=E.o ws h.o; have f0:=f 2 (by omega) 0; have f1:=f 2 (by omega) 1; clear f
 go_wp2_with fail
 go_region_with (first
  | (go_at_call 85; refine (addLimbs_any B _ _ a b _ (HA.o _ ?_) (HB.o _ ?_) J.o.1 J.o.2).mono ?_
     ·exact h.o.drew
     ·exact h.o.drew
     rintro e wd ⟨v,L,rfl,hL,y,T,b4,M⟩; have D:Hid (Up u wd):=h.o.drew.trans (M.mono h.o.size); have HL:Hid (IsL (w.heap.size+3) wd v L):=hL.mono (by have:=h.o.size; have:=HS.o; show w.heap.size+3≤ws.heap.size; omega); have HV:Hid (val L=val a+val b∧L.length≤a.length+b.length+1):=⟨y,by omega⟩; obtain ⟨c0,c1,d0,d1,s0,s1,g⟩:=E.o wd D.o; have g0:=g 2 (by omega) 0; have g1:=g 2 (by omega) 1; obtain ⟨pv,cv,hv,_⟩:=hL; subst hv; clear y T b4 M g)
  | (go_at_call 64; refine (makeInteger_any _ s _ L _ HL.o).mono ?_
     rintro e we ⟨v',rfl,hcut,H⟩; have I:Hid (Up u we):=D.o.trans (H.mono D.o.size); have K:Hid (IsL (w.heap.size+3) we v' (trimL L)):=(hcut _ _ HL.o).below H; obtain ⟨c0,c1,d0,d1,s0,s1,g⟩:=E.o we I.o; have g0:=g 2 (by omega) 0; have g1:=g 2 (by omega) 1; obtain ⟨pw,cw,hw,_⟩:=K.o; subst hw; clear hcut H g))
 all_goals
  try simp only [List.getElem_toArray,List.getElem_cons_succ,List.getElem_cons_zero,Act.put,List.setIfInBounds_toArray,List.set_cons_succ,List.set_cons_zero]
  go_wp2
  have HF:Hid (Up w we):=a6.o.trans (I.o.mono (by have:=HS.o; omega)); refine bodyPost_ret ?_ rfl ⟨_,rfl,⟨s,_,trimL L,rfl,((K.o.setCell _ _ (by simp)).setCell _ _ (by simp)).mono (by omega),trimL_trim _,by rw [val_trimL,HV.o.1,sg_add],by have:=trimL_len L; have:=HV.o.2; omega⟩,(HF.o.setCell (by simp; omega) _).setCell (by simp; omega) _⟩; simp [results,Tryz.results65,go_sem,s0,s1]
theorem cmpL_ge (a b:List Nat) (ha:okL a) (hb:okL b) (ta:isTrim a) (tb:isTrim b) (hcm:0≤cmpL a b):b.length≤a.length∧val b≤val a:=by
 have h:=cmpL_ord a b ha hb ta tb; have h2:=hcm; rw [h] at h2; refine ⟨?_,?_⟩
 ·unfold cmpL at hcm
  by_cases h3:a.length<b.length
  ·simp [h3] at hcm<;>omega
  by_cases h4:b.length<a.length
  ·simp [h3,h4] at hcm<;>omega
  omega
 unfold ord at h2
 split at h2<;>(try split at h2)<;>omega
theorem plus_ge (B:Nat) (s s':Bool) (va vb:Value) (a b:List Nat) (w:World) (ha:IsL B w va a) (hb:IsL B w vb b) (hne:a≠[]) (hlb:b.length≤a.length∧val b≤val a) (hla:a.length≤100000) (hSP:SP w) (hss:s'=!s) (hcm:0≤cmpL a b) :
 Calls Tryz.prog 65 #[.agg #[.bool s,va],.agg #[.bool s',vb]] w fun e w'=>∃ z,e=.returned z∧IsI w.heap.size w' z (sg s (val a)+sg s' (val b)) (a.length+b.length+1)∧Up w w':=by
 obtain ⟨pa,Z,rfl,_⟩:=id ha; obtain ⟨pb,cb,rfl,_⟩:=id hb; have HX:=boxI_first w s pa a.length Z s' pb b.length cb 67; obtain ⟨E,u⟩:=exW (((w.alloc (.cells #[.bool s,.slice pa a.length Z] 67)).alloc (.cells #[.bool s',.slice pb b.length cb] 67)).alloc (.cells #[.bool false,.slice none 0 0] 67)); have b6:=hide u; have m:Up w E:=by rw [← u]; exact below_al (below_al (below_alloc _ _) _) _
 have a9:=hide m; have Y:E.heap.size=w.heap.size+3:=by rw [← u]; simp
 rw [u] at HX; have HS:=hide Y; have y:Hid (∀ W,Up E W→BoxI w.heap.size W s pa a.length Z s' pb b.length cb):=fun W hW=>HX.below (by omega) hW; have HA:Hid (∀ W,Up E W→IsL B W (.slice pa a.length Z) a):=fun W hW=>(ha.below m).below hW; have HB:Hid (∀ W,Up E W→IsL B W (.slice pb b.length cb) b):=fun W hW=>(hb.below m).below hW; have b4:Hid (SP E):=hSP.below m; have D:Hid (a≠[]∧a.length≤100000∧b.length≤a.length∧val b≤val a):=⟨hne,hla,hlb⟩; obtain ⟨a0,a1,b0,b1,r0,r1,f⟩:=HX; clear f u Y ha hb m hla hlb hSP hne; have b3:Hid (sgSum s s'=1):=by subst hss; cases s<;>rfl
 have b5:=Hd hss; obtain ⟨c,hc⟩:=exW (cmpL a b); have HC:=Hd hc; have b8 : -1≤c∧c≤1:=by rw [← hc]; exact cmpL_bd a b
 obtain ⟨e7,e8⟩:=b8; rw [hc] at hcm; clear hc hss; have e9:=field_sum
 go_enter Tryz.func65,Tryz.ntmps65
 go_wp2_with fail
 rw [b6.o]; refine (signsOf_any _ _ _ _ _ _ _ _ _ b4.o).mono ?_; rintro e ws ⟨rfl,U⟩; rw [b3.o]; have j:=hide U; clear a0 a1 b0 b1 r0 r1 U; obtain ⟨a0,a1,b0,b1,r0,r1,f⟩:=y.o ws j.o; clear f
 go_wp2_with fail
 refine (compareLimbs_any B _ _ a b _ (HA.o _ j.o) (HB.o _ j.o)).mono ?_; rintro e wk ⟨rfl,T⟩; rw [HC.o]; have h:Hid (Up E wk):=j.o.trans (T.mono j.o.size); clear T a0 a1 b0 b1 r0 r1; obtain ⟨a0,a1,b0,b1,r0,r1,f⟩:=y.o wk h.o; have f0:=f 2 (by omega) 0; have f1:=f 2 (by omega) 1; clear f
 go_wp2_with fail
 go_region_with (first
  | (go_at_call 86; refine (subLimbs_any B _ _ a b _ (HA.o _ ?_) (HB.o _ ?_) D.o.1 D.o.2.1 D.o.2.2.1 D.o.2.2.2).mono ?_
     ·exact h.o.drew
     ·exact h.o.drew
     rintro e wd ⟨v,L,rfl,hL,H,V,b9,O⟩; have I:Hid (Up E wd):=h.o.drew.trans (O.mono h.o.size); have HL:Hid (IsL (w.heap.size+3) wd v L):=hL.mono (by have:=h.o.size; have:=HS.o; show w.heap.size+3≤wk.heap.size; omega); have HV:Hid (val L+val b=val a∧L.length≤a.length+b.length+1):=⟨H,by omega⟩; obtain ⟨c0,c1,d0,d1,s0,s1,g⟩:=y.o wd I.o; have g0:=g 2 (by omega) 0; have g1:=g 2 (by omega) 1; obtain ⟨pv,cv,hv,_⟩:=hL; subst hv; clear H V b9 O g)
  | (go_at_call 64; refine (makeInteger_any _ s _ L _ HL.o).mono ?_
     rintro e we ⟨v',rfl,hcut,J⟩; have K:Hid (Up E we):=I.o.trans (J.mono I.o.size); have M:Hid (IsL (w.heap.size+3) we v' (trimL L)):=(hcut _ _ HL.o).below J; obtain ⟨c0,c1,d0,d1,s0,s1,g⟩:=y.o we K.o; have g0:=g 2 (by omega) 0; have g1:=g 2 (by omega) 1; obtain ⟨pw,cw,hw,_⟩:=M.o; subst hw; clear hcut J g))
 all_goals
  try simp only [List.getElem_toArray,List.getElem_cons_succ,List.getElem_cons_zero,Act.put,List.setIfInBounds_toArray,List.set_cons_succ,List.set_cons_zero]
  go_wp2
  have HF:Hid (Up w we):=a9.o.trans (K.o.mono (by have:=HS.o; omega)); refine bodyPost_ret ?_ rfl ⟨_,rfl,⟨s,_,trimL L,rfl,((M.o.setCell _ _ (by simp)).setCell _ _ (by simp)).mono (by omega),trimL_trim _,by rw [val_trimL,b5.o,sg_sub s _ _ _ HV.o.1],by have:=trimL_len L; have:=HV.o.2; omega⟩,(HF.o.setCell (by simp; omega) _).setCell (by simp; omega) _⟩; simp [results,Tryz.results65,go_sem,s0,s1]
theorem cmpL_lt' (a b:List Nat) (ha:okL a) (hb:okL b) (ta:isTrim a) (tb:isTrim b) (hcm:cmpL a b<0):a.length≤b.length∧val a≤val b:=by
 have h:=cmpL_ord a b ha hb ta tb; have h2:=hcm; rw [h] at h2; refine ⟨?_,?_⟩
 ·unfold cmpL at hcm
  by_cases h3:a.length<b.length
  ·omega
  by_cases h4:b.length<a.length
  ·simp [h3,h4] at hcm<;>omega
  omega
 unfold ord at h2
 split at h2<;>(try split at h2)<;>omega
theorem BoxI.swap {g:Nat} {W:World} {x:Bool} {pa:Option Addr} {la ca:Nat} {y:Bool} {pb:Option Addr} {lb cb:Nat} (h:BoxI g W x pa la ca y pb lb cb) :
 BoxI g ((((W.setCell ⟨g,0,none⟩ (.bool y)).setCell ⟨g,1,none⟩ (.slice pb lb cb)).setCell ⟨g+1,0,none⟩ (.bool x)).setCell ⟨g+1,1,none⟩ (.slice pa la ca)) y pb lb cb x pa la ca:=by
 obtain ⟨a0,a1,b0,b1,r0,r1,f⟩:=h; refine ⟨?_,?_,?_,?_,?_,?_,fun k hk i=>?_⟩
 ·simp [go_sem,a0]
 ·simp [go_sem,a1]
 ·simp [go_sem,b0]
 ·simp [go_sem,b1]
 ·simp [go_sem,r0]
 ·simp [go_sem,r1]
 have:=f k hk i; simp [go_sem,this]
theorem plus_lt (B:Nat) (s s':Bool) (va vb:Value) (a b:List Nat) (w:World) (ha:IsL B w va a) (hb:IsL B w vb b) (hne:b≠[]) (hlb:a.length≤b.length∧val a≤val b) (hla:b.length≤100000) (hSP:SP w) (hss:s'=!s) (hcm:cmpL a b<0) :
 Calls Tryz.prog 65 #[.agg #[.bool s,va],.agg #[.bool s',vb]] w fun e w'=>∃ z,e=.returned z∧IsI w.heap.size w' z (sg s (val a)+sg s' (val b)) (a.length+b.length+1)∧Up w w':=by
 obtain ⟨Z,T,rfl,_⟩:=id ha; obtain ⟨pb,U,rfl,_⟩:=id hb; have HX:=boxI_first w s Z a.length T s' pb b.length U 67; obtain ⟨W0,u⟩:=exW (((w.alloc (.cells #[.bool s,.slice Z a.length T] 67)).alloc (.cells #[.bool s',.slice pb b.length U] 67)).alloc (.cells #[.bool false,.slice none 0 0] 67)); have d7:=hide u; have V:Up w W0:=by rw [← u]; exact below_al (below_al (below_alloc _ _) _) _
 have J:=hide V; have b9:W0.heap.size=w.heap.size+3:=by rw [← u]; simp
 rw [u] at HX; have HS:=hide b9; have M:Hid (∀ W,Up W0 W→BoxI w.heap.size W s Z a.length T s' pb b.length U):=fun W hW=>HX.below (by omega) hW; have HA:Hid (∀ W,Up w W→IsL B W (.slice Z a.length T) a):=fun W hW=>ha.below hW; have HB:Hid (∀ W,Up w W→IsL B W (.slice pb b.length U) b):=fun W hW=>hb.below hW; have d5:Hid (SP W0):=hSP.below V; have y:Hid (b≠[]∧b.length≤100000∧a.length≤b.length∧val a≤val b):=⟨hne,hla,hlb⟩; obtain ⟨a0,a1,b0,b1,r0,r1,f⟩:=HX; clear f u b9 ha hb V hla hlb hSP hne; have d4:Hid (sgSum s s'=1):=by subst hss; cases s<;>rfl
 have d6:=Hd hss; obtain ⟨c,hc⟩:=exW (cmpL a b); have HC:=Hd hc; have e2 : -1≤c∧c≤1:=by rw [← hc]; exact cmpL_bd a b
 obtain ⟨g8,g9⟩:=e2; rw [hc] at hcm; clear hc hss; have h6:=field_sum
 go_enter Tryz.func65,Tryz.ntmps65
 go_wp2_with fail
 rw [d7.o]; refine (signsOf_any _ _ _ _ _ _ _ _ _ d5.o).mono ?_; rintro e ws ⟨rfl,b7⟩; rw [d4.o]; have h:=hide b7; clear a0 a1 b0 b1 r0 r1 b7; obtain ⟨a0,a1,b0,b1,r0,r1,f⟩:=M.o ws h.o; clear f
 go_wp2_with fail
 refine (compareLimbs_any B _ _ a b _ (HA.o _ (J.o.trans (h.o.mono (by have:=HS.o; omega)))) (HB.o _ (J.o.trans (h.o.mono (by have:=HS.o; omega))))).mono ?_; rintro e wk ⟨rfl,b6⟩; rw [HC.o]; have m:Hid (Up W0 wk):=h.o.trans (b6.mono h.o.size); clear b6 a0 a1 b0 b1 r0 r1; obtain ⟨a0,a1,b0,b1,r0,r1,f⟩:=M.o wk m.o; have g0:wk.frozen? ⟨w.heap.size,0,none⟩=false:=f 0 (by omega) 0; have g1:wk.frozen? ⟨w.heap.size,1,none⟩=false:=f 0 (by omega) 1; have h0:=f 1 (by omega) 0; have h1:=f 1 (by omega) 1; have O:=BoxI.swap ⟨a0,a1,b0,b1,r0,r1,f⟩; clear f
 go_wp2_with fail
 clear a0 a1 b0 b1 r0 r1 g0 g1 h0 h1; obtain ⟨j,D⟩:=exW ((((wk.setCell ⟨w.heap.size,0,none⟩ (.bool s')).setCell ⟨w.heap.size,1,none⟩ (.slice pb b.length U)).setCell ⟨w.heap.size+1,0,none⟩ (.bool s)).setCell ⟨w.heap.size+1,1,none⟩ (.slice Z a.length T)); have e3:j.heap.size=wk.heap.size:=by rw [← D]; simp
 have E:Up w j:=by
  rw [← D]; exact ((((J.o.trans (m.o.mono (by have:=HS.o; omega))).setCell (by simp) _).setCell (by simp) _).setCell (by simp) _).setCell (by simp) _
 rw [D] at O ⊢; have H:Hid (∀ W,Up j W→BoxI w.heap.size W s' pb b.length U s Z a.length T):=fun W hW=>O.below (by have:=m.o.size; have:=HS.o; omega) hW; have b3:Hid (w.heap.size+3≤j.heap.size):=by have:=m.o.size; have:=HS.o; show w.heap.size+3≤j.heap.size; omega
 have d3:=Hd E; have d2:Hid (IsL B j (.slice Z a.length T) a):=HA.o _ E; have a6:Hid (IsL B j (.slice pb b.length U) b):=HB.o _ E; obtain ⟨a0,a1,b0,b1,r0,r1,f⟩:=O; have f0:=f 2 (by omega) 0; have f1:=f 2 (by omega) 1; clear f D e3 E M h m
 go_region_with (first
  | (go_at_call 86; refine (subLimbs_any B _ _ b a _ (a6.o.below ?_) (d2.o.below ?_) y.o.1 y.o.2.1 y.o.2.2.1 y.o.2.2.2).mono ?_
     ·exact (Below.refl _ j).drew
     ·exact (Below.refl _ j).drew
     rintro e wd ⟨v,L,rfl,hL,I,b8,e4,b5⟩; have K:Hid (Up j wd):=(Below.refl _ j).drew.trans (b5.mono leR); have HL:Hid (IsL (w.heap.size+3) wd v L):=hL.mono b3.o; have HV:Hid (val L+val a=val b∧L.length≤a.length+b.length+1):=⟨I,by omega⟩; obtain ⟨c0,c1,d0,d1,s0,s1,g⟩:=H.o wd K.o; have g0:=g 2 (by omega) 0; have g1:=g 2 (by omega) 1; obtain ⟨pv,cv,hv,_⟩:=hL; subst hv; clear I b8 e4 b5 g)
  | (go_at_call 64; refine (makeInteger_any _ s' _ L _ HL.o).mono ?_
     rintro e we ⟨v',rfl,hcut,Y⟩; have a7:Hid (Up j we):=K.o.trans (Y.mono K.o.size); have a8:Hid (IsL (w.heap.size+3) we v' (trimL L)):=(hcut _ _ HL.o).below Y; obtain ⟨c0,c1,d0,d1,s0,s1,g⟩:=H.o we a7.o; have g0:=g 2 (by omega) 0; have g1:=g 2 (by omega) 1; obtain ⟨pw,cw,hw,_⟩:=a8.o; subst hw; clear hcut Y g))
 all_goals
  try simp only [List.getElem_toArray,List.getElem_cons_succ,List.getElem_cons_zero,Act.put,List.setIfInBounds_toArray,List.set_cons_succ,List.set_cons_zero]
  go_wp2
  have HF:Hid (Up w we):=d3.o.trans (a7.o.mono (by have:=b3.o; omega)); refine bodyPost_ret ?_ rfl ⟨_,rfl,⟨s',_,trimL L,rfl,((a8.o.setCell _ _ (by simp)).setCell _ _ (by simp)).mono (by omega),trimL_trim _,by rw [val_trimL,sg_sub s' _ _ _ HV.o.1,d6.o,Bool.not_not,Int.add_comm],by have:=trimL_len L; have:=HV.o.2; omega⟩,(HF.o.setCell (by simp; omega) _).setCell (by simp; omega) _⟩; simp [results,Tryz.results65,go_sem,s0,s1]
theorem IsI.below {B:Nat} {w w':World} {z:Value} {x:Int} {n:Nat} (h:IsI B w z x n) (hb:Up w w'):IsI B w' z x n:=by
 obtain ⟨neg,v,t,j,h2,h3⟩:=h; exact ⟨neg,v,t,j,h2.below hb,h3⟩
theorem IsI.mono {B B':Nat} {w:World} {z:Value} {x:Int} {n n':Nat} (h:IsI B w z x n) (hb:B'≤B) (hn:n≤n'):IsI B' w z x n':=by
 obtain ⟨neg,v,t,j,h2,h3,h4,h5⟩:=h; exact ⟨neg,v,t,j,h2.mono hb,h3,h4,by omega⟩
theorem negOf_ne (n:Bool) (t:List Nat) (h:negOf n t=true):t≠[]:=by
 rintro rfl
 cases n<;>simp [negOf] at h
theorem plus_any (B:Nat) (za zb:Value) (x y:Int) (n m:Nat) (w:World) (ha:IsI B w za x n) (hb:IsI B w zb y m) (hn:n≤100000) (hm:m≤100000) (hSP:SP w) :
 Calls Tryz.prog 65 #[za,zb] w fun e w'=>∃ z,e=.returned z∧IsI w.heap.size w' z (x+y) (n+m+1)∧Up w w':=by
 obtain ⟨M,va,a,rfl,s,Z,rfl,a5⟩:=ha; obtain ⟨O,V,b,rfl,D,tb,rfl,a6⟩:=hb; have T:okL a:=by obtain ⟨_,_,_,_,_,h,_⟩:=s; exact h
 have U:okL b:=by obtain ⟨_,_,_,_,_,h,_⟩:=D; exact h
 rw [← sg_negOf M a,← sg_negOf O b]; have E:∀ {z:Value} {W:World} {u:Int},IsI w.heap.size W z u (a.length+b.length+1)→IsI w.heap.size W z u (n+m+1):=fun h=>h.mono leR (by omega)
 by_cases hs:negOf M a=negOf O b
 ·rw [← hs]; refine (plus_same B _ va V a b w s D (by omega) (by omega) hSP).mono ?_; rintro e w' ⟨z,j,h2,h3⟩; exact ⟨z,j,E h2,h3⟩
 have K:negOf O b=!negOf M a:=by cases j:negOf M a<;>cases h2:negOf O b<;>simp_all
 have hne:a≠[]∨b≠[]:=by
  cases j:negOf M a
  ·exact .inr (negOf_ne O b (by rw [K,j]; rfl))
  exact .inl (negOf_ne M a j)
 by_cases Y:0≤cmpL a b
 ·have I:=cmpL_ge a b T U Z tb Y; refine (plus_ge B _ _ va V a b w s D ?_ I (by omega) hSP K Y).mono ?_
  ·intro h
   rcases hne with H|H
   ·exact H h
   rw [h] at I; exact H (List.eq_nil_of_length_eq_zero (by simpa using I.1))
  rintro e w' ⟨z,j,h2,h3⟩; exact ⟨z,j,E h2,h3⟩
 have J:=cmpL_lt' a b T U Z tb (by omega); refine (plus_lt B _ _ va V a b w s D ?_ J (by omega) hSP K (by omega)).mono ?_
 ·intro h
  rcases hne with H|H
  ·rw [h] at J; exact H (List.eq_nil_of_length_eq_zero (by simpa using J.1))
  exact H h
 rintro e w' ⟨z,j,h2,h3⟩; exact ⟨z,j,E h2,h3⟩
theorem negated_any (B:Nat) (z:Value) (x:Int) (n:Nat) (w:World) (h:IsI B w z x n) :
 Calls Tryz.prog 66 #[z] w fun e w'=>∃ z',e=.returned z'∧IsI B w' z' (-x) n∧Up w w':=by
 obtain ⟨neg,v,t,rfl,K,U,V,hl⟩:=h; obtain ⟨p,c,rfl,_⟩:=id K; obtain ⟨s,J⟩:=exW (negOf neg t); have HX:Hid (sg (!s) (val t) = -x):=by
  unfold Hid
  rw [← J,sg_not,sg_negOf,V]
 have O:Hid (∀ W,Up w W→IsL B W (.slice p t.length c) t):=fun W hW=>K.below hW; have HT:Hid (isTrim t∧t.length≤n):=⟨U,hl⟩; obtain ⟨u,j⟩:=exW ((w.alloc (.cells #[.bool s,.slice p t.length c] 67)).alloc (.cells #[.bool false,.slice none 0 0] 67)); have I:=hide j; have m:Hid (Up w u):=by rw [← j]; exact below_al (below_alloc _ _) _
 have H:u.heap.size=w.heap.size+2:=by rw [← j]; simp
 have Y:Hid (∀ W,Up u W→(W.cell? ⟨w.heap.size+1,0,none⟩=some (.bool false)∧W.cell? ⟨w.heap.size+1,1,none⟩=some (.slice none 0 0)∧W.frozen? ⟨w.heap.size+1,0,none⟩=false∧W.frozen? ⟨w.heap.size+1,1,none⟩=false)∧W.cell? ⟨w.heap.size,0,none⟩=some (.bool s)∧W.cell? ⟨w.heap.size,1,none⟩=some (.slice p t.length c)):=fun W hW=>by
  have q:∀ k,k<2→∀ i,W.cell? ⟨w.heap.size+k,i,none⟩=u.cell? ⟨w.heap.size+k,i,none⟩:=fun k hk i=>hW.cell (p:=⟨w.heap.size+k,i,none⟩) (by show w.heap.size+k<u.heap.size; omega); have f:∀ i,W.frozen? ⟨w.heap.size+1,i,none⟩=u.frozen? ⟨w.heap.size+1,i,none⟩:=fun i=>hW.frozen (p:=⟨w.heap.size+1,i,none⟩) (by show w.heap.size+1<u.heap.size; omega); refine ⟨⟨?_,?_,?_,?_⟩,?_,?_⟩
  ·rw [q 1 (by omega),← j,World.cell?_alloc_at _ _ _ _ (by simp)]; rfl
  ·rw [q 1 (by omega),← j,World.cell?_alloc_at _ _ _ _ (by simp)]; rfl
  ·rw [f,← j,World.frozen?_alloc_at _ _ _ _ (by simp)]
  ·rw [f,← j,World.frozen?_alloc_at _ _ _ _ (by simp)]
  ·refine (q 0 (by omega) 0).trans ?_; rw [← j,World.cell?_alloc_past _ _ _ (by simp),World.cell?_alloc_at _ _ _ _ (by simp)]; rfl
  refine (q 0 (by omega) 1).trans ?_; rw [← j,World.cell?_alloc_past _ _ _ (by simp),World.cell?_alloc_at _ _ _ _ (by simp)]; rfl
 have Z:=Hd H; rw [J]; clear J V U hl K j H
 go_enter Tryz.func66,Tryz.ntmps66
 go_wp2_with fail
 rw [I.o]; refine (makeInteger_any B _ _ t _ (O.o _ m.o)).mono ?_; rintro e M ⟨v',rfl,hcut,y⟩; have D:Hid (Up w M):=m.o.trans (y.mono m.o.size); have E:Hid (∀ W,Up w W→IsL B W v' (trimL t)):=fun W hW=>hcut _ _ (O.o _ hW); obtain ⟨⟨r0,r1,f0,f1⟩,_,_⟩:=Y.o M y; obtain ⟨pw,cw,hw,_⟩:=E.o _ D.o; subst hw; clear hcut y
 go_wp2
 have T:Up w ((M.setCell ⟨w.heap.size+1,0,none⟩ (.bool (negOf (!s) (trimL t)))).setCell ⟨w.heap.size+1,1,none⟩ (.slice pw (trimL t).length cw)):=(D.o.setCell (by simp) _).setCell (by simp) _; refine bodyPost_ret ?_ rfl ⟨_,rfl,⟨!s,_,trimL t,rfl,E.o _ T,trimL_trim _,by rw [val_trimL]; exact HX.o,by have:=trimL_len t; have:=HT.o.2; omega⟩,T⟩; simp [results,Tryz.results66,go_sem,r0,r1]
theorem IsI.shape {B:Nat} {w:World} {z:Value} {x:Int} {n:Nat} (h:IsI B w z x n):∃ (s:Bool) (p:Option Addr) (l c:Nat),z=.agg #[.bool s,.slice p l c]:=by
 obtain ⟨neg,v,t,rfl,⟨p,c,rfl,_⟩,_⟩:=h; exact ⟨_,_,_,_,rfl⟩
theorem IsI.setCell {B:Nat} {w:World} {z:Value} {x:Int} {n:Nat} (h:IsI B w z x n) (p:Addr) (u:Value) (hp:p.block<B):IsI B (w.setCell p u) z x n:=by
 obtain ⟨neg,v,t,j,h2,h3⟩:=h; exact ⟨neg,v,t,j,h2.setCell p u hp,h3⟩
theorem minus_any (B:Nat) (za zb:Value) (x y:Int) (n m:Nat) (w:World) (ha:IsI B w za x n) (hb:IsI B w zb y m) (hn:n≤100000) (hm:m≤100000) (hSP:SP w) :
 Calls Tryz.prog 33 #[za,zb] w fun e w'=>∃ z,e=.returned z∧IsI w.heap.size w' z (x - y) (n+m+1)∧Up w w':=by
 have HA:Hid (∀ W,Up w W→IsI B W za x n):=fun W hW=>ha.below hW; have HB:Hid (∀ W,Up w W→IsI B W zb y m):=fun W hW=>hb.below hW; have U:Hid (∀ W,Up w W→SP W):=fun W hW=>hSP.below hW; have HN:Hid (n≤100000∧m≤100000):=⟨hn,hm⟩; obtain ⟨sa,pa,la,ca,rfl⟩:=ha.shape; obtain ⟨sb,pb,lb,cb,rfl⟩:=hb.shape; clear ha hb hSP hn hm; have Y:=boxI_first w sa pa la ca sb pb lb cb 67; obtain ⟨s,j⟩:=exW (((w.alloc (.cells #[.bool sa,.slice pa la ca] 67)).alloc (.cells #[.bool sb,.slice pb lb cb] 67)).alloc (.cells #[.bool false,.slice none 0 0] 67)); have V:=hide j; have u:Up w s:=by rw [← j]; exact below_al (below_al (below_alloc _ _) _) _
 have c9:=hide u; have K:s.heap.size=w.heap.size+3:=by rw [← j]; simp
 rw [j] at Y; have HS:=hide K; have H:Hid (∀ W,Up s W→BoxI w.heap.size W sa pa la ca sb pb lb cb):=fun W hW=>Y.below (by omega) hW; have M:Hid (∀ W,Up s W→Up w W):=fun W hW=>u.trans (hW.mono (by omega)); obtain ⟨a0,a1,b0,b1,r0,r1,f⟩:=Y; have f0:=f 2 (by omega) 0; have f1:=f 2 (by omega) 1; clear f j K u
 go_enter Tryz.func33,Tryz.ntmps33
 go_wp2_with fail
 rw [V.o]
 go_region_with (first
  | (go_at_call 66; refine (negated_any B _ y m _ (HB.o _ (M.o _ ?_))).mono ?_
     ·exact (Below.refl _ s).drew
     rintro e wd ⟨z,rfl,hz,I⟩; have h:Hid (Up s wd):=(Below.refl _ s).drew.trans (I.mono leR); have HZ:=Hd hz; obtain ⟨c0,c1,d0,d1,s0,s1,g⟩:=H.o wd h.o; have g0:=g 2 (by omega) 0; have g1:=g 2 (by omega) 1; obtain ⟨sz,pz,lz,cz,hv⟩:=hz.shape; subst hv; clear hz I g)
  | (go_at_call 65; refine (plus_any B _ _ x (-y) n m _ (HA.o _ (M.o _ h.o)) HZ.o HN.o.1 HN.o.2 (U.o _ (M.o _ h.o))).mono ?_
     rintro e O ⟨z',rfl,D,J⟩; have E:Hid (Up s O):=h.o.trans (J.mono h.o.size); have Z:Hid (IsI (w.heap.size+3) O z' (x - y) (n+m+1)):=by
      rw [Int.sub_eq_add_neg]; exact D.mono (by have:=h.o.size; have:=HS.o; omega) leR
     obtain ⟨c0,c1,d0,d1,s0,s1,g⟩:=H.o O E.o; have g0:=g 2 (by omega) 0; have g1:=g 2 (by omega) 1; obtain ⟨se,pe,le,ce,hw⟩:=D.shape; subst hw; clear D J g))
 all_goals
  try simp only [List.getElem_toArray,List.getElem_cons_succ,List.getElem_cons_zero,Act.put,List.setIfInBounds_toArray,List.set_cons_succ,List.set_cons_zero]
  go_wp2
  have T:Hid (Up w O):=M.o _ E.o; refine bodyPost_ret ?_ rfl ⟨_,rfl,((Z.o.setCell _ _ (by simp)).setCell _ _ (by simp)).mono (by omega) leR,(T.o.setCell (by simp; omega) _).setCell (by simp; omega) _⟩; simp [results,Tryz.results33,go_sem,s0,s1]
theorem lim_len' (s:ByteArray) (h:isIntB s=true):(lim s).length≤280:=by
 have j:(dgs s).size≤2500:=by
  by_cases h2:2500<(dgs s).size
  ·rw [isInt_long s _ rfl h2] at h; cases h
  omega
 have h3:=trimL_len (chunks (dgs s).data.toList); have h4:(chunks (dgs s).data.toList).length=cnt (dgs s).data.toList.length:=by simp [chunks]
 have h5:(dgs s).data.toList.length=(dgs s).size:=by simp
 unfold lim; rw [h4,h5] at h3; have m:cnt (dgs s).size≤280:=by unfold cnt; omega
 omega
theorem textI_any (B:Nat) (z:Value) (x:Int) (n:Nat) (w:World) (h:IsI B w z x n) (hn:n≤600) (hLT:LT w) :
 Calls Tryz.prog 61 #[z] w fun e w'=>∃ u,e=.returned (.string u)∧IsText x u∧Up w w':=by
 obtain ⟨neg,v,t,rfl,m,s,y,hl⟩:=h; have j:okL t:=by obtain ⟨_,_,_,_,_,h,_⟩:=m; exact h
 refine (text_any B _ v t w m (by omega) hLT).mono ?_; rintro e w' ⟨rfl,hb⟩; exact ⟨_,rfl,⟨neg,t,j,s,y,rfl⟩,hb⟩
end Go.Proofs.YtknfmkeipeikkaaGreatDoor
