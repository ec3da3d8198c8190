import Derived.Test.YtnhbmpnhijgpmaaGreatDoorCLSp
import Derived.Test.YtnhbmpnhijgpmaaGreatDoorAddLimbsp
import Derived.Test.YtnhbmpnhijgpmaaGreatDoorSpecSump
import Derived.Test.YtnhbmpnhijgpmaaGreatDoorCmpImplp
import Derived.Test.YtnhbmpnhijgpmaaGreatDoorOfImplp
set_option maxRecDepth 100000
set_option maxHeartbeats 1000000
namespace Go.Proofs.YtnhbmpnhijgpmaaGreatDoor
open Go.ChangeShapes Go.WideShapes Go.ChangeAt Go.RowKit
def IsI (B:Nat) (w:World) (z:Value) (x:Int) (n:Nat):Prop:=∃ neg v t,z=.agg #[.bool (negOf neg t),v]∧IsL B w v t∧isTrim t∧sg neg (val t)=x∧t.length≤n
theorem field_sum (x z:Int) (y:Bool) (w:World):(Instr.field 133 (.agg #[.int .i64 x,.bool y,.int .i64 z]) 0).run Tryz.prog w=.ok (.int .i64 x) w:=by kernel_rfl
structure BoxI (g:Nat) (W:World) (x:Bool) (pa:Option Addr) (la ca:Nat) (y:Bool) (pb:Option Addr) (lb cb:Nat):Prop where
 a0:W.cell? ⟨g,0,none⟩=some (.bool x)
 a1:W.cell? ⟨g,1,none⟩=some (.slice pa la ca)
 b0:W.cell? ⟨g+1,0,none⟩=some (.bool y)
 b1:W.cell? ⟨g+1,1,none⟩=some (.slice pb lb cb)
 r0:W.cell? ⟨g+2,0,none⟩=some (.bool false)
 r1:W.cell? ⟨g+2,1,none⟩=some (.slice none 0 0)
 f:∀ k,k<3→∀ i,W.frozen? ⟨g+k,i,none⟩=false
theorem BoxI.below {g:Nat} {W W':World} {x:Bool} {pa:Option Addr} {la ca:Nat} {y:Bool} {pb:Option Addr} {lb cb:Nat} (h:BoxI g W x pa la ca y pb lb cb) {N:Nat} (hN:g+3≤N) (hb:Below N W W'):BoxI g W' x pa la ca y pb lb cb:=by
 have q:∀ k,k<3→∀ i,W'.cell? ⟨g+k,i,none⟩=W.cell? ⟨g+k,i,none⟩:=fun k hk i=>hb.cell (p:=⟨g+k,i,none⟩) (by show g+k<N; omega); have f:∀ k,k<3→∀ i,W'.frozen? ⟨g+k,i,none⟩=W.frozen? ⟨g+k,i,none⟩:=fun k hk i=>hb.frozen (p:=⟨g+k,i,none⟩) (by show g+k<N; omega); exact ⟨(q 0 (by omega) 0).trans h.a0,(q 0 (by omega) 1).trans h.a1,(q 1 (by omega) 0).trans h.b0,(q 1 (by omega) 1).trans h.b1,(q 2 (by omega) 0).trans h.r0,(q 2 (by omega) 1).trans h.r1,fun k hk i=>(f k hk i).trans (h.f k hk i)⟩
theorem boxI_first (w:World) (x:Bool) (pa:Option Addr) (la ca:Nat) (y:Bool) (pb:Option Addr) (lb cb:Nat) (ty:TypeId) :
 BoxI w.heap.size (((w.alloc (.cells #[.bool x,.slice pa la ca] ty)).alloc (.cells #[.bool y,.slice pb lb cb] ty)).alloc (.cells #[.bool false,.slice none 0 0] ty)) x pa la ca y pb lb cb:=by
 refine ⟨?_,?_,?_,?_,?_,?_,?_⟩
 ·rw [World.cell?_alloc_past _ _ _ (by simp; omega),World.cell?_alloc_past _ _ _ (by simp),World.cell?_alloc_at _ _ _ _ rfl]; rfl
 ·rw [World.cell?_alloc_past _ _ _ (by simp; omega),World.cell?_alloc_past _ _ _ (by simp),World.cell?_alloc_at _ _ _ _ rfl]; rfl
 ·rw [World.cell?_alloc_past _ _ _ (by simp),World.cell?_alloc_at _ _ _ _ (by simp)]; rfl
 ·rw [World.cell?_alloc_past _ _ _ (by simp),World.cell?_alloc_at _ _ _ _ (by simp)]; rfl
 ·rw [World.cell?_alloc_at _ _ _ _ (by simp)]; rfl
 ·rw [World.cell?_alloc_at _ _ _ _ (by simp)]; rfl
 intro k j i
 match k,j with
 | 0,_=>rw [World.frozen?_alloc_past _ _ _ (by simp; omega),World.frozen?_alloc_past _ _ _ (by simp),World.frozen?_alloc_at _ _ _ _ (by simp)]
 | 1,_=>rw [World.frozen?_alloc_past _ _ _ (by simp),World.frozen?_alloc_at _ _ _ _ (by simp)]
 | 2,_=>rw [World.frozen?_alloc_at _ _ _ _ (by simp)]
theorem plus_same (B:Nat) (s:Bool) (va vb:Value) (a b:List Nat) (w:World) (ha:IsL B w va a) (hb:IsL B w vb b) (hla:a.length≤100000) (hlb:b.length≤100000) (hSP:SP w) :
 Calls Tryz.prog 80 #[.agg #[.bool s,va],.agg #[.bool s,vb]] w fun e w'=>∃ z,e=.returned z∧IsI w.heap.size w' z (sg s (val a)+sg s (val b)) (a.length+b.length+1)∧Up w w':=by
 obtain ⟨S,O,rfl,_⟩:=id ha; obtain ⟨T,Q,rfl,_⟩:=id hb; have HX:=boxI_first w s S a.length O s T b.length Q 55; obtain ⟨t,m⟩:=exW (((w.alloc (.cells #[.bool s,.slice S a.length O] 55)).alloc (.cells #[.bool s,.slice T b.length Q] 55)).alloc (.cells #[.bool false,.slice none 0 0] 55)); have a3:=hide m; have j:Up w t:=by rw [← m]; exact below_al (below_al (below_alloc _ _) _) _
 have V:=hide j; have M:t.heap.size=w.heap.size+3:=by rw [← m]; simp
 rw [m] at HX; have HS:=hide M; have D:Hid (∀ W,Up t W→BoxI w.heap.size W s S a.length O s T b.length Q):=fun W hW=>HX.below (by omega) hW; have HA:Hid (∀ W,Up t W→IsL B W (.slice S a.length O) a):=fun W hW=>(ha.below j).below hW; have HB:Hid (∀ W,Up t W→IsL B W (.slice T b.length Q) b):=fun W hW=>(hb.below j).below hW; have Z:Hid (SP t):=hSP.below j; have G:Hid (a.length≤100000∧b.length≤100000):=⟨hla,hlb⟩; obtain ⟨a0,a1,b0,b1,r0,r1,f⟩:=HX; clear f m M ha hb j hla hlb hSP; have Y:Hid (sgSum s s=0):=by cases s<;>rfl
 have d2:=field_sum
 go_enter Tryz.func80,Tryz.ntmps80
 go_wp2_with fail
 rw [a3.o]; refine (signsOf_any _ _ _ _ _ _ _ _ _ Z.o).mono ?_; rintro e ws ⟨rfl,J⟩; rw [Y.o]; have i:=hide J; clear a0 a1 b0 b1 r0 r1 J; obtain ⟨a0,a1,b0,b1,r0,r1,f⟩:=D.o ws i.o; have f0:=f 2 (by omega) 0; have f1:=f 2 (by omega) 1; clear f
 go_wp2_with fail
 go_region_with (first
  | (go_at_call 103; refine (addLimbs_any B _ _ a b _ (HA.o _ ?_) (HB.o _ ?_) G.o.1 G.o.2).mono ?_
     ·exact i.o.drew
     ·exact i.o.drew
     rintro e wd ⟨v,L,rfl,hL,u,K,a6,I⟩; have A:Hid (Up t wd):=i.o.drew.trans (I.mono i.o.size); have HL:Hid (IsL (w.heap.size+3) wd v L):=hL.mono (by have:=i.o.size; have:=HS.o; show w.heap.size+3≤ws.heap.size; omega); have HV:Hid (val L=val a+val b∧L.length≤a.length+b.length+1):=⟨u,by omega⟩; obtain ⟨c0,c1,d0,d1,s0,s1,g⟩:=D.o wd A.o; have g0:=g 2 (by omega) 0; have g1:=g 2 (by omega) 1; obtain ⟨pv,cv,hv,_⟩:=hL; subst hv; clear u K a6 I g)
  | (go_at_call 98; refine (makeInteger_any _ s _ L _ HL.o).mono ?_
     rintro e U ⟨v',rfl,hcut,E⟩; have F:Hid (Up t U):=A.o.trans (E.mono A.o.size); have H:Hid (IsL (w.heap.size+3) U v' (trimL L)):=(hcut _ _ HL.o).below E; obtain ⟨c0,c1,d0,d1,s0,s1,g⟩:=D.o U F.o; have g0:=g 2 (by omega) 0; have g1:=g 2 (by omega) 1; obtain ⟨pw,cw,hw,_⟩:=H.o; subst hw; clear hcut E g))
 all_goals
  try simp only [List.getElem_toArray,List.getElem_cons_succ,List.getElem_cons_zero,Act.put,List.setIfInBounds_toArray,List.set_cons_succ,List.set_cons_zero]
  go_wp2
  have HF:Hid (Up w U):=V.o.trans (F.o.mono (by have:=HS.o; omega)); refine bodyPost_ret ?_ rfl ⟨_,rfl,⟨s,_,trimL L,rfl,((H.o.setCell _ _ (by simp)).setCell _ _ (by simp)).mono (by omega),trimL_trim _,by rw [val_trimL,HV.o.1,sg_add],by have:=trimL_len L; have:=HV.o.2; omega⟩,(HF.o.setCell (by simp; omega) _).setCell (by simp; omega) _⟩; simp [results,Tryz.results80,go_sem,s0,s1]
theorem cmpL_ge (a b:List Nat) (ha:okL a) (hb:okL b) (ta:isTrim a) (tb:isTrim b) (hcm:0≤cmpL a b):b.length≤a.length∧val b≤val a:=by
 have h:=cmpL_ord a b ha hb ta tb; have i:=hcm; rw [h] at i; refine ⟨?_,?_⟩
 ·unfold cmpL at hcm
  by_cases h3:a.length<b.length
  ·simp [h3] at hcm<;>omega
  by_cases h4:b.length<a.length
  ·simp [h3,h4] at hcm<;>omega
  omega
 unfold ord at i
 split at i<;>(try split at i)<;>omega
theorem plus_ge (B:Nat) (s s':Bool) (va vb:Value) (a b:List Nat) (w:World) (ha:IsL B w va a) (hb:IsL B w vb b) (hne:a≠[]) (hlb:b.length≤a.length∧val b≤val a) (hla:a.length≤100000) (hSP:SP w) (hss:s'=!s) (hcm:0≤cmpL a b) :
 Calls Tryz.prog 80 #[.agg #[.bool s,va],.agg #[.bool s',vb]] w fun e w'=>∃ z,e=.returned z∧IsI w.heap.size w' z (sg s (val a)+sg s' (val b)) (a.length+b.length+1)∧Up w w':=by
 obtain ⟨V,S,rfl,_⟩:=id ha; obtain ⟨Y,T,rfl,_⟩:=id hb; have HX:=boxI_first w s V a.length S s' Y b.length T 55; obtain ⟨D,t⟩:=exW (((w.alloc (.cells #[.bool s,.slice V a.length S] 55)).alloc (.cells #[.bool s',.slice Y b.length T] 55)).alloc (.cells #[.bool false,.slice none 0 0] 55)); have a8:=hide t; have m:Up w D:=by rw [← t]; exact below_al (below_al (below_alloc _ _) _) _
 have a3:=hide m; have Q:D.heap.size=w.heap.size+3:=by rw [← t]; simp
 rw [t] at HX; have HS:=hide Q; have u:Hid (∀ W,Up D W→BoxI w.heap.size W s V a.length S s' Y b.length T):=fun W hW=>HX.below (by omega) hW; have HA:Hid (∀ W,Up D W→IsL B W (.slice V a.length S) a):=fun W hW=>(ha.below m).below hW; have HB:Hid (∀ W,Up D W→IsL B W (.slice Y b.length T) b):=fun W hW=>(hb.below m).below hW; have a6:Hid (SP D):=hSP.below m; have A:Hid (a≠[]∧a.length≤100000∧b.length≤a.length∧val b≤val a):=⟨hne,hla,hlb⟩; obtain ⟨a0,a1,b0,b1,r0,r1,f⟩:=HX; clear f t Q ha hb m hla hlb hSP hne; have a5:Hid (sgSum s s'=1):=by subst hss; cases s<;>rfl
 have a7:=Hd hss; obtain ⟨c,U⟩:=exW (cmpL a b); have HC:=Hd U; have b3 : -1≤c∧c≤1:=by rw [← U]; exact cmpL_bd a b
 obtain ⟨d8,d9⟩:=b3; rw [U] at hcm; clear U hss; have e0:=field_sum
 go_enter Tryz.func80,Tryz.ntmps80
 go_wp2_with fail
 rw [a8.o]; refine (signsOf_any _ _ _ _ _ _ _ _ _ a6.o).mono ?_; rintro e ws ⟨rfl,M⟩; rw [a5.o]; have j:=hide M; clear a0 a1 b0 b1 r0 r1 M; obtain ⟨a0,a1,b0,b1,r0,r1,f⟩:=u.o ws j.o; clear f
 go_wp2_with fail
 refine (compareLimbs_any B _ _ a b _ (HA.o _ j.o) (HB.o _ j.o)).mono ?_; rintro e wk ⟨rfl,K⟩; rw [HC.o]; have i:Hid (Up D wk):=j.o.trans (K.mono j.o.size); clear K a0 a1 b0 b1 r0 r1; obtain ⟨a0,a1,b0,b1,r0,r1,f⟩:=u.o wk i.o; have f0:=f 2 (by omega) 0; have f1:=f 2 (by omega) 1; clear f
 go_wp2_with fail
 go_region_with (first
  | (go_at_call 104; refine (subLimbs_any B _ _ a b _ (HA.o _ ?_) (HB.o _ ?_) A.o.1 A.o.2.1 A.o.2.2.1 A.o.2.2.2).mono ?_
     ·exact i.o.drew
     ·exact i.o.drew
     rintro e wd ⟨v,L,rfl,hL,E,O,b4,J⟩; have F:Hid (Up D wd):=i.o.drew.trans (J.mono i.o.size); have HL:Hid (IsL (w.heap.size+3) wd v L):=hL.mono (by have:=i.o.size; have:=HS.o; show w.heap.size+3≤wk.heap.size; omega); have HV:Hid (val L+val b=val a∧L.length≤a.length+b.length+1):=⟨E,by omega⟩; obtain ⟨c0,c1,d0,d1,s0,s1,g⟩:=u.o wd F.o; have g0:=g 2 (by omega) 0; have g1:=g 2 (by omega) 1; obtain ⟨pv,cv,hv,_⟩:=hL; subst hv; clear E O b4 J g)
  | (go_at_call 98; refine (makeInteger_any _ s _ L _ HL.o).mono ?_
     rintro e Z ⟨v',rfl,hcut,G⟩; have H:Hid (Up D Z):=F.o.trans (G.mono F.o.size); have I:Hid (IsL (w.heap.size+3) Z v' (trimL L)):=(hcut _ _ HL.o).below G; obtain ⟨c0,c1,d0,d1,s0,s1,g⟩:=u.o Z H.o; have g0:=g 2 (by omega) 0; have g1:=g 2 (by omega) 1; obtain ⟨pw,cw,hw,_⟩:=I.o; subst hw; clear hcut G g))
 all_goals
  try simp only [List.getElem_toArray,List.getElem_cons_succ,List.getElem_cons_zero,Act.put,List.setIfInBounds_toArray,List.set_cons_succ,List.set_cons_zero]
  go_wp2
  have HF:Hid (Up w Z):=a3.o.trans (H.o.mono (by have:=HS.o; omega)); refine bodyPost_ret ?_ rfl ⟨_,rfl,⟨s,_,trimL L,rfl,((I.o.setCell _ _ (by simp)).setCell _ _ (by simp)).mono (by omega),trimL_trim _,by rw [val_trimL,a7.o,sg_sub s _ _ _ HV.o.1],by have:=trimL_len L; have:=HV.o.2; omega⟩,(HF.o.setCell (by simp; omega) _).setCell (by simp; omega) _⟩; simp [results,Tryz.results80,go_sem,s0,s1]
theorem cmpL_lt' (a b:List Nat) (ha:okL a) (hb:okL b) (ta:isTrim a) (tb:isTrim b) (hcm:cmpL a b<0):a.length≤b.length∧val a≤val b:=by
 have h:=cmpL_ord a b ha hb ta tb; have i:=hcm; rw [h] at i; refine ⟨?_,?_⟩
 ·unfold cmpL at hcm
  by_cases h3:a.length<b.length
  ·omega
  by_cases h4:b.length<a.length
  ·simp [h3,h4] at hcm<;>omega
  omega
 unfold ord at i
 split at i<;>(try split at i)<;>omega
theorem BoxI.swap {g:Nat} {W:World} {x:Bool} {pa:Option Addr} {la ca:Nat} {y:Bool} {pb:Option Addr} {lb cb:Nat} (h:BoxI g W x pa la ca y pb lb cb) :
 BoxI g ((((W.setCell ⟨g,0,none⟩ (.bool y)).setCell ⟨g,1,none⟩ (.slice pb lb cb)).setCell ⟨g+1,0,none⟩ (.bool x)).setCell ⟨g+1,1,none⟩ (.slice pa la ca)) y pb lb cb x pa la ca:=by
 obtain ⟨a0,a1,b0,b1,r0,r1,f⟩:=h; refine ⟨?_,?_,?_,?_,?_,?_,fun k hk i=>?_⟩
 ·simp [go_sem,a0]
 ·simp [go_sem,a1]
 ·simp [go_sem,b0]
 ·simp [go_sem,b1]
 ·simp [go_sem,r0]
 ·simp [go_sem,r1]
 have:=f k hk i; simp [go_sem,this]
theorem plus_lt (B:Nat) (s s':Bool) (va vb:Value) (a b:List Nat) (w:World) (ha:IsL B w va a) (hb:IsL B w vb b) (hne:b≠[]) (hlb:a.length≤b.length∧val a≤val b) (hla:b.length≤100000) (hSP:SP w) (hss:s'=!s) (hcm:cmpL a b<0) :
 Calls Tryz.prog 80 #[.agg #[.bool s,va],.agg #[.bool s',vb]] w fun e w'=>∃ z,e=.returned z∧IsI w.heap.size w' z (sg s (val a)+sg s' (val b)) (a.length+b.length+1)∧Up w w':=by
 obtain ⟨S,K,rfl,_⟩:=id ha; obtain ⟨T,M,rfl,_⟩:=id hb; have HX:=boxI_first w s S a.length K s' T b.length M 55; obtain ⟨W0,t⟩:=exW (((w.alloc (.cells #[.bool s,.slice S a.length K] 55)).alloc (.cells #[.bool s',.slice T b.length M] 55)).alloc (.cells #[.bool false,.slice none 0 0] 55)); have c8:=hide t; have O:Up w W0:=by rw [← t]; exact below_al (below_al (below_alloc _ _) _) _
 have G:=hide O; have b4:W0.heap.size=w.heap.size+3:=by rw [← t]; simp
 rw [t] at HX; have HS:=hide b4; have I:Hid (∀ W,Up W0 W→BoxI w.heap.size W s S a.length K s' T b.length M):=fun W hW=>HX.below (by omega) hW; have HA:Hid (∀ W,Up w W→IsL B W (.slice S a.length K) a):=fun W hW=>ha.below hW; have HB:Hid (∀ W,Up w W→IsL B W (.slice T b.length M) b):=fun W hW=>hb.below hW; have c6:Hid (SP W0):=hSP.below O; have u:Hid (b≠[]∧b.length≤100000∧a.length≤b.length∧val a≤val b):=⟨hne,hla,hlb⟩; obtain ⟨a0,a1,b0,b1,r0,r1,f⟩:=HX; clear f t b4 ha hb O hla hlb hSP hne; have b9:Hid (sgSum s s'=1):=by subst hss; cases s<;>rfl
 have c7:=Hd hss; obtain ⟨c,hc⟩:=exW (cmpL a b); have HC:=Hd hc; have d4 : -1≤c∧c≤1:=by rw [← hc]; exact cmpL_bd a b
 obtain ⟨f5,f7⟩:=d4; rw [hc] at hcm; clear hc hss; have f9:=field_sum
 go_enter Tryz.func80,Tryz.ntmps80
 go_wp2_with fail
 rw [c8.o]; refine (signsOf_any _ _ _ _ _ _ _ _ _ c6.o).mono ?_; rintro e ws ⟨rfl,a9⟩; rw [b9.o]; have i:=hide a9; clear a0 a1 b0 b1 r0 r1 a9; obtain ⟨a0,a1,b0,b1,r0,r1,f⟩:=I.o ws i.o; clear f
 go_wp2_with fail
 refine (compareLimbs_any B _ _ a b _ (HA.o _ (G.o.trans (i.o.mono (by have:=HS.o; omega)))) (HB.o _ (G.o.trans (i.o.mono (by have:=HS.o; omega))))).mono ?_; rintro e U ⟨rfl,a8⟩; rw [HC.o]; have m:Hid (Up W0 U):=i.o.trans (a8.mono i.o.size); clear a8 a0 a1 b0 b1 r0 r1; obtain ⟨a0,a1,b0,b1,r0,r1,f⟩:=I.o U m.o; have g0:U.frozen? ⟨w.heap.size,0,none⟩=false:=f 0 (by omega) 0; have g1:U.frozen? ⟨w.heap.size,1,none⟩=false:=f 0 (by omega) 1; have h0:=f 1 (by omega) 0; have h1:=f 1 (by omega) 1; have J:=BoxI.swap ⟨a0,a1,b0,b1,r0,r1,f⟩; clear f
 go_wp2_with fail
 clear a0 a1 b0 b1 r0 r1 g0 g1 h0 h1; obtain ⟨j,A⟩:=exW ((((U.setCell ⟨w.heap.size,0,none⟩ (.bool s')).setCell ⟨w.heap.size,1,none⟩ (.slice T b.length M)).setCell ⟨w.heap.size+1,0,none⟩ (.bool s)).setCell ⟨w.heap.size+1,1,none⟩ (.slice S a.length K)); have d5:j.heap.size=U.heap.size:=by rw [← A]; simp
 have D:Up w j:=by
  rw [← A]; exact ((((G.o.trans (m.o.mono (by have:=HS.o; omega))).setCell (by simp) _).setCell (by simp) _).setCell (by simp) _).setCell (by simp) _
 rw [A] at J ⊢; have E:Hid (∀ W,Up j W→BoxI w.heap.size W s' T b.length M s S a.length K):=fun W hW=>J.below (by have:=m.o.size; have:=HS.o; omega) hW; have a5:Hid (w.heap.size+3≤j.heap.size):=by have:=m.o.size; have:=HS.o; show w.heap.size+3≤j.heap.size; omega
 have b8:=Hd D; have b7:Hid (IsL B j (.slice S a.length K) a):=HA.o _ D; have V:Hid (IsL B j (.slice T b.length M) b):=HB.o _ D; obtain ⟨a0,a1,b0,b1,r0,r1,f⟩:=J; have f0:=f 2 (by omega) 0; have f1:=f 2 (by omega) 1; clear f A d5 D I i m
 go_region_with (first
  | (go_at_call 104; refine (subLimbs_any B _ _ b a _ (V.o.below ?_) (b7.o.below ?_) u.o.1 u.o.2.1 u.o.2.2.1 u.o.2.2.2).mono ?_
     ·exact (Below.refl _ j).drew
     ·exact (Below.refl _ j).drew
     rintro e wd ⟨v,L,rfl,hL,F,b3,d6,a7⟩; have H:Hid (Up j wd):=(Below.refl _ j).drew.trans (a7.mono leR); have HL:Hid (IsL (w.heap.size+3) wd v L):=hL.mono a5.o; have HV:Hid (val L+val a=val b∧L.length≤a.length+b.length+1):=⟨F,by omega⟩; obtain ⟨c0,c1,d0,d1,s0,s1,g⟩:=E.o wd H.o; have g0:=g 2 (by omega) 0; have g1:=g 2 (by omega) 1; obtain ⟨pv,cv,hv,_⟩:=hL; subst hv; clear F b3 d6 a7 g)
  | (go_at_call 98; refine (makeInteger_any _ s' _ L _ HL.o).mono ?_
     rintro e we ⟨v',rfl,hcut,Q⟩; have Y:Hid (Up j we):=H.o.trans (Q.mono H.o.size); have Z:Hid (IsL (w.heap.size+3) we v' (trimL L)):=(hcut _ _ HL.o).below Q; obtain ⟨c0,c1,d0,d1,s0,s1,g⟩:=E.o we Y.o; have g0:=g 2 (by omega) 0; have g1:=g 2 (by omega) 1; obtain ⟨pw,cw,hw,_⟩:=Z.o; subst hw; clear hcut Q g))
 all_goals
  try simp only [List.getElem_toArray,List.getElem_cons_succ,List.getElem_cons_zero,Act.put,List.setIfInBounds_toArray,List.set_cons_succ,List.set_cons_zero]
  go_wp2
  have HF:Hid (Up w we):=b8.o.trans (Y.o.mono (by have:=a5.o; omega)); refine bodyPost_ret ?_ rfl ⟨_,rfl,⟨s',_,trimL L,rfl,((Z.o.setCell _ _ (by simp)).setCell _ _ (by simp)).mono (by omega),trimL_trim _,by rw [val_trimL,sg_sub s' _ _ _ HV.o.1,c7.o,Bool.not_not,Int.add_comm],by have:=trimL_len L; have:=HV.o.2; omega⟩,(HF.o.setCell (by simp; omega) _).setCell (by simp; omega) _⟩; simp [results,Tryz.results80,go_sem,s0,s1]
theorem IsI.below {B:Nat} {w w':World} {z:Value} {x:Int} {n:Nat} (h:IsI B w z x n) (hb:Up w w'):IsI B w' z x n:=by
 obtain ⟨neg,v,t,i,j,h3⟩:=h; exact ⟨neg,v,t,i,j.below hb,h3⟩
theorem IsI.mono {B B':Nat} {w:World} {z:Value} {x:Int} {n n':Nat} (h:IsI B w z x n) (hb:B'≤B) (hn:n≤n'):IsI B' w z x n':=by
 obtain ⟨neg,v,t,i,j,h3,h4,h5⟩:=h; exact ⟨neg,v,t,i,j.mono hb,h3,h4,by omega⟩
theorem negOf_ne (n:Bool) (t:List Nat) (h:negOf n t=true):t≠[]:=by
 rintro rfl
 cases n<;>simp [negOf] at h
theorem plus_any (B:Nat) (za zb:Value) (x y:Int) (n m:Nat) (w:World) (ha:IsI B w za x n) (hb:IsI B w zb y m) (hn:n≤100000) (hm:m≤100000) (hSP:SP w) :
 Calls Tryz.prog 80 #[za,zb] w fun e w'=>∃ z,e=.returned z∧IsI w.heap.size w' z (x+y) (n+m+1)∧Up w w':=by
 obtain ⟨H,M,a,rfl,j,S,rfl,U⟩:=ha; obtain ⟨J,O,b,rfl,s,T,rfl,V⟩:=hb; have K:okL a:=by obtain ⟨_,_,_,_,_,h,_⟩:=j; exact h
 have L:okL b:=by obtain ⟨_,_,_,_,_,h,_⟩:=s; exact h
 rw [← sg_negOf H a,← sg_negOf J b]; have t:∀ {z:Value} {W:World} {u:Int},IsI w.heap.size W z u (a.length+b.length+1)→IsI w.heap.size W z u (n+m+1):=fun h=>h.mono leR (by omega)
 by_cases Y:negOf H a=negOf J b
 ·rw [← Y]; refine (plus_same B _ M O a b w j s (by omega) (by omega) hSP).mono ?_; rintro e w' ⟨z,i,G,h3⟩; exact ⟨z,i,t G,h3⟩
 have F:negOf J b=!negOf H a:=by cases i:negOf H a<;>cases G:negOf J b<;>simp_all
 have I:a≠[]∨b≠[]:=by
  cases i:negOf H a
  ·exact .inr (negOf_ne J b (by rw [F,i]; rfl))
  exact .inl (negOf_ne H a i)
 by_cases Q:0≤cmpL a b
 ·have D:=cmpL_ge a b K L S T Q; refine (plus_ge B _ _ M O a b w j s ?_ D (by omega) hSP F Q).mono ?_
  ·intro h
   rcases I with A|A
   ·exact A h
   rw [h] at D; exact A (List.eq_nil_of_length_eq_zero (by simpa using D.1))
  rintro e w' ⟨z,i,G,h3⟩; exact ⟨z,i,t G,h3⟩
 have E:=cmpL_lt' a b K L S T (by omega); refine (plus_lt B _ _ M O a b w j s ?_ E (by omega) hSP F (by omega)).mono ?_
 ·intro h
  rcases I with A|A
  ·rw [h] at E; exact A (List.eq_nil_of_length_eq_zero (by simpa using E.1))
  exact A h
 rintro e w' ⟨z,i,G,h3⟩; exact ⟨z,i,t G,h3⟩
theorem negated_any (B:Nat) (z:Value) (x:Int) (n:Nat) (w:World) (h:IsI B w z x n) :
 Calls Tryz.prog 82 #[z] w fun e w'=>∃ z',e=.returned z'∧IsI B w' z' (-x) n∧Up w w':=by
 obtain ⟨neg,v,t,rfl,I,M,O,hl⟩:=h; obtain ⟨p,c,rfl,_⟩:=id I; obtain ⟨s,H⟩:=exW (negOf neg t); have U:Hid (sg (!s) (val t) = -x):=by
  unfold Hid
  rw [← H,sg_not,sg_negOf,O]
 have K:Hid (∀ W,Up w W→IsL B W (.slice p t.length c) t):=fun W hW=>I.below hW; have T:Hid (isTrim t∧t.length≤n):=⟨M,hl⟩; obtain ⟨u,j⟩:=exW ((w.alloc (.cells #[.bool s,.slice p t.length c] 55)).alloc (.cells #[.bool false,.slice none 0 0] 55)); have G:=hide j; have m:Hid (Up w u):=by rw [← j]; exact below_al (below_alloc _ _) _
 have F:u.heap.size=w.heap.size+2:=by rw [← j]; simp
 have Q:Hid (∀ W,Up u W→(W.cell? ⟨w.heap.size+1,0,none⟩=some (.bool false)∧W.cell? ⟨w.heap.size+1,1,none⟩=some (.slice none 0 0)∧W.frozen? ⟨w.heap.size+1,0,none⟩=false∧W.frozen? ⟨w.heap.size+1,1,none⟩=false)∧W.cell? ⟨w.heap.size,0,none⟩=some (.bool s)∧W.cell? ⟨w.heap.size,1,none⟩=some (.slice p t.length c)):=fun W hW=>by
  have q:∀ k,k<2→∀ i,W.cell? ⟨w.heap.size+k,i,none⟩=u.cell? ⟨w.heap.size+k,i,none⟩:=fun k hk i=>hW.cell (p:=⟨w.heap.size+k,i,none⟩) (by show w.heap.size+k<u.heap.size; omega); have f:∀ i,W.frozen? ⟨w.heap.size+1,i,none⟩=u.frozen? ⟨w.heap.size+1,i,none⟩:=fun i=>hW.frozen (p:=⟨w.heap.size+1,i,none⟩) (by show w.heap.size+1<u.heap.size; omega); refine ⟨⟨?_,?_,?_,?_⟩,?_,?_⟩
  ·rw [q 1 (by omega),← j,World.cell?_alloc_at _ _ _ _ (by simp)]; rfl
  ·rw [q 1 (by omega),← j,World.cell?_alloc_at _ _ _ _ (by simp)]; rfl
  ·rw [f,← j,World.frozen?_alloc_at _ _ _ _ (by simp)]
  ·rw [f,← j,World.frozen?_alloc_at _ _ _ _ (by simp)]
  ·refine (q 0 (by omega) 0).trans ?_; rw [← j,World.cell?_alloc_past _ _ _ (by simp),World.cell?_alloc_at _ _ _ _ (by simp)]; rfl
  refine (q 0 (by omega) 1).trans ?_; rw [← j,World.cell?_alloc_past _ _ _ (by simp),World.cell?_alloc_at _ _ _ _ (by simp)]; rfl
 have S:=Hd F; rw [H]; clear H O M hl I j F
 go_enter Tryz.func82,Tryz.ntmps82
 go_wp2_with fail
 rw [G.o]; refine (makeInteger_any B _ _ t _ (K.o _ m.o)).mono ?_; rintro e J ⟨v',rfl,hcut,A⟩; have D:Hid (Up w J):=m.o.trans (A.mono m.o.size); have E:Hid (∀ W,Up w W→IsL B W v' (trimL t)):=fun W hW=>hcut _ _ (K.o _ hW); obtain ⟨⟨r0,r1,f0,f1⟩,_,_⟩:=Q.o J A; obtain ⟨Z,V,Y,_⟩:=E.o _ D.o; subst Y; clear hcut A
 go_wp2
 have L:Up w ((J.setCell ⟨w.heap.size+1,0,none⟩ (.bool (negOf (!s) (trimL t)))).setCell ⟨w.heap.size+1,1,none⟩ (.slice Z (trimL t).length V)):=(D.o.setCell (by simp) _).setCell (by simp) _; refine bodyPost_ret ?_ rfl ⟨_,rfl,⟨!s,_,trimL t,rfl,E.o _ L,trimL_trim _,by rw [val_trimL]; exact U.o,by have:=trimL_len t; have:=T.o.2; omega⟩,L⟩; simp [results,Tryz.results82,go_sem,r0,r1]
theorem IsI.shape {B:Nat} {w:World} {z:Value} {x:Int} {n:Nat} (h:IsI B w z x n):∃ (s:Bool) (p:Option Addr) (l c:Nat),z=.agg #[.bool s,.slice p l c]:=by
 obtain ⟨neg,v,t,rfl,⟨p,c,rfl,_⟩,_⟩:=h; exact ⟨_,_,_,_,rfl⟩
theorem IsI.setCell {B:Nat} {w:World} {z:Value} {x:Int} {n:Nat} (h:IsI B w z x n) (p:Addr) (u:Value) (hp:p.block<B):IsI B (w.setCell p u) z x n:=by
 obtain ⟨neg,v,t,i,j,h3⟩:=h; exact ⟨neg,v,t,i,j.setCell p u hp,h3⟩
theorem minus_any (B:Nat) (za zb:Value) (x y:Int) (n m:Nat) (w:World) (ha:IsI B w za x n) (hb:IsI B w zb y m) (hn:n≤100000) (hm:m≤100000) (hSP:SP w) :
 Calls Tryz.prog 105 #[za,zb] w fun e w'=>∃ z,e=.returned z∧IsI w.heap.size w' z (x - y) (n+m+1)∧Up w w':=by
 have HA:Hid (∀ W,Up w W→IsI B W za x n):=fun W hW=>ha.below hW; have HB:Hid (∀ W,Up w W→IsI B W zb y m):=fun W hW=>hb.below hW; have K:Hid (∀ W,Up w W→SP W):=fun W hW=>hSP.below hW; have HN:Hid (n≤100000∧m≤100000):=⟨hn,hm⟩; obtain ⟨Z,V,U,Q,rfl⟩:=ha.shape; obtain ⟨sb,Y,lb,S,rfl⟩:=hb.shape; clear ha hb hSP hn hm; have M:=boxI_first w Z V U Q sb Y lb S 55; obtain ⟨s,j⟩:=exW (((w.alloc (.cells #[.bool Z,.slice V U Q] 55)).alloc (.cells #[.bool sb,.slice Y lb S] 55)).alloc (.cells #[.bool false,.slice none 0 0] 55)); have L:=hide j; have t:Up w s:=by rw [← j]; exact below_al (below_al (below_alloc _ _) _) _
 have b3:=hide t; have G:s.heap.size=w.heap.size+3:=by rw [← j]; simp
 rw [j] at M; have HS:=hide G; have D:Hid (∀ W,Up s W→BoxI w.heap.size W Z V U Q sb Y lb S):=fun W hW=>M.below (by omega) hW; have H:Hid (∀ W,Up s W→Up w W):=fun W hW=>t.trans (hW.mono (by omega)); obtain ⟨a0,a1,b0,b1,r0,r1,f⟩:=M; have f0:=f 2 (by omega) 0; have f1:=f 2 (by omega) 1; clear f j G t
 go_enter Tryz.func105,Tryz.ntmps105
 go_wp2_with fail
 rw [L.o]
 go_region_with (first
  | (go_at_call 82; refine (negated_any B _ y m _ (HB.o _ (H.o _ ?_))).mono ?_
     ·exact (Below.refl _ s).drew
     rintro e wd ⟨z,rfl,T,E⟩; have i:Hid (Up s wd):=(Below.refl _ s).drew.trans (E.mono leR); have HZ:=Hd T; obtain ⟨c0,c1,d0,d1,s0,s1,g⟩:=D.o wd i.o; have g0:=g 2 (by omega) 0; have g1:=g 2 (by omega) 1; obtain ⟨sz,pz,lz,cz,hv⟩:=T.shape; subst hv; clear T E g)
  | (go_at_call 80; refine (plus_any B _ _ x (-y) n m _ (HA.o _ (H.o _ i.o)) HZ.o HN.o.1 HN.o.2 (K.o _ (H.o _ i.o))).mono ?_
     rintro e I ⟨z',rfl,u,F⟩; have A:Hid (Up s I):=i.o.trans (F.mono i.o.size); have O:Hid (IsI (w.heap.size+3) I z' (x - y) (n+m+1)):=by
      rw [Int.sub_eq_add_neg]; exact u.mono (by have:=i.o.size; have:=HS.o; omega) leR
     obtain ⟨c0,c1,d0,d1,s0,s1,g⟩:=D.o I A.o; have g0:=g 2 (by omega) 0; have g1:=g 2 (by omega) 1; obtain ⟨se,pe,le,ce,hw⟩:=u.shape; subst hw; clear u F g))
 all_goals
  try simp only [List.getElem_toArray,List.getElem_cons_succ,List.getElem_cons_zero,Act.put,List.setIfInBounds_toArray,List.set_cons_succ,List.set_cons_zero]
  go_wp2
  have J:Hid (Up w I):=H.o _ A.o; refine bodyPost_ret ?_ rfl ⟨_,rfl,((O.o.setCell _ _ (by simp)).setCell _ _ (by simp)).mono (by omega) leR,(J.o.setCell (by simp; omega) _).setCell (by simp; omega) _⟩; simp [results,Tryz.results105,go_sem,s0,s1]
theorem lim_len' (s:ByteArray) (h:isIntB s=true):(lim s).length≤280:=by
 have j:(dgs s).size≤2500:=by
  by_cases i:2500<(dgs s).size
  ·rw [isInt_long s _ rfl i] at h; cases h
  omega
 have h3:=trimL_len (chunks (dgs s).data.toList); have h4:(chunks (dgs s).data.toList).length=cnt (dgs s).data.toList.length:=by simp [chunks]
 have h5:(dgs s).data.toList.length=(dgs s).size:=by simp
 unfold lim; rw [h4,h5] at h3; have m:cnt (dgs s).size≤280:=by unfold cnt; omega
 omega
theorem textI_any (B:Nat) (z:Value) (x:Int) (n:Nat) (w:World) (h:IsI B w z x n) (hn:n≤600) (hLT:LT w) :
 Calls Tryz.prog 84 #[z] w fun e w'=>∃ u,e=.returned (.string u)∧IsText x u∧Up w w':=by
 obtain ⟨neg,v,t,rfl,j,s,A,hl⟩:=h; have i:okL t:=by obtain ⟨_,_,_,_,_,h,_⟩:=j; exact h
 refine (text_any B _ v t w j (by omega) hLT).mono ?_; rintro e w' ⟨rfl,m⟩; exact ⟨_,rfl,⟨neg,t,i,s,A,rfl⟩,m⟩
end Go.Proofs.YtnhbmpnhijgpmaaGreatDoor
