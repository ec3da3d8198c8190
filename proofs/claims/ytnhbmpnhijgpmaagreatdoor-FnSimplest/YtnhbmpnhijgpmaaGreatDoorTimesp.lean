import Derived.Test.YtnhbmpnhijgpmaaGreatDoorPlusAp
import Derived.Test.YtnhbmpnhijgpmaaGreatDoorMulLimbsp
set_option maxRecDepth 100000
set_option maxHeartbeats 8000000
namespace Go.Proofs.YtnhbmpnhijgpmaaGreatDoor
open Go.ChangeShapes Go.WideShapes Go.ChangeAt Go.RowKit
theorem sg_mul' (s t:Bool) (u v:Nat):sg (s != t) (u*v)=sg s u*sg t v:=by
 cases s<;>cases t<;>simp [sg,Int.mul_neg,Int.neg_mul]
theorem field_neg (x z:Int) (y:Bool) (w:World):(Instr.field 133 (.agg #[.int .i64 x,.bool y,.int .i64 z]) 1).run Tryz.prog w=.ok (.bool y) w:=by kernel_rfl
theorem times_same (B:Nat) (s t:Bool) (va vb:Value) (a b:List Nat) (w:World) (ha:IsL B w va a) (hb:IsL B w vb b) (hla:a.length≤100000) (hlb:b.length≤100000) (hSP:SP w) :
 Calls Tryz.prog 76 #[.agg #[.bool s,va],.agg #[.bool t,vb]] w fun e w'=>∃ z,e=.returned z∧IsI w.heap.size w' z (sg s (val a)*sg t (val b)) (a.length+b.length)∧Up w w':=by
 obtain ⟨T,Q,rfl,_⟩:=id ha; obtain ⟨U,S,rfl,_⟩:=id hb; have HX:=boxI_first w s T a.length Q t U b.length S 55; obtain ⟨j,u⟩:=exW (((w.alloc (.cells #[.bool s,.slice T a.length Q] 55)).alloc (.cells #[.bool t,.slice U b.length S] 55)).alloc (.cells #[.bool false,.slice none 0 0] 55)); have a3:=hide u; have m:Up w j:=by rw [← u]; exact below_al (below_al (below_alloc _ _) _) _
 have Y:=hide m; have O:j.heap.size=w.heap.size+3:=by rw [← u]; simp
 rw [u] at HX; have HS:=hide O; have E:Hid (∀ W,Up j W→BoxI w.heap.size W s T a.length Q t U b.length S):=fun W hW=>HX.below (by omega) hW; have HA:Hid (∀ W,Up j W→IsL B W (.slice T a.length Q) a):=fun W hW=>(ha.below m).below hW; have HB:Hid (∀ W,Up j W→IsL B W (.slice U b.length S) b):=fun W hW=>(hb.below m).below hW; have Z:Hid (SP j):=hSP.below m; have H:Hid (a.length≤100000∧b.length≤100000):=⟨hla,hlb⟩; obtain ⟨a0,a1,b0,b1,r0,r1,f⟩:=HX; have f0:=f 2 (by omega) 0; have f1:=f 2 (by omega) 1; clear f u O ha hb m hla hlb hSP; have d2:=field_neg
 go_enter Tryz.func76,Tryz.ntmps76
 go_wp2_with fail
 rw [a3.o]
 go_region_with (first
  | (go_at_call 99; refine (signsOf_any _ _ _ _ _ _ _ _ _ (Z.o.below ?_)).mono ?_
     ·exact (Below.refl _ j).drew
     rintro e ws ⟨rfl,K⟩; have i:Hid (Up j ws):=(Below.refl _ j).drew.trans (K.mono leR); obtain ⟨k0,k1,l0,l1,t0,t1,g⟩:=E.o ws i.o; have j0:=g 2 (by omega) 0; have j1:=g 2 (by omega) 1; clear K g)
  | (go_at_call 100; refine (mulLimbs_any B _ _ a b _ (HA.o _ i.o) (HB.o _ i.o) H.o.1 H.o.2).mono ?_
     rintro e wd ⟨v,L,rfl,hL,A,M,a6,J⟩; have D:Hid (Up j wd):=i.o.trans (J.mono i.o.size); have HL:Hid (IsL (w.heap.size+3) wd v L):=hL.mono (by have:=i.o.size; have:=HS.o; omega); have HV:Hid (val L=val a*val b∧L.length≤a.length+b.length):=⟨A,by omega⟩; obtain ⟨c0,c1,d0,d1,s0,s1,g⟩:=E.o wd D.o; have g0:=g 2 (by omega) 0; have g1:=g 2 (by omega) 1; obtain ⟨pv,cv,hv,_⟩:=hL; subst hv; clear A M a6 J g)
  | (go_at_call 98; refine (makeInteger_any _ (s != t) _ L _ HL.o).mono ?_
     rintro e V ⟨v',rfl,hcut,F⟩; have G:Hid (Up j V):=D.o.trans (F.mono D.o.size); have I:Hid (IsL (w.heap.size+3) V v' (trimL L)):=(hcut _ _ HL.o).below F; obtain ⟨c0,c1,d0,d1,s0,s1,g⟩:=E.o V G.o; have g0:=g 2 (by omega) 0; have g1:=g 2 (by omega) 1; obtain ⟨pw,cw,hw,_⟩:=I.o; subst hw; clear hcut F g))
 all_goals
  try simp only [List.getElem_toArray,List.getElem_cons_succ,List.getElem_cons_zero,Act.put,List.setIfInBounds_toArray,List.set_cons_succ,List.set_cons_zero]
  go_wp2
  have HF:Hid (Up w V):=Y.o.trans (G.o.mono (by have:=HS.o; omega)); refine bodyPost_ret ?_ rfl ⟨_,rfl,⟨s != t,_,trimL L,rfl,((I.o.setCell _ _ (by simp)).setCell _ _ (by simp)).mono (by omega),trimL_trim _,by rw [val_trimL,HV.o.1,sg_mul'],by have:=trimL_len L; have:=HV.o.2; omega⟩,(HF.o.setCell (by simp; omega) _).setCell (by simp; omega) _⟩; simp [results,Tryz.results76,go_sem,s0,s1]
theorem times_any (B:Nat) (za zb:Value) (x y:Int) (n m:Nat) (w:World) (ha:IsI B w za x n) (hb:IsI B w zb y m) (hn:n≤100000) (hm:m≤100000) (hSP:SP w) :
 Calls Tryz.prog 76 #[za,zb] w fun e w'=>∃ z,e=.returned z∧IsI w.heap.size w' z (x*y) (n+m)∧Up w w':=by
 obtain ⟨D,F,a,rfl,i,H,rfl,u⟩:=ha; obtain ⟨E,G,b,rfl,j,I,rfl,A⟩:=hb; rw [← sg_negOf D a,← sg_negOf E b]; refine (times_same B _ _ F G a b w i j (by omega) (by omega) hSP).mono ?_; rintro e w' ⟨z,s,t,h3⟩; exact ⟨z,s,t.mono leR (by omega),h3⟩
end Go.Proofs.YtnhbmpnhijgpmaaGreatDoor
