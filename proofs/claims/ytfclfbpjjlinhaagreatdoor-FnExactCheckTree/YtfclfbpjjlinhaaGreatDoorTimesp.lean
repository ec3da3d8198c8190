import Derived.Test.YtfclfbpjjlinhaaGreatDoorPlusAp
import Derived.Test.YtfclfbpjjlinhaaGreatDoorMulLimbsp
set_option maxRecDepth 100000
set_option maxHeartbeats 8000000
namespace Go.Proofs.YtfclfbpjjlinhaaGreatDoor
open Go.ChangeShapes Go.WideShapes Go.ChangeAt Go.RowKit
theorem sg_mul' (s t:Bool) (u v:Nat):sg (s != t) (u*v)=sg s u*sg t v:=by
 cases s<;>cases t<;>simp [sg,Int.mul_neg,Int.neg_mul]
theorem field_neg (x z:Int) (y:Bool) (w:World):(Instr.field 144 (.agg #[.int .i64 x,.bool y,.int .i64 z]) 1).run Tryz.prog w=.ok (.bool y) w:=by kernel_rfl
theorem times_same (B:Nat) (s t:Bool) (va vb:Value) (a b:List Nat) (w:World) (ha:IsL B w va a) (hb:IsL B w vb b) (hla:a.length≤100000) (hlb:b.length≤100000) (hSP:SP w) :
 Calls Tryz.prog 90 #[.agg #[.bool s,va],.agg #[.bool t,vb]] w fun e w'=>∃ z,e=.returned z∧IsI w.heap.size w' z (sg s (val a)*sg t (val b)) (a.length+b.length)∧Up w w':=by
 obtain ⟨Z,V,rfl,_⟩:=id ha; obtain ⟨pb,Y,rfl,_⟩:=id hb; have HX:=boxI_first w s Z a.length V t pb b.length Y 82; obtain ⟨j,u⟩:=exW (((w.alloc (.cells #[.bool s,.slice Z a.length V] 82)).alloc (.cells #[.bool t,.slice pb b.length Y] 82)).alloc (.cells #[.bool false,.slice none 0 0] 82)); have a8:=hide u; have m:Up w j:=by rw [← u]; exact below_al (below_al (below_alloc _ _) _) _
 have a6:=hide m; have U:j.heap.size=w.heap.size+3:=by rw [← u]; simp
 rw [u] at HX; have HS:=hide U; have E:Hid (∀ W,Up j W→BoxI w.heap.size W s Z a.length V t pb b.length Y):=fun W hW=>HX.below (by omega) hW; have HA:Hid (∀ W,Up j W→IsL B W (.slice Z a.length V) a):=fun W hW=>(ha.below m).below hW; have HB:Hid (∀ W,Up j W→IsL B W (.slice pb b.length Y) b):=fun W hW=>(hb.below m).below hW; have a7:Hid (SP j):=hSP.below m; have J:Hid (a.length≤100000∧b.length≤100000):=⟨hla,hlb⟩; obtain ⟨a0,a1,b0,b1,r0,r1,f⟩:=HX; have f0:=f 2 (by omega) 0; have f1:=f 2 (by omega) 1; clear f u U ha hb m hla hlb hSP; have d9:=field_neg
 go_enter Tryz.func90,Tryz.ntmps90
 go_wp2_with fail
 rw [a8.o]
 go_region_with (first
  | (go_at_call 108; refine (signsOf_any _ _ _ _ _ _ _ _ _ (a7.o.below ?_)).mono ?_
     ·exact (Below.refl _ j).drew
     rintro e ws ⟨rfl,O⟩; have h:Hid (Up j ws):=(Below.refl _ j).drew.trans (O.mono leR); obtain ⟨k0,k1,l0,l1,t0,t1,g⟩:=E.o ws h.o; have j0:=g 2 (by omega) 0; have j1:=g 2 (by omega) 1; clear O g)
  | (go_at_call 119; refine (mulLimbs_any B _ _ a b _ (HA.o _ h.o) (HB.o _ h.o) J.o.1 J.o.2).mono ?_
     rintro e wd ⟨v,L,rfl,hL,y,T,b3,M⟩; have D:Hid (Up j wd):=h.o.trans (M.mono h.o.size); have HL:Hid (IsL (w.heap.size+3) wd v L):=hL.mono (by have:=h.o.size; have:=HS.o; omega); have HV:Hid (val L=val a*val b∧L.length≤a.length+b.length):=⟨y,by omega⟩; obtain ⟨c0,c1,d0,d1,s0,s1,g⟩:=E.o wd D.o; have g0:=g 2 (by omega) 0; have g1:=g 2 (by omega) 1; obtain ⟨pv,cv,hv,_⟩:=hL; subst hv; clear y T b3 M g)
  | (go_at_call 79; refine (makeInteger_any _ (s != t) _ L _ HL.o).mono ?_
     rintro e we ⟨v',rfl,hcut,H⟩; have I:Hid (Up j we):=D.o.trans (H.mono D.o.size); have K:Hid (IsL (w.heap.size+3) we v' (trimL L)):=(hcut _ _ HL.o).below H; obtain ⟨c0,c1,d0,d1,s0,s1,g⟩:=E.o we I.o; have g0:=g 2 (by omega) 0; have g1:=g 2 (by omega) 1; obtain ⟨pw,cw,hw,_⟩:=K.o; subst hw; clear hcut H g))
 all_goals
  try simp only [List.getElem_toArray,List.getElem_cons_succ,List.getElem_cons_zero,Act.put,List.setIfInBounds_toArray,List.set_cons_succ,List.set_cons_zero]
  go_wp2
  have HF:Hid (Up w we):=a6.o.trans (I.o.mono (by have:=HS.o; omega)); refine bodyPost_ret ?_ rfl ⟨_,rfl,⟨s != t,_,trimL L,rfl,((K.o.setCell _ _ (by simp)).setCell _ _ (by simp)).mono (by omega),trimL_trim _,by rw [val_trimL,HV.o.1,sg_mul'],by have:=trimL_len L; have:=HV.o.2; omega⟩,(HF.o.setCell (by simp; omega) _).setCell (by simp; omega) _⟩; simp [results,Tryz.results90,go_sem,s0,s1]
theorem times_any (B:Nat) (za zb:Value) (x y:Int) (n m:Nat) (w:World) (ha:IsI B w za x n) (hb:IsI B w zb y m) (hn:n≤100000) (hm:m≤100000) (hSP:SP w) :
 Calls Tryz.prog 90 #[za,zb] w fun e w'=>∃ z,e=.returned z∧IsI w.heap.size w' z (x*y) (n+m)∧Up w w':=by
 obtain ⟨E,va,a,rfl,h,J,rfl,u⟩:=ha; obtain ⟨H,I,b,rfl,j,K,rfl,D⟩:=hb; rw [← sg_negOf E a,← sg_negOf H b]; refine (times_same B _ _ va I a b w h j (by omega) (by omega) hSP).mono ?_; rintro e w' ⟨z,s,h2,h3⟩; exact ⟨z,s,h2.mono leR (by omega),h3⟩
end Go.Proofs.YtfclfbpjjlinhaaGreatDoor
