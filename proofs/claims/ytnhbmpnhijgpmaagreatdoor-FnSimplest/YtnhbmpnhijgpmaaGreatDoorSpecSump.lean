import Derived.Test.YtnhbmpnhijgpmaaGreatDoorAddSGHp
import Derived.Test.YtnhbmpnhijgpmaaGreatDoorM8p
set_option maxRecDepth 100000
set_option maxHeartbeats 1000000
namespace Go.Proofs.YtnhbmpnhijgpmaaGreatDoor
open Go.ChangeShapes Go.WideShapes Go.ChangeAt Go.RowKit
theorem IsZ.form2 {B:Nat} {w:World} {z:Value} {na:Bool} {a:List Nat} (h:IsZ B w z na a):∃ x xn p l c,z=.agg #[.int .i64 x,.bool xn,.slice p l c]∧ngZ x xn l=negOf na a∧(l=0→a.length≤2∧z=.agg #[.int .i64 (sg na (val a)),.bool false,.slice none 0 0]):=by
 obtain ⟨i,j,h3⟩:=h
 rcases h3 with ⟨h3,v,rfl,p,c,rfl,_⟩|⟨h3,rfl⟩
 ·refine ⟨_,_,_,_,_,rfl,?_,fun e=>by omega⟩; unfold ngZ negOf; have:0<a.length:=by omega
  simp [this]
 exact ⟨_,_,_,_,_,rfl,(negOf_small na a h3 i j).symm,fun _=>⟨h3,rfl⟩⟩
theorem l1Add_any (B:Nat) (za zb:Value) (na nb:Bool) (a b:List Nat) (w:World) (hBw:B≤w.heap.size) (hza:IsZ B w za na a) (hzb:IsZ B w zb nb b) (hla:a.length≤1000000) (hlb:b.length≤1000000) :
 Calls Tryz.prog 68 #[za,zb] w fun e w'=>∃ z,e=.returned z∧IsN w.heap.size w' z (sg na (val a)+sg nb (val b))∧Up w w':=by
 have t:=hza.1; have u:=hzb.1; obtain ⟨x,G,E,la,j,rfl,s,Q⟩:=hza.form2; obtain ⟨y,H,F,lb,m,rfl,i,S⟩:=hzb.form2
 by_cases K:la=0∧lb=0
 ·have I:=Q K.1; have J:=S K.2; rw [I.2,J.2]; have M:=sg_lt na a t I.1; have O:=sg_lt nb b u J.1; exact l1Add_small _ _ w M.1 M.2 O.1 O.2
 have D:((la:Int)==0)=false∨(((la:Int)==0)=true∧((lb:Int)==0)=false):=by
  by_cases h:la=0
  ·exact .inr ⟨by rw [beq_iff_eq]; omega,by rw [beq_eq_false_iff_ne]; omega⟩
  exact .inl (by rw [beq_eq_false_iff_ne]; omega)
 rw [← sg_negOf na a,← sg_negOf nb b]
 by_cases L:negOf nb b=negOf na a
 ·rw [L] at i ⊢; exact l1Add_same B x y G H E la j F lb m na nb a b w hBw D hza hzb _ s i hla hlb
 have A:negOf nb b=!negOf na a:=by revert L; cases negOf nb b<;>cases negOf na a<;>simp
 rw [A] at i ⊢
 by_cases T:0≤cmpL a b
 ·exact l1Add_ge B x y G H E la j F lb m na nb a b w hBw D hza hzb _ s i hla hlb T
 exact l1Add_lt B x y G H E la j F lb m na nb a b w hBw D hza hzb _ s i hla hlb (by omega)
theorem l1Sub_any (B:Nat) (za zb:Value) (na nb:Bool) (a b:List Nat) (w:World) (hBw:B≤w.heap.size) (hza:IsZ B w za na a) (hzb:IsZ B w zb nb b) (hla:a.length≤1000000) (hlb:b.length≤1000000) :
 Calls Tryz.prog 70 #[za,zb] w fun e w'=>∃ z,e=.returned z∧IsN w.heap.size w' z (sg na (val a) - sg nb (val b))∧Up w w':=by
 have H:=hza; have I:=hzb; obtain ⟨x,T,O,M,K,rfl⟩:=hza.shape; obtain ⟨y,U,Q,lb,L,rfl⟩:=hzb.shape; have A:Hid (a.length≤1000000∧b.length≤1000000):=⟨hla,hlb⟩; have HX:=boxes_first w x T O M K y U Q lb L 49; obtain ⟨s,j⟩:=exW (((w.alloc (.cells #[.int .i64 x,.bool T,.slice O M K] 49)).alloc (.cells #[.int .i64 y,.bool U,.slice Q lb L] 49)).alloc (.cells #[.int .i64 0,.bool false,.slice none 0 0] 49)); have a5:=hide j; have m:Up w s:=by rw [← j]; exact below_al (below_al (below_alloc _ _) _) _
 have V:=hide m; have G:s.heap.size=w.heap.size+3:=by rw [← j]; simp
 rw [j] at HX; have HS:=hide G; have Z:=hide hBw; have t:Hid (∀ W,Up s W→Boxes w.heap.size W x T O M K y U Q lb L):=fun W hW=>HX.below (by omega) hW; have a7:Hid (∀ W,Up s W→IsZ B W (.agg #[.int .i64 x,.bool T,.slice O M K]) na a):=fun W hW=>(hza.below m).below hW; have a8:Hid (∀ W,Up s W→IsZ B W (.agg #[.int .i64 y,.bool U,.slice Q lb L]) nb b):=fun W hW=>(hzb.below m).below hW; have D:Hid (sg na (val a) - sg nb (val b)=sg na (val a)+sg (!nb) (val b)):=by
  unfold Hid
  rw [sg_not]; omega
 rw [D.o]; obtain ⟨a0,a1,a2,b0,b1,b2,r0,r1,r2,f0,f1,f2⟩:=HX; clear j G hza hzb H I m hBw hla hlb D
 go_enter Tryz.func70,Tryz.ntmps70
 go_wp2_with fail
 rw [a5.o]
 go_region_with (first
  | (go_at_call 32; refine (l1Minus_any B _ nb b _ (a8.o _ ?_)).mono ?_
     ·exact (Below.refl _ _).drew
     rintro e wm ⟨zm,rfl,J,F⟩; have i:Hid (Up s wm):=(Below.refl _ s).drew.trans F; have a9:=Hd J; obtain ⟨c0,c1,c2,d0,d1,d2,s0,s1,s2,g0,g1,g2⟩:=t.o wm i.o; clear J F)
  | (go_at_call 68; refine (l1Add_any B _ _ na (!nb) a b _ ?_ (a7.o _ i.o) a9.o A.o.1 A.o.2).mono ?_
     ·have:=i.o.size; have:=HS.o; have:=Z.o; omega
     rintro e S ⟨z,rfl,hN,E⟩; have HN:Hid (IsN (w.heap.size+3) S z (sg na (val a)+sg (!nb) (val b))):=hN.mono (by have:=i.o.size; have:=HS.o; omega); have u:Hid (Up s S):=i.o.trans (E.mono i.o.size); have Y:Hid (Up w S):=V.o.trans (u.o.mono (by have:=HS.o; omega)); obtain ⟨c0,c1,c2,d0,d1,d2,s0,s1,s2,g0,g1,g2⟩:=t.o S u.o; obtain ⟨z0,zn,za,zl,zc,b4⟩:=hN.shape; subst b4; clear E hN))
 all_goals
  try simp only [List.getElem_toArray,List.getElem_cons_succ,List.getElem_cons_zero,Act.put,List.setIfInBounds_toArray,List.set_cons_succ,List.set_cons_zero]
  go_wp2
  refine bodyPost_ret ?_ rfl ⟨_,rfl,(((HN.o.setCell _ _ (by simp)).setCell _ _ (by simp)).setCell _ _ (by simp)).mono (by omega),((Y.o.setCell (by simp; omega) _).setCell (by simp; omega) _).setCell (by simp; omega) _⟩; simp [results,Tryz.results70,go_sem,s0,s1,s2]
def numT (s:ByteArray):Int:=sg (isNeg s) (val (lim s))
def IsText (x:Int) (u:ByteArray):Prop:=∃ neg t,okL t∧isTrim t∧sg neg (val t)=x∧u=textT (negOf neg t) t
theorem IsText.eq {x:Int} {u v:ByteArray} (hu:IsText x u) (hv:IsText x v):u=v:=by
 obtain ⟨n,t,s,j,h3,rfl⟩:=hu; obtain ⟨m,r,A,k2,k3,rfl⟩:=hv; have i:val t=val r:=by
  have h:=h3.trans k3.symm
  cases n<;>cases m<;>simp [sg] at h<;>omega
 obtain rfl:=val_inj t r s A j k2 i; have hn:negOf n t=negOf m t:=by
  by_cases h:t=[]
  ·subst h; simp [negOf]
  have D:=val_pos t j h; have h:=h3.trans k3.symm
  cases n<;>cases m<;>simp [sg] at h<;>first|rfl|omega
 rw [hn]
def IsRes (f:Int→Int→Int) (s t u:ByteArray):Prop:=if isIntB s=true∧isIntB t=true then IsText (f (numT s) (numT t)) u else u=strB []
end Go.Proofs.YtnhbmpnhijgpmaaGreatDoor
