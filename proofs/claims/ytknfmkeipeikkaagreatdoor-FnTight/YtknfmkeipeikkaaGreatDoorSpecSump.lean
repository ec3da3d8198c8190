import Derived.Test.YtknfmkeipeikkaaGreatDoorAddSGHp
import Derived.Test.YtknfmkeipeikkaaGreatDoorM8p
set_option maxRecDepth 100000
set_option maxHeartbeats 1000000
namespace Go.Proofs.YtknfmkeipeikkaaGreatDoor
open Go.ChangeShapes Go.WideShapes Go.ChangeAt Go.RowKit
theorem IsZ.form2 {B:Nat} {w:World} {z:Value} {na:Bool} {a:List Nat} (h:IsZ B w z na a):∃ x xn p l c,z=.agg #[.int .i64 x,.bool xn,.slice p l c]∧ngZ x xn l=negOf na a∧(l=0→a.length≤2∧z=.agg #[.int .i64 (sg na (val a)),.bool false,.slice none 0 0]):=by
 obtain ⟨j,h2,h3⟩:=h
 rcases h3 with ⟨h3,v,rfl,p,c,rfl,_⟩|⟨h3,rfl⟩
 ·refine ⟨_,_,_,_,_,rfl,?_,fun e=>by omega⟩; unfold ngZ negOf; have:0<a.length:=by omega
  simp [this]
 exact ⟨_,_,_,_,_,rfl,(negOf_small na a h3 j h2).symm,fun _=>⟨h3,rfl⟩⟩
theorem l1Add_any (B:Nat) (za zb:Value) (na nb:Bool) (a b:List Nat) (w:World) (hBw:B≤w.heap.size) (hza:IsZ B w za na a) (hzb:IsZ B w zb nb b) (hla:a.length≤1000000) (hlb:b.length≤1000000) :
 Calls Tryz.prog 77 #[za,zb] w fun e w'=>∃ z,e=.returned z∧IsN w.heap.size w' z (sg na (val a)+sg nb (val b))∧Up w w':=by
 have D:=hza.1; have E:=hzb.1; obtain ⟨x,M,J,la,m,rfl,u,ga⟩:=hza.form2; obtain ⟨y,O,K,lb,s,rfl,j,gb⟩:=hzb.form2
 by_cases V:la=0∧lb=0
 ·have T:=ga V.1; have U:=gb V.2; rw [T.2,U.2]; have Z:=sg_lt na a D T.1; have l2:=sg_lt nb b E U.1; exact l1Add_small _ _ w Z.1 Z.2 l2.1 l2.2
 have I:((la:Int)==0)=false∨(((la:Int)==0)=true∧((lb:Int)==0)=false):=by
  by_cases h:la=0
  ·exact .inr ⟨by rw [beq_iff_eq]; omega,by rw [beq_eq_false_iff_ne]; omega⟩
  exact .inl (by rw [beq_eq_false_iff_ne]; omega)
 rw [← sg_negOf na a,← sg_negOf nb b]
 by_cases Y:negOf nb b=negOf na a
 ·rw [Y] at j ⊢; exact l1Add_same B x y M O J la m K lb s na nb a b w hBw I hza hzb _ u j hla hlb
 have H:negOf nb b=!negOf na a:=by revert Y; cases negOf nb b<;>cases negOf na a<;>simp
 rw [H] at j ⊢
 by_cases hc:0≤cmpL a b
 ·exact l1Add_ge B x y M O J la m K lb s na nb a b w hBw I hza hzb _ u j hla hlb hc
 exact l1Add_lt B x y M O J la m K lb s na nb a b w hBw I hza hzb _ u j hla hlb (by omega)
theorem l1Sub_any (B:Nat) (za zb:Value) (na nb:Bool) (a b:List Nat) (w:World) (hBw:B≤w.heap.size) (hza:IsZ B w za na a) (hzb:IsZ B w zb nb b) (hla:a.length≤1000000) (hlb:b.length≤1000000) :
 Calls Tryz.prog 71 #[za,zb] w fun e w'=>∃ z,e=.returned z∧IsN w.heap.size w' z (sg na (val a) - sg nb (val b))∧Up w w':=by
 have M:=hza; have O:=hzb; obtain ⟨x,xn,Z,Y,U,rfl⟩:=hza.shape; obtain ⟨y,yn,pb,lb,V,rfl⟩:=hzb.shape; have E:Hid (a.length≤1000000∧b.length≤1000000):=⟨hla,hlb⟩; have HX:=boxes_first w x xn Z Y U y yn pb lb V 53; obtain ⟨s,j⟩:=exW (((w.alloc (.cells #[.int .i64 x,.bool xn,.slice Z Y U] 53)).alloc (.cells #[.int .i64 y,.bool yn,.slice pb lb V] 53)).alloc (.cells #[.int .i64 0,.bool false,.slice none 0 0] 53)); have b5:=hide j; have m:Up w s:=by rw [← j]; exact below_al (below_al (below_alloc _ _) _) _
 have a8:=hide m; have K:s.heap.size=w.heap.size+3:=by rw [← j]; simp
 rw [j] at HX; have HS:=hide K; have b3:=hide hBw; have u:Hid (∀ W,Up s W→Boxes w.heap.size W x xn Z Y U y yn pb lb V):=fun W hW=>HX.below (by omega) hW; have b7:Hid (∀ W,Up s W→IsZ B W (.agg #[.int .i64 x,.bool xn,.slice Z Y U]) na a):=fun W hW=>(hza.below m).below hW; have b8:Hid (∀ W,Up s W→IsZ B W (.agg #[.int .i64 y,.bool yn,.slice pb lb V]) nb b):=fun W hW=>(hzb.below m).below hW; have H:Hid (sg na (val a) - sg nb (val b)=sg na (val a)+sg (!nb) (val b)):=by
  unfold Hid
  rw [sg_not]; omega
 rw [H.o]; obtain ⟨a0,a1,a2,b0,b1,b2,r0,r1,r2,f0,f1,f2⟩:=HX; clear j K hza hzb M O m hBw hla hlb H
 go_enter Tryz.func71,Tryz.ntmps71
 go_wp2_with fail
 rw [b5.o]
 go_region_with (first
  | (go_at_call 43; refine (l1Minus_any B _ nb b _ (b8.o _ ?_)).mono ?_
     ·exact (Below.refl _ _).drew
     rintro e wm ⟨zm,rfl,T,J⟩; have h:Hid (Up s wm):=(Below.refl _ s).drew.trans J; have b9:=Hd T; obtain ⟨c0,c1,c2,d0,d1,d2,s0,s1,s2,g0,g1,g2⟩:=u.o wm h.o; clear T J)
  | (go_at_call 77; refine (l1Add_any B _ _ na (!nb) a b _ ?_ (b7.o _ h.o) b9.o E.o.1 E.o.2).mono ?_
     ·have:=h.o.size; have:=HS.o; have:=b3.o; omega
     rintro e we ⟨z,rfl,hN,I⟩; have HN:Hid (IsN (w.heap.size+3) we z (sg na (val a)+sg (!nb) (val b))):=hN.mono (by have:=h.o.size; have:=HS.o; omega); have D:Hid (Up s we):=h.o.trans (I.mono h.o.size); have a9:Hid (Up w we):=a8.o.trans (D.o.mono (by have:=HS.o; omega)); obtain ⟨c0,c1,c2,d0,d1,d2,s0,s1,s2,g0,g1,g2⟩:=u.o we D.o; obtain ⟨z0,zn,za,zl,zc,c9⟩:=hN.shape; subst c9; clear I hN))
 all_goals
  try simp only [List.getElem_toArray,List.getElem_cons_succ,List.getElem_cons_zero,Act.put,List.setIfInBounds_toArray,List.set_cons_succ,List.set_cons_zero]
  go_wp2
  refine bodyPost_ret ?_ rfl ⟨_,rfl,(((HN.o.setCell _ _ (by simp)).setCell _ _ (by simp)).setCell _ _ (by simp)).mono (by omega),((a9.o.setCell (by simp; omega) _).setCell (by simp; omega) _).setCell (by simp; omega) _⟩; simp [results,Tryz.results71,go_sem,s0,s1,s2]
def numT (s:ByteArray):Int:=sg (isNeg s) (val (lim s))
def IsText (x:Int) (u:ByteArray):Prop:=∃ neg t,okL t∧isTrim t∧sg neg (val t)=x∧u=textT (negOf neg t) t
theorem IsText.eq {x:Int} {u v:ByteArray} (hu:IsText x u) (hv:IsText x v):u=v:=by
 obtain ⟨n,t,s,h2,h3,rfl⟩:=hu; obtain ⟨m,r,y,k2,k3,rfl⟩:=hv; have j:val t=val r:=by
  have h:=h3.trans k3.symm
  cases n<;>cases m<;>simp [sg] at h<;>omega
 obtain rfl:=val_inj t r s y h2 k2 j; have hn:negOf n t=negOf m t:=by
  by_cases h:t=[]
  ·subst h; simp [negOf]
  have D:=val_pos t h2 h; have h:=h3.trans k3.symm
  cases n<;>cases m<;>simp [sg] at h<;>first|rfl|omega
 rw [hn]
def IsRes (f:Int→Int→Int) (s t u:ByteArray):Prop:=if isIntB s=true∧isIntB t=true then IsText (f (numT s) (numT t)) u else u=strB []
end Go.Proofs.YtknfmkeipeikkaaGreatDoor
