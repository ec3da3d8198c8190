import Derived.Test.YtknfmkeipeikkaaGreatDoorDivXp
import Derived.Test.YtknfmkeipeikkaaGreatDoorU1p
import Derived.Deep.DeepCutAuto
namespace Go.Proofs.YtknfmkeipeikkaaGreatDoor
open Go.ChangeShapes Go.WideShapes Go.ChangeAt Go.RowKit
theorem l1Div_any (B:Nat) (za zb:Value) (na nb:Bool) (a b:List Nat) (w:World) (hBw:B≤w.heap.size) (hza:IsZ B w za na a) (hzb:IsZ B w zb nb b) (hla:a.length≤100000) (hlb:b.length≤100000) (hne:b≠[]) :
 Calls Tryz.prog 46 #[za,zb] w fun e w'=>∃ z1 z2 q r,e=.returned (.tuple #[z1,z2])∧(IsN w.heap.size w' z1 q∧IsN w.heap.size w' z2 r)∧IsDiv (sg na (val a)) (sg nb (val b)) q r∧Up w w':=by
 have j:=hza.1; have m:=hzb.1; have s:=hzb.2.1; obtain ⟨x,xn,Y,la,J,rfl,M,T⟩:=hza.form2; obtain ⟨y,yn,Z,lb,K,rfl,O,U⟩:=hzb.form2
 by_cases E:la=0∧lb=0
 ·have u:=T E.1; have D:=U E.2; rw [u.2,D.2]; have H:=sg_lt na a j u.1; have I:=sg_lt nb b m D.1; exact l1Div_small _ _ w H.1 H.2 I.1 I.2 (fun h=>hne ((sg_zero_iff nb b s).1 h))
 have V:((la:Int)==0)=false∨(((la:Int)==0)=true∧((lb:Int)==0)=false):=by
  by_cases h:la=0
  ·exact .inr ⟨by rw [beq_iff_eq]; omega,by rw [beq_eq_false_iff_ne]; omega⟩
  exact .inl (by rw [beq_eq_false_iff_ne]; omega)
 have h:=l1Div_big B x y xn yn Y la J Z lb K na nb a b w hBw V hza hzb _ _ M O hla hlb hne; rw [sg_negOf,sg_negOf] at h; exact h
end Go.Proofs.YtknfmkeipeikkaaGreatDoor
