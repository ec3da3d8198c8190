import Derived.Test.YtipgjenolpofpaaGreatDoorP21
import Derived.Test.YtipgjenolpofpaaGreatDoorP22
set_option maxRecDepth 100000
namespace Go.Proofs.YtipgjenolpofpaaGreatDoor
open ChangeShapes WideShapes ChangeAt RowKit Proofs.Tryz
def Gz (F:List Fn)(f2:List UInt8->Option Nat)(t:Tm):Bool:=match f2 t.text with
 | none=>false
 | some i=>match F[i]? with
   | none=>false
   | some x=>decide (x.args.length=t.kids.length)&&decide (x.sort=t.sort)
theorem GV {w:World}{b:Nat}{f:List UInt8->Option Nat}(h:G0 w b f)(s:ByteArray)(hs:s.size<=1048576):∃ c:Int,(∀ i,f s.data.toList=some i->c=(i:Nat))/\(Instr.lookup 86 (.map (some b)) (.string s) true).run prog w=.ok (.tuple #[.int .i64 c,.bool (f s.data.toList).isSome]) w:=by
 obtain⟨n,D,hn,d,E⟩:=h;have K:(zeroValue 3).run prog w=.ok (.int .i64 0) w:=rfl;obtain⟨v,M,j,I⟩:=d.look_ok Il underlying86 K (plainElem_int underlying3 (by decide)) (N0 s (by unfold maxLen;omega));obtain⟨c,rfl,hc,J⟩:=plainElem_int_inv underlying3 I;refine⟨c,fun i hi=>?_,?_⟩
 ·have G:=(E s.data.toList).2 i hi;have A:=congrArg Prod.fst hc;rw[G] at A;simp at A;exact A.symm
 rw[j,(E s.data.toList).1]
end Go.Proofs.YtipgjenolpofpaaGreatDoor
