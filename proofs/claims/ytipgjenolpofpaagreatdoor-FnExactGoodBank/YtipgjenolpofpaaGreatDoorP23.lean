import Derived.Test.YtipgjenolpofpaaGreatDoorP21
import Derived.Test.YtipgjenolpofpaaGreatDoorP22
set_option maxRecDepth 100000
namespace Go.Proofs.YtipgjenolpofpaaGreatDoor
open Go.ChangeShapes Go.WideShapes Go.ChangeAt Go.RowKit Go.Proofs.Tryz
def Gv (F:List Fn)(f2:List UInt8->Option Nat)(t:Tm):Bool:=match f2 t.text with
 | none=>false
 | some i=>match F[i]? with
   | none=>false
   | some x=>decide (x.args.length=t.kids.length)&&decide (x.sort=t.sort)
theorem GC {w:World}{b:Nat}{f:List UInt8->Option Nat}(h:G3 w b f)(s:ByteArray)(hs:s.size<=1048576):∃ c:Int,(∀ i,f s.data.toList=some i->c=(i:Nat))/\(Instr.lookup 86 (.map (some b)) (.string s) true).run prog w=.ok (.tuple #[.int .i64 c,.bool (f s.data.toList).isSome]) w:=by
 obtain⟨n,D,hn,j,E⟩:=h;have I:(zeroValue 3).run prog w=.ok (.int .i64 0) w:=rfl;obtain⟨v,M,d,K⟩:=j.look_ok Il underlying86 I (plainElem_int underlying3 (by decide)) (N0 s (by unfold maxLen;omega));obtain⟨c,rfl,hc,G⟩:=plainElem_int_inv underlying3 K;refine⟨c,fun i hi=>?_,?_⟩
 ·have J:=(E s.data.toList).2 i hi;have A:=congrArg Prod.fst hc;rw[J] at A;simp at A;exact A.symm
 rw[d,(E s.data.toList).1]
end Go.Proofs.YtipgjenolpofpaaGreatDoor
