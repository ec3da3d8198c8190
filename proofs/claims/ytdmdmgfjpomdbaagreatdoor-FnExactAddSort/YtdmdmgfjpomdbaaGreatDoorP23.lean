import Derived.Test.YtdmdmgfjpomdbaaGreatDoorP21
import Derived.Test.YtdmdmgfjpomdbaaGreatDoorP22
set_option maxRecDepth 100000
namespace Go.Proofs.YtdmdmgfjpomdbaaGreatDoor
open ChangeShapes WideShapes ChangeAt RowKit Proofs.Tryz
def G4 (F:List Fn)(f2:List UInt8->Option Nat)(t:Tm):Bool:=match f2 t.text with
 | none=>false
 | some i=>match F[i]? with
   | none=>false
   | some x=>decide (x.args.length=t.kids.length)&&decide (x.sort=t.sort)
theorem QN {w:World}{b:Nat}{f:List UInt8->Option Nat}(h:Hm w b f)(s:ByteArray)(hs:s.size<=1048576):∃ c:Int,(∀ i,f s.data.toList=some i->c=(i:Nat))/\(Instr.lookup 75 (.map (some b)) (.string s) true).run prog w=.ok (.tuple #[.int .i64 c,.bool (f s.data.toList).isSome]) w:=by
 obtain⟨n,D,hn,d,A⟩:=h;have J:(zeroValue 3).run prog w=.ok (.int .i64 0) w:=rfl;obtain⟨v,K,j,G⟩:=d.look_ok Xc underlying75 J (plainElem_int underlying3 (by decide)) (Gl s (by unfold maxLen;omega));obtain⟨c,rfl,hc,I⟩:=plainElem_int_inv underlying3 G;refine⟨c,fun i hi=>?_,?_⟩
 ·have E:=(A s.data.toList).2 i hi;have h2:=congrArg Prod.fst hc;rw[E] at h2;simp at h2;exact h2.symm
 rw[j,(A s.data.toList).1]
end Go.Proofs.YtdmdmgfjpomdbaaGreatDoor
