import Derived.Test.YtknfmkeipeikkaaGreatDoorM4p
import Derived.Test.YtknfmkeipeikkaaGreatDoorOfImplp
set_option maxRecDepth 100000
set_option maxHeartbeats 2000000
namespace Go.Proofs.YtknfmkeipeikkaaGreatDoor
open Go.ChangeShapes Go.WideShapes Go.ChangeAt Go.RowKit
theorem getD_of_drop (L A:List Nat) (k j:Nat) (h:L.drop k=A.drop k) (hj:k≤j):L.getD j 0=A.getD j 0:=by
 have e:∀ M:List Nat,M.getD j 0=(M.drop k).getD (j - k) 0:=fun M=>by rw [List.getD_eq_getElem?_getD,List.getD_eq_getElem?_getD,List.getElem?_drop,Nat.add_sub_cancel' hj]
 rw [e L,e A,h]
theorem getD_set_ne (L:List Nat) (k j x:Nat) (h:k≠j):(L.set k x).getD j 0=L.getD j 0:=by
 rw [List.getD_eq_getElem?_getD,List.getD_eq_getElem?_getD,List.getElem?_set_ne h]
theorem val_replicate (n:Nat):val (List.replicate n 0)=0:=by
 induction n with
 | zero=>rfl
 | succ n ih=>simp [List.replicate_succ,val,ih]
theorem mul_step (V VN VL Va Vb P Q c x:Nat) (h0:V=Va*Vb) (h1:VL+Q*c=V+P*(x*Vb)) (h2:VN+Q*0=VL+Q*c):VN=(Va+P*x)*Vb:=by
 rw [Nat.add_mul,Nat.mul_assoc,← h0]; omega
end Go.Proofs.YtknfmkeipeikkaaGreatDoor
