import Derived.Test.YtfkagjelljnpdaaGreatDoorP05
import Derived.Ground.SlgnProg
import Derived.Shelf.SlicesE.Clone
import Derived.Laws.CopyOwn
import Derived.Test.YtfkagjelljnpdaaGreatDoorP04
namespace Go.Proofs.YtfkagjelljnpdaaGreatDoor.Q
open ChangeShapes WideShapes ChangeAt RowKit
end Go.Proofs.YtfkagjelljnpdaaGreatDoor.Q
namespace Go.Proofs.YtfkagjelljnpdaaGreatDoor.Q
open ChangeShapes WideShapes ChangeAt RowKit Shelf
end Go.Proofs.YtfkagjelljnpdaaGreatDoor.Q
namespace Go.Proofs.YtfkagjelljnpdaaGreatDoor.Q
open ChangeShapes WideShapes ChangeAt RowKit
variable {B n:Nat}{w:World}{z:Value}
def Qp(B:Nat)(w:World)(z:Value)(x:Int)(n:Nat):Prop:=∃neg v t,z=.agg #[.bool (Um neg t),v]/\Gc B w v t/\Kl t/\sg neg (val t)=x/\t.length<=n
theorem Qp.bl{w':World}{x:Int}(h:Qp B w z x n)(hb:Up w w'):Qp B w' z x n:=by
 obtain⟨neg,v,t,j,q,E⟩:=h;exact⟨neg,v,t,j,q.bl hb,E⟩
theorem Qp.mono{B':Nat}{x:Int}{n':Nat}(h:Qp B w z x n)(hb:B'<=B)(hn:n<=n'):Qp B' w z x n':=by
 obtain⟨neg,v,t,j,q,E,G,J⟩:=h;exact⟨neg,v,t,j,q.mono hb,E,G,by omega⟩
theorem Qp.shape{x:Int}(h:Qp B w z x n):∃(s:Bool) (p:Option Addr) (l c:Nat),z=.agg #[.bool s,.slice p l c]:=by
 obtain⟨neg,v,t,rfl,⟨p,c,rfl,_⟩,_⟩:=h;exact⟨_,_,_,_,rfl⟩
theorem Qp.setCell{x:Int}(h:Qp B w z x n)(p:Addr)(u:Value)(hp:p.block<B):Qp B (w.setCell p u) z x n:=by
 obtain⟨neg,v,t,j,q,E⟩:=h;exact⟨neg,v,t,j,q.setCell p u hp,E⟩
theorem Cm(s:ByteArray)(h:Ol s=true):(UI s).length<=280:=by
 have J:(dgs s).size<=2500:=by
  by_cases j:2500<(dgs s).size
  ·rw[Ib s _ rfl j]at h;cases h
  omega
 have q:=Pv (Uy (dgs s).data.toList);have E:(Uy (dgs s).data.toList).length=I6 (dgs s).data.toList.length:=by simp[Uy]
 have G:(dgs s).data.toList.length=(dgs s).size:=by simp
 unfold UI;rw[E,G]at q;have h6:I6 (dgs s).size<=280:=by unfold I6;omega
 omega
def Hi(w:World)(g:Nat):Prop:=∀i x,w.cell? ⟨g,i,none⟩≠some (.int .u32 x)
def Et(g h:Nat)(w W:World):Prop:=w.heap.size<=W.heap.size/\∀b,b≠g->b≠h->W.heap[b]? = w.heap[b]?
theorem Et.refl(g h:Nat)(w:World):Et g h w w:=⟨leR,fun _ _ _=>rfl⟩
theorem Et.setCell{g h:Nat}{W:World}(k:Et g h w W)(p:Addr)(u:Value)(hp:p.block=g∨p.block=h):Et g h w (W.setCell p u):=by
 refine⟨by simpa using k.1,fun b h1 h2=>Eq.trans ?_ (k.2 b h1 h2)⟩
 show(W.heap.modify p.block _)[b]? = _
 rw[Array.getElem?_modify,if_neg (by rcases hp with e|e<;>omega)]
theorem Gc.keeps{W:World}{v:Value}{l:List Nat}{g h:Nat}(hl:Gc B w v l)(n1:Hi w g)(n2:Hi w h)(k:Et g h w W):Gc B W v l:=by
 obtain⟨a,q,rfl,Y,Z,G,J⟩:=hl;refine⟨a,q,rfl,Y,Z,G,?_⟩
 by_cases j:l=[]
 ·exact .inl j
 rcases J with J|⟨b,K,rfl,hB,E,O⟩
 ·exact .inl J
 have hp:0<l.length:=by
  apply Nat.pos_of_ne_zero;intro e;exact j (Jt e)
 have c0:=O 0 hp;have R:b≠g:=by rintro rfl;exact n1 _ _ c0
 have V:b≠h:=by rintro rfl;exact n2 _ _ c0
 refine .inr ⟨b,K,rfl,hB,Jn E k.1,fun i hi=>?_⟩;rw[<-O i hi];unfold World.cell?;rw[k.2 b R V]
end Go.Proofs.YtfkagjelljnpdaaGreatDoor.Q
