import Derived.IntWalk
import Derived.Deep.DeepCutAuto
import Derived.Test.YtfkagjelljnpdaaGreatDoorP06
import Derived.Deep.LoopGhost
import Derived.Laws.StructEq
import Derived.Laws.Tables
import Derived.Lib.IndexLaws
import Derived.Lib.Bytealg
set_option maxRecDepth 100000
set_option maxHeartbeats 1000000
namespace Go.Proofs.YtfkagjelljnpdaaGreatDoor.Q
open ChangeShapes WideShapes ChangeAt RowKit
variable {W:World}{g:Nat}{l:List Value}{v0 v1 v2 v3:Value}
def Bx(W:World)(g:Nat)(l:List Value):Prop:=∃ty,W.heap[g]? = some (.cells l.toArray ty (0,0))
theorem Bx.lt(h:Bx W g l):g<W.heap.size:=by
 obtain⟨t,h⟩:=h;exact(Jo.1 h).1
theorem Bx.cell(h:Bx W g l)(i:Nat):W.cell? ⟨g,i,none⟩=l[i]? := by
 obtain⟨t,h⟩:=h;simp[World.cell?,h]
theorem Bx.frozen(h:Bx W g l)(i:Nat):W.frozen? ⟨g,i,none⟩=false:=by
 obtain⟨t,h⟩:=h;simp[World.frozen?,h]
theorem Bx.set(h:Bx W g l)(i:Nat)(v:Value):Bx (W.setCell ⟨g,i,none⟩ v) g (l.set i v):=by
 obtain⟨t,h⟩:=h;refine⟨t,?_⟩;obtain⟨j,q⟩:=Jo.1 h
 show(W.heap.modify g _)[g]? = _
 rw[Zk (by rw[Zf];exact j),Zt,q];simp
theorem Bx.k2{r:List Value}(h:Bx W g (v0::v1::r)):W.cell? ⟨g,0,none⟩=some v0/\W.cell? ⟨g,1,none⟩=some v1:=⟨h.cell 0,h.cell 1⟩
theorem Bx.k3{r:List Value}(h:Bx W g (v0::v1::v2::r)):W.cell? ⟨g,0,none⟩=some v0/\W.cell? ⟨g,1,none⟩=some v1/\W.cell? ⟨g,2,none⟩=some v2:=⟨h.cell 0,h.cell 1,h.cell 2⟩
theorem Bx.k4{r:List Value}(h:Bx W g (v0::v1::v2::v3::r)):W.cell? ⟨g,0,none⟩=some v0/\W.cell? ⟨g,1,none⟩=some v1/\W.cell? ⟨g,2,none⟩=some v2/\W.cell? ⟨g,3,none⟩=some v3:=⟨h.cell 0,h.cell 1,h.cell 2,h.cell 3⟩
theorem Bx.k5{v4:Value}{r:List Value}(h:Bx W g (v0::v1::v2::v3::v4::r)):W.cell? ⟨g,0,none⟩=some v0/\W.cell? ⟨g,1,none⟩=some v1/\W.cell? ⟨g,2,none⟩=some v2/\W.cell? ⟨g,3,none⟩=some v3/\W.cell? ⟨g,4,none⟩=some v4:=⟨h.cell 0,h.cell 1,h.cell 2,h.cell 3,h.cell 4⟩
theorem Bx.k6{v4 v5:Value}{r:List Value}(h:Bx W g (v0::v1::v2::v3::v4::v5::r)):W.cell? ⟨g,0,none⟩=some v0/\W.cell? ⟨g,1,none⟩=some v1/\W.cell? ⟨g,2,none⟩=some v2/\W.cell? ⟨g,3,none⟩=some v3/\W.cell? ⟨g,4,none⟩=some v4/\W.cell? ⟨g,5,none⟩=some v5:=⟨h.cell 0,h.cell 1,h.cell 2,h.cell 3,h.cell 4,h.cell 5⟩
theorem Bx.f2{r:List Value}(h:Bx W g r):W.frozen? ⟨g,0,none⟩=false/\W.frozen? ⟨g,1,none⟩=false:=⟨h.frozen 0,h.frozen 1⟩
theorem Bx.f3{r:List Value}(h:Bx W g r):W.frozen? ⟨g,0,none⟩=false/\W.frozen? ⟨g,1,none⟩=false/\W.frozen? ⟨g,2,none⟩=false:=⟨h.frozen 0,h.frozen 1,h.frozen 2⟩
theorem Bx.f4{r:List Value}(h:Bx W g r):W.frozen? ⟨g,0,none⟩=false/\W.frozen? ⟨g,1,none⟩=false/\W.frozen? ⟨g,2,none⟩=false/\W.frozen? ⟨g,3,none⟩=false:=⟨h.frozen 0,h.frozen 1,h.frozen 2,h.frozen 3⟩
theorem Bx.f6{r:List Value}(h:Bx W g r):W.frozen? ⟨g,0,none⟩=false/\W.frozen? ⟨g,1,none⟩=false/\W.frozen? ⟨g,2,none⟩=false/\W.frozen? ⟨g,3,none⟩=false/\W.frozen? ⟨g,4,none⟩=false/\W.frozen? ⟨g,5,none⟩=false:=⟨h.frozen 0,h.frozen 1,h.frozen 2,h.frozen 3,h.frozen 4,h.frozen 5⟩
theorem Bx.f7{r:List Value}(h:Bx W g r):W.frozen? ⟨g,0,none⟩=false/\W.frozen? ⟨g,1,none⟩=false/\W.frozen? ⟨g,2,none⟩=false/\W.frozen? ⟨g,3,none⟩=false/\W.frozen? ⟨g,4,none⟩=false/\W.frozen? ⟨g,5,none⟩=false/\W.frozen? ⟨g,6,none⟩=false:=⟨h.frozen 0,h.frozen 1,h.frozen 2,h.frozen 3,h.frozen 4,h.frozen 5,h.frozen 6⟩
theorem Bx.other(h:Bx W g l)(p:Addr)(hp:p.block≠g)(v:Value):Bx (W.setCell p v) g l:=by
 obtain⟨t,h⟩:=h;exact⟨t,(Jh W p v g (fun e=>hp e.symm)).trans h⟩
theorem Bx.bl{W':World}{N:Nat}(h:Bx W g l)(hN:g<N)(hb:Below N W W'):Bx W' g l:=by
 obtain⟨t,h⟩:=h;exact⟨t,(hb.block g hN).trans h⟩
theorem Bx.alloc(h:Bx W g l)(o:Obj):Bx (W.alloc o) g l:=h.bl h.lt (Oy W o)
theorem Bx.drew(h:Bx W g l):Bx W.drew g l:=h.bl h.lt (Ji _ W).drew
theorem Oq(W:World)(l:List Value)(ty:TypeId):Bx (W.alloc (.cells l.toArray ty)) W.heap.size l:=⟨ty,Js⟩
open RowKit Shelf
attribute [local go_sem] Oper.semAt_some
def NS(w:World):Prop:=
 w.cell? ⟨2,0,none⟩=some (.int .i64 1)/\w.cell? ⟨2,1,none⟩=some (.int .i64 0)/\w.cell? ⟨2,2,none⟩=some (.int .i64 0)/\w.cell? ⟨2,3,none⟩=some (.int .i64 1)
theorem NS.bl{w w':World}(h:NS w)(hb:Up w w'):NS w':=by
 have j:=UV h.1;unfold NS at *;simp only[fun o=>hb.cell (p:=⟨2,o,none⟩) j];exact h
theorem Bx.drewN(h:Bx W g l)(n:Nat):Bx (W.drewN n) g l:=h.bl h.lt (below_drewN (Ji _ W) n)
end Go.Proofs.YtfkagjelljnpdaaGreatDoor.Q
namespace Go.Proofs.YtfkagjelljnpdaaGreatDoor.Q
open RowKit
end Go.Proofs.YtfkagjelljnpdaaGreatDoor.Q
namespace Go.Proofs.YtfkagjelljnpdaaGreatDoor.Q
open ChangeShapes WideShapes ChangeAt RowKit Proofs.Tryz
theorem KN{N:Nat}{w W:World}(h:Below N w W)(g:Nat)(hg:N<=g)(u0 u1 u2:Value):Below N w (((W.setCell ⟨g,0,none⟩ u0).setCell ⟨g,1,none⟩ u1).setCell ⟨g,2,none⟩ u2):=
 ((h.setCell (p:=⟨g,0,none⟩) hg u0).setCell (p:=⟨g,1,none⟩) hg u1).setCell (p:=⟨g,2,none⟩) hg u2
def Kb(s:ByteArray)(k:Option Nat):Prop:=
 match k with
 | none=>∀j:Nat,s.data.toList[j]? ≠ some 47
 | some i=>s.data.toList[i]? = some 47/\∀j:Nat,j<i->s.data.toList[j]? ≠ some 47
def Qf(k:Option Nat):Int:=match k with|none => -1|some i=>(i:Int)
theorem Ku{s:ByteArray}{k m:Option Nat}(h:Kb s k)(h':Kb s m):k=m:=by
 match k,m,h,h' with
 | none,none,_,_=>rfl
 | none,some i,h,h'=>exact absurd h'.1 (h i)
 | some i,none,h,h'=>exact absurd h.1 (h' i)
 | some i,some j,h,h'=>
   rcases Nat.lt_trichotomy i j with hl|hl|hl
   ·exact absurd h.1 (h'.2 i hl)
   ·rw[hl]
   exact absurd h'.1 (h.2 j hl)
theorem S0{s:ByteArray}{k:Option Nat}(h:Kb s k):Lib.indexByte s.data.toList 47=Qf k:=by
 have G:=Lib.indexByte_ge s.data.toList 47
 by_cases q:Lib.indexByte s.data.toList 47 = -1
 ·have:k=none:=Ku h (show Kb s none from fun j=>Lib.indexByte_none q j);rw[this,q];rfl
 obtain⟨o,E⟩:=Vg (show 0<=Lib.indexByte s.data.toList 47 by omega);have:k=some o:=Ku h (show Kb s (some o)from Lib.indexByte_some E);rw[this,E];rfl
theorem XJ{s:ByteArray}{i:Nat}(h:Kb s (some i)):i<s.size:=by
 have:=h.1;rw[Zm]at this;obtain⟨hl,_⟩:=this
 simpa using hl
theorem Gf(s:ByteArray)(c:Int)(w:World) :
 Calls prog 192 #[.string s,.int .u8 c] w fun e w'=>e=.returned (.int .i64 (Lib.indexByte s.data.toList c.toNat.toUInt8))/\w'=w:=by
 go_in
 go_wp2
 rw[run_callFunc_extern func212 (by kernel_rfl) (by kernel_rfl) (by kernel_rfl) (e:=Extern.BytealgIndexByte.indexByte) (by kernel_rfl),Lib.run_indexByteString];simp only[Result.andThen];rw[Oper.upon_value]
 go_wp2
 go_ret
 exact⟨rfl,rfl⟩
theorem Pc(s:ByteArray)(k:Option Nat)(w:World)(h:Kb s k) :
 Calls prog 213 #[.string s,.string ⟨#[47]⟩] w fun e w'=>e=.returned (.int .i64 (Qf k))/\w'=w:=by
 have K:=S0 h;have R:=Hd K;clear K
 cases hq:([47]==s.toList)
 ·go_in
  go_wp2_with fail
  refine(Gf s _ _).mono ?_;rintro e w' ⟨rfl,E⟩;subst E;have V:Lib.indexByte s.data.toList (Int.toNat ((((⟨#[47]⟩:ByteArray)[0]'(by decide)).toNat:Nat):Int)).toUInt8=Qf k:=R.o;rw[V]
  go_wp2
  go_ret
  exact⟨rfl,rfl⟩
 have O:Qf k=0:=by
  have J:s.toList=[47]:=(by simpa using hq:[47]=s.toList).symm;rw[Jk]at J;have:k=some 0:=Ku h (show Kb s (some 0)from⟨by rw[J];rfl,fun j hj=>by omega⟩);rw[this];rfl
 have G:=Hid.o (p:=Qf k=0) O;clear O;have q:Hid (Qf k=0):=G;clear G
 go_in
 go_wp2
 go_ret
 exact⟨by rw[q.o];rfl,rfl⟩
def Xv(s:ByteArray)(k:Option Nat):ByteArray:=match k with|none=>s|some i=>s.extract 0 i
def Gw(s:ByteArray)(k:Option Nat):ByteArray:=match k with|none=>⟨#[]⟩|some i=>s.extract (i+1) s.size
theorem XN(s:ByteArray)(k:Option Nat)(w:World)(hs:s.size<=maxLen)(h:Kb s k) :
 Calls prog 194 #[.string s,.string ⟨#[47]⟩] w fun e w'=>e=.returned (.tuple #[.string (Xv s k),.string (Gw s k),.bool k.isSome])/\Up w w':=by
 have H:=Hid.o (p:=Kb s k) h;have q:Hid (Kb s k):=H;clear H h;unfold maxLen at hs
 cases k with
 | none=>
   go_in
   go_wp2_with fail
   refine(Pc s none _ q.o).mono ?_;rintro e w' ⟨rfl,j⟩;subst j;have E:Qf none = -1:=rfl;rw[E]
   go_wp2
   go_ret3
   exact⟨rfl,Ji _ _⟩
 | some i=>
   have G:=XJ q.o
   go_in
   go_wp2_with fail
   refine(Pc s (some i) _ q.o).mono ?_;rintro e w' ⟨rfl,j⟩;subst j;have E:Qf (some i)=(i:Int):=rfl;rw[E]
   go_wp2
   go_region
   go_wp2
   go_ret3
   exact⟨rfl,(Ji _ _).drew⟩
theorem DO(s:ByteArray)(k:Option Nat)(w:World)(hs:s.size<=maxLen)(h:Kb s k) :
 Calls prog 170 #[.string s,.string ⟨#[47]⟩] w fun e w'=>e=.returned (.tuple #[.string (Xv s k),.string (Gw s k),.bool k.isSome])/\Up w w':=by
 have q:=Hd h;clear h
 go_in
 go_wp2_with fail
 refine(XN s k _ hs q.o).mono ?_;rintro e w' ⟨rfl,hb⟩;have j:=Hd hb;clear hb
 go_wp2
 go_ret3
 exact⟨rfl,j.o⟩
theorem Sn(s:ByteArray)(k:Option Nat)(w:World)(hs:s.size<=maxLen)(h:Kb s k) :
 Calls prog 174 #[.string s] w fun e w'=>e=.returned (.agg #[.string (Xv s k),.bool k.isSome,.string (Gw s k)])/\Up w w':=by
 have HC:=Hd h;obtain⟨p,hp⟩:=O2 (Xv s k);obtain⟨q,hq⟩:=O2 (Gw s k);obtain⟨b,hb⟩:=O2 k.isSome;have R:Hid (Xv s k=p/\Gw s k=q/\k.isSome=b):=⟨hp,hq,hb⟩;rw[hp,hq,hb];clear h hp hq hb;obtain⟨Y,j⟩:=O2 (w.alloc (.cells #[.string ⟨#[]⟩,.bool false,.string ⟨#[]⟩] 214));have V:=Hd j;have G:Bx Y w.heap.size [.string ⟨#[]⟩,.bool false,.string ⟨#[]⟩]:=by rw[<-j];exact Oq w _ _
 have J:Hid (Up w Y):=by unfold Hid;rw[<-j];exact Oy _ _
 have O:Hid (∀W,Up Y W->Bx W w.heap.size [.string ⟨#[]⟩,.bool false,.string ⟨#[]⟩]):=fun W hW=>G.bl G.lt hW;clear j G
 go_in
 go_wp2_with fail
 rw[V.o];refine(DO s k _ hs HC.o).mono ?_;rintro e w1 ⟨rfl,E⟩;rw[R.o.1,R.o.2.1,R.o.2.2];have K:=Hd E;have hb:=O.o w1 E;obtain⟨k0,k1,k2⟩:=hb.k3;obtain⟨r0,r1,r2⟩:=hb.f3;clear E hb
 go_wp2
 have Z:=O.o w1 K.o;have hZ:Bx (((w1.setCell ⟨w.heap.size,0,none⟩ (.string p)).setCell ⟨w.heap.size,1,none⟩ (.bool b)).setCell ⟨w.heap.size,2,none⟩ (.string q)) w.heap.size [.string p,.bool b,.string q]:=((Z.set 0 _).set 1 _).set 2 _;have hE:=KN (J.o.trans (K.o.mono J.o.size)) w.heap.size leR (.string p) (.bool b) (.string q);generalize ((w1.setCell ⟨w.heap.size,0,none⟩ (.string p)).setCell ⟨w.heap.size,1,none⟩ (.bool b)).setCell ⟨w.heap.size,2,none⟩ (.string q)=WE at *;obtain⟨m0,m1,m2⟩:=hZ.k3;refine Jl (v:=.agg #[.string p,.bool b,.string q]) ?_ rfl ⟨rfl,hE⟩;simp[results,results174,go_sem,m0,m1,m2]
theorem Mi(s:ByteArray)(k:Option Nat)(w:World)(hs:s.size<=maxLen)(h:Kb s k) :
 Calls prog 111 #[.string s] w fun e w'=>e=.returned (.int .i64 (Qf k))/\w'=w:=by
 have V:=Hd h;clear h;unfold maxLen at hs
 go_in
 go_wp2
 go_loop [3] (fun iv=>∃i:Nat,i<=s.size/\iv=.int .i64 (i:Nat)/\∀j:Nat,j<i->s.data.toList[j]? ≠ some 47) (fun iv=>s.size - (intOf iv).toNat)
 case atStart=>exact⟨0,Jp _,rfl,fun j hj=>by omega⟩
 obtain⟨i,Z,rfl,G⟩:=hrel;have q:=Hd G;clear G
 by_cases hl:i<s.size
 ·have J:s.data.toList[i]? = some s[i]:=by
   rw[Jg (by simpa using hl)];rfl
  by_cases E:s[i]=47
  ·have K:Hid (Qf k=(i:Int)):=by
    have:k=some i:=Ku V.o (show Kb s (some i)from⟨by rw[J,E],q.o⟩)
    show Qf k=(i:Int)
    rw[this];rfl
   have Y:(s[i].toNat:Int)=47:=by rw[E];rfl
   have z:((s[i].toNat:Int)==47)=true:=by rw[J2];exact Y
   clear J E Y
   go_wp2
   go_ret
   exact⟨Qz K.o.symm,rfl⟩
  have O:Hid (∀j:Nat,j<i+1->s.data.toList[j]? ≠ some 47):=fun j hj=>by
   by_cases R:j=i
   ·subst R;rw[J];exact fun e=>E (Option.some.inj e)
   exact q.o j (by omega)
  have z:((s[i].toNat:Int)==47)=false:=by
   rw[Jc];intro e;exact E (UInt8.toNat_inj.1 (by have e2:(47:UInt8).toNat=47:=rfl;omega))
  clear J E
  go_wp2
  go_round
  case rel=>exact⟨i+1,by omega,by go_num,O.o⟩
  simp[intOf];omega
 have K:Hid (Qf k = -1):=by
  have:k=none:=Ku V.o (show Kb s none from fun j=>by
   by_cases hj:j<i
   ·exact q.o j hj
   rw[Zw (by simp;omega)];simp)
  show Qf k = -1
  rw[this];rfl
 go_wp2
 go_ret
 exact⟨Qz K.o.symm,rfl⟩
end Go.Proofs.YtfkagjelljnpdaaGreatDoor.Q
