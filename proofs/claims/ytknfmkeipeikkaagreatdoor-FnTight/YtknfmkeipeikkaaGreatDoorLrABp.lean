import Derived.Test.YtknfmkeipeikkaaGreatDoorRows
import Derived.Test.YtknfmkeipeikkaaGreatDoorM1p
import Derived.WalkKit
import Derived.WalkSpells
import Derived.ProofKit
import Derived.OpenShut
import Derived.ShutString
import Derived.Below
import Derived.Lib.Strings
import Derived.Lib.IndexBytes
import Derived.Maps.AppendAt
import Derived.Deep.RegionWith
import Derived.Deep.RegionLaw
import Derived.Deep.RegionHeld3
import Derived.HandedShaped
import Derived.Shelf.Vars
import Derived.Deep.Slices
set_option maxRecDepth 100000
set_option maxHeartbeats 4000000
namespace Go.Proofs.YtknfmkeipeikkaaGreatDoor.L
open Go.ChangeShapes Go.WideShapes Go.ChangeAt Go.RowKit
theorem below_alloc (w:World) (o:Obj):Up w (w.alloc o):=(Below.refl _ _).alloc leR o
def Bx (W:World) (g:Nat) (l:List Value):Prop:=∃ ty,W.heap[g]? = some (.cells l.toArray ty (0,0))
theorem Bx.lt {W:World} {g:Nat} {l:List Value} (h:Bx W g l):g<W.heap.size:=by
 obtain ⟨t,h⟩:=h; exact (Array.getElem?_eq_some_iff.1 h).1
theorem Bx.cell {W:World} {g:Nat} {l:List Value} (h:Bx W g l) (i:Nat):W.cell? ⟨g,i,none⟩=l[i]? := by
 obtain ⟨t,h⟩:=h; simp [World.cell?,h]
theorem Bx.frozen {W:World} {g:Nat} {l:List Value} (h:Bx W g l) (i:Nat):W.frozen? ⟨g,i,none⟩=false:=by
 obtain ⟨t,h⟩:=h; simp [World.frozen?,h]
theorem Bx.set {W:World} {g:Nat} {l:List Value} (h:Bx W g l) (i:Nat) (v:Value):Bx (W.setCell ⟨g,i,none⟩ v) g (l.set i v):=by
 obtain ⟨t,h⟩:=h; refine ⟨t,?_⟩; obtain ⟨j,hk⟩:=Array.getElem?_eq_some_iff.1 h
 show (W.heap.modify g _)[g]? = _
 rw [Array.getElem?_eq_getElem (by rw [Array.size_modify]; exact j),Array.getElem_modify_self,hk]; simp
theorem Bx.below {W W':World} {g N:Nat} {l:List Value} (h:Bx W g l) (hN:g<N) (hb:Below N W W'):Bx W' g l:=by
 obtain ⟨t,h⟩:=h; exact ⟨t,(hb.block g hN).trans h⟩
theorem Bx.alloc {W:World} {g:Nat} {l:List Value} (h:Bx W g l) (o:Obj):Bx (W.alloc o) g l:=h.below h.lt (below_alloc W o)
theorem bx_new (W:World) (l:List Value) (ty:TypeId):Bx (W.alloc (.cells l.toArray ty)) W.heap.size l:=⟨ty,Array.getElem?_push_size⟩
theorem Bx.c3 {W:World} {g:Nat} {v0 v1 v2:Value} {r:List Value} (h:Bx W g (v0::v1::v2::r)):W.cell? ⟨g,0,none⟩=some v0∧W.cell? ⟨g,1,none⟩=some v1∧W.cell? ⟨g,2,none⟩=some v2:=⟨h.cell 0,h.cell 1,h.cell 2⟩
def strOf (l:List UInt8):ByteArray:=⟨l.toArray⟩
theorem strOf_toList (l:List UInt8):(strOf l).data.toList=l:=by simp [strOf]
def StrsAt (w:World) (v:Value) (L:List (List UInt8)):Prop:=
 ∃ p c,v=.slice p L.length c∧L.length≤c∧c≤maxLen∧(L=[]∨∃ b,p=some ⟨b,0,none⟩∧b<w.heap.size∧∀ i (h:i<L.length),w.cell? ⟨b,i,none⟩=some (.string (strOf L[i])))
theorem StrsAt.below {w w':World} {v:Value} {L:List (List UInt8)} (h:StrsAt w v L) (hb:Up w w'):StrsAt w' v L:=by
 obtain ⟨p,c,rfl,j,h2,h3⟩:=h; refine ⟨p,c,rfl,j,h2,?_⟩
 rcases h3 with h3|⟨b,e,hl,m⟩
 ·exact .inl h3
 exact .inr ⟨b,e,Nat.lt_of_lt_of_le hl hb.size,fun i hi=>(hb.cell (p:=⟨b,i,none⟩) hl).trans (m i hi)⟩
def strsC (L:List (List UInt8)):List Value:=L.map (fun x=>.string (strOf x))
theorem own_other' {W W':World} {base:Nat} {e:TypeId} {sz:Nat} {v:Value} {n:Nat} {xs:List Value} (h:W.ownsRow base e sz v n xs) (hk:∀ g,v.ownBlock=some g→W'.heap[g]? = W.heap[g]?):W'.ownsRow base e sz v n xs:=by
 refine ⟨h.1,?_⟩
 rcases h.2 with m|⟨g,cap,j,rfl,s,h2,h3⟩
 ·exact .inl m
 exact .inr ⟨g,cap,j,rfl,s,(hk g rfl).trans h2,h3⟩
theorem info_str0:(Tryz.prog.info? 9).map (fun i=>(i.zero,i.size,i.bytes))=some (some (.string ⟨#[]⟩),1,16):=by kernel_rfl
theorem info_str:∃ i:TypeInfo,Tryz.prog.info? 9=some i∧i.zero=some (.string ⟨#[]⟩)∧i.size=1∧i.bytes=16:=info_parts info_str0
theorem own_base {w:World} {base:Nat} {e:TypeId} {size n:Nat} {v:Value} {xs:List Value} (h:w.ownsRow base e size v n xs):∀ g,v.ownBlock=some g→base≤g:=by
 intro g j
 rcases h.2 with ⟨rfl,_⟩|⟨s,cap,m,rfl,hb,_⟩
 ·cases j
 cases j; exact hb
theorem own_lower {w:World} {base base':Nat} {e:TypeId} {size:Nat} {v:Value} {n:Nat} {xs:List Value} (h:w.ownsRow base e size v n xs) (hb:base'≤base):w.ownsRow base' e size v n xs:=by
 refine ⟨h.1,?_⟩
 rcases h.2 with m|⟨g,cap,j,e,s,h3⟩
 ·exact .inl m
 exact .inr ⟨g,cap,j,e,Nat.le_trans hb s,h3⟩
theorem own_read {w:World} {base g n cap size:Nat} {e:TypeId} {xs:List Value} (h:w.ownsRow base e size (.slice (some ⟨g,0,none⟩) n cap) n xs) {j:Nat} {u:Value} (hu:xs[j]? = some u):w.cell? ⟨g,j,none⟩=some u:=by
 rcases h.2 with ⟨y,_⟩|⟨H,s,m,E,_,hb,_,_,_,D⟩
 ·cases y
 cases E; rw [cell_of_row w g j m e (0,0) hb]; rw [← D,List.getElem?_take] at hu
 split at hu
 ·simpa using hu
 cases hu
theorem own_row {w:World} {base n size:Nat} {e:TypeId} {v:Value} {xs:List Value} (h:w.ownsRow base e size v n xs):∃ p c,v=.slice p n c∧n≤c∧c≤maxLen∧(n=0∨∃ g,p=some ⟨g,0,none⟩∧g<w.heap.size):=by
 have hl:=h.lt
 rcases h.2 with ⟨rfl,rfl⟩|⟨g,cap,j,rfl,_,_,m,h2,_⟩
 ·exact ⟨none,0,rfl,leR,Nat.zero_le _,.inl rfl⟩
 exact ⟨some ⟨g,0,none⟩,cap,rfl,m,h2,.inr ⟨g,rfl,(hl g rfl).2⟩⟩
theorem strs_at {w:World} {base:Nat} {v:Value} {L:List (List UInt8)} (h:w.ownsRow base 9 1 v L.length (strsC L)):StrsAt w v L:=by
 obtain ⟨p,c,rfl,j,h2,h3⟩:=own_row h; refine ⟨p,c,rfl,j,h2,?_⟩
 rcases h3 with h3|⟨g,rfl,m⟩
 ·exact .inl (List.eq_nil_of_length_eq_zero h3)
 exact .inr ⟨g,rfl,m,fun i hi=>own_read h (by unfold strsC; rw [List.getElem?_map,List.getElem?_eq_getElem hi]; rfl)⟩
theorem up_alloc {w w':World} (h:Up w w') (o:Obj):Up w (w'.alloc o):=h.alloc h.size _
theorem strOf_size (x:List UInt8):(strOf x).size=x.length:=by show x.toArray.size=_; simp
def ArgStrs (w:World) (v:Value) (L:List (List UInt8)):Prop:=
 ∃ a c,v=.slice a L.length c∧L.length≤c∧c≤maxLen∧(∀ s∈L,s.length≤maxLen)∧(L=[]∨∃ b off,a=some ⟨b,off,none⟩∧b<w.heap.size∧∀ i (h:i<L.length),w.cell? ⟨b,off+i,none⟩=some (.string (strOf L[i])))
theorem ArgStrs.below {w w':World} {v:Value} {L:List (List UInt8)} (h:ArgStrs w v L) (hb:Up w w'):ArgStrs w' v L:=by
 obtain ⟨a,c,rfl,m,h2,h3,h4⟩:=h; refine ⟨a,c,rfl,m,h2,h3,?_⟩
 rcases h4 with h|⟨b,off,rfl,j,s⟩
 ·exact .inl h
 exact .inr ⟨b,off,rfl,Nat.lt_of_lt_of_le j hb.size,fun i hi=>(hb.cell (p:=⟨b,off+i,none⟩) j).trans (s i hi)⟩
def SmallS (L:List (List UInt8)):Prop:=L.length≤1048576∧∀ s∈L,s.length≤1048576
def Sized (P:Prop) (w:World) (e:Ending) (w':World):Prop:=(e=.returned (.int .i64 (-1))∨∃ z:Nat,z≤1048576∧e=.returned (.int .i64 (z:Nat))∧P)∧Up w w'
theorem row_below {w w':World} {base:Nat} {e:TypeId} {s:Nat} {v:Value} {n:Nat} {xs:List Value} (h:w.ownsRow base e s v n xs) (hb:Up w w'):w'.ownsRow base e s v n xs:=own_other' h (fun g hg=>hb.block g (h.lt g hg).2)
theorem row_at {w:World} {base g n cap s:Nat} {e:TypeId} {xs:List Value} (h:w.ownsRow base e s (.slice (some ⟨g,0,none⟩) n cap) n xs) (j:Nat) (hj:j<n*s):∃ x,w.cell? ⟨g,j,none⟩=some x:=by
 rw [h.cellAt j hj]; exact ⟨_,List.getElem?_eq_getElem (by have:=h.1; omega)⟩
theorem laid1_next {α:Type} {f:α→Value} {xs:List Value} {L:List α} {i:Nat} (hx:xs.length=L.length) (h:∀ j (hj:j<L.length),j<i→xs[j]? = some (f L[j])) (hi:i<L.length):∀ j (hj:j<L.length),j<i+1→(xs.set i (f L[i]))[j]? = some (f L[j]):=by
 intro j hj m
 by_cases e:j=i
 ·subst e; rw [List.getElem?_set_self (by omega)]
 rw [List.getElem?_set_ne (by omega)]; exact h j hj (by omega)
theorem laid1_all {α:Type} {f:α→Value} {xs:List Value} {L:List α} (hx:xs.length=L.length) (h:∀ j (hj:j<L.length),j<L.length→xs[j]? = some (f L[j])):xs=L.map f:=by
 refine List.ext_getElem? fun j=>?_
 by_cases hj:j<L.length
 ·rw [h j hj hj,List.getElem?_map,List.getElem?_eq_getElem hj]; rfl
 rw [List.getElem?_eq_none (by omega),List.getElem?_eq_none (by rw [List.length_map]; omega)]
theorem box2 (w:World) (A B:List Value) (ta tb:TypeId):∃ W2,(w.alloc (.cells A.toArray ta)).alloc (.cells B.toArray tb)=W2∧Up w W2∧Bx W2 w.heap.size A∧Bx W2 (w.heap.size+1) B∧W2.heap.size=w.heap.size+1+1:=by
 refine ⟨_,rfl,up_alloc (below_alloc _ _) _,(bx_new w A ta).alloc _,?_,by simp⟩; have h:=bx_new (w.alloc (.cells A.toArray ta)) B tb
 rwa [show (w.alloc (.cells A.toArray ta)).heap.size=w.heap.size+1 by simp] at h
theorem box3 (w:World) (A B C:List Value) (ta tb tc:TypeId):∃ W3,((w.alloc (.cells A.toArray ta)).alloc (.cells B.toArray tb)).alloc (.cells C.toArray tc)=W3∧Up w W3∧Bx W3 w.heap.size A∧Bx W3 (w.heap.size+1) B∧Bx W3 (w.heap.size+1+1) C∧W3.heap.size=w.heap.size+1+1+1:=by
 obtain ⟨W2,h2,hb,j,m,h⟩:=box2 w A B ta tb; refine ⟨_,rfl,?_,?_,?_,?_,?_⟩
 ·rw [h2]; exact up_alloc hb _
 ·rw [h2]; exact j.alloc _
 ·rw [h2]; exact m.alloc _
 ·rw [h2,← h]; exact bx_new W2 C tc
 rw [h2,World.size_alloc,h]
structure Lr where
 cs:List (List UInt8)
 st:Bool
 bd:List UInt8
def ArgRows (w:World) (v:Value) (F:List Lr):Prop:=
 ∃ a c,v=.slice a F.length c∧F.length≤c∧c≤maxLen∧(∀ f∈F,f.bd.length≤maxLen)∧(F=[]∨∃ b off,a=some ⟨b,off,none⟩∧b<w.heap.size∧∀ i (h:i<F.length),(∃ va,w.cell? ⟨b,off+i*3,none⟩=some va∧ArgStrs w va F[i].cs)∧w.cell? ⟨b,off+i*3+1,none⟩=some (.bool F[i].st)∧w.cell? ⟨b,off+i*3+2,none⟩=some (.string (strOf F[i].bd)))
theorem ArgRows.below {w w':World} {v:Value} {F:List Lr} (h:ArgRows w v F) (hb:Up w w'):ArgRows w' v F:=by
 obtain ⟨a,c,rfl,m,h2,h3,h4⟩:=h; refine ⟨a,c,rfl,m,h2,h3,?_⟩
 rcases h4 with h|⟨b,off,rfl,j,s⟩
 ·exact .inl h
 refine .inr ⟨b,off,rfl,Nat.lt_of_lt_of_le j hb.size,fun i hi=>?_⟩; obtain ⟨⟨va,y,u⟩,D,k2⟩:=s i hi; exact ⟨⟨va,(hb.cell (p:=⟨b,off+i*3,none⟩) j).trans y,u.below hb⟩,(hb.cell (p:=⟨b,off+i*3+1,none⟩) j).trans D,(hb.cell (p:=⟨b,off+i*3+2,none⟩) j).trans k2⟩
def RowsAt (w:World) (v:Value) (F:List Lr):Prop:=
 ∃ p c,v=.slice p F.length c∧F.length≤c∧c≤maxLen∧(F=[]∨∃ b,p=some ⟨b,0,none⟩∧b<w.heap.size∧∀ i (h:i<F.length),(∃ va,w.cell? ⟨b,i*3,none⟩=some va∧StrsAt w va F[i].cs)∧w.cell? ⟨b,i*3+1,none⟩=some (.bool F[i].st)∧w.cell? ⟨b,i*3+2,none⟩=some (.string (strOf F[i].bd)))
theorem RowsAt.below {w w':World} {v:Value} {F:List Lr} (h:RowsAt w v F) (hb:Up w w'):RowsAt w' v F:=by
 obtain ⟨a,c,rfl,m,h2,h4⟩:=h; refine ⟨a,c,rfl,m,h2,?_⟩
 rcases h4 with h|⟨b,rfl,j,s⟩
 ·exact .inl h
 refine .inr ⟨b,rfl,Nat.lt_of_lt_of_le j hb.size,fun i hi=>?_⟩; obtain ⟨⟨va,y,u⟩,D,k2⟩:=s i hi; exact ⟨⟨va,(hb.cell (p:=⟨b,i*3,none⟩) j).trans y,u.below hb⟩,(hb.cell (p:=⟨b,i*3+1,none⟩) j).trans D,(hb.cell (p:=⟨b,i*3+2,none⟩) j).trans k2⟩
def SmallR (f:Lr):Prop:=SmallS f.cs∧f.bd.length≤1048576
theorem info_row0:(Tryz.prog.info? 38).map (fun i=>(i.zero,i.size,i.bytes))=some (some (.agg #[.slice none 0 0,.bool false,.string ⟨#[]⟩]),3,48):=by kernel_rfl
theorem info_row:∃ i:TypeInfo,Tryz.prog.info? 38=some i∧i.zero=some (.agg #[.slice none 0 0,.bool false,.string ⟨#[]⟩])∧i.size=3∧i.bytes=48:=info_parts info_row0
def LaidR (wr:World) (N:Nat) (xs:List Value) (F:List Lr) (i:Nat):Prop:=
 ∀ j (h:j<F.length),j<i→(∃ va,xs[j*3]? = some va∧wr.ownsRow N 9 1 va F[j].cs.length (strsC F[j].cs))∧xs[j*3+1]? = some (.bool F[j].st)∧xs[j*3+2]? = some (.string (strOf F[j].bd))
theorem LaidR.next {wr wr':World} {N:Nat} {xs:List Value} {F:List Lr} {i:Nat} (hx:xs.length=F.length*3) (h:LaidR wr N xs F i) (hi:i<F.length) {va:Value} (hk:∀ k,N≤k→k<wr.heap.size→wr'.heap[k]? = wr.heap[k]?) (hva:wr'.ownsRow N 9 1 va F[i].cs.length (strsC F[i].cs)) :
 LaidR wr' N (((xs.set (i*3) va).set (i*3+1) (.bool F[i].st)).set (i*3+2) (.string (strOf F[i].bd))) F (i+1):=by
 intro j m s
 by_cases e:j=i
 ·subst e; refine ⟨⟨va,?_,hva⟩,?_,?_⟩
  ·rw [List.getElem?_set_ne (by omega),List.getElem?_set_ne (by omega),List.getElem?_set_self (by omega)]
  ·rw [List.getElem?_set_ne (by omega),List.getElem?_set_self (by simp; omega)]
  rw [List.getElem?_set_self (by simp; omega)]
 obtain ⟨⟨u,y,hb⟩,D,h2⟩:=h j m (by omega); refine ⟨⟨u,?_,own_other' hb (fun g hg=>hk g (own_base hb g hg) (hb.lt g hg).2)⟩,?_,?_⟩<;>rw [List.getElem?_set_ne (by omega),List.getElem?_set_ne (by omega),List.getElem?_set_ne (by omega)]<;>assumption
theorem strOf_data (s:ByteArray):strOf s.data.toList=s:=by simp [strOf]
theorem three_of {cs:List Value} (h:cs.length=3):∃ v0 v1 v2,cs=[v0,v1,v2]:=by
 match cs,h with
 | [v0,v1,v2],_=>exact ⟨v0,v1,v2,rfl⟩
theorem list_of {α:Type} {Q:Nat→α→Prop}:∀ n:Nat,(∀ i,i<n→∃ x,Q i x)→∃ l:List α,l.length=n∧∀ i (h:i<l.length),Q i l[i]
 | 0,_=>⟨[],rfl,fun i h=>absurd h (Nat.not_lt_zero _)⟩
 | n+1,h=>by
   obtain ⟨l,hl,m⟩:=list_of n (fun i hi=>h i (by omega))
   obtain ⟨x,s⟩:=h n (by omega)
   refine ⟨l++[x],by simp [hl],fun i hi=>?_⟩
   by_cases e:i<l.length
   ·rw [List.getElem_append_left e]; exact m i e
   ·have j:i=l.length:=by simp at hi; omega
    subst j
    rw [List.getElem_append_right leR]
    simp only [Nat.sub_self,List.getElem_cons_zero]
    rw [hl]; exact s
theorem add0 (b off k:Nat):(⟨b,off,none⟩:Addr).add k=⟨b,off+k,none⟩:=by simp [Addr.add]
theorem strs_of {H:Type} {enc:TypeId×Value→H} {W:World} {v:Value} {fuel:Nat} {x:DataW H×List MemPlace}
 (h:DataW.trod enc Tryz.prog W 0 (fun _=>true) true fuel 28 [v]=some x):∃ L,ArgStrs W v L:=by
 rcases Go.Deep.open_slice Tryz.underlying28 h with ⟨u,_⟩|⟨A,l,c,m,n,D,Pl,u,_,hl,hm,T,_,Z⟩
 ·simp only [List.cons.injEq,and_true] at u; subst u; exact ⟨[],_,_,rfl,Nat.zero_le _,Nat.zero_le _,fun s hs=>(by cases hs),.inl rfl⟩
 simp only [List.cons.injEq,and_true] at u; subst u; have O:Tryz.prog.cellsOf 9=1:=by kernel_rfl
 simp only [if_true] at T; rw [O] at Z; have J:∀ i,i<l→∃ s:List UInt8,W.cell? (A.add i)=some (.string (strOf s))∧s.length≤maxLen:=by
  intro i hi; obtain ⟨cs,h1,h2⟩:=Z i (by omega); obtain ⟨_,Y,E⟩:=World.cells?_some h1; obtain ⟨s,e,_,hw⟩:=DataW.trod_string Tryz.underlying9 h2; subst e; have y:=E 0 (by decide); refine ⟨s.data.toList,?_,Nat.le_trans (Nat.le_of_eq Array.length_toList) hw⟩; rw [strOf_data]
  simpa [Addr.add] using y
 obtain ⟨L,hL,U⟩:=list_of l J; subst hL; refine ⟨L,_,_,rfl,by omega,hm,fun s hs=>?_,?_⟩
 ·obtain ⟨j,hj,rfl⟩:=List.getElem_of_mem hs; exact (U j hj).2
 by_cases V:L=[]
 ·exact .inl V
 right
 have K:0<L.length:=List.length_pos_iff.2 V; obtain ⟨b,off,M⟩:=A; have y:=(U 0 K).1; have I:M=none:=by simpa [Addr.add] using World.cell?_spot y
 subst I; refine ⟨b,off,rfl,?_,fun i hi=>?_⟩
 ·have:=World.block_lt_of_cell? W _ y
  simpa [Addr.add] using this
 have:=(U i hi).1
 rwa [add0] at this
end Go.Proofs.YtknfmkeipeikkaaGreatDoor.L
