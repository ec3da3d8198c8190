import Derived.Test.YtfclfbpjjlinhaaGreatDoorRows
import Derived.Test.YtfclfbpjjlinhaaGreatDoorM1p
import Derived.WalkKit
import Derived.WalkSpells
import Derived.ProofKit
import Derived.OpenShut
import Derived.ShutString
import Derived.Below
import Derived.Lib.Strings
import Derived.Lib.IndexBytes
import Derived.Maps.AppendAt
import Derived.Deep.RegionWith
import Derived.Deep.RegionLaw
import Derived.Deep.RegionHeld3
import Derived.HandedShaped
import Derived.Shelf.Vars
import Derived.Deep.Slices
set_option maxRecDepth 100000
set_option maxHeartbeats 4000000
namespace Go.Proofs.YtfclfbpjjlinhaaGreatDoor.L
open Go.ChangeShapes Go.WideShapes Go.ChangeAt Go.RowKit
theorem below_alloc (w:World) (o:Obj):Up w (w.alloc o):=(Below.refl _ _).alloc leR o
def Bx (W:World) (g:Nat) (l:List Value):Prop:=∃ ty,W.heap[g]? = some (.cells l.toArray ty (0,0))
theorem Bx.lt {W:World} {g:Nat} {l:List Value} (h:Bx W g l):g<W.heap.size:=by
 obtain ⟨t,h⟩:=h; exact (Array.getElem?_eq_some_iff.1 h).1
theorem Bx.cell {W:World} {g:Nat} {l:List Value} (h:Bx W g l) (i:Nat):W.cell? ⟨g,i,none⟩=l[i]? := by
 obtain ⟨t,h⟩:=h; simp [World.cell?,h]
theorem Bx.frozen {W:World} {g:Nat} {l:List Value} (h:Bx W g l) (i:Nat):W.frozen? ⟨g,i,none⟩=false:=by
 obtain ⟨t,h⟩:=h; simp [World.frozen?,h]
theorem Bx.set {W:World} {g:Nat} {l:List Value} (h:Bx W g l) (i:Nat) (v:Value):Bx (W.setCell ⟨g,i,none⟩ v) g (l.set i v):=by
 obtain ⟨t,h⟩:=h; refine ⟨t,?_⟩; obtain ⟨j,hk⟩:=Array.getElem?_eq_some_iff.1 h
 show (W.heap.modify g _)[g]? = _
 rw [Array.getElem?_eq_getElem (by rw [Array.size_modify]; exact j),Array.getElem_modify_self,hk]; simp
theorem Bx.below {W W':World} {g N:Nat} {l:List Value} (h:Bx W g l) (hN:g<N) (hb:Below N W W'):Bx W' g l:=by
 obtain ⟨t,h⟩:=h; exact ⟨t,(hb.block g hN).trans h⟩
theorem Bx.alloc {W:World} {g:Nat} {l:List Value} (h:Bx W g l) (o:Obj):Bx (W.alloc o) g l:=h.below h.lt (below_alloc W o)
theorem bx_new (W:World) (l:List Value) (ty:TypeId):Bx (W.alloc (.cells l.toArray ty)) W.heap.size l:=⟨ty,Array.getElem?_push_size⟩
theorem Bx.c3 {W:World} {g:Nat} {v0 v1 v2:Value} {r:List Value} (h:Bx W g (v0::v1::v2::r)):W.cell? ⟨g,0,none⟩=some v0∧W.cell? ⟨g,1,none⟩=some v1∧W.cell? ⟨g,2,none⟩=some v2:=⟨h.cell 0,h.cell 1,h.cell 2⟩
def strOf (l:List UInt8):ByteArray:=⟨l.toArray⟩
theorem strOf_toList (l:List UInt8):(strOf l).data.toList=l:=by simp [strOf]
def StrsAt (w:World) (v:Value) (L:List (List UInt8)):Prop:=
 ∃ p c,v=.slice p L.length c∧L.length≤c∧c≤maxLen∧(L=[]∨∃ b,p=some ⟨b,0,none⟩∧b<w.heap.size∧∀ i (h:i<L.length),w.cell? ⟨b,i,none⟩=some (.string (strOf L[i])))
theorem StrsAt.below {w w':World} {v:Value} {L:List (List UInt8)} (h:StrsAt w v L) (hb:Up w w'):StrsAt w' v L:=by
 obtain ⟨p,c,rfl,j,h2,h3⟩:=h; refine ⟨p,c,rfl,j,h2,?_⟩
 rcases h3 with h3|⟨b,e,hl,m⟩
 ·exact .inl h3
 exact .inr ⟨b,e,Nat.lt_of_lt_of_le hl hb.size,fun i hi=>(hb.cell (p:=⟨b,i,none⟩) hl).trans (m i hi)⟩
def strsC (L:List (List UInt8)):List Value:=L.map (fun x=>.string (strOf x))
theorem own_other' {W W':World} {base:Nat} {e:TypeId} {sz:Nat} {v:Value} {n:Nat} {xs:List Value} (h:W.ownsRow base e sz v n xs) (hk:∀ g,v.ownBlock=some g→W'.heap[g]? = W.heap[g]?):W'.ownsRow base e sz v n xs:=by
 refine ⟨h.1,?_⟩
 rcases h.2 with m|⟨g,cap,j,rfl,s,h2,h3⟩
 ·exact .inl m
 exact .inr ⟨g,cap,j,rfl,s,(hk g rfl).trans h2,h3⟩
theorem info_str0:(Tryz.prog.info? 9).map (fun i=>(i.zero,i.size,i.bytes))=some (some (.string ⟨#[]⟩),1,16):=by kernel_rfl
theorem info_str:∃ i:TypeInfo,Tryz.prog.info? 9=some i∧i.zero=some (.string ⟨#[]⟩)∧i.size=1∧i.bytes=16:=info_parts info_str0
theorem own_base {w:World} {base:Nat} {e:TypeId} {size n:Nat} {v:Value} {xs:List Value} (h:w.ownsRow base e size v n xs):∀ g,v.ownBlock=some g→base≤g:=by
 intro g j
 rcases h.2 with ⟨rfl,_⟩|⟨s,cap,m,rfl,hb,_⟩
 ·cases j
 cases j; exact hb
theorem own_lower {w:World} {base base':Nat} {e:TypeId} {size:Nat} {v:Value} {n:Nat} {xs:List Value} (h:w.ownsRow base e size v n xs) (hb:base'≤base):w.ownsRow base' e size v n xs:=by
 refine ⟨h.1,?_⟩
 rcases h.2 with m|⟨g,cap,j,e,s,h3⟩
 ·exact .inl m
 exact .inr ⟨g,cap,j,e,Nat.le_trans hb s,h3⟩
theorem own_read {w:World} {base g n cap size:Nat} {e:TypeId} {xs:List Value} (h:w.ownsRow base e size (.slice (some ⟨g,0,none⟩) n cap) n xs) {j:Nat} {u:Value} (hu:xs[j]? = some u):w.cell? ⟨g,j,none⟩=some u:=by
 rcases h.2 with ⟨y,_⟩|⟨H,s,m,E,_,hb,_,_,_,D⟩
 ·cases y
 cases E; rw [cell_of_row w g j m e (0,0) hb]; rw [← D,List.getElem?_take] at hu
 split at hu
 ·simpa using hu
 cases hu
theorem own_row {w:World} {base n size:Nat} {e:TypeId} {v:Value} {xs:List Value} (h:w.ownsRow base e size v n xs):∃ p c,v=.slice p n c∧n≤c∧c≤maxLen∧(n=0∨∃ g,p=some ⟨g,0,none⟩∧g<w.heap.size):=by
 have hl:=h.lt
 rcases h.2 with ⟨rfl,rfl⟩|⟨g,cap,j,rfl,_,_,m,h2,_⟩
 ·exact ⟨none,0,rfl,leR,Nat.zero_le _,.inl rfl⟩
 exact ⟨some ⟨g,0,none⟩,cap,rfl,m,h2,.inr ⟨g,rfl,(hl g rfl).2⟩⟩
theorem strs_at {w:World} {base:Nat} {v:Value} {L:List (List UInt8)} (h:w.ownsRow base 9 1 v L.length (strsC L)):StrsAt w v L:=by
 obtain ⟨p,c,rfl,j,h2,h3⟩:=own_row h; refine ⟨p,c,rfl,j,h2,?_⟩
 rcases h3 with h3|⟨g,rfl,m⟩
 ·exact .inl (List.eq_nil_of_length_eq_zero h3)
 exact .inr ⟨g,rfl,m,fun i hi=>own_read h (by unfold strsC; rw [List.getElem?_map,List.getElem?_eq_getElem hi]; rfl)⟩
theorem up_alloc {w w':World} (h:Up w w') (o:Obj):Up w (w'.alloc o):=h.alloc h.size _
theorem strOf_size (x:List UInt8):(strOf x).size=x.length:=by show x.toArray.size=_; simp
def ArgStrs (w:World) (v:Value) (L:List (List UInt8)):Prop:=
 ∃ a c,v=.slice a L.length c∧L.length≤c∧c≤maxLen∧(∀ s∈L,s.length≤maxLen)∧(L=[]∨∃ b off,a=some ⟨b,off,none⟩∧b<w.heap.size∧∀ i (h:i<L.length),w.cell? ⟨b,off+i,none⟩=some (.string (strOf L[i])))
theorem ArgStrs.below {w w':World} {v:Value} {L:List (List UInt8)} (h:ArgStrs w v L) (hb:Up w w'):ArgStrs w' v L:=by
 obtain ⟨a,c,rfl,m,h2,h3,h4⟩:=h; refine ⟨a,c,rfl,m,h2,h3,?_⟩
 rcases h4 with h|⟨b,off,rfl,j,s⟩
 ·exact .inl h
 exact .inr ⟨b,off,rfl,Nat.lt_of_lt_of_le j hb.size,fun i hi=>(hb.cell (p:=⟨b,off+i,none⟩) j).trans (s i hi)⟩
def SmallS (L:List (List UInt8)):Prop:=L.length≤1048576∧∀ s∈L,s.length≤1048576
def Sized (P:Prop) (w:World) (e:Ending) (w':World):Prop:=(e=.returned (.int .i64 (-1))∨∃ z:Nat,z≤1048576∧e=.returned (.int .i64 (z:Nat))∧P)∧Up w w'
theorem szStringS_any (v:Value) (L:List (List UInt8)) (z0:Nat) (w:World) (h:ArgStrs w v L) (hz0:z0≤1048576) :
 Calls Tryz.prog 38 #[v,.int .i64 (z0:Nat)] w (Sized (SmallS L) w):=by
 obtain ⟨a,c,rfl,hc,O,I,D⟩:=h; unfold maxLen at O; have V:=Hd D; have M:=Hd I; clear D I
 by_cases hl:z0<L.length
 ·have y:decide ((z0:Int) - (L.length:Int)<0)=true:=by rw [decide_eq_true_iff]; omega
  go_enter Tryz.func38,Tryz.ntmps38
  go_wp2_with fail
  go_ret
  exact ⟨.inl rfl,Below.refl _ _⟩
 have y:decide ((z0:Int) - (L.length:Int)<0)=false:=by rw [decide_eq_false_iff_not]; omega
 go_enter Tryz.func38,Tryz.ntmps38
 go_wp2_with fail
 go_loopw [1,5] (fun zv iv wr=>∃ (i z:Nat),i≤L.length∧z≤1048576∧zv=.int .i64 (z:Nat)∧iv=.int .i64 (i:Nat)∧(∀ j (h:j<L.length),j<i→L[j].length≤1048576)∧w=wr) (fun _ iv _=>L.length - (intOf iv).toNat)
 case atStart=>exact ⟨0,z0 - L.length,Nat.zero_le _,by omega,by go_num,rfl,fun j _ h=>absurd h (Nat.not_lt_zero _),rfl⟩
 case round=>
  obtain ⟨i,z,hi,Y,rfl,rfl,H,rfl⟩:=hrel; have u:=Hd H; clear H
  by_cases m:i<L.length
  ·obtain ⟨b,off,rfl,hb,D⟩:∃ b off,a=some ⟨b,off,none⟩∧b<w.heap.size∧∀ i (h:i<L.length),w.cell? ⟨b,off+i,none⟩=some (.string (strOf L[i])):=by
    rcases V.o with h|h
    ·rw [h] at m; exact absurd m (Nat.not_lt_zero _)
    ·exact h
   have k0:=D i m; have J:=M.o _ (List.getElem_mem m); unfold maxLen at J; have hs:=strOf_size L[i]; obtain ⟨s,E⟩:=exW (strOf L[i]); rw [E] at k0 hs; have K:=Hd hs; have U:(s.size:Int)≤9223372036854775807:=by rw [hs]; omega
   clear D E J hs
   by_cases Z:z<s.size
   ·have y2:decide ((z:Int) - (s.size:Int)<0)=true:=by rw [decide_eq_true_iff]; omega
    go_wp2_with fail
    go_ret
    exact ⟨.inl rfl,Below.refl _ _⟩
   ·have y2:decide ((z:Int) - (s.size:Int)<0)=false:=by rw [decide_eq_false_iff_not]; omega
    go_wp2_with fail
    go_roundw
    case rel=>
     refine ⟨i+1,z - s.size,by omega,by omega,by go_num,by go_num,fun j hj hji=>?_,trivial⟩
     by_cases e:j=i
     ·subst e; have:=K.o; omega
     ·exact u.o j hj (by omega)
    case measure=>simp [intOf]; omega
  ·have T:i=L.length:=by omega
   subst T
   go_wp2_with fail
   go_ret
   refine ⟨.inr ⟨z,Y,rfl,by omega,fun s hs=>?_⟩,Below.refl _ _⟩; obtain ⟨j,hj,rfl⟩:=List.getElem_of_mem hs; exact u.o j hj hj
theorem row_below {w w':World} {base:Nat} {e:TypeId} {s:Nat} {v:Value} {n:Nat} {xs:List Value} (h:w.ownsRow base e s v n xs) (hb:Up w w'):w'.ownsRow base e s v n xs:=own_other' h (fun g hg=>hb.block g (h.lt g hg).2)
theorem row_at {w:World} {base g n cap s:Nat} {e:TypeId} {xs:List Value} (h:w.ownsRow base e s (.slice (some ⟨g,0,none⟩) n cap) n xs) (j:Nat) (hj:j<n*s):∃ x,w.cell? ⟨g,j,none⟩=some x:=by
 rw [h.cellAt j hj]; exact ⟨_,List.getElem?_eq_getElem (by have:=h.1; omega)⟩
theorem laid1_next {α:Type} {f:α→Value} {xs:List Value} {L:List α} {i:Nat} (hx:xs.length=L.length) (h:∀ j (hj:j<L.length),j<i→xs[j]? = some (f L[j])) (hi:i<L.length):∀ j (hj:j<L.length),j<i+1→(xs.set i (f L[i]))[j]? = some (f L[j]):=by
 intro j hj m
 by_cases e:j=i
 ·subst e; rw [List.getElem?_set_self (by omega)]
 rw [List.getElem?_set_ne (by omega)]; exact h j hj (by omega)
theorem laid1_all {α:Type} {f:α→Value} {xs:List Value} {L:List α} (hx:xs.length=L.length) (h:∀ j (hj:j<L.length),j<L.length→xs[j]? = some (f L[j])):xs=L.map f:=by
 refine List.ext_getElem? fun j=>?_
 by_cases hj:j<L.length
 ·rw [h j hj hj,List.getElem?_map,List.getElem?_eq_getElem hj]; rfl
 rw [List.getElem?_eq_none (by omega),List.getElem?_eq_none (by rw [List.length_map]; omega)]
theorem toStringS_any (v:Value) (L:List (List UInt8)) (w:World) (h:ArgStrs w v L) (hs:SmallS L) :
 Calls Tryz.prog 43 #[v] w fun e w'=>∃ g c,e=.returned (.slice (some ⟨g,0,none⟩) L.length c)∧w'.ownsRow w.heap.size 9 1 (.slice (some ⟨g,0,none⟩) L.length c) L.length (strsC L)∧Up w w':=by
 obtain ⟨a,c,rfl,hc,Y,-,E⟩:=h; unfold maxLen at Y; obtain ⟨i0,I,a3,a5,a6⟩:=info_str; have b4:=hs.1; have HA:=Hd E; clear E hs
 go_enter Tryz.func43,Tryz.ntmps43
 go_wp2_with (at_make; refine wpList_make_full _ rfl _ _ 42 rfl w.heap.size 9 i0 (.string ⟨#[]⟩) 1 Tryz.underlying42 I a3 a5 .i64 .i64 _ _ L.length rfl rfl (by simp) (by simp) (by rw [a6]; omega) (by unfold maxLen; omega) leR ?_)
 intro w1 u H; have M:Hid (Up w w1):=(Below.refl _ _).grown H leR (fun k e=>by cases e); have U:=Hd u; clear u H
 go_wp2_with fail
 go_loopw [4] (fun iv wr=>∃ (i:Nat) (xs:List Value),i≤L.length∧iv=.int .i64 i∧(∀ j (hj:j<L.length),j<i→xs[j]? = some (.string (strOf L[j])))∧wr.ownsRow w.heap.size 9 1 (.slice (some ⟨w.heap.size,0,none⟩) L.length L.length) L.length xs∧Up w wr) (fun iv _=>L.length - (intOf iv).toNat)
 case atStart=>exact ⟨0,_,Nat.zero_le _,rfl,fun j _ h=>absurd h (Nat.not_lt_zero _),U.o,M.o⟩
 case round=>
  obtain ⟨i,xs,hi,rfl,s,m,K⟩:=hrel; have HB:=Hd K; have O:=Hd s; have D:Hid (xs.length=L.length):=by have:=m.1; unfold Hid; omega
  by_cases y:i<L.length
  ·obtain ⟨b,off,rfl,hb,E⟩:∃ b off,a=some ⟨b,off,none⟩∧b<w.heap.size∧∀ i (h:i<L.length),w.cell? ⟨b,off+i,none⟩=some (.string (strOf L[i])):=by
    rcases HA.o with h|h
    ·rw [h] at y; exact absurd y (Nat.not_lt_zero _)
    ·exact h
   have k0:=E i y; rw [← K.cell (p:=⟨b,off+i,none⟩) hb] at k0; have T:=Hd (laid1_next (f:=fun x=>.string (strOf x)) D.o s y); obtain ⟨x0,e0⟩:=row_at m i (by omega); have g0:=m.frozenAt i; have J:=(m.stored i (.string (strOf L[i]))).1; have V:=Hd J; clear s m K E J
   go_wp2_with fail
   go_roundw
   case rel=>exact ⟨i+1,_,by omega,by go_num,T.o,V.o,HB.o.setCell (p:=⟨w.heap.size,i,none⟩) leR _⟩
   case measure=>simp [intOf]; omega
  ·have Z:i=L.length:=by omega
   subst Z; have HO:=Hd m; clear m K s
   go_wp2_with fail
   go_ret
   have e:=laid1_all (f:=fun x=>.string (strOf x)) D.o O.o; have ho:=HO.o; rw [e] at ho; exact ⟨_,_,rfl,ho,HB.o⟩
theorem box2 (w:World) (A B:List Value) (ta tb:TypeId):∃ W2,(w.alloc (.cells A.toArray ta)).alloc (.cells B.toArray tb)=W2∧Up w W2∧Bx W2 w.heap.size A∧Bx W2 (w.heap.size+1) B∧W2.heap.size=w.heap.size+1+1:=by
 refine ⟨_,rfl,up_alloc (below_alloc _ _) _,(bx_new w A ta).alloc _,?_,by simp⟩; have h:=bx_new (w.alloc (.cells A.toArray ta)) B tb
 rwa [show (w.alloc (.cells A.toArray ta)).heap.size=w.heap.size+1 by simp] at h
theorem box3 (w:World) (A B C:List Value) (ta tb tc:TypeId):∃ W3,((w.alloc (.cells A.toArray ta)).alloc (.cells B.toArray tb)).alloc (.cells C.toArray tc)=W3∧Up w W3∧Bx W3 w.heap.size A∧Bx W3 (w.heap.size+1) B∧Bx W3 (w.heap.size+1+1) C∧W3.heap.size=w.heap.size+1+1+1:=by
 obtain ⟨W2,h2,hb,j,m,h⟩:=box2 w A B ta tb; refine ⟨_,rfl,?_,?_,?_,?_,?_⟩
 ·rw [h2]; exact up_alloc hb _
 ·rw [h2]; exact j.alloc _
 ·rw [h2]; exact m.alloc _
 ·rw [h2,← h]; exact bx_new W2 C tc
 rw [h2,World.size_alloc,h]
theorem eqStringS_same (v1 v2:Value) (L:List (List UInt8)) (w:World) (h1:StrsAt w v1 L) (h2:StrsAt w v2 L) :
 Calls Tryz.prog 52 #[v1,v2] w fun e w'=>e=.returned (.bool true)∧Up w w':=by
 obtain ⟨O,c1,rfl,V,m1,r1⟩:=h1; obtain ⟨T,c2,rfl,Y,m2,r2⟩:=h2; unfold maxLen at m1 m2; have K:=Hd r1; have M:=Hd r2; clear r1 r2
 go_enter Tryz.func52,Tryz.ntmps52
 go_wp2_with fail
 go_loopw [5] (fun iv wr=>∃ i:Nat,i≤L.length∧iv=.int .i64 (i:Nat)∧Up w wr) (fun iv _=>L.length - (intOf iv).toNat)
 case atStart=>exact ⟨0,Nat.zero_le _,rfl,Below.refl _ _⟩
 case round=>
  obtain ⟨i,U,rfl,m⟩:=hrel; have I:=Hd m
  by_cases j:i<L.length
  ·obtain ⟨b1,rfl,E,u⟩:∃ b,O=some ⟨b,0,none⟩∧b<w.heap.size∧∀ i (h:i<L.length),w.cell? ⟨b,i,none⟩=some (.string (strOf L[i])):=by
    rcases K.o with h|h
    ·rw [h] at j; exact absurd j (Nat.not_lt_zero _)
    ·exact h
   obtain ⟨b2,rfl,H,y⟩:∃ b,T=some ⟨b,0,none⟩∧b<w.heap.size∧∀ i (h:i<L.length),w.cell? ⟨b,i,none⟩=some (.string (strOf L[i])):=by
    rcases M.o with h|h
    ·rw [h] at j; exact absurd j (Nat.not_lt_zero _)
    ·exact h
   have J:=u i j; have m0:=y i j; rw [← m.cell (p:=⟨b1,i,none⟩) E] at J; rw [← m.cell (p:=⟨b2,i,none⟩) H] at m0; generalize strOf L[i]=s at J m0; clear m u y
   go_wp2_with fail
   go_region
   all_goals
    have D:=Hd I.o.drew
    go_wp2_with fail
    go_roundw
    case rel=>exact ⟨i+1,by omega,by go_num,D.o⟩
    case measure=>simp [intOf]; omega
  ·clear m
   go_wp2_with fail
   go_ret
   exact ⟨rfl,I.o⟩
structure Lr where
 cs:List (List UInt8)
 st:Bool
 bd:List UInt8
def ArgRows (w:World) (v:Value) (F:List Lr):Prop:=
 ∃ a c,v=.slice a F.length c∧F.length≤c∧c≤maxLen∧(∀ f∈F,f.bd.length≤maxLen)∧(F=[]∨∃ b off,a=some ⟨b,off,none⟩∧b<w.heap.size∧∀ i (h:i<F.length),(∃ va,w.cell? ⟨b,off+i*3,none⟩=some va∧ArgStrs w va F[i].cs)∧w.cell? ⟨b,off+i*3+1,none⟩=some (.bool F[i].st)∧w.cell? ⟨b,off+i*3+2,none⟩=some (.string (strOf F[i].bd)))
theorem ArgRows.below {w w':World} {v:Value} {F:List Lr} (h:ArgRows w v F) (hb:Up w w'):ArgRows w' v F:=by
 obtain ⟨a,c,rfl,m,h2,h3,h4⟩:=h; refine ⟨a,c,rfl,m,h2,h3,?_⟩
 rcases h4 with h|⟨b,off,rfl,j,s⟩
 ·exact .inl h
 refine .inr ⟨b,off,rfl,Nat.lt_of_lt_of_le j hb.size,fun i hi=>?_⟩; obtain ⟨⟨va,y,u⟩,D,k2⟩:=s i hi; exact ⟨⟨va,(hb.cell (p:=⟨b,off+i*3,none⟩) j).trans y,u.below hb⟩,(hb.cell (p:=⟨b,off+i*3+1,none⟩) j).trans D,(hb.cell (p:=⟨b,off+i*3+2,none⟩) j).trans k2⟩
def RowsAt (w:World) (v:Value) (F:List Lr):Prop:=
 ∃ p c,v=.slice p F.length c∧F.length≤c∧c≤maxLen∧(F=[]∨∃ b,p=some ⟨b,0,none⟩∧b<w.heap.size∧∀ i (h:i<F.length),(∃ va,w.cell? ⟨b,i*3,none⟩=some va∧StrsAt w va F[i].cs)∧w.cell? ⟨b,i*3+1,none⟩=some (.bool F[i].st)∧w.cell? ⟨b,i*3+2,none⟩=some (.string (strOf F[i].bd)))
theorem RowsAt.below {w w':World} {v:Value} {F:List Lr} (h:RowsAt w v F) (hb:Up w w'):RowsAt w' v F:=by
 obtain ⟨a,c,rfl,m,h2,h4⟩:=h; refine ⟨a,c,rfl,m,h2,?_⟩
 rcases h4 with h|⟨b,rfl,j,s⟩
 ·exact .inl h
 refine .inr ⟨b,rfl,Nat.lt_of_lt_of_le j hb.size,fun i hi=>?_⟩; obtain ⟨⟨va,y,u⟩,D,k2⟩:=s i hi; exact ⟨⟨va,(hb.cell (p:=⟨b,i*3,none⟩) j).trans y,u.below hb⟩,(hb.cell (p:=⟨b,i*3+1,none⟩) j).trans D,(hb.cell (p:=⟨b,i*3+2,none⟩) j).trans k2⟩
def SmallR (f:Lr):Prop:=SmallS f.cs∧f.bd.length≤1048576
theorem szLinRow_any (f:Lr) (va:Value) (z0:Nat) (w:World) (h:ArgStrs w va f.cs) (hs:f.bd.length≤maxLen) (hz0:z0≤1048576) :
 Calls Tryz.prog 20 #[.agg #[va,.bool f.st,.string (strOf f.bd)],.int .i64 (z0:Nat)] w (Sized (SmallR f) w):=by
 have H:=Hd h; obtain ⟨a,c,rfl,-,-,-,-⟩:=h; have T:=strOf_size f.bd; obtain ⟨D,h2⟩:∃ s,strOf f.bd=s:=⟨_,rfl⟩; rw [h2] at T ⊢; unfold maxLen at hs; have x2:(D.size:Int)≤9223372036854775807:=by omega
 have J:=Hd T; clear h2 T; obtain ⟨O,y⟩:=exW (w.alloc (.cells #[.slice a f.cs.length c,.bool f.st,.string D] 44)); have j:Hid (Up w O):=by unfold Hid; rw [← y]; exact below_alloc _ _
 have E:Hid (Bx O w.heap.size [.slice a f.cs.length c,.bool f.st,.string D]):=by unfold Hid; rw [← y]; exact bx_new w _ _
 have M:=Hd y; clear y
 go_enter Tryz.func20,Tryz.ntmps20
 go_wp2_with fail
 rw [M.o]; refine (szStringS_any _ f.cs z0 O (H.o.below j.o) hz0).mono ?_; rintro e U ⟨(rfl|⟨z2,V,rfl,I⟩),m⟩
 ·have u:Hid (Up w U):=j.o.trans (m.mono j.o.size); clear m
  go_wp2_with fail
  go_ret
  exact ⟨.inl rfl,u.o⟩
 have u:Hid (Up w U):=j.o.trans (m.mono j.o.size); have K:=Hd I; obtain ⟨b0,b1,b2⟩:=(E.o.below E.o.lt m).c3; have y2:decide ((z2:Int)<0)=false:=by rw [decide_eq_false_iff_not]; omega
 clear m I
 by_cases Z:z2<D.size
 ·have Y:decide ((z2:Int) - (D.size:Int)<0)=true:=by rw [decide_eq_true_iff]; omega
  go_wp2_with fail
  go_ret
  exact ⟨.inl rfl,u.o⟩
 have Y:decide ((z2:Int) - (D.size:Int)<0)=false:=by rw [decide_eq_false_iff_not]; omega
 go_wp2_with fail
 go_ret
 exact ⟨.inr ⟨z2 - D.size,by omega,by go_num,K.o,by have:=J.o; omega⟩,u.o⟩
theorem szLinRowS_any (v:Value) (F:List Lr) (z0:Nat) (w:World) (h:ArgRows w v F) (hz0:z0≤1048576) :
 Calls Tryz.prog 5 #[v,.int .i64 (z0:Nat)] w (Sized (F.length≤1048576∧∀ f∈F,SmallR f) w):=by
 obtain ⟨a,c,rfl,hc,a5,U,M⟩:=h; unfold maxLen at a5; have HA:=Hd M; have Y:=Hd U; clear M U
 by_cases hl:z0<F.length
 ·have y:decide ((z0:Int) - (F.length:Int)<0)=true:=by rw [decide_eq_true_iff]; omega
  go_enter Tryz.func5,Tryz.ntmps5
  go_wp2_with fail
  go_ret
  exact ⟨.inl rfl,Below.refl _ _⟩
 have y:decide ((z0:Int) - (F.length:Int)<0)=false:=by rw [decide_eq_false_iff_not]; omega
 go_enter Tryz.func5,Tryz.ntmps5
 go_wp2_with fail
 go_loopw [1,5] (fun zv iv wr=>∃ (i z:Nat),i≤F.length∧z≤1048576∧zv=.int .i64 (z:Nat)∧iv=.int .i64 (i:Nat)∧(∀ j (h:j<F.length),j<i→SmallR F[j])∧Up w wr) (fun _ iv _=>F.length - (intOf iv).toNat)
 case atStart=>exact ⟨0,z0 - F.length,Nat.zero_le _,by omega,by go_num,rfl,fun j _ h=>absurd h (Nat.not_lt_zero _),Below.refl _ _⟩
 case round=>
  obtain ⟨i,z,hi,hz,rfl,rfl,T,E⟩:=hrel; have K:=Hd T; have J:=Hd E; clear T
  by_cases u:i<F.length
  ·obtain ⟨b,off,rfl,hb,M⟩:∃ b off,a=some ⟨b,off,none⟩∧b<w.heap.size∧∀ i (h:i<F.length),(∃ va,w.cell? ⟨b,off+i*3,none⟩=some va∧ArgStrs w va F[i].cs)∧w.cell? ⟨b,off+i*3+1,none⟩=some (.bool F[i].st)∧w.cell? ⟨b,off+i*3+2,none⟩=some (.string (strOf F[i].bd)):=by
    rcases HA.o with h|h
    ·rw [h] at u; exact absurd u (Nat.not_lt_zero _)
    ·exact h
   obtain ⟨⟨va,k0,I⟩,k1,k2⟩:=M i u; rw [← E.cell (p:=⟨b,off+i*3,none⟩) hb] at k0; rw [← E.cell (p:=⟨b,off+i*3+1,none⟩) hb] at k1; rw [← E.cell (p:=⟨b,off+i*3+2,none⟩) hb] at k2; have H:=Y.o _ (List.getElem_mem u); obtain ⟨f,hf⟩:=exW (F[i]); have HF:=Hd hf; rw [hf] at k1 k2 I H; have a3:=Hd (I.below E); have Z:=Hd H; obtain ⟨pa,ca,rfl,-,-,-,-⟩:=I; clear hf E M H
   go_wp2_with fail
   refine (szLinRow_any f _ z _ a3.o Z.o hz).mono ?_; rintro e w2 ⟨(rfl|⟨z2,a8,rfl,O⟩),m⟩
   ·have D:Hid (Up w w2):=J.o.trans (m.mono J.o.size); clear m
    go_wp2_with fail
    go_ret
    exact ⟨.inl rfl,D.o⟩
   ·have D:Hid (Up w w2):=J.o.trans (m.mono J.o.size); have V:=Hd O; have y2:decide ((z2:Int)<0)=false:=by rw [decide_eq_false_iff_not]; omega
    clear m O
    go_wp2_with fail
    go_roundw
    case rel=>
     refine ⟨i+1,z2,by omega,a8,by go_num,by go_num,fun j hj hji=>?_,D.o⟩
     by_cases e:j=i
     ·subst e; rw [HF.o]; exact V.o
     ·exact K.o j hj (by omega)
    case measure=>simp [intOf]; omega
  ·have a7:i=F.length:=by omega
   subst a7; clear E
   go_wp2_with fail
   go_ret
   refine ⟨.inr ⟨z,hz,rfl,by omega,fun s hs=>?_⟩,J.o⟩; obtain ⟨j,hj,rfl⟩:=List.getElem_of_mem hs; exact K.o j hj hj
theorem info_row0:(Tryz.prog.info? 50).map (fun i=>(i.zero,i.size,i.bytes))=some (some (.agg #[.slice none 0 0,.bool false,.string ⟨#[]⟩]),3,48):=by kernel_rfl
theorem info_row:∃ i:TypeInfo,Tryz.prog.info? 50=some i∧i.zero=some (.agg #[.slice none 0 0,.bool false,.string ⟨#[]⟩])∧i.size=3∧i.bytes=48:=info_parts info_row0
theorem toLinRow_any (f:Lr) (va:Value) (w:World) (h:ArgStrs w va f.cs) (hs:SmallS f.cs) :
 Calls Tryz.prog 25 #[.agg #[va,.bool f.st,.string (strOf f.bd)]] w fun e w'=>∃ g c,e=.returned (.agg #[.slice (some ⟨g,0,none⟩) f.cs.length c,.bool f.st,.string (strOf f.bd)])∧w'.ownsRow w.heap.size 9 1 (.slice (some ⟨g,0,none⟩) f.cs.length c) f.cs.length (strsC f.cs)∧Up w w':=by
 have H:=Hd h; obtain ⟨a,c,rfl,-,-,-,-⟩:=h
 go_enter Tryz.func25,Tryz.ntmps25
 go_wp2_with fail
 obtain ⟨W3,T,V,x1,x2,x3,D⟩:=box3 w [.slice a f.cs.length c,.bool f.st,.string (strOf f.bd)] [.slice none 0 0,.bool false,.string ⟨#[]⟩] [.slice none 0 0,.bool false,.string ⟨#[]⟩] 44 50 50; rw [T]; clear T; have u:=Hd V; have J:=Hd x1; have K:=Hd x2; have M:=Hd x3; have Z:=Hd D; clear V x1 x2 x3 D; refine (toStringS_any _ f.cs W3 (H.o.below u.o) hs).mono ?_; rintro e w4 ⟨g4,c4,rfl,s,m⟩; have Y:Hid (Up w w4):=u.o.trans (m.mono u.o.size); have I:=Hd s; have a3:=Hd (J.o.below J.o.lt m); have j:=Hd (K.o.below K.o.lt m); have y:=Hd (M.o.below M.o.lt m); clear s m; obtain ⟨b0,b1,b2⟩:=a3.o.c3; obtain ⟨d0,d1,d2⟩:=j.o.c3; obtain ⟨q0,q1,q2⟩:=y.o.c3; have f0:=j.o.frozen 0; have f1:=j.o.frozen 1; have f2:=j.o.frozen 2; have r0:=y.o.frozen 0; have r1:=y.o.frozen 1; have r2:=y.o.frozen 2
 go_wp2_with fail
 clear b0 b1 b2 d0 d1 d2 q0 q1 q2 f0 f1 f2 r0 r1 r2; generalize hU:Value.slice (some ⟨g4,0,none⟩) f.cs.length c4=U; have E:w.heap.size+1≠w.heap.size+1+1:=by omega
 have hA:Bx (((w4.setCell ⟨w.heap.size+1+1,0,none⟩ U).setCell ⟨w.heap.size+1+1,1,none⟩ (.bool f.st)).setCell ⟨w.heap.size+1+1,2,none⟩ (.string (strOf f.bd))) (w.heap.size+1) [.slice none 0 0,.bool false,.string ⟨#[]⟩]:=by
  obtain ⟨ty,hh⟩:=j.o; refine ⟨ty,?_⟩; rw [Below.heap_setCell _ ⟨w.heap.size+1+1,2,none⟩ _ _ E,Below.heap_setCell _ ⟨w.heap.size+1+1,1,none⟩ _ _ E,Below.heap_setCell _ ⟨w.heap.size+1+1,0,none⟩ _ _ E]; exact hh
 have hE:=((hA.set 0 U).set 1 (.bool f.st)).set 2 (.string (strOf f.bd)); have O:=(((((Y.o.setCell (p:=⟨w.heap.size+1+1,0,none⟩) (by show _≤w.heap.size+1+1; omega) U).setCell (p:=⟨w.heap.size+1+1,1,none⟩) (by show _≤w.heap.size+1+1; omega) (.bool f.st)).setCell (p:=⟨w.heap.size+1+1,2,none⟩) (by show _≤w.heap.size+1+1; omega) (.string (strOf f.bd))).setCell (p:=⟨w.heap.size+1,0,none⟩) (by show _≤w.heap.size+1; omega) U).setCell (p:=⟨w.heap.size+1,1,none⟩) (by show _≤w.heap.size+1; omega) (.bool f.st)).setCell (p:=⟨w.heap.size+1,2,none⟩) (by show _≤w.heap.size+1; omega) (.string (strOf f.bd)); have hO:((((((w4.setCell ⟨w.heap.size+1+1,0,none⟩ U).setCell ⟨w.heap.size+1+1,1,none⟩ (.bool f.st)).setCell ⟨w.heap.size+1+1,2,none⟩ (.string (strOf f.bd))).setCell ⟨w.heap.size+1,0,none⟩ U).setCell ⟨w.heap.size+1,1,none⟩ (.bool f.st)).setCell ⟨w.heap.size+1,2,none⟩ (.string (strOf f.bd))).ownsRow w.heap.size 9 1 (.slice (some ⟨g4,0,none⟩) f.cs.length c4) f.cs.length (strsC f.cs):=by
  refine own_lower (own_other' I.o (fun g hg=>?_)) u.o.size; have d6:=own_base I.o g hg; have D:=Z.o; have n1:g≠w.heap.size+1:=by omega
  have n2:g≠w.heap.size+1+1:=by omega
  rw [Below.heap_setCell _ ⟨w.heap.size+1,2,none⟩ _ _ n1,Below.heap_setCell _ ⟨w.heap.size+1,1,none⟩ _ _ n1,Below.heap_setCell _ ⟨w.heap.size+1,0,none⟩ _ _ n1,Below.heap_setCell _ ⟨w.heap.size+1+1,2,none⟩ _ _ n2,Below.heap_setCell _ ⟨w.heap.size+1+1,1,none⟩ _ _ n2,Below.heap_setCell _ ⟨w.heap.size+1+1,0,none⟩ _ _ n2]
 obtain ⟨e0,e1,e2⟩:=hE.c3; refine bodyPost_ret (v:=.agg #[U,.bool f.st,.string (strOf f.bd)]) ?_ rfl ⟨g4,c4,by rw [hU],hO,O⟩; clear hA hE O hO; simp [results,Tryz.results25,go_sem,e0,e1,e2]
def LaidR (wr:World) (N:Nat) (xs:List Value) (F:List Lr) (i:Nat):Prop:=
 ∀ j (h:j<F.length),j<i→(∃ va,xs[j*3]? = some va∧wr.ownsRow N 9 1 va F[j].cs.length (strsC F[j].cs))∧xs[j*3+1]? = some (.bool F[j].st)∧xs[j*3+2]? = some (.string (strOf F[j].bd))
theorem LaidR.next {wr wr':World} {N:Nat} {xs:List Value} {F:List Lr} {i:Nat} (hx:xs.length=F.length*3) (h:LaidR wr N xs F i) (hi:i<F.length) {va:Value} (hk:∀ k,N≤k→k<wr.heap.size→wr'.heap[k]? = wr.heap[k]?) (hva:wr'.ownsRow N 9 1 va F[i].cs.length (strsC F[i].cs)) :
 LaidR wr' N (((xs.set (i*3) va).set (i*3+1) (.bool F[i].st)).set (i*3+2) (.string (strOf F[i].bd))) F (i+1):=by
 intro j m s
 by_cases e:j=i
 ·subst e; refine ⟨⟨va,?_,hva⟩,?_,?_⟩
  ·rw [List.getElem?_set_ne (by omega),List.getElem?_set_ne (by omega),List.getElem?_set_self (by omega)]
  ·rw [List.getElem?_set_ne (by omega),List.getElem?_set_self (by simp; omega)]
  rw [List.getElem?_set_self (by simp; omega)]
 obtain ⟨⟨u,y,hb⟩,D,h2⟩:=h j m (by omega); refine ⟨⟨u,?_,own_other' hb (fun g hg=>hk g (own_base hb g hg) (hb.lt g hg).2)⟩,?_,?_⟩<;>rw [List.getElem?_set_ne (by omega),List.getElem?_set_ne (by omega),List.getElem?_set_ne (by omega)]<;>assumption
theorem eqLinRow_same (f:Lr) (va vb:Value) (w:World) (h1:StrsAt w va f.cs) (h2:StrsAt w vb f.cs) :
 Calls Tryz.prog 28 #[.agg #[va,.bool f.st,.string (strOf f.bd)],.agg #[vb,.bool f.st,.string (strOf f.bd)]] w fun e w'=>e=.returned (.bool true)∧Up w w':=by
 have J:=Hd h1; have K:=Hd h2; obtain ⟨M,c1,rfl,-,-,-⟩:=h1; obtain ⟨O,c2,rfl,-,-,-⟩:=h2; generalize strOf f.bd=E
 go_enter Tryz.func28,Tryz.ntmps28
 go_wp2_with fail
 obtain ⟨W2,u,y,H,I,-⟩:=box2 w [.slice M f.cs.length c1,.bool f.st,.string E] [.slice O f.cs.length c2,.bool f.st,.string E] 50 50; have h:=Hd y; have m:=Hd H; have s:=Hd I; rw [u]; clear u y H I; refine (eqStringS_same _ _ f.cs W2 (J.o.below h.o) (K.o.below h.o)).mono ?_; rintro e T ⟨rfl,j⟩; have D:Hid (Up w T):=h.o.trans (j.mono h.o.size); obtain ⟨b0,b1,b2⟩:=(m.o.below m.o.lt j).c3; obtain ⟨U,V,Y⟩:=(s.o.below s.o.lt j).c3; clear j
 cases f.st
 all_goals
  go_wp2_with fail
  go_ret
  exact ⟨rfl,D.o⟩
theorem eqLinRowS_same (v1 v2:Value) (L:List Lr) (w:World) (h1:RowsAt w v1 L) (h2:RowsAt w v2 L) :
 Calls Tryz.prog 10 #[v1,v2] w fun e w'=>e=.returned (.bool true)∧Up w w':=by
 obtain ⟨p1,c1,rfl,l1,m1,r1⟩:=h1; obtain ⟨p2,c2,rfl,l2,m2,r2⟩:=h2; unfold maxLen at m1 m2; have H1:=Hd r1; have H2:=Hd r2; clear r1 r2
 go_enter Tryz.func10,Tryz.ntmps10
 go_wp2_with fail
 go_loopw [5] (fun iv wr=>∃ i:Nat,i≤L.length∧iv=.int .i64 (i:Nat)∧Up w wr) (fun iv _=>L.length - (intOf iv).toNat)
 case atStart=>exact ⟨0,Nat.zero_le _,rfl,Below.refl _ _⟩
 case round=>
  obtain ⟨i,hi,rfl,T⟩:=hrel; have m:=Hd T
  by_cases j:i<L.length
  ·obtain ⟨b1,rfl,s,I⟩:∃ b,p1=some ⟨b,0,none⟩∧b<w.heap.size∧∀ i (h:i<L.length),(∃ va,w.cell? ⟨b,i*3,none⟩=some va∧StrsAt w va L[i].cs)∧w.cell? ⟨b,i*3+1,none⟩=some (.bool L[i].st)∧w.cell? ⟨b,i*3+2,none⟩=some (.string (strOf L[i].bd)):=by
    rcases H1.o with h|h
    ·rw [h] at j; exact absurd j (Nat.not_lt_zero _)
    ·exact h
   obtain ⟨b2,rfl,u,J⟩:∃ b,p2=some ⟨b,0,none⟩∧b<w.heap.size∧∀ i (h:i<L.length),(∃ va,w.cell? ⟨b,i*3,none⟩=some va∧StrsAt w va L[i].cs)∧w.cell? ⟨b,i*3+1,none⟩=some (.bool L[i].st)∧w.cell? ⟨b,i*3+2,none⟩=some (.string (strOf L[i].bd)):=by
    rcases H2.o with h|h
    ·rw [h] at j; exact absurd j (Nat.not_lt_zero _)
    ·exact h
   obtain ⟨⟨va,k0,D⟩,U,k2⟩:=I i j; obtain ⟨⟨vb,m0,E⟩,m1,m2⟩:=J i j; obtain ⟨f,Z⟩:=exW (L[i]); rw [Z] at U k2 m1 m2 D E; have M:=Hd D; have O:=Hd E; obtain ⟨pa,V,rfl,-,-,-⟩:=D; obtain ⟨pb,Y,rfl,-,-,-⟩:=E; have H:Hid (∀ W,Up w W→W.cell? ⟨b1,i*3,none⟩=some (.slice pa f.cs.length V)∧W.cell? ⟨b1,i*3+1,none⟩=some (.bool f.st)∧W.cell? ⟨b1,i*3+2,none⟩=some (.string (strOf f.bd))∧W.cell? ⟨b2,i*3,none⟩=some (.slice pb f.cs.length Y)∧W.cell? ⟨b2,i*3+1,none⟩=some (.bool f.st)∧W.cell? ⟨b2,i*3+2,none⟩=some (.string (strOf f.bd))):=fun W h=>⟨(h.cell (p:=⟨b1,i*3,none⟩) s).trans k0,(h.cell (p:=⟨b1,i*3+1,none⟩) s).trans U,(h.cell (p:=⟨b1,i*3+2,none⟩) s).trans k2,(h.cell (p:=⟨b2,i*3,none⟩) u).trans m0,(h.cell (p:=⟨b2,i*3+1,none⟩) u).trans m1,(h.cell (p:=⟨b2,i*3+2,none⟩) u).trans m2⟩; clear T I J Z k0 U k2 m0 m1 m2; have i1:(i:Int)<(L.length:Int):=by omega
   go_wp2_with fail
   go_region_held3 (fun W=>W.cell? ⟨b1,i*3,none⟩=some (.slice pa f.cs.length V)∧W.cell? ⟨b1,i*3+1,none⟩=some (.bool f.st)∧W.cell? ⟨b1,i*3+2,none⟩=some (.string (strOf f.bd))∧W.cell? ⟨b2,i*3,none⟩=some (.slice pb f.cs.length Y)∧W.cell? ⟨b2,i*3+1,none⟩=some (.bool f.st)∧W.cell? ⟨b2,i*3+2,none⟩=some (.string (strOf f.bd)))
    (first
      | exact H.o _ m.o.drew
      | exact H.o _ (m.o.drew.trans (y.mono m.o.size)))
    ((go_at_call 28; refine (eqLinRow_same f _ _ _ (M.o.below m.o.drew) (O.o.below m.o.drew)).mono ?_; rintro e w2 ⟨rfl,y⟩))
   all_goals
    have K:Hid (Up w w2):=m.o.drew.trans (y.mono m.o.size); clear y
    go_wp2_with fail
    go_roundw
    case rel=>exact ⟨i+1,by omega,by go_num,K.o⟩
    case measure=>simp [intOf]; omega
  ·clear T
   go_wp2_with fail
   go_ret
   exact ⟨rfl,m.o⟩
theorem strOf_data (s:ByteArray):strOf s.data.toList=s:=by simp [strOf]
theorem three_of {cs:List Value} (h:cs.length=3):∃ v0 v1 v2,cs=[v0,v1,v2]:=by
 match cs,h with
 | [v0,v1,v2],_=>exact ⟨v0,v1,v2,rfl⟩
theorem list_of {α:Type} {Q:Nat→α→Prop}:∀ n:Nat,(∀ i,i<n→∃ x,Q i x)→∃ l:List α,l.length=n∧∀ i (h:i<l.length),Q i l[i]
 | 0,_=>⟨[],rfl,fun i h=>absurd h (Nat.not_lt_zero _)⟩
 | n+1,h=>by
   obtain ⟨l,hl,m⟩:=list_of n (fun i hi=>h i (by omega))
   obtain ⟨x,s⟩:=h n (by omega)
   refine ⟨l++[x],by simp [hl],fun i hi=>?_⟩
   by_cases e:i<l.length
   ·rw [List.getElem_append_left e]; exact m i e
   ·have j:i=l.length:=by simp at hi; omega
    subst j
    rw [List.getElem_append_right leR]
    simp only [Nat.sub_self,List.getElem_cons_zero]
    rw [hl]; exact s
theorem add0 (b off k:Nat):(⟨b,off,none⟩:Addr).add k=⟨b,off+k,none⟩:=by simp [Addr.add]
theorem strs_of {H:Type} {enc:TypeId×Value→H} {W:World} {v:Value} {fuel:Nat} {x:DataW H×List MemPlace}
 (h:DataW.trod enc Tryz.prog W 0 (fun _=>true) true fuel 42 [v]=some x):∃ L,ArgStrs W v L:=by
 rcases Go.Deep.open_slice Tryz.underlying42 h with ⟨u,_⟩|⟨A,l,c,m,n,D,Pl,u,_,hl,hm,T,_,Z⟩
 ·simp only [List.cons.injEq,and_true] at u; subst u; exact ⟨[],_,_,rfl,Nat.zero_le _,Nat.zero_le _,fun s hs=>(by cases hs),.inl rfl⟩
 simp only [List.cons.injEq,and_true] at u; subst u; have O:Tryz.prog.cellsOf 9=1:=by kernel_rfl
 simp only [if_true] at T; rw [O] at Z; have J:∀ i,i<l→∃ s:List UInt8,W.cell? (A.add i)=some (.string (strOf s))∧s.length≤maxLen:=by
  intro i hi; obtain ⟨cs,h1,h2⟩:=Z i (by omega); obtain ⟨_,Y,E⟩:=World.cells?_some h1; obtain ⟨s,e,_,hw⟩:=DataW.trod_string Tryz.underlying9 h2; subst e; have y:=E 0 (by decide); refine ⟨s.data.toList,?_,Nat.le_trans (Nat.le_of_eq Array.length_toList) hw⟩; rw [strOf_data]
  simpa [Addr.add] using y
 obtain ⟨L,hL,U⟩:=list_of l J; subst hL; refine ⟨L,_,_,rfl,by omega,hm,fun s hs=>?_,?_⟩
 ·obtain ⟨j,hj,rfl⟩:=List.getElem_of_mem hs; exact (U j hj).2
 by_cases V:L=[]
 ·exact .inl V
 right
 have K:0<L.length:=List.length_pos_iff.2 V; obtain ⟨b,off,M⟩:=A; have y:=(U 0 K).1; have I:M=none:=by simpa [Addr.add] using World.cell?_spot y
 subst I; refine ⟨b,off,rfl,?_,fun i hi=>?_⟩
 ·have:=World.block_lt_of_cell? W _ y
  simpa [Addr.add] using this
 have:=(U i hi).1
 rwa [add0] at this
theorem row_of {H:Type} {enc:TypeId×Value→H} {W:World} {cs:List Value} {fuel:Nat} {x:DataW H×List MemPlace}
 (h:DataW.trod enc Tryz.prog W 0 (fun _=>true) true fuel 44 cs=some x):∃ (f:Lr) (va:Value),cs=[va,.bool f.st,.string (strOf f.bd)]∧ArgStrs W va f.cs∧f.bd.length≤maxLen:=by
 obtain ⟨s,k,_,_,j,D,y⟩:=DataW.trod_struct Tryz.underlying44 h; have c3:Tryz.prog.cellsOf 44=3:=by kernel_rfl
 have M:Tryz.prog.cellsOf 9=1:=by kernel_rfl
 have c4:Tryz.prog.cellsOf 4=1:=by kernel_rfl
 have u:Tryz.prog.cellsOf 42=1:=by kernel_rfl
 rw [c3] at j; obtain ⟨m,E,I,rfl⟩:=three_of j; have K:s.length=3:=D; have f0:DataW.trod enc Tryz.prog W 0 (fun _=>true) true k 42 (List.take (Tryz.prog.cellsOf 42) (List.drop 0 [m,E,I]))=s[0]? := y 0 _ rfl; have f1:DataW.trod enc Tryz.prog W 0 (fun _=>true) true k 4 (List.take (Tryz.prog.cellsOf 4) (List.drop 1 [m,E,I]))=s[1]? := y 1 _ rfl; have f2:DataW.trod enc Tryz.prog W 0 (fun _=>true) true k 9 (List.take (Tryz.prog.cellsOf 9) (List.drop 2 [m,E,I]))=s[2]? := y 2 _ rfl; rw [u,List.getElem?_eq_getElem (by omega)] at f0; rw [c4,List.getElem?_eq_getElem (by omega)] at f1; rw [M,List.getElem?_eq_getElem (by omega)] at f2; obtain ⟨b1,e1,_⟩:=DataW.trod_bool Tryz.underlying4 f1; obtain ⟨T,J,_,U⟩:=DataW.trod_string Tryz.underlying9 f2; obtain ⟨L,O⟩:=strs_of (v:=m) (by simpa using f0); simp at e1 J; subst e1 J; exact ⟨⟨L,b1,T.data.toList⟩,m,by rw [strOf_data],O,Nat.le_trans (Nat.le_of_eq Array.length_toList) U⟩
theorem rows_of {H:Type} {enc:TypeId×Value→H} {W:World} {v:Value} {fuel:Nat} {x:DataW H×List MemPlace}
 (h:DataW.trod enc Tryz.prog W 0 (fun _=>true) true fuel 23 [v]=some x):∃ F,ArgRows W v F:=by
 rcases Go.Deep.open_slice Tryz.underlying23 h with ⟨y,_⟩|⟨A,l,c,m,n,D,Pl,y,_,hl,hm,U,_,Z⟩
 ·simp only [List.cons.injEq,and_true] at y; subst y; exact ⟨[],_,_,rfl,Nat.zero_le _,Nat.zero_le _,fun s hs=>(by cases hs),.inl rfl⟩
 simp only [List.cons.injEq,and_true] at y; subst y; have T:Tryz.prog.cellsOf 44=3:=by kernel_rfl
 simp only [if_true] at U; rw [T] at Z; have J:∀ i,i<l→∃ f:Lr,((∃ va,W.cell? ((A.add (i*3)).add 0)=some va∧ArgStrs W va f.cs)∧W.cell? ((A.add (i*3)).add 1)=some (.bool f.st)∧W.cell? ((A.add (i*3)).add 2)=some (.string (strOf f.bd)))∧f.bd.length≤maxLen:=by
  intro i hi; obtain ⟨cs,h1,h2⟩:=Z i (by omega); obtain ⟨_,_,u⟩:=World.cells?_some h1; obtain ⟨f,va,rfl,I,hs⟩:=row_of h2; exact ⟨f,⟨⟨va,u 0 (by decide),I⟩,u 1 (by decide),u 2 (by decide)⟩,hs⟩
 obtain ⟨L,hL,V⟩:=list_of l J; subst hL; refine ⟨L,_,_,rfl,by omega,hm,fun s hs=>?_,?_⟩
 ·obtain ⟨j,hj,rfl⟩:=List.getElem_of_mem hs; exact (V j hj).2
 by_cases Y:L=[]
 ·exact .inl Y
 right
 have M:0<L.length:=List.length_pos_iff.2 Y; obtain ⟨b,off,O⟩:=A; obtain ⟨b3,K,_⟩:=(V 0 M).1.1; have E:O=none:=by simpa [Addr.add] using World.cell?_spot K
 subst E; refine ⟨b,off,rfl,?_,fun i hi=>?_⟩
 ·have:=World.block_lt_of_cell? W _ K
  simpa [Addr.add] using this
 obtain ⟨⟨⟨va,k0,I⟩,k1,k2⟩,_⟩:=V i hi; simp only [add0] at k0 k1 k2; exact ⟨⟨va,k0,I⟩,k1,k2⟩
end Go.Proofs.YtfclfbpjjlinhaaGreatDoor.L
