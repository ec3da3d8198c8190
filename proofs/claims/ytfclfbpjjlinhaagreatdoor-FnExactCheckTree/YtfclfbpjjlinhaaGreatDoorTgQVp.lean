import Derived.Test.YtfclfbpjjlinhaaGreatDoorTgBp
import Derived.Deep.RegionHeld3
import Derived.HandedShaped
import Derived.Shelf.Vars
import Derived.Deep.Slices
set_option maxRecDepth 100000
set_option maxHeartbeats 4000000
namespace Go.Proofs.YtfclfbpjjlinhaaGreatDoor.L
open Go.ChangeShapes Go.WideShapes Go.ChangeAt Go.RowKit
theorem RRow.zero {base B:Nat} {W:World} {v:Value} {G:List Nr} (h:RRow base B W v G):RRow base 0 W v G:=by
 obtain ⟨s,j,h2⟩:=h; refine ⟨s,j,fun i hi=>?_⟩; obtain ⟨va,c0,c1,c2,c3,c4,c5,e,m,hb⟩:=(h2 i hi).ex; exact ⟨va,c0,c1,c2,c3,c4,c5,e,m.mono (Nat.zero_le _),hb.mono (Nat.zero_le _)⟩
theorem nr_mem {F:List Lr} {n:Nr} (h:n∈F.map nrOf):∃ f∈F,n=nrOf f:=by
 obtain ⟨f,j,rfl⟩:=List.mem_map.1 h; exact ⟨f,j,rfl⟩
theorem flag_small {cols:Int} {Wh:List Bool} {F:List Lr} (h:flagOk cols Wh F=true):F.length≤50∧Wh.length≤20:=by
 unfold flagOk at h; obtain ⟨j,h2⟩:=Bool.and_eq_true_iff.1 h; have h2:=of_decide_eq_true h2; unfold goodR at j; have h3:=of_decide_eq_true (Bool.and_eq_true_iff.1 j).1; omega
theorem Tight.len {Wh:List Bool} {f n:Nr} (h:Tight Wh f n):n.cs.length=f.cs.length:=by
 obtain ⟨g,_,h⟩:=h
 rcases h with ⟨_,rfl⟩|⟨_,_,e,_⟩
 ·rfl
 exact e
def SlB (w:World) (g:Nat) (e:TypeId) (n:Nat):Prop:=∃ cur:Array Value,w.heap[g]? = some (.cells cur e (0,0))∧n≤cur.size
theorem SlB.lt {w:World} {g n:Nat} {e:TypeId} (h:SlB w g e n):g<w.heap.size:=by
 obtain ⟨j,h,_⟩:=h; exact (Array.getElem?_eq_some_iff.1 h).1
theorem SlB.cell {w:World} {g n:Nat} {e:TypeId} (h:SlB w g e n) {i:Nat} (hi:i<n):∃ x,w.cell? ⟨g,i,none⟩=some x:=by
 obtain ⟨j,h,hn⟩:=h; exact ⟨j[i]'(by omega),by unfold World.cell?; simp only [h]; simp⟩
theorem SlB.frozen {w:World} {g n:Nat} {e:TypeId} (h:SlB w g e n) (i:Nat):w.frozen? ⟨g,i,none⟩=false:=by
 obtain ⟨j,h,_⟩:=h; unfold World.frozen?; simp only [h]; simp
theorem SlB.set {w:World} {g n:Nat} {e:TypeId} (h:SlB w g e n) (b i:Nat) (v:Value):SlB (w.setCell ⟨b,i,none⟩ v) g e n:=by
 obtain ⟨j,h,hn⟩:=h
 by_cases e:g=b
 ·subst e; exact ⟨_,heap_setCell_same w g i j _ v h,by simpa using hn⟩
 exact ⟨j,(Below.heap_setCell w ⟨b,i,none⟩ v g e).trans h,hn⟩
theorem SlB.keep {w w':World} {g n:Nat} {e:TypeId} (h:SlB w g e n) (hk:w'.heap[g]? = w.heap[g]?):SlB w' g e n:=by
 obtain ⟨j,h,hn⟩:=h; exact ⟨j,hk.trans h,hn⟩
def RwB (w:World) (N0 N1:Nat) (e:TypeId) (s:Nat) (v:Value) (n:Nat):Prop:=
 ∃ p c,v=.slice p n c∧n≤c∧c≤maxLen∧((n=0∧((p=none∧c=0)∨∃ g,p=some ⟨g,0,none⟩))∨∃ g,p=some ⟨g,0,none⟩∧N0≤g∧g<N1∧SlB w g e (n*s))
theorem RwB.mk {w w':World} {N0 N1 n s:Nat} {e:TypeId} {v:Value} (h:RwB w N0 N1 e s v n) (hs:∀ g e n,SlB w g e n→SlB w' g e n):RwB w' N0 N1 e s v n:=by
 obtain ⟨p,c,rfl,y,D,j⟩:=h; refine ⟨p,c,rfl,y,D,?_⟩
 rcases j with j|⟨g,rfl,m,u,j⟩
 ·exact .inl j
 exact .inr ⟨g,rfl,m,u,hs _ _ _ j⟩
theorem cell_heap {w w':World} {g i:Nat} (h:w'.heap[g]? = w.heap[g]?):w'.cell? ⟨g,i,none⟩=w.cell? ⟨g,i,none⟩:=by unfold World.cell?; simp only [h]
def digsM:Nat→Nat→List UInt8→List UInt8
 | 0,_,acc=>acc
 | f+1,k,acc=>if k=0 then acc else digsM f (k / 10) ((48+k % 10).toUInt8::acc)
def mtxM (k:Nat):ByteArray:=strOf (109::digsM 20 k [])
structure OnB (P:Nat→Prop) (w w':World):Prop where
 os:w'.os=w.os
 tape:w'.tape=w.tape
 output:w'.output=w.output
 size:w.heap.size≤w'.heap.size
 block:∀ b,b<w.heap.size→¬ P b→w'.heap[b]? = w.heap[b]?
 sl:∀ g e n,SlB w g e n→SlB w' g e n
theorem OnB.refl (P:Nat→Prop) (w:World):OnB P w w:=⟨rfl,rfl,rfl,leR,fun _ _ _=>rfl,fun _ _ _ h=>h⟩
theorem OnB.trans {P:Nat→Prop} {w1 w2 w3:World} (h:OnB P w1 w2) (h':OnB P w2 w3):OnB P w1 w3:=
 ⟨h'.os.trans h.os,h'.tape.trans h.tape,h'.output.trans h.output,Nat.le_trans h.size h'.size,fun b hb hn=>(h'.block b (Nat.lt_of_lt_of_le hb h.size) hn).trans (h.block b hb hn),fun g e n hs=>h'.sl g e n (h.sl g e n hs)⟩
theorem OnB.mono {P Q:Nat→Prop} {w1 w2:World} (h:OnB P w1 w2) (hPQ:∀ b,P b→Q b):OnB Q w1 w2:=⟨h.os,h.tape,h.output,h.size,fun b hb hn=>h.block b hb (fun hp=>hn (hPQ b hp)),h.sl⟩
theorem OnB.below {P:Nat→Prop} {w1 w2 w3:World} (h:OnB P w1 w2) (hb:Up w2 w3):OnB P w1 w3:=
 h.trans ⟨hb.os,hb.tape,hb.output,hb.size,fun b hl _=>hb.block b hl,fun g _ _ hs=>hs.keep (hb.block g hs.lt)⟩
theorem OnB.set {P:Nat→Prop} {w1 w2:World} (h:OnB P w1 w2) {b:Nat} (hb:P b) (i:Nat) (v:Value):OnB P w1 (w2.setCell ⟨b,i,none⟩ v):=
 h.trans ⟨rfl,rfl,rfl,by simp [World.setCell],fun k _ hn=>Below.heap_setCell w2 ⟨b,i,none⟩ v k (fun e=>hn (by rw [show k=b from e]; exact hb)),fun g _ _ hs=>hs.set b i v⟩
theorem OnB.cell {P:Nat→Prop} {w1 w2:World} (h:OnB P w1 w2) {b i:Nat} {x:Value} (hc:w1.cell? ⟨b,i,none⟩=some x) (hn:¬ P b):w2.cell? ⟨b,i,none⟩=some x:=by
 have hl:b<w1.heap.size:=World.block_lt_of_cell? w1 _ hc; exact (cell_heap (h.block b hl hn)).trans hc
def kfR (F:List Lr) (k i:Nat):Nat:=k+((F.take i).map (fun f=>f.cs.length+2)).sum
def RowM (w:World) (v:Value) (n k:Nat):Prop:=∀ g c,v=.slice (some ⟨g,0,none⟩) n c→∀ j,j<n→w.cell? ⟨g,j,none⟩=some (.string (mtxM (k+j)))
theorem RowM.on {P:Nat→Prop} {w w':World} {v:Value} {n k:Nat} (h:RowM w v n k) (ho:OnB P w w') (hn:∀ b,v.ownBlock=some b→¬ P b):RowM w' v n k:=fun g c e j hj=>ho.cell (h g c e j hj) (hn g (by rw [e]; rfl))
def mkB3 (k:Nat):Bool:=decide (k % 3=0)
def HeldR (w:World) (v:Value) (F:List Lr) (A:List Value) (k m:Nat):Prop:=
 ∀ g c,v=.slice (some ⟨g,0,none⟩) F.length c→∀ i (h:i<F.length) (h':i<A.length),i<m→RowM w A[i] F[i].cs.length (kfR F k i)∧w.cell? ⟨g,i*3+1,none⟩=some (.bool (mkB3 (kfR F k i+F[i].cs.length)))∧w.cell? ⟨g,i*3+2,none⟩=some (.string (mtxM (kfR F k i+F[i].cs.length+1)))
theorem HeldR.next {w w':World} {v:Value} {F:List Lr} {A:List Value} {k i g c:Nat} (hv:v=.slice (some ⟨g,0,none⟩) F.length c) (h:HeldR w v F A k i)
 (hc:∀ q x,q≠i*3+1→q≠i*3+2→w.cell? ⟨g,q,none⟩=some x→w'.cell? ⟨g,q,none⟩=some x)
 (hr:∀ j (hj:j<A.length) (hj':j<F.length),j<i→RowM w A[j] F[j].cs.length (kfR F k j)→RowM w' A[j] F[j].cs.length (kfR F k j))
 (hn:∀ (hi:i<F.length) (hi':i<A.length),RowM w' A[i] F[i].cs.length (kfR F k i)∧w'.cell? ⟨g,i*3+1,none⟩=some (.bool (mkB3 (kfR F k i+F[i].cs.length)))∧w'.cell? ⟨g,i*3+2,none⟩=some (.string (mtxM (kfR F k i+F[i].cs.length+1)))):HeldR w' v F A k (i+1):=by
 intro D y e j hj hj' u; rw [hv] at e
 cases e
 by_cases e:j=i
 ·subst e; exact hn hj hj'
 obtain ⟨m,s,h2⟩:=h g c hv j hj hj' (by omega); exact ⟨hr j hj' hj (by omega) m,hc _ _ (by omega) (by omega) s,hc _ _ (by omega) (by omega) h2⟩
def ArgBools (w:World) (v:Value) (L:List Bool):Prop:=
 ∃ a c,v=.slice a L.length c∧L.length≤c∧c≤maxLen∧(L=[]∨∃ b off,a=some ⟨b,off,none⟩∧b<w.heap.size∧∀ i (h:i<L.length),w.cell? ⟨b,off+i,none⟩=some (.bool L[i]))
theorem ArgBools.below {w w':World} {v:Value} {L:List Bool} (h:ArgBools w v L) (hb:Up w w'):ArgBools w' v L:=by
 obtain ⟨a,c,rfl,m,h2,h4⟩:=h; refine ⟨a,c,rfl,m,h2,?_⟩
 rcases h4 with h|⟨b,off,rfl,j,s⟩
 ·exact .inl h
 exact .inr ⟨b,off,rfl,Nat.lt_of_lt_of_le j hb.size,fun i hi=>(hb.cell (p:=⟨b,off+i,none⟩) j).trans (s i hi)⟩
def boolsC (L:List Bool):List Value:=L.map (fun x=>.bool x)
theorem info_bool0:(Tryz.prog.info? 4).map (fun i=>(i.zero,i.size,i.bytes))=some (some (.bool false),1,1):=by kernel_rfl
theorem info_bool:∃ i:TypeInfo,Tryz.prog.info? 4=some i∧i.zero=some (.bool false)∧i.size=1∧i.bytes=1:=info_parts info_bool0
theorem bools_at {w:World} {base:Nat} {v:Value} {L:List Bool} (h:w.ownsRow base 4 1 v L.length (boolsC L)):BoolsAt w v L:=by
 obtain ⟨p,c,rfl,j,h2,h3⟩:=own_row h; refine ⟨p,c,rfl,j,h2,?_⟩
 rcases h3 with h3|⟨g,rfl,m⟩
 ·exact .inl (List.eq_nil_of_length_eq_zero h3)
 exact .inr ⟨g,rfl,m,fun i hi=>own_read h (by unfold boolsC; rw [List.getElem?_map,List.getElem?_eq_getElem hi]; rfl)⟩
theorem toBoolS_any (v:Value) (L:List Bool) (w:World) (h:ArgBools w v L) (hnl:L.length≤1048576) :
 Calls Tryz.prog 7 #[v] w fun e w'=>∃ g c,e=.returned (.slice (some ⟨g,0,none⟩) L.length c)∧w'.ownsRow w.heap.size 4 1 (.slice (some ⟨g,0,none⟩) L.length c) L.length (boolsC L)∧Up w w':=by
 obtain ⟨a,c,rfl,hc,Y,E⟩:=h; unfold maxLen at Y; obtain ⟨i0,I,a3,a5,a6⟩:=info_bool; have HA:=Hd E; clear E
 go_enter Tryz.func7,Tryz.ntmps7
 go_wp2_with (at_make; refine wpList_make_full _ rfl _ _ 22 rfl w.heap.size 4 i0 (.bool false) 1 Tryz.underlying22 I a3 a5 .i64 .i64 _ _ L.length rfl rfl (by simp) (by simp) (by rw [a6]; omega) (by unfold maxLen; omega) leR ?_)
 intro w1 u H; have M:Hid (Up w w1):=(Below.refl _ _).grown H leR (fun k e=>by cases e); have U:=Hd u; clear u H
 go_wp2_with fail
 go_loopw [4] (fun iv wr=>∃ (i:Nat) (xs:List Value),i≤L.length∧iv=.int .i64 i∧(∀ j (hj:j<L.length),j<i→xs[j]? = some (.bool L[j]))∧wr.ownsRow w.heap.size 4 1 (.slice (some ⟨w.heap.size,0,none⟩) L.length L.length) L.length xs∧Up w wr) (fun iv _=>L.length - (intOf iv).toNat)
 case atStart=>exact ⟨0,_,Nat.zero_le _,rfl,fun j _ h=>absurd h (Nat.not_lt_zero _),U.o,M.o⟩
 case round=>
  obtain ⟨i,xs,hi,rfl,s,m,K⟩:=hrel; have HB:=Hd K; have O:=Hd s; have D:Hid (xs.length=L.length):=by have:=m.1; unfold Hid; omega
  by_cases y:i<L.length
  ·obtain ⟨b,off,rfl,hb,E⟩:∃ b off,a=some ⟨b,off,none⟩∧b<w.heap.size∧∀ i (h:i<L.length),w.cell? ⟨b,off+i,none⟩=some (.bool L[i]):=by
    rcases HA.o with h|h
    ·rw [h] at y; exact absurd y (Nat.not_lt_zero _)
    ·exact h
   have k0:=E i y; rw [← K.cell (p:=⟨b,off+i,none⟩) hb] at k0; have T:=Hd (laid1_next (f:=fun x=>.bool x) D.o s y); obtain ⟨x0,e0⟩:=row_at m i (by omega); have g0:=m.frozenAt i; have J:=(m.stored i (.bool L[i])).1; have V:=Hd J; clear s m K E J
   go_wp2_with fail
   go_roundw
   case rel=>exact ⟨i+1,_,by omega,by go_num,T.o,V.o,HB.o.setCell (p:=⟨w.heap.size,i,none⟩) leR _⟩
   case measure=>simp [intOf]; omega
  ·have Z:i=L.length:=by omega
   subst Z; have HO:=Hd m; clear m K s
   go_wp2_with fail
   go_ret
   have e:=laid1_all (f:=fun x=>.bool x) D.o O.o; have ho:=HO.o; rw [e] at ho; exact ⟨_,_,rfl,ho,HB.o⟩
theorem eqBoolS_same (v1 v2:Value) (L:List Bool) (w:World) (h1:BoolsAt w v1 L) (h2:BoolsAt w v2 L) :
 Calls Tryz.prog 11 #[v1,v2] w fun e w'=>e=.returned (.bool true)∧Up w w':=by
 obtain ⟨O,c1,rfl,V,m1,r1⟩:=h1; obtain ⟨T,c2,rfl,Y,m2,r2⟩:=h2; unfold maxLen at m1 m2; have K:=Hd r1; have M:=Hd r2; clear r1 r2
 go_enter Tryz.func11,Tryz.ntmps11
 go_wp2_with fail
 go_loopw [5] (fun iv wr=>∃ i:Nat,i≤L.length∧iv=.int .i64 (i:Nat)∧Up w wr) (fun iv _=>L.length - (intOf iv).toNat)
 case atStart=>exact ⟨0,Nat.zero_le _,rfl,Below.refl _ _⟩
 case round=>
  obtain ⟨i,U,rfl,m⟩:=hrel; have I:=Hd m
  by_cases j:i<L.length
  ·obtain ⟨b1,rfl,E,u⟩:∃ b,O=some ⟨b,0,none⟩∧b<w.heap.size∧∀ i (h:i<L.length),w.cell? ⟨b,i,none⟩=some (.bool L[i]):=by
    rcases K.o with h|h
    ·rw [h] at j; exact absurd j (Nat.not_lt_zero _)
    ·exact h
   obtain ⟨b2,rfl,H,y⟩:∃ b,T=some ⟨b,0,none⟩∧b<w.heap.size∧∀ i (h:i<L.length),w.cell? ⟨b,i,none⟩=some (.bool L[i]):=by
    rcases M.o with h|h
    ·rw [h] at j; exact absurd j (Nat.not_lt_zero _)
    ·exact h
   have J:=u i j; have m0:=y i j; rw [← m.cell (p:=⟨b1,i,none⟩) E] at J; rw [← m.cell (p:=⟨b2,i,none⟩) H] at m0; generalize L[i]=s at J m0; clear m u y
   go_wp2_with fail
   go_region
   all_goals
    have D:=Hd I.o.drew
    go_wp2_with fail
    go_roundw
    case rel=>exact ⟨i+1,by omega,by go_num,D.o⟩
    case measure=>simp [intOf]; omega
  ·clear m
   go_wp2_with fail
   go_ret
   exact ⟨rfl,I.o⟩
structure LaidA (wr:World) (N:Nat) (xs:List Value) (F:List Lr) (A:List Value) (i:Nat):Prop where
 len:A.length=i
 at':∀ j (_:j<F.length) (_:j<A.length),xs[j*3]? = some A[j]∧xs[j*3+1]? = some (.bool F[j].st)∧xs[j*3+2]? = some (.string (strOf F[j].bd))
 own:∀ j (_:j<F.length) (_:j<A.length),wr.ownsRow N 9 1 A[j] F[j].cs.length (strsC F[j].cs)
 apart:∀ i j (hi:i<A.length) (hj:j<A.length),i<j→∀ b,A[i].ownBlock=some b→A[j].ownBlock≠some b
theorem LaidA.next {wr wr':World} {N:Nat} {xs:List Value} {F:List Lr} {A:List Value} {i:Nat} (hx:xs.length=F.length*3) (h:LaidA wr N xs F A i) (hi:i<F.length) {va:Value} (hk:∀ k,N≤k→k<wr.heap.size→wr'.heap[k]? = wr.heap[k]?) (hva:wr'.ownsRow N 9 1 va F[i].cs.length (strsC F[i].cs)) (hnew:∀ b,va.ownBlock=some b→wr.heap.size≤b) :
 LaidA wr' N (((xs.set (i*3) va).set (i*3+1) (.bool F[i].st)).set (i*3+2) (.string (strOf F[i].bd))) F (A++[va]) (i+1):=by
 have hl:=h.len; subst hl; refine ⟨by simp,fun j hj hj'=>?_,fun j hj hj'=>?_,fun a b ha hb hab c hc=>?_⟩
 ·by_cases e:j<A.length
  ·obtain ⟨y,s,h2⟩:=h.at' j hj e; rw [List.getElem_append_left e]; refine ⟨?_,?_,?_⟩<;>rw [List.getElem?_set_ne (by omega),List.getElem?_set_ne (by omega),List.getElem?_set_ne (by omega)]<;>assumption
  have e1:j=A.length:=by simp at hj'; omega
  subst e1; rw [List.getElem_append_right leR]; simp only [Nat.sub_self,List.getElem_cons_zero]; refine ⟨?_,?_,?_⟩
  ·rw [List.getElem?_set_ne (by omega),List.getElem?_set_ne (by omega),List.getElem?_set_self (by omega)]
  ·rw [List.getElem?_set_ne (by omega),List.getElem?_set_self (by simp; omega)]
  rw [List.getElem?_set_self (by simp; omega)]
 ·by_cases e:j<A.length
  ·rw [List.getElem_append_left e]; exact own_other' (h.own j hj e) (fun g hg=>hk g ((h.own j hj e).lt g hg).1 ((h.own j hj e).lt g hg).2)
  have e1:j=A.length:=by simp at hj'; omega
  subst e1; rw [List.getElem_append_right leR]; simp only [Nat.sub_self,List.getElem_cons_zero]; exact hva
 have m:a<A.length:=by simp at hb; omega
 rw [List.getElem_append_left m] at hc
 by_cases e:b<A.length
 ·rw [List.getElem_append_left e]; exact h.apart a b m e hab c hc
 have e1:b=A.length:=by simp at hb; omega
 subst e1; rw [List.getElem_append_right leR]; simp only [Nat.sub_self,List.getElem_cons_zero]; intro u; have s:=hnew c u; have h2:=((h.own a (by omega) m).lt c hc).2; omega
theorem LaidA.all {wr:World} {N:Nat} {xs:List Value} {F:List Lr} {A:List Value} (hx:xs.length=F.length*3) (h:LaidA wr N xs F A F.length):xs=cellsR F A:=by
 have hl:=cellsR_len F A h.len; refine List.ext_getElem? fun q=>?_
 by_cases y:q<F.length*3
 ·obtain ⟨j,s,u⟩:∃ j,j<F.length∧(q=j*3∨q=j*3+1∨q=j*3+2):=⟨q / 3,by omega,by omega⟩; have m:j<A.length:=by rw [h.len]; exact s
  obtain ⟨a0,a1,a2⟩:=h.at' j s m; obtain ⟨b0,b1,b2⟩:=cellsR_at F A j s m
  rcases u with rfl|rfl|rfl
  ·rw [a0,b0]
  ·rw [a1,b1]
  rw [a2,b2]
 rw [List.getElem?_eq_none (by omega),List.getElem?_eq_none (by omega)]
theorem toLinRowS_own (v:Value) (F:List Lr) (w:World) (h:ArgRows w v F) (hs:F.length≤1048576∧∀ f∈F,SmallR f) :
 Calls Tryz.prog 8 #[v] w fun e w'=>∃ v' A,e=.returned v'∧OutR w.heap.size w' v' F A∧Up w w':=by
 obtain ⟨a,c,rfl,hc,c9,-,Y⟩:=h; unfold maxLen at c9; obtain ⟨i0,a3,d1,d2,d3⟩:=info_row; have e5:=hs.1; have HA:=Hd Y; have b8:=Hd hs.2; clear Y hs
 go_enter Tryz.func8,Tryz.ntmps8
 go_wp2_with (at_make; refine wpList_make_full _ rfl _ _ 25 rfl w.heap.size 50 i0 _ 3 Tryz.underlying25 a3 d1 d2 .i64 .i64 _ _ F.length rfl rfl (by simp) (by simp) (by rw [d3]; omega) (by unfold maxLen; omega) leR ?_)
 intro w1 E Z; have b3:Hid (Up w w1):=(Below.refl _ _).grown Z leR (fun k e=>by cases e); have b6:=Hd E; clear E Z
 go_wp2_with fail
 go_loopw [4] (fun iv wr=>∃ (i:Nat) (xs A:List Value),i≤F.length∧iv=.int .i64 i∧LaidA wr (w.heap.size+1) xs F A i∧wr.ownsRow w.heap.size 50 3 (.slice (some ⟨w.heap.size,0,none⟩) F.length F.length) F.length xs∧Up w wr) (fun iv _=>F.length - (intOf iv).toNat)
 case atStart=>exact ⟨0,_,[],Nat.zero_le _,rfl,⟨rfl,fun j _ h=>absurd h (Nat.not_lt_zero _),fun j _ h=>absurd h (Nat.not_lt_zero _),fun j _ h=>absurd h (Nat.not_lt_zero _)⟩,b6.o,b3.o⟩
 case round=>
  obtain ⟨i,xs,A,hi,rfl,u,s,K⟩:=hrel; have HB:=Hd K; have y:=Hd u; have V:Hid (xs.length=F.length*3):=s.1; have HO:=Hd s; have O:Hid (w.heap.size<wr.heap.size):=(s.lt _ rfl).2
  by_cases D:i<F.length
  ·obtain ⟨b,off,rfl,hb,Y⟩:∃ b off,a=some ⟨b,off,none⟩∧b<w.heap.size∧∀ i (h:i<F.length),(∃ va,w.cell? ⟨b,off+i*3,none⟩=some va∧ArgStrs w va F[i].cs)∧w.cell? ⟨b,off+i*3+1,none⟩=some (.bool F[i].st)∧w.cell? ⟨b,off+i*3+2,none⟩=some (.string (strOf F[i].bd)):=by
    rcases HA.o with h|h
    ·rw [h] at D; exact absurd D (Nat.not_lt_zero _)
    ·exact h
   obtain ⟨⟨va,k0,a6⟩,k1,k2⟩:=Y i D; rw [← K.cell (p:=⟨b,off+i*3,none⟩) hb] at k0; rw [← K.cell (p:=⟨b,off+i*3+1,none⟩) hb] at k1; rw [← K.cell (p:=⟨b,off+i*3+2,none⟩) hb] at k2; have J:=Hd (a6.below K); have U:=Hd (b8.o _ (List.getElem_mem D)).1; have T:Hid (∀ wr' va,(∀ k,w.heap.size+1≤k→k<wr.heap.size→wr'.heap[k]? = wr.heap[k]?)→wr'.ownsRow (w.heap.size+1) 9 1 va F[i].cs.length (strsC F[i].cs)→(∀ b,va.ownBlock=some b→wr.heap.size≤b)→LaidA wr' (w.heap.size+1) (((xs.set (i*3) va).set (i*3+1) (.bool F[i].st)).set (i*3+2) (.string (strOf F[i].bd))) F (A++[va]) (i+1)):=fun wr' va hk hv hn=>LaidA.next V.o y.o D hk hv hn; obtain ⟨f,hf⟩:=exW (F[i]); rw [hf] at k1 k2 J U T; obtain ⟨pa,ca,rfl,-,-,-,-⟩:=a6; rw [hf] at k0; rw [hf] at J; clear hf u s K Y
   go_wp2_with (go_at_call 25; refine (toLinRow_any f _ _ J.o U.o).mono ?_; rintro e w2 ⟨g2,c2,rfl,a5,H⟩; have m:=row_below HO.o H; have b4:Hid (Up w w2):=HB.o.trans (H.mono HB.o.size); obtain ⟨x0,e0⟩:=row_at m (i*3) (by omega); obtain ⟨x1,e1⟩:=row_at m (i*3+1) (by omega); obtain ⟨x2,e2⟩:=row_at m (i*3+2) (by omega); have g0:=m.frozenAt (i*3); have g1:=m.frozenAt (i*3+1); have e4:=m.frozenAt (i*3+2); have b7:=Hd m; have I:=Hd a5; have b5:=Hd H; clear H m a5)
   have a7:=(((b7.o.stored (i*3) (.slice (some ⟨g2,0,none⟩) f.cs.length c2)).1.stored (i*3+1) (.bool f.st)).1.stored (i*3+2) (.string (strOf f.bd))).1; have b9:=Hd a7; have hh:∀ k,k≠w.heap.size→(((w2.setCell ⟨w.heap.size,i*3,none⟩ (.slice (some ⟨g2,0,none⟩) f.cs.length c2)).setCell ⟨w.heap.size,i*3+1,none⟩ (.bool f.st)).setCell ⟨w.heap.size,i*3+2,none⟩ (.string (strOf f.bd))).heap[k]? = w2.heap[k]? := fun k hk=>by rw [Below.heap_setCell _ ⟨w.heap.size,i*3+2,none⟩ _ _ hk,Below.heap_setCell _ ⟨w.heap.size,i*3+1,none⟩ _ _ hk,Below.heap_setCell _ ⟨w.heap.size,i*3,none⟩ _ _ hk]
   have M:=Hd hh; clear a7 hh
   go_roundw
   case rel=>
    refine ⟨i+1,_,_,by omega,by go_num,T.o _ (.slice (some ⟨g2,0,none⟩) f.cs.length c2) (fun k hk hk2=>(M.o k (by omega)).trans (b5.o.block k hk2)) ?_ (fun b hb=>own_base I.o b hb),b9.o,((b4.o.setCell (p:=⟨w.heap.size,i*3,none⟩) leR _).setCell (p:=⟨w.heap.size,i*3+1,none⟩) leR _).setCell (p:=⟨w.heap.size,i*3+2,none⟩) leR _⟩; exact own_lower (own_other' I.o (fun g hg=>M.o g (fun e=>by have:=own_base I.o g hg; have:=O.o; omega))) O.o
   case measure=>simp [intOf]; omega
  ·have d0:i=F.length:=by omega
   subst d0; clear s K u
   go_wp2_with fail
   go_ret
   have hO:=HO.o; rw [y.o.all V.o] at hO; exact ⟨_,A,rfl,⟨y.o.len,hO,fun j hj hj'=>own_lower (y.o.own j hj' hj) (Nat.le_succ _),y.o.apart⟩,HB.o⟩
end Go.Proofs.YtfclfbpjjlinhaaGreatDoor.L
