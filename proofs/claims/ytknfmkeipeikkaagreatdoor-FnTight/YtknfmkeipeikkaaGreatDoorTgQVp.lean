import Derived.Test.YtknfmkeipeikkaaGreatDoorTgBp
import Derived.Deep.RegionHeld3
import Derived.HandedShaped
import Derived.Shelf.Vars
import Derived.Deep.Slices
set_option maxRecDepth 100000
set_option maxHeartbeats 4000000
namespace Go.Proofs.YtknfmkeipeikkaaGreatDoor.L
open Go.ChangeShapes Go.WideShapes Go.ChangeAt Go.RowKit
theorem RRow.zero {base B:Nat} {W:World} {v:Value} {G:List Nr} (h:RRow base B W v G):RRow base 0 W v G:=by
 obtain ⟨s,j,h2⟩:=h; refine ⟨s,j,fun i hi=>?_⟩; obtain ⟨va,c0,c1,c2,c3,c4,c5,e,m,hb⟩:=(h2 i hi).ex; exact ⟨va,c0,c1,c2,c3,c4,c5,e,m.mono (Nat.zero_le _),hb.mono (Nat.zero_le _)⟩
theorem nr_mem {F:List Lr} {n:Nr} (h:n∈F.map nrOf):∃ f∈F,n=nrOf f:=by
 obtain ⟨f,j,rfl⟩:=List.mem_map.1 h; exact ⟨f,j,rfl⟩
theorem flag_small {cols:Int} {Wh:List Bool} {F:List Lr} (h:flagOk cols Wh F=true):F.length≤50∧Wh.length≤20:=by
 unfold flagOk at h; obtain ⟨j,h2⟩:=Bool.and_eq_true_iff.1 h; have h2:=of_decide_eq_true h2; unfold goodR at j; have h3:=of_decide_eq_true (Bool.and_eq_true_iff.1 j).1; omega
theorem Tight.len {Wh:List Bool} {f n:Nr} (h:Tight Wh f n):n.cs.length=f.cs.length:=by
 obtain ⟨g,_,h⟩:=h
 rcases h with ⟨_,rfl⟩|⟨_,_,e,_⟩
 ·rfl
 exact e
def SlB (w:World) (g:Nat) (e:TypeId) (n:Nat):Prop:=∃ cur:Array Value,w.heap[g]? = some (.cells cur e (0,0))∧n≤cur.size
theorem SlB.lt {w:World} {g n:Nat} {e:TypeId} (h:SlB w g e n):g<w.heap.size:=by
 obtain ⟨j,h,_⟩:=h; exact (Array.getElem?_eq_some_iff.1 h).1
theorem SlB.cell {w:World} {g n:Nat} {e:TypeId} (h:SlB w g e n) {i:Nat} (hi:i<n):∃ x,w.cell? ⟨g,i,none⟩=some x:=by
 obtain ⟨j,h,hn⟩:=h; exact ⟨j[i]'(by omega),by unfold World.cell?; simp only [h]; simp⟩
theorem SlB.frozen {w:World} {g n:Nat} {e:TypeId} (h:SlB w g e n) (i:Nat):w.frozen? ⟨g,i,none⟩=false:=by
 obtain ⟨j,h,_⟩:=h; unfold World.frozen?; simp only [h]; simp
theorem SlB.set {w:World} {g n:Nat} {e:TypeId} (h:SlB w g e n) (b i:Nat) (v:Value):SlB (w.setCell ⟨b,i,none⟩ v) g e n:=by
 obtain ⟨j,h,hn⟩:=h
 by_cases e:g=b
 ·subst e; exact ⟨_,heap_setCell_same w g i j _ v h,by simpa using hn⟩
 exact ⟨j,(Below.heap_setCell w ⟨b,i,none⟩ v g e).trans h,hn⟩
theorem SlB.keep {w w':World} {g n:Nat} {e:TypeId} (h:SlB w g e n) (hk:w'.heap[g]? = w.heap[g]?):SlB w' g e n:=by
 obtain ⟨j,h,hn⟩:=h; exact ⟨j,hk.trans h,hn⟩
def RwB (w:World) (N0 N1:Nat) (e:TypeId) (s:Nat) (v:Value) (n:Nat):Prop:=
 ∃ p c,v=.slice p n c∧n≤c∧c≤maxLen∧((n=0∧((p=none∧c=0)∨∃ g,p=some ⟨g,0,none⟩))∨∃ g,p=some ⟨g,0,none⟩∧N0≤g∧g<N1∧SlB w g e (n*s))
theorem RwB.mk {w w':World} {N0 N1 n s:Nat} {e:TypeId} {v:Value} (h:RwB w N0 N1 e s v n) (hs:∀ g e n,SlB w g e n→SlB w' g e n):RwB w' N0 N1 e s v n:=by
 obtain ⟨p,c,rfl,y,D,j⟩:=h; refine ⟨p,c,rfl,y,D,?_⟩
 rcases j with j|⟨g,rfl,m,u,j⟩
 ·exact .inl j
 exact .inr ⟨g,rfl,m,u,hs _ _ _ j⟩
theorem cell_heap {w w':World} {g i:Nat} (h:w'.heap[g]? = w.heap[g]?):w'.cell? ⟨g,i,none⟩=w.cell? ⟨g,i,none⟩:=by unfold World.cell?; simp only [h]
def digsM:Nat→Nat→List UInt8→List UInt8
 | 0,_,acc=>acc
 | f+1,k,acc=>if k=0 then acc else digsM f (k / 10) ((48+k % 10).toUInt8::acc)
def mtxM (k:Nat):ByteArray:=strOf (109::digsM 20 k [])
structure OnB (P:Nat→Prop) (w w':World):Prop where
 os:w'.os=w.os
 tape:w'.tape=w.tape
 output:w'.output=w.output
 size:w.heap.size≤w'.heap.size
 block:∀ b,b<w.heap.size→¬ P b→w'.heap[b]? = w.heap[b]?
 sl:∀ g e n,SlB w g e n→SlB w' g e n
theorem OnB.refl (P:Nat→Prop) (w:World):OnB P w w:=⟨rfl,rfl,rfl,leR,fun _ _ _=>rfl,fun _ _ _ h=>h⟩
theorem OnB.trans {P:Nat→Prop} {w1 w2 w3:World} (h:OnB P w1 w2) (h':OnB P w2 w3):OnB P w1 w3:=
 ⟨h'.os.trans h.os,h'.tape.trans h.tape,h'.output.trans h.output,Nat.le_trans h.size h'.size,fun b hb hn=>(h'.block b (Nat.lt_of_lt_of_le hb h.size) hn).trans (h.block b hb hn),fun g e n hs=>h'.sl g e n (h.sl g e n hs)⟩
theorem OnB.mono {P Q:Nat→Prop} {w1 w2:World} (h:OnB P w1 w2) (hPQ:∀ b,P b→Q b):OnB Q w1 w2:=⟨h.os,h.tape,h.output,h.size,fun b hb hn=>h.block b hb (fun hp=>hn (hPQ b hp)),h.sl⟩
theorem OnB.below {P:Nat→Prop} {w1 w2 w3:World} (h:OnB P w1 w2) (hb:Up w2 w3):OnB P w1 w3:=
 h.trans ⟨hb.os,hb.tape,hb.output,hb.size,fun b hl _=>hb.block b hl,fun g _ _ hs=>hs.keep (hb.block g hs.lt)⟩
theorem OnB.set {P:Nat→Prop} {w1 w2:World} (h:OnB P w1 w2) {b:Nat} (hb:P b) (i:Nat) (v:Value):OnB P w1 (w2.setCell ⟨b,i,none⟩ v):=
 h.trans ⟨rfl,rfl,rfl,by simp [World.setCell],fun k _ hn=>Below.heap_setCell w2 ⟨b,i,none⟩ v k (fun e=>hn (by rw [show k=b from e]; exact hb)),fun g _ _ hs=>hs.set b i v⟩
theorem OnB.cell {P:Nat→Prop} {w1 w2:World} (h:OnB P w1 w2) {b i:Nat} {x:Value} (hc:w1.cell? ⟨b,i,none⟩=some x) (hn:¬ P b):w2.cell? ⟨b,i,none⟩=some x:=by
 have hl:b<w1.heap.size:=World.block_lt_of_cell? w1 _ hc; exact (cell_heap (h.block b hl hn)).trans hc
def kfR (F:List Lr) (k i:Nat):Nat:=k+((F.take i).map (fun f=>f.cs.length+2)).sum
def RowM (w:World) (v:Value) (n k:Nat):Prop:=∀ g c,v=.slice (some ⟨g,0,none⟩) n c→∀ j,j<n→w.cell? ⟨g,j,none⟩=some (.string (mtxM (k+j)))
theorem RowM.on {P:Nat→Prop} {w w':World} {v:Value} {n k:Nat} (h:RowM w v n k) (ho:OnB P w w') (hn:∀ b,v.ownBlock=some b→¬ P b):RowM w' v n k:=fun g c e j hj=>ho.cell (h g c e j hj) (hn g (by rw [e]; rfl))
def mkB3 (k:Nat):Bool:=decide (k % 3=0)
def HeldR (w:World) (v:Value) (F:List Lr) (A:List Value) (k m:Nat):Prop:=
 ∀ g c,v=.slice (some ⟨g,0,none⟩) F.length c→∀ i (h:i<F.length) (h':i<A.length),i<m→RowM w A[i] F[i].cs.length (kfR F k i)∧w.cell? ⟨g,i*3+1,none⟩=some (.bool (mkB3 (kfR F k i+F[i].cs.length)))∧w.cell? ⟨g,i*3+2,none⟩=some (.string (mtxM (kfR F k i+F[i].cs.length+1)))
theorem HeldR.next {w w':World} {v:Value} {F:List Lr} {A:List Value} {k i g c:Nat} (hv:v=.slice (some ⟨g,0,none⟩) F.length c) (h:HeldR w v F A k i)
 (hc:∀ q x,q≠i*3+1→q≠i*3+2→w.cell? ⟨g,q,none⟩=some x→w'.cell? ⟨g,q,none⟩=some x)
 (hr:∀ j (hj:j<A.length) (hj':j<F.length),j<i→RowM w A[j] F[j].cs.length (kfR F k j)→RowM w' A[j] F[j].cs.length (kfR F k j))
 (hn:∀ (hi:i<F.length) (hi':i<A.length),RowM w' A[i] F[i].cs.length (kfR F k i)∧w'.cell? ⟨g,i*3+1,none⟩=some (.bool (mkB3 (kfR F k i+F[i].cs.length)))∧w'.cell? ⟨g,i*3+2,none⟩=some (.string (mtxM (kfR F k i+F[i].cs.length+1)))):HeldR w' v F A k (i+1):=by
 intro D y e j hj hj' u; rw [hv] at e
 cases e
 by_cases e:j=i
 ·subst e; exact hn hj hj'
 obtain ⟨m,s,h2⟩:=h g c hv j hj hj' (by omega); exact ⟨hr j hj' hj (by omega) m,hc _ _ (by omega) (by omega) s,hc _ _ (by omega) (by omega) h2⟩
def ArgBools (w:World) (v:Value) (L:List Bool):Prop:=
 ∃ a c,v=.slice a L.length c∧L.length≤c∧c≤maxLen∧(L=[]∨∃ b off,a=some ⟨b,off,none⟩∧b<w.heap.size∧∀ i (h:i<L.length),w.cell? ⟨b,off+i,none⟩=some (.bool L[i]))
theorem ArgBools.below {w w':World} {v:Value} {L:List Bool} (h:ArgBools w v L) (hb:Up w w'):ArgBools w' v L:=by
 obtain ⟨a,c,rfl,m,h2,h4⟩:=h; refine ⟨a,c,rfl,m,h2,?_⟩
 rcases h4 with h|⟨b,off,rfl,j,s⟩
 ·exact .inl h
 exact .inr ⟨b,off,rfl,Nat.lt_of_lt_of_le j hb.size,fun i hi=>(hb.cell (p:=⟨b,off+i,none⟩) j).trans (s i hi)⟩
def boolsC (L:List Bool):List Value:=L.map (fun x=>.bool x)
theorem info_bool0:(Tryz.prog.info? 4).map (fun i=>(i.zero,i.size,i.bytes))=some (some (.bool false),1,1):=by kernel_rfl
theorem info_bool:∃ i:TypeInfo,Tryz.prog.info? 4=some i∧i.zero=some (.bool false)∧i.size=1∧i.bytes=1:=info_parts info_bool0
theorem bools_at {w:World} {base:Nat} {v:Value} {L:List Bool} (h:w.ownsRow base 4 1 v L.length (boolsC L)):BoolsAt w v L:=by
 obtain ⟨p,c,rfl,j,h2,h3⟩:=own_row h; refine ⟨p,c,rfl,j,h2,?_⟩
 rcases h3 with h3|⟨g,rfl,m⟩
 ·exact .inl (List.eq_nil_of_length_eq_zero h3)
 exact .inr ⟨g,rfl,m,fun i hi=>own_read h (by unfold boolsC; rw [List.getElem?_map,List.getElem?_eq_getElem hi]; rfl)⟩
structure LaidA (wr:World) (N:Nat) (xs:List Value) (F:List Lr) (A:List Value) (i:Nat):Prop where
 len:A.length=i
 at':∀ j (_:j<F.length) (_:j<A.length),xs[j*3]? = some A[j]∧xs[j*3+1]? = some (.bool F[j].st)∧xs[j*3+2]? = some (.string (strOf F[j].bd))
 own:∀ j (_:j<F.length) (_:j<A.length),wr.ownsRow N 9 1 A[j] F[j].cs.length (strsC F[j].cs)
 apart:∀ i j (hi:i<A.length) (hj:j<A.length),i<j→∀ b,A[i].ownBlock=some b→A[j].ownBlock≠some b
theorem LaidA.next {wr wr':World} {N:Nat} {xs:List Value} {F:List Lr} {A:List Value} {i:Nat} (hx:xs.length=F.length*3) (h:LaidA wr N xs F A i) (hi:i<F.length) {va:Value} (hk:∀ k,N≤k→k<wr.heap.size→wr'.heap[k]? = wr.heap[k]?) (hva:wr'.ownsRow N 9 1 va F[i].cs.length (strsC F[i].cs)) (hnew:∀ b,va.ownBlock=some b→wr.heap.size≤b) :
 LaidA wr' N (((xs.set (i*3) va).set (i*3+1) (.bool F[i].st)).set (i*3+2) (.string (strOf F[i].bd))) F (A++[va]) (i+1):=by
 have hl:=h.len; subst hl; refine ⟨by simp,fun j hj hj'=>?_,fun j hj hj'=>?_,fun a b ha hb hab c hc=>?_⟩
 ·by_cases e:j<A.length
  ·obtain ⟨y,s,h2⟩:=h.at' j hj e; rw [List.getElem_append_left e]; refine ⟨?_,?_,?_⟩<;>rw [List.getElem?_set_ne (by omega),List.getElem?_set_ne (by omega),List.getElem?_set_ne (by omega)]<;>assumption
  have e1:j=A.length:=by simp at hj'; omega
  subst e1; rw [List.getElem_append_right leR]; simp only [Nat.sub_self,List.getElem_cons_zero]; refine ⟨?_,?_,?_⟩
  ·rw [List.getElem?_set_ne (by omega),List.getElem?_set_ne (by omega),List.getElem?_set_self (by omega)]
  ·rw [List.getElem?_set_ne (by omega),List.getElem?_set_self (by simp; omega)]
  rw [List.getElem?_set_self (by simp; omega)]
 ·by_cases e:j<A.length
  ·rw [List.getElem_append_left e]; exact own_other' (h.own j hj e) (fun g hg=>hk g ((h.own j hj e).lt g hg).1 ((h.own j hj e).lt g hg).2)
  have e1:j=A.length:=by simp at hj'; omega
  subst e1; rw [List.getElem_append_right leR]; simp only [Nat.sub_self,List.getElem_cons_zero]; exact hva
 have m:a<A.length:=by simp at hb; omega
 rw [List.getElem_append_left m] at hc
 by_cases e:b<A.length
 ·rw [List.getElem_append_left e]; exact h.apart a b m e hab c hc
 have e1:b=A.length:=by simp at hb; omega
 subst e1; rw [List.getElem_append_right leR]; simp only [Nat.sub_self,List.getElem_cons_zero]; intro u; have s:=hnew c u; have h2:=((h.own a (by omega) m).lt c hc).2; omega
theorem LaidA.all {wr:World} {N:Nat} {xs:List Value} {F:List Lr} {A:List Value} (hx:xs.length=F.length*3) (h:LaidA wr N xs F A F.length):xs=cellsR F A:=by
 have hl:=cellsR_len F A h.len; refine List.ext_getElem? fun q=>?_
 by_cases y:q<F.length*3
 ·obtain ⟨j,s,u⟩:∃ j,j<F.length∧(q=j*3∨q=j*3+1∨q=j*3+2):=⟨q / 3,by omega,by omega⟩; have m:j<A.length:=by rw [h.len]; exact s
  obtain ⟨a0,a1,a2⟩:=h.at' j s m; obtain ⟨b0,b1,b2⟩:=cellsR_at F A j s m
  rcases u with rfl|rfl|rfl
  ·rw [a0,b0]
  ·rw [a1,b1]
  rw [a2,b2]
 rw [List.getElem?_eq_none (by omega),List.getElem?_eq_none (by omega)]
end Go.Proofs.YtknfmkeipeikkaaGreatDoor.L
