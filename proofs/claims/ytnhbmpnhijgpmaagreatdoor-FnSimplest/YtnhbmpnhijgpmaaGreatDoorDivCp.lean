import Derived.Test.YtnhbmpnhijgpmaaGreatDoorDivAp
import Derived.Test.YtnhbmpnhijgpmaaGreatDoorPlusAp
import Derived.Test.YtnhbmpnhijgpmaaGreatDoorDivGp
namespace Go.Proofs.YtnhbmpnhijgpmaaGreatDoor
open Go.ChangeShapes Go.WideShapes Go.ChangeAt Go.RowKit
def IsDiv (x y q r:Int):Prop:=x=q*y+r∧0≤r∧r<y.natAbs
theorem len_of_val (u b:List Nat) (hu:isTrim u) (hb:okL b) (h:val u<val b):u.length≤b.length:=by
 by_cases i:u=[]
 ·rw [i]; exact Nat.zero_le _
 have m:=val_ge u hu i; have s:=val_lt b hb; apply Nat.le_of_not_lt; intro j; have h3:1000000000 ^ b.length≤1000000000 ^ (u.length - 1):=Nat.pow_le_pow_right (by decide) (by omega); omega
theorem isDiv_pos (t:Bool) (va vb Q U:Nat) (h:va=Q*vb+U) (hU:U<vb):IsDiv (sg false va) (sg t vb) (sg (false != t) Q) (sg false U):=by
 refine ⟨?_,?_,?_⟩
 ·rw [h]
  cases t<;>simp [sg,Int.neg_mul_neg]
 ·simp [sg]
 cases t<;>simp [sg]<;>omega
theorem isDiv_zero (t:Bool) (va vb Q:Nat) (h:va=Q*vb+0) (hU:0<vb):IsDiv (sg true va) (sg t vb) (sg (true != t) Q) (sg false 0):=by
 refine ⟨?_,?_,?_⟩
 ·rw [h]
  cases t<;>simp [sg,Int.neg_mul,Int.mul_neg]
 ·simp [sg]
 cases t<;>simp [sg]<;>omega
theorem isDiv_neg (t:Bool) (va vb Q U V:Nat) (h:va=Q*vb+U) (hV:V+U=vb) (hU:0<U):IsDiv (sg true va) (sg t vb) (sg (true != t) (Q+1)) (sg false V):=by
 refine ⟨?_,?_,?_⟩
 ·rw [h,← hV]
  cases t<;>simp [sg]<;>grind
 ·simp [sg]
 cases t<;>simp [sg]<;>omega
theorem isDiv_unique {x y q r q' r':Int} (h:IsDiv x y q r) (h':IsDiv x y q' r'):q=q'∧r=r':=by
 obtain ⟨i,t,h3⟩:=h; obtain ⟨s,k2,k3⟩:=h'; have e:(q - q')*y=r' - r:=by
  have:=i.symm.trans s; rw [Int.sub_mul]; omega
 have m:q - q'=0:=by
  apply Classical.byContradiction; intro j; have h4:(r' - r).natAbs<y.natAbs:=by omega
  rw [← e,Int.natAbs_mul] at h4; have h5:1*y.natAbs≤(q - q').natAbs*y.natAbs:=Nat.mul_le_mul_right _ (by omega); omega
 rw [m,Int.zero_mul] at e; exact ⟨by omega,by omega⟩
def NoInt (w:World) (g:Nat):Prop:=∀ i x,w.cell? ⟨g,i,none⟩≠some (.int .u32 x)
def Keeps (g h:Nat) (w W:World):Prop:=w.heap.size≤W.heap.size∧∀ b,b≠g→b≠h→W.heap[b]? = w.heap[b]?
theorem Keeps.refl (g h:Nat) (w:World):Keeps g h w w:=⟨leR,fun _ _ _=>rfl⟩
theorem Keeps.setCell {g h:Nat} {w W:World} (k:Keeps g h w W) (p:Addr) (u:Value) (hp:p.block=g∨p.block=h):Keeps g h w (W.setCell p u):=by
 refine ⟨by simpa using k.1,fun b h1 h2=>Eq.trans ?_ (k.2 b h1 h2)⟩
 show (W.heap.modify p.block _)[b]? = _
 rw [Array.getElem?_modify,if_neg (by rcases hp with e|e<;>omega)]
theorem IsL.keeps {B:Nat} {w W:World} {v:Value} {l:List Nat} {g h:Nat} (hl:IsL B w v l) (n1:NoInt w g) (n2:NoInt w h) (k:Keeps g h w W):IsL B W v l:=by
 obtain ⟨a,cap,rfl,F,G,s,t⟩:=hl; refine ⟨a,cap,rfl,F,G,s,?_⟩
 by_cases j:l=[]
 ·exact .inl j
 rcases t with t|⟨b,u,rfl,H,m,A⟩
 ·exact .inl t
 have I:0<l.length:=by
  apply Nat.pos_of_ne_zero; intro e; exact j (List.eq_nil_of_length_eq_zero e)
 have c0:=A 0 I; have D:b≠g:=by rintro rfl; exact n1 _ _ c0
 have E:b≠h:=by rintro rfl; exact n2 _ _ c0
 refine .inr ⟨b,u,rfl,H,Nat.lt_of_lt_of_le m k.1,fun i hi=>?_⟩; rw [← A i hi]; unfold World.cell?; rw [k.2 b D E]
structure BoxD (g:Nat) (W:World) (x:Bool) (pa:Option Addr) (la ca:Nat) (y:Bool) (pb:Option Addr) (lb cb:Nat):Prop where
 a0:W.cell? ⟨g,0,none⟩=some (.bool x)
 a1:W.cell? ⟨g,1,none⟩=some (.slice pa la ca)
 b0:W.cell? ⟨g+1,0,none⟩=some (.bool y)
 b1:W.cell? ⟨g+1,1,none⟩=some (.slice pb lb cb)
 r0:W.cell? ⟨g+2,0,none⟩=some (.bool false)
 r1:W.cell? ⟨g+2,1,none⟩=some (.slice none 0 0)
 t0:W.cell? ⟨g+3,0,none⟩=some (.bool false)
 t1:W.cell? ⟨g+3,1,none⟩=some (.slice none 0 0)
 f:∀ k,k<4→∀ i,W.frozen? ⟨g+k,i,none⟩=false
 z:∀ k,k<4→NoInt W (g+k)
theorem BoxD.below {g:Nat} {W W':World} {x:Bool} {pa:Option Addr} {la ca:Nat} {y:Bool} {pb:Option Addr} {lb cb:Nat} (h:BoxD g W x pa la ca y pb lb cb) {N:Nat} (hN:g+4≤N) (hb:Below N W W'):BoxD g W' x pa la ca y pb lb cb:=by
 have q:∀ k,k<4→∀ i,W'.cell? ⟨g+k,i,none⟩=W.cell? ⟨g+k,i,none⟩:=fun k hk i=>hb.cell (p:=⟨g+k,i,none⟩) (by show g+k<N; omega); have f:∀ k,k<4→∀ i,W'.frozen? ⟨g+k,i,none⟩=W.frozen? ⟨g+k,i,none⟩:=fun k hk i=>hb.frozen (p:=⟨g+k,i,none⟩) (by show g+k<N; omega); exact ⟨(q 0 (by omega) 0).trans h.a0,(q 0 (by omega) 1).trans h.a1,(q 1 (by omega) 0).trans h.b0,(q 1 (by omega) 1).trans h.b1,(q 2 (by omega) 0).trans h.r0,(q 2 (by omega) 1).trans h.r1,(q 3 (by omega) 0).trans h.t0,(q 3 (by omega) 1).trans h.t1,fun k hk i=>(f k hk i).trans (h.f k hk i),fun k hk i x e=>h.z k hk i x ((q k hk i).symm.trans e)⟩
theorem boxD_first (w:World) (x:Bool) (pa:Option Addr) (la ca:Nat) (y:Bool) (pb:Option Addr) (lb cb:Nat) (ty:TypeId) :
 BoxD w.heap.size ((((w.alloc (.cells #[.bool x,.slice pa la ca] ty)).alloc (.cells #[.bool y,.slice pb lb cb] ty)).alloc (.cells #[.bool false,.slice none 0 0] ty)).alloc (.cells #[.bool false,.slice none 0 0] ty)) x pa la ca y pb lb cb:=by
 refine ⟨?_,?_,?_,?_,?_,?_,?_,?_,?_,?_⟩
 case' _=>
  skip
 rotate_left
 case' _=>
  skip
 rotate_left
 ·rw [World.cell?_alloc_past _ _ _ (by simp<;>omega),World.cell?_alloc_past _ _ _ (by simp),World.cell?_alloc_at _ _ _ _ (by simp)]; rfl
 ·rw [World.cell?_alloc_past _ _ _ (by simp<;>omega),World.cell?_alloc_past _ _ _ (by simp),World.cell?_alloc_at _ _ _ _ (by simp)]; rfl
 ·rw [World.cell?_alloc_past _ _ _ (by simp),World.cell?_alloc_at _ _ _ _ (by simp)]; rfl
 ·rw [World.cell?_alloc_past _ _ _ (by simp),World.cell?_alloc_at _ _ _ _ (by simp)]; rfl
 ·rw [World.cell?_alloc_at _ _ _ _ (by simp)]; rfl
 ·rw [World.cell?_alloc_at _ _ _ _ (by simp)]; rfl
 ·intro k m i
  match k,m with
  | 0,_=>rw [World.frozen?_alloc_past _ _ _ (by simp<;>omega),World.frozen?_alloc_past _ _ _ (by simp<;>omega),World.frozen?_alloc_past _ _ _ (by simp),World.frozen?_alloc_at _ _ _ _ (by simp)]
  | 1,_=>rw [World.frozen?_alloc_past _ _ _ (by simp<;>omega),World.frozen?_alloc_past _ _ _ (by simp),World.frozen?_alloc_at _ _ _ _ (by simp)]
  | 2,_=>rw [World.frozen?_alloc_past _ _ _ (by simp),World.frozen?_alloc_at _ _ _ _ (by simp)]
  | 3,_=>rw [World.frozen?_alloc_at _ _ _ _ (by simp)]
 ·have j:∀ (p q:Value) (i:Nat) (x:Int),(∀ x,p≠.int .u32 x)→(∀ x,q≠.int .u32 x)→(#[p,q]:Array Value)[i]? ≠ some (.int .u32 x):=fun p q i x hp hq=>by
   match i with
   | 0=>simpa using hp x
   | 1=>simpa using hq x
   | i+2=>simp
  intro k m i x
  match k,m with
  | 0,_=>
    rw [World.cell?_alloc_past _ _ _ (by simp<;>omega),World.cell?_alloc_past _ _ _ (by simp<;>omega),World.cell?_alloc_past _ _ _ (by simp),World.cell?_alloc_at _ _ _ _ (by simp)]; exact j _ _ i x (by simp) (by simp)
  | 1,_=>
    rw [World.cell?_alloc_past _ _ _ (by simp<;>omega),World.cell?_alloc_past _ _ _ (by simp<;>omega),World.cell?_alloc_at _ _ _ _ (by simp)]; exact j _ _ i x (by simp) (by simp)
  | 2,_=>
    rw [World.cell?_alloc_past _ _ _ (by simp<;>omega),World.cell?_alloc_at _ _ _ _ (by simp)]; exact j _ _ i x (by simp) (by simp)
  | 3,_=>
    rw [World.cell?_alloc_at _ _ _ _ (by simp)]; exact j _ _ i x (by simp) (by simp)
 all_goals rw [World.cell?_alloc_past _ _ _ (by simp<;>omega),World.cell?_alloc_past _ _ _ (by simp<;>omega),World.cell?_alloc_past _ _ _ (by simp),World.cell?_alloc_at _ _ _ _ rfl]; rfl
structure SD (a b R Q:List Nat) (j:Nat):Prop where
 le:j≤a.length
 qlen:Q.length=a.length
 qok:okL Q
 low:∀ i,i<j→Q.getD i 0=0
 rok:okL R
 rlen:R.length≤b.length
 eq:vfrom a j=vfrom Q j*val b+val R
 lt:val R<val b
theorem SD.window {a b R Q:List Nat} {i x:Nat} (h:SD a b R Q (i+1)) (hx:x<1000000000):val (x::R)<val b*1000000000:=window_lt x (val R) (val b) hx h.lt
theorem sd_eq (Va Vq vb r x q r':Nat) (h:Va=Vq*vb+r) (hX:x+1000000000*r=q*vb+r'):Va*1000000000+x=(Vq*1000000000+q)*vb+r':=by
 have e:(Vq*1000000000+q)*vb+r'=Vq*vb*1000000000+(q*vb+r'):=by grind
 rw [e,← hX,h]
 grind
theorem SD.put {a b R Q:List Nat} {i:Nat} (h:SD a b R Q (i+1)) {q:Nat} {R':List Nat} (hq:q<1000000000) (hX:val (a.getD i 0::R)=q*val b+val R') (hlt:val R'<val b) (hok:okL R') (htr:isTrim R') (hb:okL b):SD a b R' (Q.set i q) i:=by
 have hi:=h.le; refine ⟨by omega,by simp [h.qlen],okL_set Q h.qok i q hq,fun j hj=>?_,hok,len_of_val R' b htr hb hlt,?_,hlt⟩
 ·rw [getD_set_ne _ _ _ _ (by omega)]; exact h.low j (by omega)
 rw [vfrom_step a i (by omega),vfrom_set Q i q (by have:=h.qlen; omega)]; exact sd_eq _ _ _ _ _ q _ h.eq (by simpa [val] using hX)
theorem set_same (Q:List Nat) (i:Nat) (h:Q.getD i 0=0):Q.set i 0=Q:=by
 by_cases hi:i<Q.length
 ·have e:Q[i]=0:=by rw [List.getD_eq_getElem?_getD,List.getElem?_eq_getElem hi] at h; exact h
  rw [← e,List.set_getElem_self]
 exact List.set_eq_of_length_le (by omega)
theorem SD.cont {a b R Q:List Nat} {i:Nat} (h:SD a b R Q (i+1)) (hlt:val (trimL (a.getD i 0::R))<val b) (hx:a.getD i 0<1000000000) (hb:okL b):SD a b (trimL (a.getD i 0::R)) Q i:=by
 have j:=h.put (q:=0) (R':=trimL (a.getD i 0::R)) (by omega) (by rw [val_trimL,Nat.zero_mul,Nat.zero_add]) hlt (trimL_ok _ (fun y hy=>by
  rcases List.mem_cons.1 hy with e|e
  ·omega
  ·exact h.rok y e)) (trimL_trim _) hb
 rw [set_same Q i (h.low i (by omega))] at j; exact j
theorem sd_first (a b:List Nat) (ha:okL a) (hb:isTrim b) (hne:b≠[]):SD a b (a.drop (a.length+1 - b.length)) (List.replicate a.length 0) (a.length+1 - b.length):=by
 have s:0<b.length:=by
  apply Nat.pos_of_ne_zero; intro e; exact hne (List.eq_nil_of_length_eq_zero e)
 refine ⟨by omega,by simp,fun x hx=>by rw [List.eq_of_mem_replicate hx]; omega,fun i hi=>?_,okL_drop a ha _,by simp; omega,?_,?_⟩
 ·simp [List.getD_eq_getElem?_getD,List.getElem?_replicate]
  split<;>rfl
 ·have e:vfrom (List.replicate a.length 0) (a.length+1 - b.length)=0:=by unfold vfrom; simp [val_replicate]
  rw [e,Nat.zero_mul,Nat.zero_add]; rfl
 have j:=val_lt_of (a.drop (a.length+1 - b.length)) (okL_drop a ha _) (b.length - 1) (by simp; omega); have m:=val_ge b hb hne; omega
def Between (vb X lo hi:Nat):Prop:=lo≤hi∧hi≤999999999∧lo*vb≤X∧X<(hi+1)*vb
theorem between_first (vb X:Nat) (h:X<vb*1000000000):Between vb X 0 999999999:=⟨by omega,by omega,by rw [Nat.zero_mul]; omega,by omega⟩
theorem between_up {vb X lo hi:Nat} (h:Between vb X lo hi) (hlt:lo<hi) (hc:(lo+hi+1) / 2*vb≤X):Between vb X ((lo+hi+1) / 2) hi:=⟨by omega,h.2.1,hc,h.2.2.2⟩
theorem between_down {vb X lo hi:Nat} (h:Between vb X lo hi) (hlt:lo<hi) (hc:X<(lo+hi+1) / 2*vb):Between vb X lo ((lo+hi+1) / 2 - 1):=by
 refine ⟨by omega,by have:=h.2.1; omega,h.2.2.1,?_⟩; rw [show (lo+hi+1) / 2 - 1+1=(lo+hi+1) / 2 by omega]; exact hc
def IsR (base:Nat) (W:World) (v:Value) (R:List Nat):Prop:=
 okL R∧((v=.slice none 0 0∧R=[])∨∃ g cap,v=.slice (some ⟨g,0,none⟩) R.length cap∧base≤g∧g<W.heap.size∧R.length≤cap∧cap≤maxLen∧∀ i,i<R.length→W.cell? ⟨g,i,none⟩=some (.int .u32 (R.getD i 0:Nat)))
theorem IsR.isL {base:Nat} {W:World} {v:Value} {R:List Nat} (h:IsR base W v R):IsL base W v R:=by
 obtain ⟨j,⟨rfl,rfl⟩|⟨g,cap,rfl,m,t,hl,u,s⟩⟩:=h
 ·exact ⟨none,0,rfl,leR,(by unfold maxLen; omega),j,.inl rfl⟩
 exact ⟨_,cap,rfl,hl,u,j,.inr ⟨g,0,rfl,m,t,fun i hi=>by rw [Nat.zero_add]; exact s i hi⟩⟩
theorem IsR.below {base:Nat} {W W':World} {v:Value} {R:List Nat} (h:IsR base W v R) (hb:Up W W'):IsR base W' v R:=by
 obtain ⟨j,h|⟨g,cap,s,t,m,h3,h4,u⟩⟩:=h
 ·exact ⟨j,.inl h⟩
 exact ⟨j,.inr ⟨g,cap,s,t,Nat.lt_of_lt_of_le m hb.size,h3,h4,fun i hi=>(hb.cell (p:=⟨g,i,none⟩) m).trans (u i hi)⟩⟩
theorem IsR.setCell {base:Nat} {W:World} {v:Value} {R:List Nat} (h:IsR base W v R) (p:Addr) (u:Value) (hp:p.block<base):IsR base (W.setCell p u) v R:=by
 obtain ⟨j,h|⟨g,cap,m,s,A,h3,h4,t⟩⟩:=h
 ·exact ⟨j,.inl h⟩
 refine ⟨j,.inr ⟨g,cap,m,s,by simpa using A,h3,h4,fun i hi=>?_⟩⟩; rw [← t i hi]; exact World.cell?_of_block (Below.heap_setCell W p u g (by omega))
theorem IsR.of_owns {base e:Nat} {W:World} {v:Value} {R:List Nat} (h:W.ownsRow base e 1 v R.length (U32s R)) (hok:okL R):IsR base W v R:=by
 have m:=fun g hg=>h.cells (g:=g) hg; have s:=h.lt; obtain ⟨_,h⟩:=h
 rcases h with ⟨rfl,hn⟩|⟨g,cap,A,rfl,D,t,hn,j,_,_⟩
 ·exact ⟨hok,.inl ⟨rfl,List.eq_nil_of_length_eq_zero hn⟩⟩
 refine ⟨hok,.inr ⟨g,cap,rfl,D,(s g rfl).2,hn,j,fun i hi=>?_⟩⟩; have:=m g rfl i (.int .u32 (R.getD i 0:Nat)) (by rw [List.getElem?_map]; simp [List.getD_eq_getElem?_getD,hi])
 by_cases u:i=0
 ·subst u; simpa [Addr.add] using this
 simpa [Addr.add,u] using this
theorem IsR.cut {base g cap:Nat} {W:World} {N:List Nat} (hg:base≤g) (hlt:g<W.heap.size) (hm:cap≤maxLen) (hok:okL N) (hl:N.length≤cap) (hc:∀ i,i<N.length→W.cell? ⟨g,i,none⟩=some (.int .u32 (N.getD i 0:Nat))) (k:Nat) (hk:k≤N.length) (he:trimL N=N.take k) :
 IsR base W (.slice (some ⟨g,0,none⟩) k cap) (trimL N):=by
 have j:(trimL N).length=k:=by rw [he,List.length_take]; omega
 refine ⟨trimL_ok N hok,.inr ⟨g,cap,by rw [j],hg,hlt,by omega,hm,fun i hi=>?_⟩⟩; rw [hc i (by omega),getD_trimL N i hi]
end Go.Proofs.YtnhbmpnhijgpmaaGreatDoor
