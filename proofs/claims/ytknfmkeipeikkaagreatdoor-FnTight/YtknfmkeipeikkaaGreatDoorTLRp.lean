import Derived.Test.YtknfmkeipeikkaaGreatDoorSpecSump
import Derived.Test.YtknfmkeipeikkaaGreatDoorLrABp
import Derived.Test.YtknfmkeipeikkaaGreatDoorM8p
import Derived.Test.YtknfmkeipeikkaaGreatDoorReadSpecp
set_option maxRecDepth 100000
set_option maxHeartbeats 4000000
namespace Go.Proofs.YtknfmkeipeikkaaGreatDoor
open Go.RowKit
theorem num_digit (g:List UInt8) (hg:∀ c∈g,dig c) (j:Nat) (hj:j<g.length):num g / 10 ^ (g.length - 1 - j) % 10=g[j].toNat - 48:=by
 induction hn:g.length generalizing g j with
 | zero=>omega
 | succ n ih=>
   obtain ⟨f,c,rfl⟩:∃ f c,g=f++[c]:=⟨g.dropLast,g.getLast (by intro h; rw [h] at hj; simp at hj),(List.dropLast_concat_getLast _).symm⟩; have D:dig c:=hg c (by simp); unfold dig at D; have s:f.length=n:=by simpa using hn
   rw [num_snoc]
   by_cases E:j<n
   ·have e1:n+1 - 1 - j=(n - 1 - j)+1:=by omega
    have y:(num f*10+(c.toNat - 48)) / 10 ^ (n - 1 - j+1)=num f / 10 ^ (n - 1 - j):=by
     rw [Nat.pow_succ,Nat.mul_comm (10 ^ (n - 1 - j)) 10,← Nat.div_div_eq_div_mul,show (num f*10+(c.toNat - 48)) / 10=num f by omega]
    rw [e1,y]; have:=ih f (fun x hx=>hg x (by simp [hx])) j (by omega) s; rw [this]
    congr 2
    rw [List.getElem_append_left (by omega)]
   ·have m:j=n:=by simp at hj; omega
    subst m; simp only [Nat.add_sub_cancel,Nat.sub_self,Nat.pow_zero,Nat.div_one]; have u:(f++[c])[j]=c:=by rw [List.getElem_append_right (by omega)]; simp [s]
    rw [u]; omega
theorem digK_num (g:List UInt8) (hg:∀ c∈g,dig c) (h9:g.length=9):bytesOf (digK (num g) 9)=g:=by
 apply List.ext_getElem
 ·simp [bytesOf,digK,h9]
 intro j s h2; have m:=num_digit g hg j h2; have h:=hg g[j] (List.getElem_mem _); unfold dig at h; simp only [bytesOf,digK,List.getElem_map,List.getElem_range]; unfold dg tens; rw [show 8 - j=g.length - 1 - j by omega,m]; apply UInt8.toNat_inj.1; rw [UInt8.toNat_ofNat_of_lt' (by show _<256; omega)]; omega
theorem num_zeros (k:Nat) (d:List UInt8):num (List.replicate k 48++d)=num d:=by
 induction k with
 | zero=>simp
 | succ k ih=>
   rw [List.replicate_succ,List.cons_append]
   show num (48::(List.replicate k 48++d))=num d
   rw [← ih]; simp [num]
def padD (d:List UInt8):List UInt8:=List.replicate (9*cnt d.length - d.length) 48++d
theorem padD_length (d:List UInt8):(padD d).length=9*cnt d.length:=by
 unfold padD cnt; simp; omega
theorem padD_dig (d:List UInt8) (hd:∀ c∈d,dig c):∀ c∈padD d,dig c:=by
 intro c j; unfold padD at j
 rcases List.mem_append.1 j with h|h
 ·rw [List.eq_of_mem_replicate h]; exact ⟨by decide,by decide⟩
 exact hd c h
theorem chunk_pad (d:List UInt8) (i:Nat) (hi:i<cnt d.length):chunk d i=num (((padD d).take (9*cnt d.length - 9*i)).drop (9*cnt d.length - 9*i - 9)):=by
 unfold chunk padD; have u:9*cnt d.length - d.length≤8∧d.length≤9*cnt d.length:=by unfold cnt; omega
 generalize s:9*cnt d.length - d.length=z at *; have e1:9*cnt d.length - 9*i=z+(d.length - 9*i):=by omega
 have h:(List.replicate z (48:UInt8)++d).take (z+(d.length - 9*i))=List.replicate z 48++d.take (d.length - 9*i):=by rw [List.take_append,List.length_replicate,Nat.add_sub_cancel_left,List.take_of_length_le (by rw [List.length_replicate]; omega)]
 rw [e1,h]
 by_cases m:9≤d.length - 9*i
 ·have j:(List.replicate z (48:UInt8)++d.take (d.length - 9*i)).drop (z+(d.length - 9*i) - 9)=(d.take (d.length - 9*i)).drop (d.length - 9*i - 9):=by rw [List.drop_append,List.length_replicate,List.drop_eq_nil_of_le (by rw [List.length_replicate]; omega),List.nil_append,show z+(d.length - 9*i) - 9 - z=d.length - 9*i - 9 by omega]
  rw [j]
 rw [show z+(d.length - 9*i) - 9=0 by omega,List.drop_zero,num_zeros,show d.length - 9*i - 9=0 by omega,List.drop_zero]
theorem pad_chunks (d:List UInt8) (hd:∀ c∈d,dig c):bytesOf (padN (chunks d))=padD d:=by
 have j:∀ k,k≤cnt d.length→bytesOf (padN ((List.range k).map (chunk d)))=(padD d).drop (9*cnt d.length - 9*k):=by
  intro k
  induction k with
  | zero=>intro _; rw [List.drop_eq_nil_of_le (by rw [padD_length]; omega)]; rfl
  | succ k ih=>
    intro hk; have e:bytesOf (padN ((List.range (k+1)).map (chunk d)))=bytesOf (digK (chunk d k) 9)++bytesOf (padN ((List.range k).map (chunk d))):=by
     simp [padN,bytesOf,List.range_succ]
    rw [e,ih (by omega),chunk_pad d k (by omega)]; have hl:(((padD d).take (9*cnt d.length - 9*k)).drop (9*cnt d.length - 9*k - 9)).length=9:=by
     rw [List.length_drop,List.length_take,padD_length]; omega
    rw [digK_num _ (fun c hc=>padD_dig d hd c (List.mem_of_mem_take (List.mem_of_mem_drop hc))) hl]; rw [show 9*cnt d.length - 9*(k+1)=9*cnt d.length - 9*k - 9 by omega]; generalize padD d=p; have m:9*cnt d.length - 9*k - 9≤9*cnt d.length - 9*k:=by omega
    generalize 9*cnt d.length - 9*k - 9=a at *; generalize 9*cnt d.length - 9*k=b at *
    conv=>rhs; rw [← List.take_append_drop b p]
    rw [List.drop_append]
    by_cases hb:b≤p.length
    ·rw [List.length_take,Nat.min_eq_left hb,show a - b=0 by omega,List.drop_zero]
    ·have:(p.drop b)=[]:=List.drop_eq_nil_of_le (by omega); rw [this]; simp
 have h:=j (cnt d.length) leR; rw [show 9*cnt d.length - 9*cnt d.length=0 by omega,List.drop_zero] at h; exact h
theorem dropZ_zeros (k:Nat) (l:List UInt8):dropZ (List.replicate k 48++l)=dropZ l:=by
 unfold dropZ
 induction k with
 | zero=>simp
 | succ k ih=>rw [List.replicate_succ,List.cons_append,List.dropWhile_cons]; simp [ih]
theorem textD_snoc_zero (l:List Nat):textD (l++[0])=textD l:=by
 unfold textD padN bytesOf; have e:(digK 0 9).map UInt8.ofNat=List.replicate 9 48:=by decide
 simp only [List.reverse_append,List.reverse_cons,List.reverse_nil,List.nil_append,List.cons_append,List.flatMap_cons,List.map_append,e]; exact dropZ_zeros 9 _
theorem textD_trimL (l:List Nat):textD (trimL l)=textD l:=by
 generalize hn:l.length=n
 induction n generalizing l with
 | zero=>rw [List.eq_nil_of_length_eq_zero hn]; rfl
 | succ n ih=>
   obtain ⟨f,x,rfl⟩:∃ f x,l=f++[x]:=⟨l.dropLast,l.getLast (by intro h; rw [h] at hn; simp at hn),(List.dropLast_concat_getLast _).symm⟩
   by_cases j:x=0
   ·subst j; rw [trimL_snoc_zero,textD_snoc_zero]; exact ih f (by simpa using hn)
   ·rw [trimL_snoc_pos _ _ j]
theorem textD_chunks (d:List UInt8) (hd:∀ c∈d,dig c) (h0:d.head? ≠ some 48):textD (trimL (chunks d))=d:=by
 rw [textD_trimL]; unfold textD; rw [pad_chunks d hd]; unfold padD; rw [dropZ_zeros]; unfold dropZ
 cases d with
 | nil=>rfl
 | cons c l=>
   rw [List.dropWhile_cons]; have:¬ c=48:=fun e=>h0 (by rw [e]; rfl); simp [this]
theorem digK_succ' (x k:Nat):digK x (k+1)=digK x k++[dg x k]:=by simp [digK,List.range_succ]
theorem num_digK (x m:Nat) (hx:x<1000000000) (hm:m≤9):num (bytesOf (digK x m))=x / 10 ^ (9 - m):=by
 induction m with
 | zero=>simp [digK,bytesOf,num]; omega
 | succ m ih=>
   rw [digK_succ',bytesOf,List.map_append]
   show num (bytesOf (digK x m)++[UInt8.ofNat (dg x m)])=_
   rw [num_snoc,ih (by omega)]; have h:dg x m<58:=by unfold dg; omega
   rw [UInt8.toNat_ofNat_of_lt' (by show _<256; omega)]; unfold dg tens; have e:9 - m=(8 - m)+1:=by omega
   rw [e,Nat.pow_succ,← Nat.div_div_eq_div_mul,show 9 - (m+1)=8 - m by omega]; omega
theorem num_append (a b:List UInt8):num (a++b)=num a*10 ^ b.length+num b:=by
 have h:∀ (b:List UInt8) (k:Nat),b.foldl (fun a c=>a*10+(c.toNat - 48)) k=k*10 ^ b.length+num b:=by
  intro b
  induction b with
  | nil=>intro k; simp [num]
  | cons c b ih=>
    intro k; have h2:num (c::b)=(c.toNat - 48)*10 ^ b.length+num b:=by
     unfold num; rw [List.foldl_cons,ih]; simp only [Nat.zero_mul,Nat.zero_add]; rfl
    rw [List.foldl_cons,ih,h2,List.length_cons,Nat.pow_succ,Nat.add_mul,Nat.add_assoc,Nat.mul_assoc,Nat.mul_comm 10]
 unfold num; rw [List.foldl_append,h]; rfl
theorem num_padN (l:List Nat) (hl:okL l):num (bytesOf (padN l))=val l:=by
 induction l with
 | nil=>rfl
 | cons x l ih=>
   have e:bytesOf (padN (x::l))=bytesOf (padN l)++bytesOf (digK x 9):=by simp [padN,bytesOf]
   rw [e,num_append,ih (fun y hy=>hl y (by simp [hy])),num_digK x 9 (hl x (by simp)) leR]; have:(bytesOf (digK x 9)).length=9:=by simp [bytesOf,digK]
   rw [this]; simp only [val]; omega
theorem num_dropZ (l:List UInt8):num (dropZ l)=num l:=by
 induction l with
 | nil=>rfl
 | cons c l ih=>
   unfold dropZ at *; rw [List.dropWhile_cons]
   by_cases h:c=48
   ·subst h; simp only [beq_self_eq_true,if_true]; rw [ih]; simp [num]
   ·simp [h]
theorem num_textD (l:List Nat) (hl:okL l):num (textD l)=val l:=by
 unfold textD; rw [num_dropZ,num_padN l hl]
theorem textD_dig (l:List Nat):∀ c∈textD l,dig c:=by
 intro c u; unfold textD dropZ at u; have h:=(List.dropWhile_sublist (fun x:UInt8=>x==48)).subset u; unfold bytesOf at h; rw [List.mem_map] at h; obtain ⟨x,m,rfl⟩:=h; unfold padN at m; rw [List.mem_flatMap] at m; obtain ⟨y,_,s⟩:=m; unfold digK at s; rw [List.mem_map] at s; obtain ⟨j,_,rfl⟩:=s; have D:48≤dg y j∧dg y j≤57:=by unfold dg; omega
 unfold dig; rw [UInt8.toNat_ofNat_of_lt' (by show _<256; omega)]; exact D
theorem textD_head (l:List Nat):(textD l).head? ≠ some 48:=by
 unfold textD dropZ; generalize bytesOf (padN l)=b
 induction b with
 | nil=>simp
 | cons c b ih=>
   rw [List.dropWhile_cons]
   by_cases h:c=48
   ·subst h; simpa using ih
   ·simp [h]
theorem strB_inj {a b:List UInt8} (h:strB a=strB b):a=b:=by
 have:=congrArg (fun x=>x.data.toList) h
 simpa [strB] using this
theorem text_inj {x y:Int} {u:ByteArray} (hx:IsText x u) (hy:IsText y u) (hu:u≠strB []):x=y:=by
 obtain ⟨n,l,E,t1,e1,r1⟩:=hx; obtain ⟨m,k,H,t2,M,r2⟩:=hy; have J:∀ (n:Bool) (l:List Nat),l≠[]→negOf n l=n:=fun n l h=>by
  unfold negOf; have:0<l.length:=List.length_pos_iff.2 h; simp [this]
 have shape:∀ (n:Bool) (l:List Nat),okL l→isTrim l→l≠[]→u=textT (negOf n l) l→(u=strB (45::textD l)∧n=true)∨(u=strB (textD l)∧n=false):=by
  intro n l U V hl s; rw [J n l hl] at s; unfold textT at s; rw [if_neg (fun h=>hl (List.eq_nil_of_length_eq_zero h))] at s; unfold textS at s
  split at s
  ·exact absurd s hu
  cases n
  ·exact .inr ⟨by simpa using s,rfl⟩
  exact .inl ⟨by simpa using s,rfl⟩
 have K:∀ l:List Nat,okL l→isTrim l→l≠[]→∃ c r,textD l=c::r∧c≠48∧dig c:=by
  intro l U V hl; have h1:=val_pos l V hl; have h2:=num_textD l U
  cases h3:textD l with
  | nil=>rw [h3] at h2; simp [num] at h2; omega
  | cons c r=>exact ⟨c,r,rfl,fun e=>textD_head l (by rw [h3,e]; rfl),textD_dig l c (by rw [h3]; simp)⟩
 by_cases hl:l=[]
 ·by_cases hk:k=[]
  ·subst hl hk; rw [← e1,← M]
   cases n<;>cases m<;>simp [sg,val]
  exfalso
  subst hl; have j:u=strB [48]:=r1; obtain ⟨c,r,h3,h4,h5⟩:=K k H t2 hk
  rcases shape m k H t2 hk r2 with ⟨h,_⟩|⟨h,_⟩
  ·have:=strB_inj (j.symm.trans h); simp at this
  have:=strB_inj (j.symm.trans h); rw [h3] at this; simp at this; exact h4 this.1.symm
 by_cases hk:k=[]
 ·exfalso
  subst hk; have j:u=strB [48]:=r2; obtain ⟨c,r,h3,h4,h5⟩:=K l E t1 hl
  rcases shape n l E t1 hl r1 with ⟨h,_⟩|⟨h,_⟩
  ·have:=strB_inj (j.symm.trans h); simp at this
  have:=strB_inj (j.symm.trans h); rw [h3] at this; simp at this; exact h4 this.1.symm
 obtain ⟨c,r,h3,h4,h5⟩:=K l E t1 hl; obtain ⟨Z,r',O,Y,D⟩:=K k H t2 hk; have T:∀ {a b:List Nat},okL a→okL b→textD a=textD b→val a=val b:=fun oa ob h=>by rw [← num_textD _ oa,← num_textD _ ob,h]
 rcases shape n l E t1 hl r1 with ⟨h,rfl⟩|⟨h,rfl⟩<;>rcases shape m k H t2 hk r2 with ⟨I,rfl⟩|⟨I,rfl⟩
 ·have:=strB_inj (h.symm.trans I); simp at this; rw [← e1,← M,T E H this]
 ·have:=strB_inj (h.symm.trans I); rw [O] at this; simp at this; unfold dig at D; rw [← this.1] at D; exact absurd D.1 (by decide)
 ·have:=strB_inj (h.symm.trans I); rw [h3] at this; simp at this; unfold dig at h5; rw [this.1] at h5; exact absurd h5.1 (by decide)
 have:=strB_inj (h.symm.trans I); rw [← e1,← M,T E H this]
theorem neg_text (s:ByteArray) (h:isNeg s=true):s=strB (45::(dgs s).data.toList):=by
 have m:dgs s=s.extract 1 s.size:=by unfold dgs; rw [if_pos h]
 unfold isNeg at h; have j:(s.extract 0 1).toList=[45]:=by simpa using h
 rw [m]; apply ByteArray.ext; rw [ByteArray.toList_eq] at j; have h2:s.data.toList.take 1=[45]:=by simpa [ByteArray.data_extract,Array.toList_extract,List.extract] using j
 have h3:(s.extract 1 s.size).data.toList=s.data.toList.drop 1:=by
  rw [ByteArray.data_extract,Array.toList_extract]
  show (s.data.toList.drop 1).take (s.size - 1)=_
  exact List.take_of_length_le (by rw [List.length_drop]; exact leR)
 rw [h3]
 show s.data=(45::s.data.toList.drop 1).toArray
 have h4:s.data.toList=45::s.data.toList.drop 1:=by
  conv=>lhs; rw [← List.take_append_drop 1 s.data.toList,h2]
  rfl
 rw [← h4]
theorem pos_text (s:ByteArray) (h:isNeg s=false):s=strB (dgs s).data.toList:=by
 have j:dgs s=s:=by unfold dgs; rw [h]; rfl
 rw [j]; rfl
theorem text_back (s:ByteArray) (h:isIntB s=true):IsText (numT s) s:=by
 have K:=h; unfold isIntB at h; simp only [Bool.and_eq_true,Bool.or_eq_true,decide_eq_true_eq,Bool.not_eq_true',decide_eq_false_iff_not,List.all_eq_true] at h; obtain ⟨⟨⟨M,h2⟩,h3⟩,h4⟩:=h; have j:∀ c∈(dgs s).data.toList,dig c:=fun c hc=>by have:=h3 c hc; unfold isDig at this; simpa [dig] using this
 have u:okL (lim s):=trimL_ok _ (chunks_ok _ j); refine ⟨isNeg s,lim s,u,trimL_trim _,rfl,?_⟩
 by_cases h5:(dgs s).data.toList.head? = some 48
 ·have D:s.toList=[48]:=by
   rcases h4 with h|h
   ·exact absurd h5 h
   simpa using h
  have J:s=strB [48]:=by
   rw [ByteArray.toList_eq] at D; apply ByteArray.ext
   show s.data=[48].toArray
   rw [← D]
  rw [J]; have hl:lim (strB [48])=[]:=by kernel_rfl
  rw [hl]; rfl
 have I:=textD_chunks (dgs s).data.toList j h5; have E:(dgs s).data.toList.length=(dgs s).size:=by simp
 have hne:lim s≠[]:=fun e=>by
  have:textD (lim s)=(dgs s).data.toList:=I; rw [e] at this; have O:(dgs s).data.toList.length=0:=by rw [← this]; rfl
  omega
 have m:negOf (isNeg s) (lim s)=isNeg s:=by
  unfold negOf; have:0<(lim s).length:=List.length_pos_iff.2 hne; simp [this]
 rw [m]; unfold textT; rw [if_neg (fun e=>hne (List.eq_nil_of_length_eq_zero e))]; unfold textS; have y:textD (lim s)=(dgs s).data.toList:=I; rw [y,if_neg (by omega)]
 cases H:isNeg s
 ·exact pos_text s H
 exact neg_text s H
theorem text_ne (s:ByteArray) (h:isIntB s=true):s≠strB []:=by
 rintro rfl; have:isIntB (strB [])=false:=by kernel_rfl
 rw [this] at h; cases h
theorem numT_inj (s t:ByteArray) (hs:isIntB s=true) (ht:isIntB t=true) (h:numT s=numT t):s=t:=(text_back s hs).eq (h ▸ text_back t ht)
def IsLow (x y n d:Int):Prop:=∃ c:Int,c≠0∧x=n*c∧y=d*c∧0<d∧c.natAbs=Int.gcd x y
theorem isLow_unique {x y n d n' d':Int} (h:IsLow x y n d) (h':IsLow x y n' d'):n=n'∧d=d':=by
 obtain ⟨c,c0,e1,E,p,g⟩:=h; obtain ⟨j,s,u,m,J,H⟩:=h'; have D:c=j:=by
  have I:c.natAbs=j.natAbs:=by rw [g,H]
  rcases Int.natAbs_eq_natAbs_iff.1 I with h|h
  ·exact h
  exfalso
  subst h; have:d * -j=d'*j:=E.symm.trans m; have h2:(d+d')*j=0:=by grind
  rcases Int.mul_eq_zero.1 h2 with h3|h3
  ·omega
  exact s h3
 subst D; exact ⟨Int.eq_of_mul_eq_mul_right c0 (e1.symm.trans u),Int.eq_of_mul_eq_mul_right c0 (E.symm.trans m)⟩
theorem isLow_one {x y:Int} (hy:0<y) (h:Int.gcd x y=1):IsLow x y x y:=⟨1,by decide,by simp,by simp,hy,by rw [h]; rfl⟩
theorem num_nil:numT (strB [48])=0:=by kernel_rfl
theorem numT_pos (s:ByteArray) (h:isNeg s=false):0≤numT s:=by
 unfold numT; rw [h]; simp [sg]
end Go.Proofs.YtknfmkeipeikkaaGreatDoor
namespace Go.Proofs.YtknfmkeipeikkaaGreatDoor.L
open Go.ChangeShapes Go.WideShapes Go.ChangeAt Go.RowKit
def textOk (s:List UInt8):Bool:=isIntB (strOf s)&&decide ((dgs (strOf s)).size≤40)
def rowOk (cols:Int) (f:Lr):Bool:=decide ((f.cs.length:Int)=cols)&&textOk f.bd&&f.cs.all textOk
def goodR (cols:Int) (F:List Lr):Bool:=decide (0≤cols∧cols≤20∧F.length≤50)&&F.all (rowOk cols)
theorem dgs_ge (s:ByteArray):s.size≤(dgs s).size+1:=by
 unfold dgs; split
 ·rw [ByteArray.size_extract]; omega
 omega
theorem textOk_long {s:List UInt8} (h:¬ s.length≤41):textOk s=false:=by
 have j:=dgs_ge (strOf s); rw [strOf_size] at j; unfold textOk; rw [decide_eq_false (by omega),Bool.and_false]
theorem dig_count (s:ByteArray) (h:isIntB s=true):digC (trimL (chunks (dgs s).data.toList))=(dgs s).size:=by
 obtain ⟨j,E,h2⟩:=isIntB_dig s h; unfold isIntB at h; simp only [Bool.and_eq_true,Bool.or_eq_true,decide_eq_true_eq,Bool.not_eq_true',decide_eq_false_iff_not,List.all_eq_true] at h; obtain ⟨_,h4⟩:=h
 by_cases h5:(dgs s).data.toList.head? = some 48
 ·have y:s.toList=[48]:=by
   rcases h4 with h|h
   ·exact absurd h5 h
   simpa using h
  have D:s=strB [48]:=by
   rw [ByteArray.toList_eq] at y; apply ByteArray.ext
   show s.data=[48].toArray
   rw [← y]
  have e:digC (trimL (chunks (dgs (strB [48])).data.toList))=(dgs (strB [48])).size:=by kernel_rfl
  rw [D]; exact e
 have u:textD (trimL (chunks (dgs s).data.toList))=(dgs s).data.toList:=textD_chunks (dgs s).data.toList j h5; have m:(dgs s).data.toList.length=(dgs s).size:=by simp
 have hne:¬ (trimL (chunks (dgs s).data.toList)).length=0:=fun e=>by
  rw [List.eq_nil_of_length_eq_zero e] at u; have H:(dgs s).data.toList.length=0:=by rw [← u]; rfl
  omega
 unfold digC; rw [if_neg hne,u,m]
theorem limbs_few (s:ByteArray) (h:isIntB s=true):(trimL (chunks (dgs s).data.toList)).length≤600:=by
 obtain ⟨_,_,h2⟩:=isIntB_dig s h; have j:=trimL_len (chunks (dgs s).data.toList); have h3:(chunks (dgs s).data.toList).length=cnt (dgs s).size:=by unfold chunks; simp
 unfold cnt at h3; omega
theorem isRowNumber_any (s:List UInt8) (w:World) (hs:s.length≤1048576) :
 Calls Tryz.prog 58 #[.string (strOf s)] w fun e w'=>e=.returned (.bool (textOk s))∧Up w w':=by
 have u:=strOf_size s; have h2:(strOf s).size≤maxLen:=by unfold maxLen; omega
 have h3:=dgs_size (strOf s); unfold textOk; obtain ⟨X,j⟩:=exW (strOf s); rw [j] at h2 h3 ⊢; obtain ⟨b,hb⟩:=exW (isIntB X); have m:=Hd hb; obtain ⟨D,h⟩:=exW (dgs X); have y:=Hd h; rw [hb,h]; have E:(D.size:Int)≤1048576:=by rw [h] at h3; rw [j] at u; omega
 clear hb h j u h3
 cases b
 ·go_enter Tryz.func58,Tryz.ntmps58
  go_wp2_with (go_at_call 82; refine (isInt_impl _ _ h2).mono ?_; rintro e w' ⟨rfl,rfl⟩; rw [m.o])
  go_ret
  exact ⟨rfl,Below.refl _ _⟩
 go_enter Tryz.func58,Tryz.ntmps58
 go_wp2_with (first
  | (go_at_call 82; refine (isInt_impl _ _ h2).mono ?_; rintro e w' ⟨rfl,rfl⟩; rw [m.o])
  | (go_at_call 62; refine (trim_any _ _ h2).mono ?_; rintro e w' ⟨rfl,rfl⟩; rw [y.o]))
 go_ret
 refine ⟨ret_bool ?_,Below.refl _ _⟩; rw [Bool.true_and,decide_eq_decide]; omega
theorem l12Text_any (s:List UInt8) (w:World) (hs:s.length≤1048576) :
 Calls Tryz.prog 35 #[.string (strOf s)] w fun e w'=>e=.returned (.bool (textOk s))∧Up w w':=by
 by_cases K:s.length≤41
 ·have u:=strOf_size s; have h2:(strOf s).size≤maxLen:=by unfold maxLen; omega
  unfold textOk; obtain ⟨X,D⟩:=exW (strOf s); rw [D] at u h2 ⊢; have y:decide ((41:Int)<(X.size:Int))=false:=by rw [decide_eq_false_iff_not]; omega
  have Z:(X.size:Int)≤41:=by omega
  obtain ⟨b,hb⟩:=exW (isIntB X); have m:=Hd hb; rw [hb]; clear hb D u
  cases b
  ·go_enter Tryz.func35,Tryz.ntmps35
   go_wp2_with (go_at_call 48; refine (isInt_spec _ _ h2).mono ?_; rintro e w' ⟨rfl,M⟩; subst w'; rw [m.o])
   go_ret
   exact ⟨rfl,Below.refl _ _⟩
  have T:Hid (digC (trimL (chunks (dgs X).data.toList))=(dgs X).size):=dig_count X m.o; have h:=limbs_few X m.o; have U:=Hd h; clear h; have O:=dgs_size X
  go_enter Tryz.func35,Tryz.ntmps35
  go_wp2_with (go_at_call 48; refine (isInt_spec _ _ h2).mono ?_; rintro e w' ⟨rfl,M⟩; subst w'; rw [m.o])
  refine (l1Read_any X w m.o).mono ?_; rintro e w1 ⟨z,rfl,I,E⟩; have Y:=Hd I; have j:=Hd E; clear I E
  go_wp2_with fail
  refine (l1Digits_any w.heap.size z (isNeg X) _ w1 Y.o j.o.size U.o).mono ?_; rintro e w2 ⟨rfl,H⟩; have J:Hid (Up w w2):=j.o.trans (H.mono j.o.size); rw [T.o]; clear H; obtain ⟨n,hn⟩:=exW ((dgs X).size); have V:=Hd hn; rw [hn] at O ⊢; clear hn
  go_wp2_with fail
  go_ret
  refine ⟨ret_bool ?_,J.o⟩; have hn:=V.o; rw [Bool.true_and,decide_eq_decide]; omega
 rw [textOk_long K]; have u:=strOf_size s; obtain ⟨X,D⟩:=exW (strOf s); rw [D] at u ⊢; have y:decide ((41:Int)<(X.size:Int))=true:=by rw [decide_eq_true_iff]; omega
 have Z:(X.size:Int)≤1048576:=by omega
 clear D u
 go_enter Tryz.func35,Tryz.ntmps35
 go_wp2_with fail
 go_ret
 exact ⟨rfl,Below.refl _ _⟩
theorem rowOk_all {cols:Int} {F:List Lr} (h:∀ j (hj:j<F.length),j<F.length→rowOk cols F[j]=true):F.all (rowOk cols)=true:=by
 rw [List.all_eq_true]; intro f m; obtain ⟨j,hj,rfl⟩:=List.getElem_of_mem m; exact h j hj hj
theorem rowOk_not {cols:Int} {F:List Lr} {i:Nat} (hi:i<F.length) (h:rowOk cols F[i]=false):F.all (rowOk cols)=false:=by
 rw [Bool.eq_false_iff]; intro j; have:=List.all_eq_true.1 j F[i] (List.getElem_mem hi); rw [h] at this
 cases this
theorem goodRows_impl (cols:Int) (v:Value) (F:List Lr) (w:World) (h:RowsAt w v F) (hs:F.length≤1048576∧∀ f∈F,SmallR f) (hc1 : -9223372036854775808≤cols) (hc2:cols≤9223372036854775807) :
 Calls Tryz.prog 27 #[.int .i64 cols,v] w fun e w'=>e=.returned (.bool (goodR cols F))∧Up w w':=by
 obtain ⟨p,c,rfl,l1,m1,r1⟩:=h; unfold maxLen at m1; have H1:=Hd r1; have d6:=Hd hs.2; have hl:=hs.1; clear r1 hs
 by_cases h0:0≤cols∧cols≤20∧F.length≤50
 ·obtain ⟨a0,a1,a2⟩:=h0; have HG:Hid (goodR cols F=F.all (rowOk cols)):=by unfold Hid goodR; rw [decide_eq_true ⟨a0,a1,a2⟩,Bool.true_and]
  have y0:decide (cols<0)=false:=by rw [decide_eq_false_iff_not]; omega
  have y1:decide (20<cols)=false:=by rw [decide_eq_false_iff_not]; omega
  have y2:decide ((50:Int)<(F.length:Int))=false:=by rw [decide_eq_false_iff_not]; omega
  go_enter Tryz.func27,Tryz.ntmps27
  go_wp2_with fail
  go_loopw [22] (fun iv wr=>∃ i:Nat,i≤F.length∧iv=.int .i64 (i:Nat)∧(∀ j (hj:j<F.length),j<i→rowOk cols F[j]=true)∧Up w wr) (fun iv _=>F.length - (intOf iv).toNat)
  case atStart=>exact ⟨0,Nat.zero_le _,rfl,fun j _ h=>absurd h (Nat.not_lt_zero _),Below.refl _ _⟩
  case round=>
   rename World=>wo
   obtain ⟨i,hi,rfl,Y,hB⟩:=hrel; have V:=Hd Y; have J:=Hd hB; clear Y
   by_cases I:i<F.length
   ·obtain ⟨b,rfl,hb,hA⟩:∃ b,p=some ⟨b,0,none⟩∧b<w.heap.size∧∀ i (h:i<F.length),(∃ va,w.cell? ⟨b,i*3,none⟩=some va∧StrsAt w va F[i].cs)∧w.cell? ⟨b,i*3+1,none⟩=some (.bool F[i].st)∧w.cell? ⟨b,i*3+2,none⟩=some (.string (strOf F[i].bd)):=by
     rcases H1.o with h|h
     ·rw [h] at I; exact absurd I (Nat.not_lt_zero _)
     ·exact h
    obtain ⟨⟨va,k0,b4⟩,k1,k2⟩:=hA i I; rw [← hB.cell (p:=⟨b,i*3,none⟩) hb] at k0; rw [← hB.cell (p:=⟨b,i*3+1,none⟩) hb] at k1; rw [← hB.cell (p:=⟨b,i*3+2,none⟩) hb] at k2; have K:=Hd (d6.o _ (List.getElem_mem I)); have m:Hid (rowOk cols F[i]=false→goodR cols F=false):=fun h=>HG.o.trans (rowOk_not I h); have b9:Hid (rowOk cols F[i]=true→∀ j (hj:j<F.length),j<i+1→rowOk cols F[j]=true):=fun h j hj hji=>by
     by_cases e:j=i
     ·subst e; exact h
     ·exact V.o j hj (by omega)
    obtain ⟨f,hf⟩:=exW (F[i]); rw [hf] at k1 k2 b4 K m b9; have d7:=Hd (b4.below hB); obtain ⟨pa,ca,rfl,h6,e2,e3⟩:=b4; unfold maxLen at e2; have d5:Hid (f.bd.length≤1048576):=K.o.2; have g8:f.cs.length≤1048576:=K.o.1.1; obtain ⟨W1,O⟩:=exW (wo.alloc (.cells #[.slice pa f.cs.length ca,.bool f.st,.string (strOf f.bd)] 38)); have a3:Hid (Up wo W1):=by unfold Hid; rw [← O]; exact below_alloc _ _
    have d0:Hid (Bx W1 wo.heap.size [.slice pa f.cs.length ca,.bool f.st,.string (strOf f.bd)]):=by unfold Hid; rw [← O]; exact bx_new wo _ _
    have c9:=Hd O; clear hf hB hA e3 O
    by_cases u:(f.cs.length:Int)=cols
    ·have yc:((f.cs.length:Int)==cols)=true:=by simpa using u
     go_wp2_with fail
     rw [c9.o]; refine (isRowNumber_any f.bd W1 d5.o).mono ?_; rintro e w2 ⟨rfl,a8⟩; have d3:=d0.o.below d0.o.lt a8; obtain ⟨b0,b1,b2⟩:=d3.c3; have b6:Hid (Up wo w2):=a3.o.trans (a8.mono a3.o.size); clear a8 d3
     cases T:textOk f.bd with
     | false=>
       have HR:Hid (goodR cols F=false):=m.o (by unfold rowOk; rw [T]; simp); clear T
       go_wp2_with fail
       go_ret
       exact ⟨ret_bool HR.o.symm,J.o.trans (b6.o.mono J.o.size)⟩
     | true=>
       have d4:=Hd T; clear T
       go_wp2_with fail
       go_loopw [40] (fun jv wr=>∃ j:Nat,j≤f.cs.length∧jv=.int .i64 (j:Nat)∧(∀ k (hk:k<f.cs.length),k<j→textOk f.cs[k]=true)∧Up wo wr) (fun jv _=>f.cs.length - (intOf jv).toNat)
       case atStart=>exact ⟨0,Nat.zero_le _,rfl,fun j _ h=>absurd h (Nat.not_lt_zero _),b6.o⟩
       case round=>
        obtain ⟨j,hj,rfl,D,M⟩:=hrel; have y:=Hd D; have a5:=Hd M; clear D
        by_cases H:j<f.cs.length
        ·obtain ⟨h1,g6,e',-,-,E⟩:=d7.o; simp only [Value.slice.injEq] at e'; obtain ⟨rfl,-,rfl⟩:=e'; obtain ⟨b3,rfl,d9,d2⟩:∃ b3,pa=some ⟨b3,0,none⟩∧b3<wo.heap.size∧∀ i (h:i<f.cs.length),wo.cell? ⟨b3,i,none⟩=some (.string (strOf f.cs[i])):=by
          rcases E with h|h
          ·rw [h] at H; exact absurd H (Nat.not_lt_zero _)
          ·exact h
         have k3:=d2 j H; rw [← M.cell (p:=⟨b3,j,none⟩) d9] at k3; have c7:Hid (f.cs[j].length≤1048576):=K.o.1.2 _ (List.getElem_mem H); have b8:Hid (textOk f.cs[j]=false→rowOk cols f=false):=fun h=>by
          unfold rowOk; have:f.cs.all textOk=false:=by
           rw [Bool.eq_false_iff]; intro hh; have:=List.all_eq_true.1 hh f.cs[j] (List.getElem_mem H); rw [h] at this
           cases this
          rw [this,Bool.and_false]
         have d1:Hid (textOk f.cs[j]=true→∀ k (hk:k<f.cs.length),k<j+1→textOk f.cs[k]=true):=fun h k hk hkj=>by
          by_cases e:k=j
          ·subst e; exact h
          ·exact y.o k hk (by omega)
         obtain ⟨t,ht⟩:=exW (f.cs[j]); rw [ht] at k3 c7 b8 d1; clear ht d2 E M
         go_wp2_with fail
         refine (isRowNumber_any t wr c7.o).mono ?_; rintro e w3 ⟨rfl,Z⟩; have b7:Hid (Up wo w3):=a5.o.trans (Z.mono a5.o.size); clear Z
         cases U:textOk t with
         | false=>
           have HR:Hid (goodR cols F=false):=m.o (b8.o U); clear U
           go_wp2_with fail
           go_ret
           exact ⟨ret_bool HR.o.symm,J.o.trans (b7.o.mono J.o.size)⟩
         | true=>
           have HT:=Hd (d1.o U); clear U
           go_wp2_with fail
           go_roundw
           case rel=>exact ⟨j+1,by omega,by go_num,HT.o,b7.o⟩
           case measure=>simp [intOf]; omega
        ·have a9:j=f.cs.length:=by omega
         subst a9; have HR:Hid (rowOk cols f=true):=by
          unfold Hid rowOk; rw [decide_eq_true u,d4.o,Bool.true_and,Bool.true_and,List.all_eq_true]; intro s hs; obtain ⟨k,hk,rfl⟩:=List.getElem_of_mem hs; exact y.o k hk hk
         clear M
         go_wp2_with fail
         go_roundw
         case rel=>exact ⟨i+1,by omega,by go_num,b9.o HR.o,J.o.trans (a5.o.mono J.o.size)⟩
         case measure=>simp [intOf]; omega
    ·have yc:((f.cs.length:Int)==cols)=false:=by simpa using u
     have HR:Hid (goodR cols F=false):=m.o (by unfold rowOk; rw [decide_eq_false u]; rfl)
     go_wp2_with fail
     go_ret
     rw [c9.o]; exact ⟨ret_bool HR.o.symm,J.o.trans (a3.o.mono J.o.size)⟩
   ·have a9:i=F.length:=by omega
    subst a9; clear hB
    go_wp2_with fail
    go_ret
    exact ⟨ret_bool (by rw [HG.o]; exact (rowOk_all V.o).symm),J.o⟩
 have HG:Hid (goodR cols F=false):=by unfold Hid goodR; rw [decide_eq_false h0]; rfl
 by_cases g0:cols<0
 ·have y0:decide (cols<0)=true:=decide_eq_true g0
  go_enter Tryz.func27,Tryz.ntmps27
  go_wp2_with fail
  go_ret
  exact ⟨ret_bool HG.o.symm,Below.refl _ _⟩
 have y0:decide (cols<0)=false:=decide_eq_false g0
 by_cases g1:20<cols
 ·have y1:decide (20<cols)=true:=decide_eq_true g1
  go_enter Tryz.func27,Tryz.ntmps27
  go_wp2_with fail
  go_ret
  exact ⟨ret_bool HG.o.symm,Below.refl _ _⟩
 have y1:decide (20<cols)=false:=decide_eq_false g1; have y2:decide ((50:Int)<(F.length:Int))=true:=by rw [decide_eq_true_iff]; omega
 go_enter Tryz.func27,Tryz.ntmps27
 go_wp2_with fail
 go_ret
 exact ⟨ret_bool HG.o.symm,Below.refl _ _⟩
theorem goodRows_spec (cols:Int) (v:Value) (F:List Lr) (w:World) (h:RowsAt w v F) (hs:F.length≤1048576∧∀ f∈F,SmallR f) (hc1 : -9223372036854775808≤cols) (hc2:cols≤9223372036854775807) :
 Calls Tryz.prog 13 #[.int .i64 cols,v] w fun e w'=>e=.returned (.bool (goodR cols F))∧Up w w':=by
 obtain ⟨p,c,rfl,l1,m1,r1⟩:=h; unfold maxLen at m1; have H1:=Hd r1; have d6:=Hd hs.2; have hl:=hs.1; clear r1 hs
 by_cases h0:0≤cols∧cols≤20∧F.length≤50
 ·obtain ⟨a0,a1,a2⟩:=h0; have HG:Hid (goodR cols F=F.all (rowOk cols)):=by unfold Hid goodR; rw [decide_eq_true ⟨a0,a1,a2⟩,Bool.true_and]
  have y0:decide (cols<0)=false:=by rw [decide_eq_false_iff_not]; omega
  have y1:decide (20<cols)=false:=by rw [decide_eq_false_iff_not]; omega
  have y2:decide ((50:Int)<(F.length:Int))=false:=by rw [decide_eq_false_iff_not]; omega
  go_enter Tryz.func13,Tryz.ntmps13
  go_wp2_with fail
  go_loopw [22] (fun iv wr=>∃ i:Nat,i≤F.length∧iv=.int .i64 (i:Nat)∧(∀ j (hj:j<F.length),j<i→rowOk cols F[j]=true)∧Up w wr) (fun iv _=>F.length - (intOf iv).toNat)
  case atStart=>exact ⟨0,Nat.zero_le _,rfl,fun j _ h=>absurd h (Nat.not_lt_zero _),Below.refl _ _⟩
  case round=>
   rename World=>wo
   obtain ⟨i,hi,rfl,Y,hB⟩:=hrel; have V:=Hd Y; have J:=Hd hB; clear Y
   by_cases I:i<F.length
   ·obtain ⟨b,rfl,hb,hA⟩:∃ b,p=some ⟨b,0,none⟩∧b<w.heap.size∧∀ i (h:i<F.length),(∃ va,w.cell? ⟨b,i*3,none⟩=some va∧StrsAt w va F[i].cs)∧w.cell? ⟨b,i*3+1,none⟩=some (.bool F[i].st)∧w.cell? ⟨b,i*3+2,none⟩=some (.string (strOf F[i].bd)):=by
     rcases H1.o with h|h
     ·rw [h] at I; exact absurd I (Nat.not_lt_zero _)
     ·exact h
    obtain ⟨⟨va,k0,b4⟩,k1,k2⟩:=hA i I; rw [← hB.cell (p:=⟨b,i*3,none⟩) hb] at k0; rw [← hB.cell (p:=⟨b,i*3+1,none⟩) hb] at k1; rw [← hB.cell (p:=⟨b,i*3+2,none⟩) hb] at k2; have K:=Hd (d6.o _ (List.getElem_mem I)); have m:Hid (rowOk cols F[i]=false→goodR cols F=false):=fun h=>HG.o.trans (rowOk_not I h); have b9:Hid (rowOk cols F[i]=true→∀ j (hj:j<F.length),j<i+1→rowOk cols F[j]=true):=fun h j hj hji=>by
     by_cases e:j=i
     ·subst e; exact h
     ·exact V.o j hj (by omega)
    obtain ⟨f,hf⟩:=exW (F[i]); rw [hf] at k1 k2 b4 K m b9; have d7:=Hd (b4.below hB); obtain ⟨pa,ca,rfl,h6,e2,e3⟩:=b4; unfold maxLen at e2; have d5:Hid (f.bd.length≤1048576):=K.o.2; have g8:f.cs.length≤1048576:=K.o.1.1; obtain ⟨W1,O⟩:=exW (wo.alloc (.cells #[.slice pa f.cs.length ca,.bool f.st,.string (strOf f.bd)] 38)); have a3:Hid (Up wo W1):=by unfold Hid; rw [← O]; exact below_alloc _ _
    have d0:Hid (Bx W1 wo.heap.size [.slice pa f.cs.length ca,.bool f.st,.string (strOf f.bd)]):=by unfold Hid; rw [← O]; exact bx_new wo _ _
    have c9:=Hd O; clear hf hB hA e3 O
    by_cases u:(f.cs.length:Int)=cols
    ·have yc:((f.cs.length:Int)==cols)=true:=by simpa using u
     go_wp2_with fail
     rw [c9.o]; refine (l12Text_any f.bd W1 d5.o).mono ?_; rintro e w2 ⟨rfl,a8⟩; have d3:=d0.o.below d0.o.lt a8; obtain ⟨b0,b1,b2⟩:=d3.c3; have b6:Hid (Up wo w2):=a3.o.trans (a8.mono a3.o.size); clear a8 d3
     cases T:textOk f.bd with
     | false=>
       have HR:Hid (goodR cols F=false):=m.o (by unfold rowOk; rw [T]; simp); clear T
       go_wp2_with fail
       go_ret
       exact ⟨ret_bool HR.o.symm,J.o.trans (b6.o.mono J.o.size)⟩
     | true=>
       have d4:=Hd T; clear T
       go_wp2_with fail
       go_loopw [40] (fun jv wr=>∃ j:Nat,j≤f.cs.length∧jv=.int .i64 (j:Nat)∧(∀ k (hk:k<f.cs.length),k<j→textOk f.cs[k]=true)∧Up wo wr) (fun jv _=>f.cs.length - (intOf jv).toNat)
       case atStart=>exact ⟨0,Nat.zero_le _,rfl,fun j _ h=>absurd h (Nat.not_lt_zero _),b6.o⟩
       case round=>
        obtain ⟨j,hj,rfl,D,M⟩:=hrel; have y:=Hd D; have a5:=Hd M; clear D
        by_cases H:j<f.cs.length
        ·obtain ⟨h1,g6,e',-,-,E⟩:=d7.o; simp only [Value.slice.injEq] at e'; obtain ⟨rfl,-,rfl⟩:=e'; obtain ⟨b3,rfl,d9,d2⟩:∃ b3,pa=some ⟨b3,0,none⟩∧b3<wo.heap.size∧∀ i (h:i<f.cs.length),wo.cell? ⟨b3,i,none⟩=some (.string (strOf f.cs[i])):=by
          rcases E with h|h
          ·rw [h] at H; exact absurd H (Nat.not_lt_zero _)
          ·exact h
         have k3:=d2 j H; rw [← M.cell (p:=⟨b3,j,none⟩) d9] at k3; have c7:Hid (f.cs[j].length≤1048576):=K.o.1.2 _ (List.getElem_mem H); have b8:Hid (textOk f.cs[j]=false→rowOk cols f=false):=fun h=>by
          unfold rowOk; have:f.cs.all textOk=false:=by
           rw [Bool.eq_false_iff]; intro hh; have:=List.all_eq_true.1 hh f.cs[j] (List.getElem_mem H); rw [h] at this
           cases this
          rw [this,Bool.and_false]
         have d1:Hid (textOk f.cs[j]=true→∀ k (hk:k<f.cs.length),k<j+1→textOk f.cs[k]=true):=fun h k hk hkj=>by
          by_cases e:k=j
          ·subst e; exact h
          ·exact y.o k hk (by omega)
         obtain ⟨t,ht⟩:=exW (f.cs[j]); rw [ht] at k3 c7 b8 d1; clear ht d2 E M
         go_wp2_with fail
         refine (l12Text_any t wr c7.o).mono ?_; rintro e w3 ⟨rfl,Z⟩; have b7:Hid (Up wo w3):=a5.o.trans (Z.mono a5.o.size); clear Z
         cases U:textOk t with
         | false=>
           have HR:Hid (goodR cols F=false):=m.o (b8.o U); clear U
           go_wp2_with fail
           go_ret
           exact ⟨ret_bool HR.o.symm,J.o.trans (b7.o.mono J.o.size)⟩
         | true=>
           have HT:=Hd (d1.o U); clear U
           go_wp2_with fail
           go_roundw
           case rel=>exact ⟨j+1,by omega,by go_num,HT.o,b7.o⟩
           case measure=>simp [intOf]; omega
        ·have a9:j=f.cs.length:=by omega
         subst a9; have HR:Hid (rowOk cols f=true):=by
          unfold Hid rowOk; rw [decide_eq_true u,d4.o,Bool.true_and,Bool.true_and,List.all_eq_true]; intro s hs; obtain ⟨k,hk,rfl⟩:=List.getElem_of_mem hs; exact y.o k hk hk
         clear M
         go_wp2_with fail
         go_roundw
         case rel=>exact ⟨i+1,by omega,by go_num,b9.o HR.o,J.o.trans (a5.o.mono J.o.size)⟩
         case measure=>simp [intOf]; omega
    ·have yc:((f.cs.length:Int)==cols)=false:=by simpa using u
     have HR:Hid (goodR cols F=false):=m.o (by unfold rowOk; rw [decide_eq_false u]; rfl)
     go_wp2_with fail
     go_ret
     rw [c9.o]; exact ⟨ret_bool HR.o.symm,J.o.trans (a3.o.mono J.o.size)⟩
   ·have a9:i=F.length:=by omega
    subst a9; clear hB
    go_wp2_with fail
    go_ret
    exact ⟨ret_bool (by rw [HG.o]; exact (rowOk_all V.o).symm),J.o⟩
 have HG:Hid (goodR cols F=false):=by unfold Hid goodR; rw [decide_eq_false h0]; rfl
 by_cases g0:cols<0
 ·have y0:decide (cols<0)=true:=decide_eq_true g0
  go_enter Tryz.func13,Tryz.ntmps13
  go_wp2_with fail
  go_ret
  exact ⟨ret_bool HG.o.symm,Below.refl _ _⟩
 have y0:decide (cols<0)=false:=decide_eq_false g0
 by_cases g1:20<cols
 ·have y1:decide (20<cols)=true:=decide_eq_true g1
  go_enter Tryz.func13,Tryz.ntmps13
  go_wp2_with fail
  go_ret
  exact ⟨ret_bool HG.o.symm,Below.refl _ _⟩
 have y1:decide (20<cols)=false:=decide_eq_false g1; have y2:decide ((50:Int)<(F.length:Int))=true:=by rw [decide_eq_true_iff]; omega
 go_enter Tryz.func13,Tryz.ntmps13
 go_wp2_with fail
 go_ret
 exact ⟨ret_bool HG.o.symm,Below.refl _ _⟩
end Go.Proofs.YtknfmkeipeikkaaGreatDoor.L
