import Derived.Test.YtnhbmpnhijgpmaaGreatDoorSpecSump
namespace Go.Proofs.YtnhbmpnhijgpmaaGreatDoor
open Go.RowKit
theorem num_digit (g:List UInt8) (hg:∀ c∈g,dig c) (j:Nat) (hj:j<g.length):num g / 10 ^ (g.length - 1 - j) % 10=g[j].toNat - 48:=by
 induction hn:g.length generalizing g j with
 | zero=>omega
 | succ n ih=>
   obtain ⟨f,c,rfl⟩:∃ f c,g=f++[c]:=⟨g.dropLast,g.getLast (by intro h; rw [h] at hj; simp at hj),(List.dropLast_concat_getLast _).symm⟩; have A:dig c:=hg c (by simp); unfold dig at A; have m:f.length=n:=by simpa using hn
   rw [num_snoc]
   by_cases D:j<n
   ·have s:n+1 - 1 - j=(n - 1 - j)+1:=by omega
    have u:(num f*10+(c.toNat - 48)) / 10 ^ (n - 1 - j+1)=num f / 10 ^ (n - 1 - j):=by
     rw [Nat.pow_succ,Nat.mul_comm (10 ^ (n - 1 - j)) 10,← Nat.div_div_eq_div_mul,show (num f*10+(c.toNat - 48)) / 10=num f by omega]
    rw [s,u]; have:=ih f (fun x hx=>hg x (by simp [hx])) j (by omega) m; rw [this]
    congr 2
    rw [List.getElem_append_left (by omega)]
   ·have i:j=n:=by simp at hj; omega
    subst i; simp only [Nat.add_sub_cancel,Nat.sub_self,Nat.pow_zero,Nat.div_one]; have t:(f++[c])[j]=c:=by rw [List.getElem_append_right (by omega)]; simp [m]
    rw [t]; omega
theorem digK_num (g:List UInt8) (hg:∀ c∈g,dig c) (h9:g.length=9):bytesOf (digK (num g) 9)=g:=by
 apply List.ext_getElem
 ·simp [bytesOf,digK,h9]
 intro j t i; have s:=num_digit g hg j i; have m:=hg g[j] (List.getElem_mem _); unfold dig at m; simp only [bytesOf,digK,List.getElem_map,List.getElem_range]; unfold dg tens; rw [show 8 - j=g.length - 1 - j by omega,s]; apply UInt8.toNat_inj.1; rw [UInt8.toNat_ofNat_of_lt' (by show _<256; omega)]; omega
theorem num_zeros (k:Nat) (d:List UInt8):num (List.replicate k 48++d)=num d:=by
 induction k with
 | zero=>simp
 | succ k ih=>
   rw [List.replicate_succ,List.cons_append]
   show num (48::(List.replicate k 48++d))=num d
   rw [← ih]; simp [num]
def padD (d:List UInt8):List UInt8:=List.replicate (9*cnt d.length - d.length) 48++d
theorem padD_length (d:List UInt8):(padD d).length=9*cnt d.length:=by
 unfold padD cnt; simp; omega
theorem padD_dig (d:List UInt8) (hd:∀ c∈d,dig c):∀ c∈padD d,dig c:=by
 intro c i; unfold padD at i
 rcases List.mem_append.1 i with h|h
 ·rw [List.eq_of_mem_replicate h]; exact ⟨by decide,by decide⟩
 exact hd c h
theorem chunk_pad (d:List UInt8) (i:Nat) (hi:i<cnt d.length):chunk d i=num (((padD d).take (9*cnt d.length - 9*i)).drop (9*cnt d.length - 9*i - 9)):=by
 unfold chunk padD; have A:9*cnt d.length - d.length≤8∧d.length≤9*cnt d.length:=by unfold cnt; omega
 generalize u:9*cnt d.length - d.length=z at *; have j:9*cnt d.length - 9*i=z+(d.length - 9*i):=by omega
 have m:(List.replicate z (48:UInt8)++d).take (z+(d.length - 9*i))=List.replicate z 48++d.take (d.length - 9*i):=by rw [List.take_append,List.length_replicate,Nat.add_sub_cancel_left,List.take_of_length_le (by rw [List.length_replicate]; omega)]
 rw [j,m]
 by_cases t:9≤d.length - 9*i
 ·have s:(List.replicate z (48:UInt8)++d.take (d.length - 9*i)).drop (z+(d.length - 9*i) - 9)=(d.take (d.length - 9*i)).drop (d.length - 9*i - 9):=by rw [List.drop_append,List.length_replicate,List.drop_eq_nil_of_le (by rw [List.length_replicate]; omega),List.nil_append,show z+(d.length - 9*i) - 9 - z=d.length - 9*i - 9 by omega]
  rw [s]
 rw [show z+(d.length - 9*i) - 9=0 by omega,List.drop_zero,num_zeros,show d.length - 9*i - 9=0 by omega,List.drop_zero]
theorem pad_chunks (d:List UInt8) (hd:∀ c∈d,dig c):bytesOf (padN (chunks d))=padD d:=by
 have i:∀ k,k≤cnt d.length→bytesOf (padN ((List.range k).map (chunk d)))=(padD d).drop (9*cnt d.length - 9*k):=by
  intro k
  induction k with
  | zero=>intro _; rw [List.drop_eq_nil_of_le (by rw [padD_length]; omega)]; rfl
  | succ k ih=>
    intro s; have e:bytesOf (padN ((List.range (k+1)).map (chunk d)))=bytesOf (digK (chunk d k) 9)++bytesOf (padN ((List.range k).map (chunk d))):=by
     simp [padN,bytesOf,List.range_succ]
    rw [e,ih (by omega),chunk_pad d k (by omega)]; have hl:(((padD d).take (9*cnt d.length - 9*k)).drop (9*cnt d.length - 9*k - 9)).length=9:=by
     rw [List.length_drop,List.length_take,padD_length]; omega
    rw [digK_num _ (fun c hc=>padD_dig d hd c (List.mem_of_mem_take (List.mem_of_mem_drop hc))) hl]; rw [show 9*cnt d.length - 9*(k+1)=9*cnt d.length - 9*k - 9 by omega]; generalize padD d=p; have m:9*cnt d.length - 9*k - 9≤9*cnt d.length - 9*k:=by omega
    generalize 9*cnt d.length - 9*k - 9=a at *; generalize 9*cnt d.length - 9*k=b at *
    conv=>rhs; rw [← List.take_append_drop b p]
    rw [List.drop_append]
    by_cases j:b≤p.length
    ·rw [List.length_take,Nat.min_eq_left j,show a - b=0 by omega,List.drop_zero]
    ·have:(p.drop b)=[]:=List.drop_eq_nil_of_le (by omega); rw [this]; simp
 have h:=i (cnt d.length) leR; rw [show 9*cnt d.length - 9*cnt d.length=0 by omega,List.drop_zero] at h; exact h
theorem dropZ_zeros (k:Nat) (l:List UInt8):dropZ (List.replicate k 48++l)=dropZ l:=by
 unfold dropZ
 induction k with
 | zero=>simp
 | succ k ih=>rw [List.replicate_succ,List.cons_append,List.dropWhile_cons]; simp [ih]
theorem textD_snoc_zero (l:List Nat):textD (l++[0])=textD l:=by
 unfold textD padN bytesOf; have e:(digK 0 9).map UInt8.ofNat=List.replicate 9 48:=by decide
 simp only [List.reverse_append,List.reverse_cons,List.reverse_nil,List.nil_append,List.cons_append,List.flatMap_cons,List.map_append,e]; exact dropZ_zeros 9 _
theorem textD_trimL (l:List Nat):textD (trimL l)=textD l:=by
 generalize hn:l.length=n
 induction n generalizing l with
 | zero=>rw [List.eq_nil_of_length_eq_zero hn]; rfl
 | succ n ih=>
   obtain ⟨f,x,rfl⟩:∃ f x,l=f++[x]:=⟨l.dropLast,l.getLast (by intro h; rw [h] at hn; simp at hn),(List.dropLast_concat_getLast _).symm⟩
   by_cases i:x=0
   ·subst i; rw [trimL_snoc_zero,textD_snoc_zero]; exact ih f (by simpa using hn)
   ·rw [trimL_snoc_pos _ _ i]
theorem textD_chunks (d:List UInt8) (hd:∀ c∈d,dig c) (h0:d.head? ≠ some 48):textD (trimL (chunks d))=d:=by
 rw [textD_trimL]; unfold textD; rw [pad_chunks d hd]; unfold padD; rw [dropZ_zeros]; unfold dropZ
 cases d with
 | nil=>rfl
 | cons c l=>
   rw [List.dropWhile_cons]; have:¬ c=48:=fun e=>h0 (by rw [e]; rfl); simp [this]
theorem digK_succ' (x k:Nat):digK x (k+1)=digK x k++[dg x k]:=by simp [digK,List.range_succ]
theorem num_digK (x m:Nat) (hx:x<1000000000) (hm:m≤9):num (bytesOf (digK x m))=x / 10 ^ (9 - m):=by
 induction m with
 | zero=>simp [digK,bytesOf,num]; omega
 | succ m ih=>
   rw [digK_succ',bytesOf,List.map_append]
   show num (bytesOf (digK x m)++[UInt8.ofNat (dg x m)])=_
   rw [num_snoc,ih (by omega)]; have i:dg x m<58:=by unfold dg; omega
   rw [UInt8.toNat_ofNat_of_lt' (by show _<256; omega)]; unfold dg tens; have e:9 - m=(8 - m)+1:=by omega
   rw [e,Nat.pow_succ,← Nat.div_div_eq_div_mul,show 9 - (m+1)=8 - m by omega]; omega
theorem num_append (a b:List UInt8):num (a++b)=num a*10 ^ b.length+num b:=by
 have i:∀ (b:List UInt8) (k:Nat),b.foldl (fun a c=>a*10+(c.toNat - 48)) k=k*10 ^ b.length+num b:=by
  intro b
  induction b with
  | nil=>intro k; simp [num]
  | cons c b ih=>
    intro k; have j:num (c::b)=(c.toNat - 48)*10 ^ b.length+num b:=by
     unfold num; rw [List.foldl_cons,ih]; simp only [Nat.zero_mul,Nat.zero_add]; rfl
    rw [List.foldl_cons,ih,j,List.length_cons,Nat.pow_succ,Nat.add_mul,Nat.add_assoc,Nat.mul_assoc,Nat.mul_comm 10]
 unfold num; rw [List.foldl_append,i]; rfl
theorem num_padN (l:List Nat) (hl:okL l):num (bytesOf (padN l))=val l:=by
 induction l with
 | nil=>rfl
 | cons x l ih=>
   have e:bytesOf (padN (x::l))=bytesOf (padN l)++bytesOf (digK x 9):=by simp [padN,bytesOf]
   rw [e,num_append,ih (fun y hy=>hl y (by simp [hy])),num_digK x 9 (hl x (by simp)) leR]; have:(bytesOf (digK x 9)).length=9:=by simp [bytesOf,digK]
   rw [this]; simp only [val]; omega
theorem num_dropZ (l:List UInt8):num (dropZ l)=num l:=by
 induction l with
 | nil=>rfl
 | cons c l ih=>
   unfold dropZ at *; rw [List.dropWhile_cons]
   by_cases h:c=48
   ·subst h; simp only [beq_self_eq_true,if_true]; rw [ih]; simp [num]
   ·simp [h]
theorem num_textD (l:List Nat) (hl:okL l):num (textD l)=val l:=by
 unfold textD; rw [num_dropZ,num_padN l hl]
theorem textD_dig (l:List Nat):∀ c∈textD l,dig c:=by
 intro c t; unfold textD dropZ at t; have i:=(List.dropWhile_sublist (fun x:UInt8=>x==48)).subset t; unfold bytesOf at i; rw [List.mem_map] at i; obtain ⟨x,m,rfl⟩:=i; unfold padN at m; rw [List.mem_flatMap] at m; obtain ⟨y,_,s⟩:=m; unfold digK at s; rw [List.mem_map] at s; obtain ⟨j,_,rfl⟩:=s; have u:48≤dg y j∧dg y j≤57:=by unfold dg; omega
 unfold dig; rw [UInt8.toNat_ofNat_of_lt' (by show _<256; omega)]; exact u
theorem textD_head (l:List Nat):(textD l).head? ≠ some 48:=by
 unfold textD dropZ; generalize bytesOf (padN l)=b
 induction b with
 | nil=>simp
 | cons c b ih=>
   rw [List.dropWhile_cons]
   by_cases h:c=48
   ·subst h; simpa using ih
   ·simp [h]
theorem strB_inj {a b:List UInt8} (h:strB a=strB b):a=b:=by
 have:=congrArg (fun x=>x.data.toList) h
 simpa [strB] using this
theorem text_inj {x y:Int} {u:ByteArray} (hx:IsText x u) (hy:IsText y u) (hu:u≠strB []):x=y:=by
 obtain ⟨n,l,o1,t1,F,r1⟩:=hx; obtain ⟨m,k,o2,t2,G,r2⟩:=hy; have D:∀ (n:Bool) (l:List Nat),l≠[]→negOf n l=n:=fun n l h=>by
  unfold negOf; have:0<l.length:=List.length_pos_iff.2 h; simp [this]
 have shape:∀ (n:Bool) (l:List Nat),okL l→isTrim l→l≠[]→u=textT (negOf n l) l→(u=strB (45::textD l)∧n=true)∨(u=strB (textD l)∧n=false):=by
  intro n l K L hl j; rw [D n l hl] at j; unfold textT at j; rw [if_neg (fun h=>hl (List.eq_nil_of_length_eq_zero h))] at j; unfold textS at j
  split at j
  ·exact absurd j hu
  cases n
  ·exact .inr ⟨by simpa using j,rfl⟩
  exact .inl ⟨by simpa using j,rfl⟩
 have E:∀ l:List Nat,okL l→isTrim l→l≠[]→∃ c r,textD l=c::r∧c≠48∧dig c:=by
  intro l K L hl; have Q:=val_pos l L hl; have I:=num_textD l K
  cases h3:textD l with
  | nil=>rw [h3] at I; simp [num] at I; omega
  | cons c r=>exact ⟨c,r,rfl,fun e=>textD_head l (by rw [h3,e]; rfl),textD_dig l c (by rw [h3]; simp)⟩
 by_cases hl:l=[]
 ·by_cases t:k=[]
  ·subst hl t; rw [← F,← G]
   cases n<;>cases m<;>simp [sg,val]
  exfalso
  subst hl; have i:u=strB [48]:=r1; obtain ⟨c,r,h3,h4,h5⟩:=E k o2 t2 t
  rcases shape m k o2 t2 t r2 with ⟨h,_⟩|⟨h,_⟩
  ·have:=strB_inj (i.symm.trans h); simp at this
  have:=strB_inj (i.symm.trans h); rw [h3] at this; simp at this; exact h4 this.1.symm
 by_cases t:k=[]
 ·exfalso
  subst t; have i:u=strB [48]:=r2; obtain ⟨c,r,h3,h4,h5⟩:=E l o1 t1 hl
  rcases shape n l o1 t1 hl r1 with ⟨h,_⟩|⟨h,_⟩
  ·have:=strB_inj (i.symm.trans h); simp at this
  have:=strB_inj (i.symm.trans h); rw [h3] at this; simp at this; exact h4 this.1.symm
 obtain ⟨c,r,h3,h4,h5⟩:=E l o1 t1 hl; obtain ⟨O,S,H,M,s⟩:=E k o2 t2 t; have J:∀ {a b:List Nat},okL a→okL b→textD a=textD b→val a=val b:=fun oa ob h=>by rw [← num_textD _ oa,← num_textD _ ob,h]
 rcases shape n l o1 t1 hl r1 with ⟨h,rfl⟩|⟨h,rfl⟩<;>rcases shape m k o2 t2 t r2 with ⟨A,rfl⟩|⟨A,rfl⟩
 ·have:=strB_inj (h.symm.trans A); simp at this; rw [← F,← G,J o1 o2 this]
 ·have:=strB_inj (h.symm.trans A); rw [H] at this; simp at this; unfold dig at s; rw [← this.1] at s; exact absurd s.1 (by decide)
 ·have:=strB_inj (h.symm.trans A); rw [h3] at this; simp at this; unfold dig at h5; rw [this.1] at h5; exact absurd h5.1 (by decide)
 have:=strB_inj (h.symm.trans A); rw [← F,← G,J o1 o2 this]
theorem neg_text (s:ByteArray) (h:isNeg s=true):s=strB (45::(dgs s).data.toList):=by
 have m:dgs s=s.extract 1 s.size:=by unfold dgs; rw [if_pos h]
 unfold isNeg at h; have i:(s.extract 0 1).toList=[45]:=by simpa using h
 rw [m]; apply ByteArray.ext; rw [ByteArray.toList_eq] at i; have j:s.data.toList.take 1=[45]:=by simpa [ByteArray.data_extract,Array.toList_extract,List.extract] using i
 have h3:(s.extract 1 s.size).data.toList=s.data.toList.drop 1:=by
  rw [ByteArray.data_extract,Array.toList_extract]
  show (s.data.toList.drop 1).take (s.size - 1)=_
  exact List.take_of_length_le (by rw [List.length_drop]; exact leR)
 rw [h3]
 show s.data=(45::s.data.toList.drop 1).toArray
 have h4:s.data.toList=45::s.data.toList.drop 1:=by
  conv=>lhs; rw [← List.take_append_drop 1 s.data.toList,j]
  rfl
 rw [← h4]
theorem pos_text (s:ByteArray) (h:isNeg s=false):s=strB (dgs s).data.toList:=by
 have i:dgs s=s:=by unfold dgs; rw [h]; rfl
 rw [i]; rfl
theorem text_back (s:ByteArray) (h:isIntB s=true):IsText (numT s) s:=by
 have H:=h; unfold isIntB at h; simp only [Bool.and_eq_true,Bool.or_eq_true,decide_eq_true_eq,Bool.not_eq_true',decide_eq_false_iff_not,List.all_eq_true] at h; obtain ⟨⟨⟨I,J⟩,h3⟩,h4⟩:=h; have i:∀ c∈(dgs s).data.toList,dig c:=fun c hc=>by have:=h3 c hc; unfold isDig at this; simpa [dig] using this
 have t:okL (lim s):=trimL_ok _ (chunks_ok _ i); refine ⟨isNeg s,lim s,t,trimL_trim _,rfl,?_⟩
 by_cases h5:(dgs s).data.toList.head? = some 48
 ·have A:s.toList=[48]:=by
   rcases h4 with h|h
   ·exact absurd h5 h
   simpa using h
  have G:s=strB [48]:=by
   rw [ByteArray.toList_eq] at A; apply ByteArray.ext
   show s.data=[48].toArray
   rw [← A]
  rw [G]; have hl:lim (strB [48])=[]:=by kernel_rfl
  rw [hl]; rfl
 have F:=textD_chunks (dgs s).data.toList i h5; have D:(dgs s).data.toList.length=(dgs s).size:=by simp
 have j:lim s≠[]:=fun e=>by
  have:textD (lim s)=(dgs s).data.toList:=F; rw [e] at this; have K:(dgs s).data.toList.length=0:=by rw [← this]; rfl
  omega
 have m:negOf (isNeg s) (lim s)=isNeg s:=by
  unfold negOf; have:0<(lim s).length:=List.length_pos_iff.2 j; simp [this]
 rw [m]; unfold textT; rw [if_neg (fun e=>j (List.eq_nil_of_length_eq_zero e))]; unfold textS; have u:textD (lim s)=(dgs s).data.toList:=F; rw [u,if_neg (by omega)]
 cases E:isNeg s
 ·exact pos_text s E
 exact neg_text s E
theorem text_ne (s:ByteArray) (h:isIntB s=true):s≠strB []:=by
 rintro rfl; have:isIntB (strB [])=false:=by kernel_rfl
 rw [this] at h; cases h
theorem numT_inj (s t:ByteArray) (hs:isIntB s=true) (ht:isIntB t=true) (h:numT s=numT t):s=t:=(text_back s hs).eq (h ▸ text_back t ht)
def IsLow (x y n d:Int):Prop:=∃ c:Int,c≠0∧x=n*c∧y=d*c∧0<d∧c.natAbs=Int.gcd x y
theorem isLow_unique {x y n d n' d':Int} (h:IsLow x y n d) (h':IsLow x y n' d'):n=n'∧d=d':=by
 obtain ⟨c,c0,A,u,p,g⟩:=h; obtain ⟨i,m,s,j,G,D⟩:=h'; have t:c=i:=by
  have F:c.natAbs=i.natAbs:=by rw [g,D]
  rcases Int.natAbs_eq_natAbs_iff.1 F with h|h
  ·exact h
  exfalso
  subst h; have:d * -i=d'*i:=u.symm.trans j; have E:(d+d')*i=0:=by grind
  rcases Int.mul_eq_zero.1 E with h3|h3
  ·omega
  exact m h3
 subst t; exact ⟨Int.eq_of_mul_eq_mul_right c0 (A.symm.trans s),Int.eq_of_mul_eq_mul_right c0 (u.symm.trans j)⟩
theorem isLow_one {x y:Int} (hy:0<y) (h:Int.gcd x y=1):IsLow x y x y:=⟨1,by decide,by simp,by simp,hy,by rw [h]; rfl⟩
theorem num_one:numT (strB [49])=1:=by kernel_rfl
theorem num_nil:numT (strB [48])=0:=by kernel_rfl
theorem int_one:isIntB (strB [49])=true:=by kernel_rfl
theorem numT_neg (s:ByteArray) (h:0<numT s):isNeg s=false:=by
 unfold numT at h
 cases i:isNeg s
 ·rfl
 rw [i] at h; simp [sg] at h; omega
theorem numT_pos (s:ByteArray) (h:isNeg s=false):0≤numT s:=by
 unfold numT; rw [h]; simp [sg]
theorem rat_form (p q:ByteArray) (n d:Int) (hp:isIntB p=true) (hq:isIntB q=true) (h0:numT q≠0) (hl:IsLow (numT p) (numT q) n d) :
 (d≠1∧IsText n p∧IsText d q)↔(p≠strB [48]∧q≠strB [49]∧isNeg q=false∧Int.gcd (numT p) (numT q)=1):=by
 constructor
 ·rintro ⟨s,j,h3⟩; have t:=text_inj j (text_back p hp) (text_ne p hp); have u:=text_inj h3 (text_back q hq) (text_ne q hq); subst t u; obtain ⟨c,c0,D,k2,k3,k4⟩:=hl; have A:c=1:=by
   have:numT q*1=numT q*c:=by rw [Int.mul_one]; exact k2
   exact (Int.eq_of_mul_eq_mul_left h0 this).symm
  subst A; have m:Int.gcd (numT p) (numT q)=1:=by rw [← k4]; rfl
  refine ⟨?_,?_,numT_neg q k3,m⟩
  ·rintro rfl; rw [num_nil] at m; have:(numT q).natAbs=1:=by simpa using m
   omega
  rintro rfl; exact s num_one
 rintro ⟨s,j,h3,h4⟩; have i:0<numT q:=by have:=numT_pos q h3; omega
 obtain ⟨rfl,rfl⟩:=isLow_unique hl (isLow_one i h4); exact ⟨fun e=>j (numT_inj q (strB [49]) hq int_one (by rw [num_one]; exact e)),text_back p hp,text_back q hq⟩
end Go.Proofs.YtnhbmpnhijgpmaaGreatDoor
