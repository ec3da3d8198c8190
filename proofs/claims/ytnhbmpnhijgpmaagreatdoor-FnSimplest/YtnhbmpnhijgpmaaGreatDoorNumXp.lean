import Derived.Test.YtnhbmpnhijgpmaaGreatDoorCurXp
import Derived.Test.YtnhbmpnhijgpmaaGreatDoorQYp
import Derived.Test.YtnhbmpnhijgpmaaGreatDoorGcdIp
import Derived.Test.YtnhbmpnhijgpmaaGreatDoorCmpAp
import Derived.Test.YtnhbmpnhijgpmaaGreatDoorCmpImplp
import Derived.Test.YtnhbmpnhijgpmaaGreatDoorU1p
import Derived.Test.YtnhbmpnhijgpmaaGreatDoorDivSpecp
import Derived.Test.YtnhbmpnhijgpmaaGreatDoorU7p
import Derived.Deep.DeepCutAuto
namespace Go.Proofs.YtnhbmpnhijgpmaaGreatDoor
open Go.ChangeShapes Go.WideShapes Go.ChangeAt Go.RowKit
theorem int_bytes (s:Bool) (c:UInt8) (l:List UInt8) (hall:(c::l).all isDig=true) (hc:c≠48) (hlen:l.length+1≤2500):isIntB (strB ((if s then [45] else [])++c::l))=true:=by
 have j:c≠45:=fun e=>by
  rw [e] at hall; simp [isDig] at hall
 cases s
 ·have t:((if false=true then [45] else [])++c::l:List UInt8)=c::l:=rfl; have u:isNeg (strB (c::l))=false:=by
   unfold isNeg; rw [strB_ext0]; simp [j]
  have m:dgs (strB (c::l))=strB (c::l):=by unfold dgs; rw [u]; rfl
  have A:(strB (c::l)).data.toList=c::l:=by simp [strB]
  have i:(strB (c::l)).size=l.length+1:=by rw [strB_size]; rfl
  rw [t]; unfold isIntB; rw [m,A,i,hall]; simp [hlen,hc]
 have t:((if true=true then [45] else [])++c::l:List UInt8)=45::c::l:=rfl; have u:isNeg (strB (45::c::l))=true:=by
  unfold isNeg; rw [strB_ext0]; rfl
 have m:(dgs (strB (45::c::l))).data.toList=c::l:=by
  unfold dgs; rw [u]; exact strB_ext1 45 _
 have i:(dgs (strB (45::c::l))).size=l.length+1:=by
  have h5:(dgs (strB (45::c::l))).data.toList.length=(dgs (strB (45::c::l))).size:=by simp
  rw [← h5,m]; rfl
 rw [t]; unfold isIntB; rw [m,i,hall]; simp [hlen,hc]
theorem all_dig {l:List UInt8} (h:∀ c∈l,dig c):l.all isDig=true:=by
 rw [List.all_eq_true]; intro c i; have:=h c i; unfold isDig; rw [decide_eq_true_iff]; exact this
theorem zero_int:isIntB (strB [48])=true:=by
 have j:isNeg (strB [48])=false:=by
  unfold isNeg; rw [strB_ext0]; rfl
 have i:dgs (strB [48])=strB [48]:=by unfold dgs; rw [j]; rfl
 have m:(strB [48]).data.toList=[48]:=by simp [strB]
 have s:(strB [48]).size=1:=by rw [strB_size]; rfl
 unfold isIntB; rw [i,s,ByteArray.toList_eq,m]; decide
theorem text_int {x:Int} {u:ByteArray} (h:IsText x u) (hu:u≠strB []):isIntB u=true:=by
 obtain ⟨neg,t,ok,E,_,rfl⟩:=h; unfold textT at *
 by_cases i:t.length=0
 ·rw [if_pos i]; exact zero_int
 rw [if_neg i] at hu ⊢; unfold textS at *
 by_cases j:2500<(textD t).length
 ·rw [if_pos j] at hu; exact absurd rfl hu
 rw [if_neg j]; have hl:=textD_ge t ok E (by intro e; rw [e] at i; simp at i); have m:=textD_dig t; have s:=textD_head t
 cases A:textD t with
 | nil=>rw [A] at hl; simp at hl
 | cons c r=>
   rw [A] at m s j; have D:c≠48:=fun e=>s (by rw [e]; rfl); have:=int_bytes (negOf neg t) c r (all_dig m) D (by simpa using j)
   cases hn:negOf neg t
   ·rw [hn] at this; exact this
   ·rw [hn] at this; exact this
theorem text_num {x:Int} {u:ByteArray} (h:IsText x u) (hu:u≠strB []):isIntB u=true∧numT u=x:=by
 have hi:=text_int h hu; exact ⟨hi,text_inj (text_back u hi) h hu⟩
theorem num_cons (c:UInt8) (r:List UInt8):num (c::r)=(c.toNat - 48)*10 ^ r.length+num r:=by
 obtain ⟨n,hn⟩:=exW r.length
 induction n generalizing r with
 | zero=>
   have:r=[]:=List.eq_nil_of_length_eq_zero hn; subst this; simp [num]
 | succ n ih=>
   obtain ⟨a,b,rfl⟩:∃ a b,r=a++[b]:=⟨r.dropLast,r.getLast (by intro e; rw [e] at hn; cases hn),(List.dropLast_concat_getLast _).symm⟩; have i:a.length=n:=by simpa using hn
   have j:c::(a++[b])=(c::a)++[b]:=rfl; rw [j,num_snoc,num_snoc,ih a i]; simp only [List.length_append,List.length_cons,List.length_nil,Nat.zero_add,Nat.pow_succ]; rw [Nat.add_mul,Nat.mul_assoc]; omega
theorem digits_len (t:List Nat) (ok:okL t) (tr:isTrim t) (h0:t≠[]) (K:Nat):K<(textD t).length↔10 ^ K≤val t:=by
 have hl:=textD_ge t ok tr h0; have j:=textD_dig t; have m:=textD_head t; have hn:=num_textD t ok; have D:=num_lt (textD t) j; constructor
 ·intro h
  cases s:textD t with
  | nil=>rw [s] at h; simp at h
  | cons c r=>
    rw [s] at j m h hn; have A:c≠48:=fun e=>m (by rw [e]; rfl); have i:=j c (by simp); have u:49≤c.toNat:=by
     have h3:c.toNat≠48:=fun e=>A (UInt8.toNat_inj.1 (by rw [e]; rfl)); have:=i.1; omega
    have h3:=num_cons c r; have h4:10 ^ K≤10 ^ r.length:=Nat.pow_le_pow_right (by decide) (by simpa using Nat.lt_succ_iff.1 h); have h5:1*10 ^ r.length≤(c.toNat - 48)*10 ^ r.length:=Nat.mul_le_mul_right _ (by omega); omega
 intro h
 rcases Nat.lt_or_ge K (textD t).length with i|i
 ·exact i
 have u:=Nat.pow_le_pow_right (n:=10) (by decide) i; omega
theorem text_le {x y:Int} {u v:ByteArray} (hu:IsText x u) (hv:IsText y v) (hne:v≠strB []) (h:x.natAbs≤y.natAbs):u≠strB []:=by
 obtain ⟨G,t1,o1,r1,A,rfl⟩:=hu; obtain ⟨H,t2,o2,r2,D,rfl⟩:=hv; rw [← A,← D,sg_abs,sg_abs] at h; unfold textT at *
 by_cases i:t1.length=0
 ·rw [if_pos i]; decide
 have m:t1≠[]:=by intro e; rw [e] at i; simp at i
 rw [if_neg i]; have E:=val_ge t1 r1 m; have t:0<1000000000 ^ (t1.length - 1):=Nat.pow_pos (by decide); have j:t2.length≠0:=by
  intro e; have:t2=[]:=List.eq_nil_of_length_eq_zero e; rw [this] at h; simp [val] at h; omega
 have F:t2≠[]:=by intro e; rw [e] at j; simp at j
 rw [if_neg j] at hne; unfold textS at *
 by_cases h3:2500<(textD t2).length
 ·rw [if_pos h3] at hne; exact absurd rfl hne
 have h4:¬ 2500<(textD t1).length:=fun h5=>h3 ((digits_len t2 o2 r2 F 2500).2 (Nat.le_trans ((digits_len t1 o1 r1 m 2500).1 h5) h)); rw [if_neg h4]
 split
 ·intro e; have:=congrArg ByteArray.size e; rw [strB_size,strB_size] at this; simp at this
 intro e; have s:=congrArg ByteArray.size e; rw [strB_size,strB_size] at s; have:=textD_ge t1 o1 r1 m; simp only [List.length_nil] at s; omega
theorem int_noslash {s:ByteArray} (h:isIntB s=true):∀ j:Nat,s.data.toList[j]? ≠ some 47:=by
 have A:=(isIntB_dig s h).1; have m:∀ c∈s.data.toList,c≠47:=by
  intro c u e
  cases hn:isNeg s
  ·have:=pos_text s hn; rw [this] at u; have i:c∈(dgs s).data.toList:=by simpa [strB] using u
   have:=A c i; rw [e] at this; exact absurd this.1 (by decide)
  have:=neg_text s hn; rw [this] at u; have i:c=45∨c∈(dgs s).data.toList:=by simpa [strB] using u
  rcases i with t|t
  ·rw [e] at t; exact absurd t (by decide)
  have:=A c t; rw [e] at this; exact absurd this.1 (by decide)
 intro j D; exact m 47 (List.mem_of_getElem? D) rfl
theorem size_ne {u:ByteArray}:u≠strB []↔u.size≠0:=by
 constructor
 ·intro h e; refine h (ByteArray.ext ?_); have:u.data.size=0:=e; rw [Array.eq_empty_of_size_eq_zero this]; rfl
 rintro h rfl; exact h (strB_size [])
theorem ba_ext {a b:ByteArray} (h:a.data.toList=b.data.toList):a=b:=ByteArray.ext (Array.toList_inj.1 h)
theorem ext_drop (s:ByteArray) (a:Nat):(s.extract a s.size).data.toList=s.data.toList.drop a:=by
 rw [ByteArray.data_extract,Array.toList_extract]
 show (s.data.toList.drop a).take (s.size - a)=_
 exact List.take_of_length_le (by rw [List.length_drop]; exact leR)
theorem slash_list (p q:ByteArray):(p++⟨#[47]⟩++q).data.toList=p.data.toList++47::q.data.toList:=by simp
theorem text_ratV {z:ByteArray} {p q:Int} (h:TextR p q z) (h0:0<q) (hg:Int.gcd p q=1) (hz:z≠strB []):∃ k,IsCut z k∧RatV z k p q:=by
 unfold TextR at h
 by_cases A:q=1
 ·rw [if_pos A] at h; obtain ⟨t,s⟩:=text_num h hz; exact ⟨none,int_noslash t,t,s.symm,A⟩
 rw [if_neg A] at h; obtain ⟨u,v,H,I,rfl⟩:=h
 by_cases E:u.size=0∨v.size=0
 ·rw [if_pos E] at hz; exact absurd rfl hz
 rw [if_neg E]; have K:u≠strB []:=size_ne.2 (by omega); have L:v≠strB []:=size_ne.2 (by omega); obtain ⟨t,s⟩:=text_num H K; obtain ⟨J,D⟩:=text_num I L; have i:=slash_list u v; have m:u.data.toList.length=u.size:=by simp
 have F:cutP (u++⟨#[47]⟩++v) (some u.size)=u:=ba_ext (by
  have:(cutP (u++⟨#[47]⟩++v) (some u.size)).data.toList=(u++⟨#[47]⟩++v).data.toList.take u.size:=by simp [cutP]
  rw [this,i,List.take_append_of_le_length (by omega),List.take_of_length_le (by omega)])
 have G:cutQ (u++⟨#[47]⟩++v) (some u.size)=v:=ba_ext (by
  have:(cutQ (u++⟨#[47]⟩++v) (some u.size)).data.toList=(u++⟨#[47]⟩++v).data.toList.drop (u.size+1):=ext_drop _ _; rw [this,i,← m,List.drop_append,List.drop_eq_nil_of_le (by omega)]; simp)
 refine ⟨some u.size,⟨?_,?_⟩,?_⟩
 ·rw [i,List.getElem?_append_right (by omega),m,Nat.sub_self]; rfl
 ·intro j M; rw [i,List.getElem?_append_left (by omega)]; exact int_noslash t j
 show (isIntB (cutP _ _)=true∧isIntB (cutQ _ _)=true)∧(numT (cutQ _ _)≠0∧cutP _ _≠strB [48]∧cutQ _ _≠strB [49]∧isNeg (cutQ _ _)=false∧Int.gcd (numT (cutP _ _)) (numT (cutQ _ _))=1)∧p=numT (cutP _ _)∧q=numT (cutQ _ _)
 rw [F,G]; refine ⟨⟨t,J⟩,⟨by omega,?_,?_,numT_neg v (by omega),by rw [s,D]; exact hg⟩,s.symm,D.symm⟩
 ·rintro rfl; rw [num_nil] at s; rw [← s] at hg; have:q.natAbs=1:=by simpa using hg
  omega
 rintro rfl; rw [num_one] at D; exact A D.symm
theorem max_of {u:ByteArray} {n:Nat} (h:u.size≤n) (hn:n≤100000):u.size≤maxLen:=by unfold maxLen; omega
theorem resQ_size {N D:Int→Int→Int→Int→Int} {ok:Int→Prop} {s t u:ByteArray} (h:IsResQ N D ok s t u):u.size≤6000:=by
 obtain ⟨k,m,_,_,h⟩:=h
 rcases h with ⟨F,H,G,I,p,q,_,_,_,_,h⟩|⟨_,rfl⟩
 ·unfold TextR at h
  split at h
  ·have:=text_size h; omega
  obtain ⟨p,q,i,j,rfl⟩:=h; have A:=text_size i; have E:=text_size j
  split
  ·exact Nat.zero_le _
  have e:(p++⟨#[47]⟩++q).size=p.size+1+q.size:=by rw [ByteArray.size_append,ByteArray.size_append]; rfl
  omega
 exact Nat.zero_le _
end Go.Proofs.YtnhbmpnhijgpmaaGreatDoor
