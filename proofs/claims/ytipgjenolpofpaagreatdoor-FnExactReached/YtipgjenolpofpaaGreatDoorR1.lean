import Derived.Test.YtipgjenolpofpaaGreatDoorP00
import Derived.Test.YtipgjenolpofpaaGreatDoorP36
import Derived.Test.YtipgjenolpofpaaGreatDoorP12
import Derived.Test.YtipgjenolpofpaaGreatDoorP14
import Derived.Test.YtipgjenolpofpaaGreatDoorP40
set_option maxRecDepth 100000
set_option maxHeartbeats 4000000
namespace Go.Proofs.YtipgjenolpofpaaGreatDoor
open ChangeShapes WideShapes ChangeAt RowKit Proofs.Tryz
def Nl (l:List UInt8):Bool:=decide ((Lib.cut (Lib.trimPrefix l [45]) [47]).1.length<=30)&&decide ((Lib.cut (Lib.trimPrefix l [45]) [47]).2.1.length<=30)
theorem By (l p:List UInt8):(Lib.trimPrefix l p).length<=l.length:=by
 unfold Lib.trimPrefix
 split
 ·rw[Zb];omega
 exact Of
theorem Rj (s:ByteArray)(m:Int)(w:World)(hs:s.size<=1048576)(hm:w.cell? ⟨1,0,none⟩=some (.int .i64 m)) :
 Calls prog 138 #[.string s] w fun e w'=>e=.returned (.bool (Nl s.data.toList))/\Up w w':=by
 have d:Hid (Nl s.data.toList=(decide ((Lib.cut (Lib.trimPrefix s.data.toList [45]) [47]).1.length<=30)&&decide ((Lib.cut (Lib.trimPrefix s.data.toList [45]) [47]).2.1.length<=30))):=rfl;have hl:(Lib.trimPrefix s.data.toList [45]).length<=1048576:=Yk (By _ _) (by rw[Ol];exact hs)
 go_in
 go_wp2_with fail
 refine (Tryz.strings_TrimPrefix s ⟨#[45]⟩ _).mono ?_;rw[show (⟨#[45]⟩:ByteArray).data.toList=[45] from rfl];generalize Lib.trimPrefix s.data.toList [45]=R at d hl ⊢;rintro e M ⟨rfl,rfl⟩
 go_wp2_with fail
 refine (Tryz.strings_Cut ⟨R.toArray⟩ ⟨#[47]⟩ m _ (by show R.toArray.size<_;simp;omega) hm).mono ?_;rw[show (⟨#[47]⟩:ByteArray).data.toList=[47] from rfl,show (⟨R.toArray⟩:ByteArray).data.toList=R from rfl];generalize Lib.cut R [47]=C at d ⊢;obtain⟨c1,c2,c3⟩:=C;simp only at d ⊢;rintro e O ⟨rfl,K,rfl⟩;have A:(⟨c1.toArray⟩:ByteArray).size=c1.length:=by show c1.toArray.size=_;simp
 have E:(⟨c2.toArray⟩:ByteArray).size=c2.length:=by show c2.toArray.size=_;simp
 by_cases h:c1.length<=30
 ·by_cases j:c2.length<=30
  ·have G:Hid (Nl s.data.toList=true):=by unfold Hid;rw[d.o,Jb h,Jb j];rfl
   go_wp2
   go_ret
   exact⟨Oz (by rw[G.o];first|rfl|(rw[Js];omega)),below_drewN (Jh _ _) _⟩
  have G:Hid (Nl s.data.toList=false):=by unfold Hid;rw[d.o,Jb h,Jg j];rfl
  have J:30<c2.length:=by omega
  go_wp2
  go_ret
  exact⟨Oz (by rw[G.o];first|rfl|(rw[Jm];omega)),below_drewN (Jh _ _) _⟩
 have G:Hid (Nl s.data.toList=false):=by unfold Hid;rw[d.o,Jg h];rfl
 have I:30<c1.length:=by omega
 go_wp2
 go_ret
 exact⟨Oz (by rw[G.o]),below_drewN (Jh _ _) _⟩
def VW (so tx:List UInt8):Prop:=Nl tx=true/\((so=Kn/\Q.isIntB (Oo tx)=true)∨(so=Ki/\∃ k x y,Q.IsCut (Oo tx) k/\Q.RatV (Oo tx) k x y))
open Classical in
noncomputable def Gr (t:Tm):Bool:=decide (VW t.sort t.text)
theorem Lm (t:Tm)(m:Int)(w:World)(hs:t.sort=Kn∨t.sort=Ki)(htx:t.text.length<=1048576)(hm:w.cell? ⟨1,0,none⟩=some (.int .i64 m))(hSP:Q.SP w)(hNS:Q.NS w)(hLT:Q.LT w) :
 Calls prog 118 #[.string (Oo t.sort),.string (Oo t.text)] w fun e w'=>e=.returned (.bool (Gr t))/\Up w w':=by
 have b3:(Oo t.text).size<=1048576:=by show t.text.toArray.size<=_;simpa using htx
 have K:(Oo t.text).size<=maxLen:=by unfold maxLen;omega
 have V:Hid (Gr t=true↔VW t.sort t.text):=by unfold Hid Gr;exact @Js _ (Classical.propDecidable _)
 have Z:=Hd hSP;have Y:=Hd hNS;have U:=Hd hLT;clear hSP hNS hLT
 go_in
 go_wp2_with fail
 refine (Rj (Oo t.text) m _ b3 hm).mono ?_;rw[Ou]
 cases A:Nl t.text
 ·have G:Hid (Gr t=false):=by
   unfold Hid;rw[J9];intro h;have:=(V.o.1 h).1;rw[A] at this
   cases this
  clear A;rintro e w1 ⟨rfl,j⟩;have d:=Hd j;clear j
  go_wp2
  go_ret
  exact⟨Oz G.o.symm,d.o⟩
 have J:=Hd A;clear A;rintro e w1 ⟨rfl,j⟩;have d:=Hd j;clear j
 rcases hs with hs|hs
 ·have q:((Oo t.sort).toList==[73,110,116])=true:=by rw[Jl,Ou,hs];rfl
  have G:Hid (Gr t=Q.isIntB (Oo t.text)):=by
   unfold Hid;rw[Yb,V.o];constructor
   ·rintro⟨-,h|h⟩
    ·exact h.2
    rw[hs] at h;exact absurd h.1 (by decide)
   intro h;exact⟨J.o,.inl ⟨hs,h⟩⟩
  clear hs
  go_wp2_with fail
  refine (Q.readInteger_any (Oo t.text) _ K).mono ?_;generalize Q.isIntB (Oo t.text)=B at G ⊢;rintro e w2 ⟨n,a,l,c,rfl,-,hb2⟩;have E:Hid (Up w (w2.alloc (.cells #[.bool n,.slice a l c] 162))):=(d.o.trans (hb2.mono d.o.size)).alloc (Yk d.o.size hb2.size) _;clear hb2
  go_wp2
  go_ret
  exact⟨Oz G.o.symm,E.o⟩
 have q:((Oo t.sort).toList==[73,110,116])=false:=by rw[Jl,Ou,hs];rfl
 obtain⟨k,hk⟩:=Q.isCut_ex (Oo t.text);have O:=Hd hk;have HG:Hid (Gr t=true↔∃ x y,Q.RatV (Oo t.text) k x y):=by
  unfold Hid;rw[V.o];constructor
  ·rintro⟨-,h|⟨-,k2,x,y,a7,hv⟩⟩
   ·rw[hs] at h;exact absurd h.1 (by decide)
   obtain rfl:=Q.isCut_unique O.o a7;exact⟨x,y,hv⟩
  rintro⟨x,y,hv⟩;exact⟨J.o,.inr ⟨hs,k,x,y,O.o,hv⟩⟩
 clear hs hk
 go_wp2_with fail
 refine (Q.readRational_any (Oo t.text) k _ K O.o (Z.o.bl d.o) (Y.o.bl d.o) (U.o.bl d.o)).mono ?_;rintro e w2 ⟨z,ok,rfl,⟨a8,M,-⟩,hb2⟩;have G:Hid (Gr t=ok):=by unfold Hid;rw[Yb,HG.o,M]
 have I:=d.up hb2;clear hb2 M;obtain⟨s1,p1,l1,c1,s2,p2,l2,c2,rfl⟩:=a8;have E:Hid (Up w (w2.alloc (.cells #[.bool s1,.slice p1 l1 c1,.bool s2,.slice p2 l2 c2] 166))):=I.o.alloc I.o.size _
 go_wp2
 go_ret
 exact⟨Oz G.o.symm,E.o⟩
end Go.Proofs.YtipgjenolpofpaaGreatDoor
namespace Go.Proofs.YtipgjenolpofpaaGreatDoor
open ChangeShapes WideShapes ChangeAt RowKit
theorem Me (s:ByteArray)(h:Q.isIntB s=true)(neg:Bool)(t:List Nat)(hok:Q.okL t)(htr:Q.isTrim t)(hx:Q.sg neg (Q.val t)=Q.numT s):Q.digC t=(Q.dgs s).size:=by
 unfold Q.isIntB at h;simp only[J3,Uq,Yg,Vs,Jm,Ju] at h;obtain⟨⟨⟨M,h2⟩,h3⟩,h4⟩:=h;have d:∀ c∈(Q.dgs s).data.toList,Q.dig c:=fun c hc=>by have:=h3 c hc;unfold Q.isDig at this;simpa[Q.dig] using this
 have A:Q.okL (Q.lim s):=Q.trimL_ok _ (Q.chunks_ok _ d);have E:Q.val t=Q.val (Q.lim s):=by
  unfold Q.numT at hx
  cases neg<;>cases hn:Q.isNeg s<;>rw[hn] at hx<;>simp[Q.sg] at hx<;>omega
 obtain rfl:=Q.val_inj t (Q.lim s) hok A htr (Q.trimL_trim _) E
 by_cases h5:(Q.dgs s).data.toList.head? = some 48
 ·have J:s.toList=[48]:=by
   rcases h4 with h|h
   ·exact absurd h5 h
   simpa using h
  have K:s=Q.strB [48]:=by
   rw[Jl] at J;apply ByteArray.ext
   show s.data=[48].toArray
   rw[<-J]
  have e:Q.digC (Q.lim (Q.strB [48]))=(Q.dgs (Q.strB [48])).size:=by kernel_rfl
  rw[K];exact e
 have I:Q.textD (Q.lim s)=(Q.dgs s).data.toList:=Q.textD_chunks (Q.dgs s).data.toList d h5;have j:(Q.dgs s).data.toList.length=(Q.dgs s).size:=by simp
 have G:¬ (Q.lim s).length=0:=fun e=>by
  rw[Jv e] at I;have O:(Q.dgs s).data.toList.length=0:=by rw[<-I];rfl
  omega
 unfold Q.digC;rw[if_neg G,I,j]
theorem Mm (t:List Nat)(hok:Q.okL t)(htr:Q.isTrim t)(h:Q.digC t<=62):t.length<=600:=by
 by_cases d:t=[]
 ·rw[d];exact Jy _
 have:=Q.textD_ge t hok htr d;unfold Q.digC at h;rw[if_neg (fun e=>d (Jv e))] at h;omega
theorem IC {l:List UInt8}(h:∀ j:Nat,l[j]? ≠ some 47):Lib.cut l [47]=(l,[],false):=by
 unfold Lib.cut;rw[Lib.index_one];have A:=Lib.indexByte_ge l 47
 by_cases d:Lib.indexByte l 47 = -1
 ·rw[d];rfl
 obtain⟨o,E⟩:=Zn (show 0<=Lib.indexByte l 47 by omega);exact absurd (Lib.indexByte_some E).1 (h o)
theorem Sh {l:List UInt8}{i:Nat}(h0:l[i]? = some 47)(h:∀ j:Nat,j<i->l[j]? ≠ some 47):Lib.cut l [47]=(l.take i,l.drop (i+1),true):=by
 unfold Lib.cut;rw[Lib.index_one];have G:=Lib.indexByte_ge l 47
 by_cases E:Lib.indexByte l 47 = -1
 ·exact absurd h0 (Lib.indexByte_none E i)
 obtain⟨o,d⟩:=Zn (show 0<=Lib.indexByte l 47 by omega);have A:=Lib.indexByte_some d;have:o=i:=by
  rcases Nat.lt_trichotomy o i with hl|hl|hl
  ·exact absurd A.1 (h o hl)
  ·exact hl
  exact absurd h0 (A.2 i hl)
 subst this;rw[d,if_pos (by simp)];rfl
theorem Qb (r:List UInt8):Lib.trimPrefix (45::r) [45]=r:=by
 simp[Lib.trimPrefix,Lib.hasPrefix]
theorem Pi {l:List UInt8}(h:l.head? ≠ some 45):Lib.trimPrefix l [45]=l:=by
 cases l with
 | nil=>rfl
 | cons c r=>
   have:¬ (45:UInt8)=c:=fun e=>h (by simp[<-e]);simp[Lib.trimPrefix,Lib.hasPrefix,this]
theorem Tq (l:List UInt8):Q.isNeg (Oo l)=decide (l.head? = some 45):=by
 unfold Q.isNeg;rw[Jl];have:((Oo l).extract 0 1).data.toList=l.take 1:=by
  rw[Y9,Zo]
  show (l.toArray.toList.drop 0).take (1 - 0)=_
  simp
 rw[this]
 cases l with
 | nil=>rfl
 | cons c r=>by_cases h:c=45<;>simp[h]
theorem Rl (l:List UInt8):(Q.dgs (Oo l)).size=(Lib.trimPrefix l [45]).length:=by
 unfold Q.dgs;rw[Tq]
 cases l with
 | nil=>rfl
 | cons c r=>
   by_cases h:c=45
   ·subst h;rw[Qb,if_pos (by simp),Ym];have:(Oo (45::r)).size=r.length+1:=by show (45::r).toArray.size=_;simp
    omega
   rw[Pi (by simpa using h),if_neg (by simpa using h)]
   show (c::r).toArray.size=_
   simp
theorem Mk (l:List UInt8)(i:Nat):Q.cutP (Oo l) (some i)=Oo (l.take i):=by
 apply ByteArray.ext
 show ((Oo l).extract 0 i).data=_
 rw[Y9]
 show l.toArray.extract 0 i=(l.take i).toArray
 apply Array.toList_inj.1;rw[Zo];simp[List.extract]
theorem KH (l:List UInt8)(i:Nat):Q.cutQ (Oo l) (some i)=Oo (l.drop (i+1)):=by
 apply ByteArray.ext
 show ((Oo l).extract (i+1) (Oo l).size).data=_
 rw[Y9]
 show l.toArray.extract (i+1) l.toArray.size=(l.drop (i+1)).toArray
 apply Array.toList_inj.1;rw[Zo]
 show (l.drop (i+1)).take (l.toArray.size - (i+1))=l.drop (i+1)
 exact Jn (by simp)
theorem F1 {l:List UInt8}(h:Q.IsCut (Oo l) none):Nl l=decide ((Q.dgs (Oo l)).size<=30):=by
 have d:∀ j:Nat,l[j]? ≠ some 47:=fun j=>by have:=h j;rwa [Ou] at this
 have h2:∀ j:Nat,(Lib.trimPrefix l [45])[j]? ≠ some 47:=fun j=>by
  by_cases hn:l.head? = some 45
  ·obtain⟨r,rfl⟩:∃ r,l=45::r:=by cases l with|nil=>cases hn|cons c r=>exact⟨r,by simp at hn;rw[hn]⟩
   rw[Qb];exact d (j+1)
  rw[Pi hn];exact d j
 unfold Nl;rw[IC h2,Rl];simp
theorem F3 {l:List UInt8}{i:Nat}(h:Q.IsCut (Oo l) (some i)):Nl l=(decide ((Q.dgs (Q.cutP (Oo l) (some i))).size<=30)&&decide ((Q.cutQ (Oo l) (some i)).size<=30))/\l.length=i+1+(Q.cutQ (Oo l) (some i)).size/\i<=(Q.dgs (Q.cutP (Oo l) (some i))).size+1:=by
 obtain⟨d,I⟩:=h;rw[Ou] at d;have A:∀ j:Nat,j<i->l[j]? ≠ some 47:=fun j hj=>by have:=I j hj;rwa [Ou] at this
 have G:i<l.length:=by
  rcases Nat.lt_or_ge i l.length with g|g
  ·exact g
  rw[List.getElem?_eq_none_iff.2 g] at d;cases d
 rw[Mk,KH,Rl];have J:(Oo (l.drop (i+1))).size=(l.drop (i+1)).length:=by show (l.drop (i+1)).toArray.size=_;simp
 rw[J]
 by_cases hn:l.head? = some 45
 ·obtain⟨r,rfl⟩:∃ r,l=45::r:=by cases l with|nil=>cases hn|cons c r=>exact⟨r,by simp at hn;rw[hn]⟩
  cases i with
  | zero=>simp at d
  | succ i=>
    have e:Lib.cut r [47]=(r.take i,r.drop (i+1),true):=Sh (by simpa using d) (fun j hj=>by simpa using A (j+1) (by omega));unfold Nl;rw[Qb,e,List.take_succ_cons,Qb];refine⟨rfl,?_,?_⟩
    ·simp at G ⊢;omega
    simp at G ⊢;omega
 have e:=Sh d A;have E:(l.take i).head? ≠ some 45:=by
  cases l with
  | nil=>simp
  | cons c r=>cases i with|zero=>simp|succ i=>simpa using hn
 unfold Nl;rw[Pi hn,e,Pi E];refine⟨rfl,?_,?_⟩
 ·simp;omega
 simp;omega
theorem UI {l:List UInt8}(h:Q.isIntB (Oo l)=true):Q.IsCut (Oo l) none:=by
 intro j d;rw[Ou] at d;unfold Q.isIntB at h;simp only[J3,Ju] at h;have h3:=h.1.2;have E:(47:UInt8)∈(Q.dgs (Oo l)).data.toList:=by
  unfold Q.dgs;rw[Tq];have A:=Ve d
  split
  ·have e:((Oo l).extract 1 (Oo l).size).data.toList=l.drop 1:=by
    rw[Y9,Zo]
    show (l.drop 1).take (l.toArray.size - 1)=_
    exact Jn (by simp)
   rw[e]
   cases j with
   | zero=>rename_i hd;cases l with|nil=>simp at d|cons c r=>simp at d hd;rw[d] at hd;exact absurd hd (by decide)
   | succ j=>exact Ve (i:=j) (by simpa using d)
  rw[Ou];exact A
 have:=h3 47 E;exact absurd this (by decide)
end Go.Proofs.YtipgjenolpofpaaGreatDoor
namespace Go.Proofs.YtipgjenolpofpaaGreatDoor
open ChangeShapes WideShapes ChangeAt RowKit Proofs.Tryz
theorem DN (l:List UInt8):l.length<=(Lib.trimPrefix l [45]).length+1:=by
 unfold Lib.trimPrefix
 split
 ·rw[Zb];simp;omega
 omega
theorem NY {so tx:List UInt8}(h:VW so tx):tx.length<=62:=by
 obtain⟨A,hn⟩:=h;have d:Q.IsCut (Oo tx) none->tx.length<=62:=fun hc=>by
  rw[F1 hc,Rl,Js] at A;have:=DN tx;omega
 rcases hn with⟨-,h⟩|⟨-,k,x,y,j,-⟩
 ·exact d (UI h)
 cases k with
 | none=>exact d j
 | some i=>
   obtain⟨e,E,h2⟩:=F3 j;rw[e,J3,Js,Js] at A;omega
theorem Ss (B:Nat)(w:World)(z:Value)(x y:Int)(hB:B<=w.heap.size)(hz:Q.IsQN B w z x y)(p q:ByteArray)(hp:Q.isIntB p=true)(hq:Q.isIntB q=true)(hx:x=Q.numT p)(hy:y=Q.numT q)(h1:(Q.dgs p).size<=62)(h2:(Q.dgs q).size<=62) :
 Calls prog 89 #[z,.int .i64 30] w fun e w'=>e=.returned (.bool (decide ((Q.dgs p).size<=30)&&decide ((Q.dgs q).size<=30)))/\Up w w':=by
 obtain⟨J,U,K,O,M,V,qn,Y,ql,Z,rfl,⟨h,t1,d,v1,-⟩,j,t2,z2,v2,-⟩:=hz;have A:=Me p hp h t1 d.1 d.2.1 (v1.trans hx);have E:=Me q hq j t2 z2.1 z2.2.1 (v2.trans hy);have G:=Mm t1 d.1 d.2.1 (by omega);have I:=Mm t2 z2.1 z2.2.1 (by omega);refine (Q.l2Fits_30 B J U K O M V qn Y ql Z h j t1 t2 w hB d z2 G I).mono ?_;rintro e w' ⟨rfl,hb⟩;exact⟨by rw[A,E,Bool.decide_and],hb⟩
theorem Tb:(Q.dgs (Q.strB [49])).size=1:=by kernel_rfl
theorem Ct (B:Nat)(w:World)(z:Value)(l:List UInt8)(k:Option Nat)(x y:Int)(hB:B<=w.heap.size)(hz:Q.IsQN B w z x y)(hl:l.length<=62)(hk:Q.IsCut (Oo l) k)(hV:Q.RatV (Oo l) k x y) :
 Calls prog 89 #[z,.int .i64 30] w fun e w'=>e=.returned (.bool (Nl l))/\Up w w':=by
 have h:∀ m:List UInt8,m.length<=62->(Q.dgs (Oo m)).size<=62:=fun m hm=>by
  rw[Rl];have:=By m [45];omega
 cases k with
 | none=>
   obtain⟨d,h2,h3⟩:=hV;refine (Ss B w z x y hB hz (Oo l) (Q.strB [49]) d Q.int_one h2 (h3.trans Q.num_one.symm) (h l hl) (by rw[Tb];decide)).mono ?_;rintro e w' ⟨rfl,hb⟩;refine⟨?_,hb⟩;rw[F1 hk];rw[Tb];simp
 | some i=>
   obtain⟨⟨d,h2⟩,⟨-,-,-,hn,-⟩,h3,h4⟩:=hV;obtain⟨A,e2,E⟩:=F3 hk;have j:Q.dgs (Q.cutQ (Oo l) (some i))=Q.cutQ (Oo l) (some i):=by unfold Q.dgs;rw[hn];rfl
   refine (Ss B w z x y hB hz _ _ d h2 h3 h4 (by rw[Mk];exact h _ (by rw[J4];omega)) (by rw[j];omega)).mono ?_;rintro e w' ⟨rfl,hb⟩;refine⟨?_,hb⟩;rw[A,j]
theorem EL (t:Tm)(vk:Value)(w:World)(htx:t.text.length<=1048576) :
 Calls prog 71 #[.agg #[.int .i64 t.op,.string (Oo t.sort),.string (Oo t.text),.int .i64 t.a,.int .i64 t.b,vk]] w fun e w'=>e=.returned (.bool (Gr t))/\Up w w':=by
 have j:(Oo t.text).size=t.text.length:=by show t.text.toArray.size=_;simp
 have U:(Oo t.text).size<=maxLen:=by unfold maxLen;omega
 have HN:Hid (Gr t=true↔VW t.sort t.text):=by unfold Hid Gr;exact @Js _ (Classical.propDecidable _)
 have I:Hid (Up w (w.alloc (.cells #[.int .i64 t.op,.string (Oo t.sort),.string (Oo t.text),.int .i64 t.a,.int .i64 t.b,vk] 57))):=Oy _ _
 by_cases hl:62<t.text.length
 ·have G:Hid (Gr t=false):=by
   unfold Hid;rw[J9];intro h;have:=NY (HN.o.1 h);omega
  have z1:decide ((62:Int)<((Oo t.text).size:Int))=true:=by rw[j,Js];omega
  clear hl j U
  go_in
  go_wp2
  go_ret
  exact⟨Oz G.o.symm,I.o⟩
 have b4:t.text.length<=62:=by omega
 have z1:decide ((62:Int)<((Oo t.text).size:Int))=false:=by rw[j,Jm];omega
 have HL:=Hd b4;have HM:=Hd U;clear hl b4 j U htx
 by_cases A:t.sort=Kn
 ·have q:((Oo t.sort).toList==[73,110,116])=true:=by rw[Jl,Ou,A];rfl
  have HG:Hid (Gr t=(Nl t.text&&Q.isIntB (Oo t.text))):=by
   unfold Hid;rw[Yb,HN.o,J3];constructor
   ·rintro⟨h1,h|h⟩
    ·exact⟨h1,h.2⟩
    rw[A] at h;exact absurd h.1 (by decide)
   intro h;exact⟨h.1,.inl ⟨A,h.2⟩⟩
  clear A
  go_in
  go_wp2_with fail
  refine (Q.isInt_spec (Oo t.text) _ HM.o).mono ?_
  cases V:Q.isIntB (Oo t.text)
  ·have G:Hid (Gr t=false):=by unfold Hid;rw[HG.o,V,Y0]
   clear V;rintro e w1 ⟨rfl,rfl⟩
   go_wp2
   go_ret
   exact⟨Oz G.o.symm,I.o⟩
  have G:Hid (Gr t=Nl t.text):=by unfold Hid;rw[HG.o,V,Bool.and_true]
  have E:=Hd (UI V);have HV:Hid (Q.RatV (Oo t.text) none (Q.numT (Oo t.text)) 1):=⟨V,rfl,rfl⟩;clear V;rintro e w1 ⟨rfl,rfl⟩
  go_wp2_with fail
  refine (Q.l2Read_any (Oo t.text) none _ _ _ HM.o E.o HV.o).mono ?_;rintro e w2 ⟨z,rfl,j,hb⟩;have HF:=Hd (Ct _ w2 z t.text none _ _ hb.size j HL.o E.o HV.o);have d:=Hd (I.o.trans (hb.mono I.o.size));obtain⟨p0,pn,pa,pl,pc,q0,qn,qa,ql,qc,rfl,-⟩:=j;clear hb
  go_wp2_with fail
  refine HF.o.mono ?_;rintro e w3 ⟨rfl,hb⟩;have K:=Hd (d.o.trans (hb.mono d.o.size));clear hb
  go_wp2
  go_ret
  exact⟨Oz G.o.symm,K.o⟩
 have q:((Oo t.sort).toList==[73,110,116])=false:=by rw[Jl,Ou,Jc];exact A
 by_cases Y:t.sort=Ki
 ·have q2:((Oo t.sort).toList==[82,101,97,108])=true:=by rw[Jl,Ou,Y];rfl
  obtain⟨k,hk⟩:=Q.isCut_ex (Oo t.text);have E:=Hd hk;have HG:Hid (Gr t=true↔Nl t.text=true/\∃ x y,Q.RatV (Oo t.text) k x y):=by
   unfold Hid;rw[HN.o];constructor
   ·rintro⟨h1,h|⟨-,k2,x,y,O,Z⟩⟩
    ·exact absurd h.1 A
    obtain rfl:=Q.isCut_unique E.o O;exact⟨h1,x,y,Z⟩
   rintro⟨h1,x,y,Z⟩;exact⟨h1,.inr ⟨Y,k,x,y,E.o,Z⟩⟩
  clear A Y hk
  go_in
  go_wp2_with fail
  refine (Q.specIsRat_any (Oo t.text) _ HM.o).mono ?_;rintro e w1 ⟨b,rfl,hR,M⟩;have HR:Hid (b=true↔∃ x y,Q.RatV (Oo t.text) k x y):=by
   obtain⟨k2,O,h⟩:=hR;obtain rfl:=Q.isCut_unique E.o O;exact h
  have J:=Hd (I.o.trans (M.mono I.o.size));have hc:w1.cell? ⟨w.heap.size,2,none⟩=some (.string (Oo t.text)):=by
   have hx:=Oi w [.int .i64 t.op,.string (Oo t.sort),.string (Oo t.text),.int .i64 t.a,.int .i64 t.b,vk] 57;exact (hx.bl hx.lt M).cell 2
  clear hR M
  cases b
  ·have G:Hid (Gr t=false):=by
    unfold Hid;rw[J9];intro h;have:=HR.o.2 (HG.o.1 h).2
    cases this
   go_wp2
   go_ret
   exact⟨Oz G.o.symm,J.o⟩
  have G:Hid (Gr t=Nl t.text):=by
   unfold Hid;rw[Yb,HG.o];exact⟨fun h=>h.1,fun h=>⟨h,HR.o.1 rfl⟩⟩
  obtain⟨x,y,Z⟩:=HR.o.1 rfl;have HV:=Hd Z;clear Z
  go_wp2_with fail
  refine (Q.l2Read_any (Oo t.text) k x y _ HM.o E.o HV.o).mono ?_;rintro e w2 ⟨z,rfl,j,hb⟩;have HF:=Hd (Ct _ w2 z t.text k x y hb.size j HL.o E.o HV.o);have d:=Hd (J.o.trans (hb.mono J.o.size));obtain⟨p0,pn,pa,pl,pc,q0,qn,qa,ql,qc,rfl,-⟩:=j;clear hb
  go_wp2_with fail
  refine HF.o.mono ?_;rintro e w3 ⟨rfl,hb⟩;have K:=Hd (d.o.trans (hb.mono d.o.size));clear hb
  go_wp2
  go_ret
  exact⟨Oz G.o.symm,K.o⟩
 have q2:((Oo t.sort).toList==[82,101,97,108])=false:=by rw[Jl,Ou,Jc];exact Y
 have G:Hid (Gr t=false):=by
  unfold Hid;rw[J9];intro h
  rcases (HN.o.1 h).2 with h|h
  ·exact A h.1
  exact Y h.1
 clear A Y
 go_in
 go_wp2
 go_ret
 exact⟨Oz G.o.symm,I.o⟩
theorem NO {t:Tm}(h:Gr t=true):t.sort=Kn∨t.sort=Ki:=by
 unfold Gr at h
 rcases ((@Js _ (Classical.propDecidable _)).1 h).2 with h|h
 ·exact .inl h.1
 exact .inr h.1
structure Vars (w:World):Prop where
 ev:EV w
 rt:RT w
 ml:∃ m,w.cell? ⟨1,0,none⟩=some (.int .i64 m)
 sp:Q.SP w
 ns:Q.NS w
 lt:Q.LT w
theorem Vars.bl {w w':World}(h:Vars w)(hb:Up w w'):Vars w':=by
 obtain⟨m,d⟩:=h.ml;exact⟨h.ev.keep (Below.keep hb),h.rt.keep (Below.keep hb),⟨m,(Below.keep hb).cell _ _ d⟩,h.sp.bl hb,h.ns.bl hb,h.lt.bl hb⟩
structure BankZ (S:List (List UInt8))(F:List Fn)(T:List Tm):Prop where
 ls:S.length<=1048576
 lf:F.length<=1048576
 lt:T.length<=1048576
 s:∀ s∈S,s.length<=1048576
 f:∀ f∈F,f.name.length<=1048576/\(∀ a∈f.args,a.length<=1048576)/\f.sort.length<=1048576
 t:∀ t∈T,t.sort.length<=1048576/\t.text.length<=1048576/\t.kids.length<=1048576/\(Lit.int .i64 t.op).wf=true/\(Lit.int .i64 t.a).wf=true/\(Lit.int .i64 t.b).wf=true
structure BankAt (w:World)(vs vf vt:Value)(S:List (List UInt8))(F:List Fn)(T:List Tm):Prop where
 s:O8 w vs S
 f:Eh w vf F
 t:Km w vt T
theorem BankAt.bl {w w':World}{vs vf vt:Value}{S:List (List UInt8)}{F:List Fn}{T:List Tm}(h:BankAt w vs vf vt S F T)(hb:Up w w'):BankAt w' vs vf vt S F T:=⟨h.s.bl hb,h.f.bl hb,h.t.bl hb⟩
theorem XT {w:World}{S:List (List UInt8)}{F:List Fn}{T:List Tm}(hv:Vars w)(hz:BankZ S F T):∀ t∈T,t.op=12->((Ov (Oh (Og S)) t.sort).kind=2∨(Ov (Oh (Og S)) t.sort).kind=3)->∀ W,Up w W->Calls prog 118 #[.string (Oo t.sort),.string (Oo t.text)] W fun e w'=>e=.returned (.bool (Gr t))/\Up W w':=by
 intro t E _ h W j;have d:=hv.bl j;obtain⟨m,A⟩:=d.ml;refine Lm t m W ?_ (hz.t t E).2.1 A d.sp d.ns d.lt
 rcases h with h|h
 ·exact .inl (((ZH _).i _).1 h)
 exact .inr (((ZH _).r _).1 h)
theorem XS {w:World}{vs vf vt:Value}{S:List (List UInt8)}{F:List Fn}{T:List Tm}(h:BankAt w vs vf vt S F T)(hz:BankZ S F T)(hv:Vars w):Calls prog 46 #[.agg #[vs,vf,vt]] w (Wf S Gr F T w):=by
 obtain⟨j,d,A⟩:=h;have E:=j;have h2:=d;have h3:=A;obtain⟨G,c1,rfl,-,-,-⟩:=E;obtain⟨I,c2,rfl,-,-,-⟩:=h2;obtain⟨J,c3,rfl,-,-,-⟩:=h3;exact Ao G I J c1 c2 c3 S Gr F T w j d A hz.ls hz.lf hv.ev hv.rt hz.s hz.f hz.t (XT hv hz)
theorem Ld {w:World}{vs vf vt:Value}{S:List (List UInt8)}{F:List Fn}{T:List Tm}(h:BankAt w vs vf vt S F T)(hz:BankZ S F T)(hv:Vars w) :
 Calls prog 11 #[.agg #[vs,vf,vt]] w fun e w'=>e=.returned (.bool (Gl S Gr F T))/\Up w w':=by
 obtain⟨Y,c1,J,-,-,-⟩:=h.s;obtain⟨Z,c2,e2,-,-,-⟩:=h.f;obtain⟨p3,c3,K,-,-,-⟩:=h.t;have d:Hid (Up w (w.alloc (.cells #[vs,vf,vt] 32))):=Oy _ _;have I:=Hd (XS (h.bl d.o) hz (hv.bl d.o));subst J e2 K;clear h hz hv
 go_in
 go_wp2_with fail
 refine I.o.mono ?_;rintro e M (⟨A,rfl,hb⟩|⟨A,V,sb,O,tb,U,n,vS,vF,vT,bF,rfl,-,j⟩)
 ·have G:=Hd A;have E:=d.up hb;clear A hb I
  go_wp2
  go_ret
  exact⟨Oz G.o.symm,E.o⟩
 have G:=Hd A;have E:Hid (Up w M):=d.o.trans (j.low.mono d.o.size);clear A j I
 go_wp2
 go_ret
 exact⟨Oz G.o.symm,E.o⟩
theorem OF (S:List (List UInt8))(F:List Fn)(T:List Tm):Gl S Gr F T=Hg S Gr F T:=
 IW S Gr F T fun own t h=>by
  rcases NO h with h|h
  ·exact .inl (((ZH own).i _).2 h)
  exact .inr (((ZH own).r _).2 h)
theorem Cw {w:World}{vs vf vt:Value}{S:List (List UInt8)}{F:List Fn}{T:List Tm}(h:BankAt w vs vf vt S F T)(hz:BankZ S F T)(hvs:∃ ad n c,vs=.slice (some ad) n c) :
 Calls prog 9 #[.agg #[vs,vf,vt]] w fun e w'=>e=.returned (.bool (Hg S Gr F T))/\Up w w':=
 Lc vs vf vt S Gr F T w h.s h.f h.t hz.s (fun f hf=>⟨(hz.f f hf).1,(hz.f f hf).2.2,(hz.f f hf).2.1⟩) (fun t ht=>⟨(hz.t t ht).1,(hz.t t ht).2.1,(hz.t t ht).2.2.1⟩) hz.ls hz.lf hz.lt hvs (fun t ht vk w' _=>EL t vk w' (hz.t t ht).2.1)
theorem Iz (x:List UInt8):(Oo x).size=x.length:=by show x.toArray.size=_;simp
def Nt (w:World)(v:Value)(L:List (List UInt8)):Prop:=
 ∃ a c,v=.slice a L.length c/\L.length<=c/\c<=maxLen/\(∀ s∈L,s.length<=maxLen)/\(L=[]∨∃ b off,a=some ⟨b,off,none⟩/\b<w.heap.size/\∀ i (h:i<L.length),w.cell? ⟨b,off+i,none⟩=some (.string (Oo L[i])))
theorem Nt.bl {w w':World}{v:Value}{L:List (List UInt8)}(h:Nt w v L)(hb:Up w w'):Nt w' v L:=by
 obtain⟨a,c,rfl,A,h2,h3,h4⟩:=h;refine⟨a,c,rfl,A,h2,h3,?_⟩
 rcases h4 with h|⟨b,j,rfl,d,E⟩
 ·exact .inl h
 exact .inr ⟨b,j,rfl,Jz d hb.size,fun i hi=>(hb.cell (p:=⟨b,j+i,none⟩) d).trans (E i hi)⟩
def N8 (w:World)(v:Value)(L:List Int):Prop:=
 ∃ a c,v=.slice a L.length c/\L.length<=c/\c<=maxLen/\(L=[]∨∃ b off,a=some ⟨b,off,none⟩/\b<w.heap.size/\∀ i (h:i<L.length),w.cell? ⟨b,off+i,none⟩=some (.int .i64 L[i]))
theorem N8.bl {w w':World}{v:Value}{L:List Int}(h:N8 w v L)(hb:Up w w'):N8 w' v L:=by
 obtain⟨a,c,rfl,A,h2,h4⟩:=h;refine⟨a,c,rfl,A,h2,?_⟩
 rcases h4 with h|⟨b,j,rfl,d,E⟩
 ·exact .inl h
 exact .inr ⟨b,j,rfl,Jz d hb.size,fun i hi=>(hb.cell (p:=⟨b,j+i,none⟩) d).trans (E i hi)⟩
def I6 (w:World)(v:Value)(F:List Fn):Prop:=
 ∃ a c,v=.slice a F.length c/\F.length<=c/\c<=maxLen/\(∀ f∈F,f.name.length<=maxLen/\f.sort.length<=maxLen)/\(F=[]∨∃ b off,a=some ⟨b,off,none⟩/\b<w.heap.size/\∀ i (h:i<F.length),w.cell? ⟨b,off+i*3,none⟩=some (.string (Oo F[i].name))/\(∃ va,w.cell? ⟨b,off+i*3+1,none⟩=some va/\Nt w va F[i].args)/\w.cell? ⟨b,off+i*3+2,none⟩=some (.string (Oo F[i].sort)))
theorem I6.bl {w w':World}{v:Value}{F:List Fn}(h:I6 w v F)(hb:Up w w'):I6 w' v F:=by
 obtain⟨a,c,rfl,A,h2,h3,h4⟩:=h;refine⟨a,c,rfl,A,h2,h3,?_⟩
 rcases h4 with h|⟨b,j,rfl,d,E⟩
 ·exact .inl h
 refine .inr ⟨b,j,rfl,Jz d hb.size,fun i hi=>?_⟩;obtain⟨G,⟨J,I,ha⟩,k2⟩:=E i hi;exact⟨(hb.cell (p:=⟨b,j+i*3,none⟩) d).trans G,⟨J,(hb.cell (p:=⟨b,j+i*3+1,none⟩) d).trans I,ha.bl hb⟩,(hb.cell (p:=⟨b,j+i*3+2,none⟩) d).trans k2⟩
def Hb (w:World)(v:Value)(T:List Tm):Prop:=
 ∃ a c,v=.slice a T.length c/\T.length<=c/\c<=maxLen/\(∀ t∈T,t.sort.length<=maxLen/\t.text.length<=maxLen)/\(T=[]∨∃ b off,a=some ⟨b,off,none⟩/\b<w.heap.size/\∀ i (h:i<T.length),w.cell? ⟨b,off+i*6,none⟩=some (.int .i64 T[i].op)/\w.cell? ⟨b,off+i*6+1,none⟩=some (.string (Oo T[i].sort))/\w.cell? ⟨b,off+i*6+2,none⟩=some (.string (Oo T[i].text))/\w.cell? ⟨b,off+i*6+3,none⟩=some (.int .i64 T[i].a)/\w.cell? ⟨b,off+i*6+4,none⟩=some (.int .i64 T[i].b)/\∃ va,w.cell? ⟨b,off+i*6+5,none⟩=some va/\N8 w va T[i].kids)
theorem Hb.bl {w w':World}{v:Value}{T:List Tm}(h:Hb w v T)(hb:Up w w'):Hb w' v T:=by
 obtain⟨a,c,rfl,A,h2,h3,h4⟩:=h;refine⟨a,c,rfl,A,h2,h3,?_⟩
 rcases h4 with h|⟨b,j,rfl,d,E⟩
 ·exact .inl h
 refine .inr ⟨b,j,rfl,Jz d hb.size,fun i hi=>?_⟩;obtain⟨G,I,k2,k3,k4,J,k5,ha⟩:=E i hi;exact⟨(hb.cell (p:=⟨b,j+i*6,none⟩) d).trans G,(hb.cell (p:=⟨b,j+i*6+1,none⟩) d).trans I,(hb.cell (p:=⟨b,j+i*6+2,none⟩) d).trans k2,(hb.cell (p:=⟨b,j+i*6+3,none⟩) d).trans k3,(hb.cell (p:=⟨b,j+i*6+4,none⟩) d).trans k4,J,(hb.cell (p:=⟨b,j+i*6+5,none⟩) d).trans k5,ha.bl hb⟩
def Ci (L:List (List UInt8)):Prop:=L.length<=1048576/\∀ s∈L,s.length<=1048576
def Ch (f:Fn):Prop:=f.name.length<=1048576/\Ci f.args/\f.sort.length<=1048576
def Cx (t:Tm):Prop:=t.sort.length<=1048576/\t.text.length<=1048576/\t.kids.length<=1048576
def Cg (P:Prop)(w:World)(e:Ending)(w':World):Prop:=(e=.returned (.int .i64 (-1))∨∃ z:Nat,z<=1048576/\e=.returned (.int .i64 (z:Nat))/\P)/\Up w w'
theorem Q4 (v:Value)(L:List (List UInt8))(z0:Nat)(w:World)(h:Nt w v L)(hz0:z0<=1048576) :
 Calls prog 37 #[v,.int .i64 (z0:Nat)] w (Cg (Ci L) w):=by
 obtain⟨a,c,rfl,hc,U,J,E⟩:=h;unfold maxLen at U;have Z:=Hd E;have O:=Hd J;clear E J
 by_cases hl:z0<L.length
 ·have y:decide ((z0:Int) - (L.length:Int)<0)=true:=dT (by omega)
  go_in
  go_wp2
  go_ret
  exact⟨.inl rfl,Jh _ _⟩
 have y:decide ((z0:Int) - (L.length:Int)<0)=false:=dF (by omega)
 go_in
 go_wp2
 go_loopw [1,5] (fun zv iv wr=>∃ (i z:Nat),i<=L.length/\z<=1048576/\zv=.int .i64 (z:Nat)/\iv=.int .i64 (i:Nat)/\(∀ j (h:j<L.length),j<i->L[j].length<=1048576)/\w=wr) (fun _ iv _=>L.length - (intOf iv).toNat)
 case atStart=>exact⟨0,z0 - L.length,Jy _,by omega,by go_num,rfl,fun j _ h=>absurd h (J2 _),rfl⟩
 obtain⟨i,z,hi,hz,rfl,rfl,I,rfl⟩:=hrel;have A:=Hd I;clear I
 by_cases d:i<L.length
 ·obtain⟨b,off,rfl,hb,E⟩:∃ b off,a=some ⟨b,off,none⟩/\b<w.heap.size/\∀ i (h:i<L.length),w.cell? ⟨b,off+i,none⟩=some (.string (Oo L[i])):=by
   rcases Z.o with h|h
   ·rw[h] at d;exact absurd d (J2 _)
   exact h
  have k0:=E i d;have K:=O.o _ (Jw d);unfold maxLen at K;have hs:=Iz L[i];obtain⟨s,G⟩:=O1 (Oo L[i]);rw[G] at k0 hs;have M:=Hd hs;have Y:(s.size:Int)<=9223372036854775807:=by rw[hs];omega
  clear E G K hs
  by_cases a8:z<s.size
  ·have y2:decide ((z:Int) - (s.size:Int)<0)=true:=dT (by omega)
   go_wp2
   go_ret
   exact⟨.inl rfl,Jh _ _⟩
  have y2:decide ((z:Int) - (s.size:Int)<0)=false:=dF (by omega)
  go_wp2
  go_roundw
  case rel=>
   refine⟨i+1,z - s.size,by omega,by omega,by go_num,by go_num,fun j hj hji=>?_,trivial⟩
   by_cases e:j=i
   ·subst e;have:=M.o;omega
   exact A.o j hj (by omega)
  simp[intOf];omega
 have V:i=L.length:=by omega
 subst V
 go_wp2
 go_ret
 refine⟨.inr ⟨z,hz,rfl,by omega,fun s hs=>?_⟩,Jh _ _⟩;obtain⟨j,hj,rfl⟩:=Ya hs;exact A.o j hj hj
theorem VE (v:Value)(L:List Int)(z0:Nat)(w:World)(h:N8 w v L)(hz0:z0<=1048576) :
 Calls prog 60 #[v,.int .i64 (z0:Nat)] w (Cg (L.length<=1048576) w):=by
 obtain⟨a,c,rfl,hc,d,-⟩:=h;unfold maxLen at d
 by_cases hl:z0<L.length
 ·have y:decide ((z0:Int) - (L.length:Int)<0)=true:=dT (by omega)
  go_in
  go_wp2
  go_ret
  exact⟨.inl rfl,Jh _ _⟩
 have y:decide ((z0:Int) - (L.length:Int)<0)=false:=dF (by omega)
 go_in
 go_wp2
 go_ret
 exact⟨.inr ⟨z0 - L.length,by omega,by go_num,by omega⟩,Jh _ _⟩
theorem GH (f:Fn)(va:Value)(z0:Nat)(w:World)(h:Nt w va f.args)(hn:f.name.length<=maxLen)(hs:f.sort.length<=maxLen)(hz0:z0<=1048576) :
 Calls prog 19 #[.agg #[.string (Oo f.name),va,.string (Oo f.sort)],.int .i64 (z0:Nat)] w (Cg (Ch f) w):=by
 have H:=Hd h;obtain⟨a,c,rfl,-,-,-,-⟩:=h;have Y:=Iz f.name;have e2:=Iz f.sort;obtain⟨E,h1⟩:∃ s,Oo f.name=s:=⟨_,rfl⟩;obtain⟨G,h2⟩:∃ s,Oo f.sort=s:=⟨_,rfl⟩;rw[h1] at Y ⊢;rw[h2] at e2 ⊢;unfold maxLen at hn hs;have x1:(E.size:Int)<=9223372036854775807:=by omega
 have x2:(G.size:Int)<=9223372036854775807:=by omega
 have M:=Hd Y;have O:=Hd e2;clear h1 h2 Y e2;obtain⟨V,A⟩:=O1 (w.alloc (.cells #[.string E,.slice a f.args.length c,.string G] 44));have d:Hid (Up w V):=by unfold Hid;rw[<-A];exact Oy _ _
 have J:Hid (Bx V w.heap.size [.string E,.slice a f.args.length c,.string G]):=by unfold Hid;rw[<-A];exact Oi w _ _
 have I:=Hd A;clear A
 by_cases g1:z0<E.size
 ·have y:decide ((z0:Int) - (E.size:Int)<0)=true:=dT (by omega)
  go_in
  go_wp2
  go_ret
  exact⟨.inl rfl,by rw[I.o];exact d.o⟩
 have y:decide ((z0:Int) - (E.size:Int)<0)=false:=dF (by omega)
 obtain⟨z1,Z⟩:=O1 (z0 - E.size);have q1:(z0:Int) - (E.size:Int)=(z1:Int):=by omega
 have q2:z1<=1048576:=by omega
 have HQ:=Hd q1;rw[q1] at y;clear q1 Z
 go_in
 go_wp2_with (rw[HQ.o])
 rw[I.o];refine (Q4 _ f.args z1 V (H.o.bl d.o) q2).mono ?_;rintro e w2 ⟨(rfl|⟨z2,b4,rfl,K⟩),hb2⟩
 ·have j:=d.up hb2;clear hb2
  go_wp2
  go_ret
  exact⟨.inl rfl,j.o⟩
 have j:=d.up hb2;have U:=Hd K;obtain⟨b0,b1,b2⟩:=(J.o.bl J.o.lt hb2).c3;have y2:decide ((z2:Int)<0)=false:=dF (by omega)
 clear hb2 K
 by_cases g2:z2<G.size
 ·have y3:decide ((z2:Int) - (G.size:Int)<0)=true:=dT (by omega)
  go_wp2
  go_ret
  exact⟨.inl rfl,j.o⟩
 have y3:decide ((z2:Int) - (G.size:Int)<0)=false:=dF (by omega)
 go_wp2
 go_ret
 exact⟨.inr ⟨z2 - G.size,by omega,by go_num,by have:=M.o;omega,U.o,by have:=O.o;omega⟩,j.o⟩
theorem VK (v:Value)(F:List Fn)(z0:Nat)(w:World)(h:I6 w v F)(hz0:z0<=1048576) :
 Calls prog 38 #[v,.int .i64 (z0:Nat)] w (Cg (F.length<=1048576/\∀ f∈F,Ch f) w):=by
 obtain⟨a,c,rfl,hc,b3,V,M⟩:=h;unfold maxLen at b3;have HA:=Hd M;have a7:=Hd V;clear M V
 by_cases hl:z0<F.length
 ·have y:decide ((z0:Int) - (F.length:Int)<0)=true:=dT (by omega)
  go_in
  go_wp2
  go_ret
  exact⟨.inl rfl,Jh _ _⟩
 have y:decide ((z0:Int) - (F.length:Int)<0)=false:=dF (by omega)
 go_in
 go_wp2
 go_loopw [1,5] (fun zv iv wr=>∃ (i z:Nat),i<=F.length/\z<=1048576/\zv=.int .i64 (z:Nat)/\iv=.int .i64 (i:Nat)/\(∀ j (h:j<F.length),j<i->Ch F[j])/\Up w wr) (fun _ iv _=>F.length - (intOf iv).toNat)
 case atStart=>exact⟨0,z0 - F.length,Jy _,by omega,by go_num,rfl,fun j _ h=>absurd h (J2 _),Jh _ _⟩
 obtain⟨i,z,hi,hz,rfl,rfl,U,E⟩:=hrel;have J:=Hd U;have Y:=Hd E;clear U
 by_cases d:i<F.length
 ·obtain⟨b,off,rfl,hb,M⟩:∃ b off,a=some ⟨b,off,none⟩/\b<w.heap.size/\∀ i (h:i<F.length),w.cell? ⟨b,off+i*3,none⟩=some (.string (Oo F[i].name))/\(∃ va,w.cell? ⟨b,off+i*3+1,none⟩=some va/\Nt w va F[i].args)/\w.cell? ⟨b,off+i*3+2,none⟩=some (.string (Oo F[i].sort)):=by
   rcases HA.o with h|h
   ·rw[h] at d;exact absurd d (J2 _)
   exact h
  obtain⟨k0,⟨va,k1,I⟩,k2⟩:=M i d;rw[<-E.cell (p:=⟨b,off+i*3,none⟩) hb] at k0;rw[<-E.cell (p:=⟨b,off+i*3+1,none⟩) hb] at k1;rw[<-E.cell (p:=⟨b,off+i*3+2,none⟩) hb] at k2;have G:=a7.o _ (Jw d);obtain⟨f,hf⟩:=O1 (F[i]);have HF:=Hd hf;rw[hf] at k0 k2 I G;have a8:=Hd (I.bl E);have K:=Hd G;obtain⟨pa,ca,rfl,-,-,-,-⟩:=I;clear hf E M G
  go_wp2_with fail
  refine (GH f _ z _ a8.o K.o.1 K.o.2 hz).mono ?_;rintro e w2 ⟨(rfl|⟨z2,b6,rfl,O⟩),hb2⟩
  ·have A:=Y.up hb2;clear hb2
   go_wp2
   go_ret
   exact⟨.inl rfl,A.o⟩
  have A:=Y.up hb2;have Z:=Hd O;have y2:decide ((z2:Int)<0)=false:=dF (by omega)
  clear hb2 O
  go_wp2
  go_roundw
  case rel=>
   refine⟨i+1,z2,by omega,b6,by go_num,by go_num,fun j hj hji=>?_,A.o⟩
   by_cases e:j=i
   ·subst e;rw[HF.o];exact Z.o
   exact J.o j hj (by omega)
  simp[intOf];omega
 have b5:i=F.length:=by omega
 subst b5;clear E
 go_wp2
 go_ret
 refine⟨.inr ⟨z,hz,rfl,by omega,fun s hs=>?_⟩,Y.o⟩;obtain⟨j,hj,rfl⟩:=Ya hs;exact J.o j hj hj
theorem VG (t:Tm)(va:Value)(z0:Nat)(w:World)(h:N8 w va t.kids)(hn:t.sort.length<=maxLen)(hs:t.text.length<=maxLen)(hz0:z0<=1048576) :
 Calls prog 25 #[.agg #[.int .i64 t.op,.string (Oo t.sort),.string (Oo t.text),.int .i64 t.a,.int .i64 t.b,va],.int .i64 (z0:Nat)] w (Cg (Cx t) w):=by
 have H:=Hd h;obtain⟨a,c,rfl,-,-,-⟩:=h;have K:=Iz t.sort;have e2:=Iz t.text;obtain⟨A,h1⟩:∃ s,Oo t.sort=s:=⟨_,rfl⟩;obtain⟨E,h2⟩:∃ s,Oo t.text=s:=⟨_,rfl⟩;rw[h1] at K ⊢;rw[h2] at e2 ⊢;unfold maxLen at hn hs;have x1:(A.size:Int)<=9223372036854775807:=by omega
 have x2:(E.size:Int)<=9223372036854775807:=by omega
 have G:=Hd K;have I:=Hd e2;clear h1 h2 K e2;have d:Hid (Up w (w.alloc (.cells #[.int .i64 t.op,.string A,.string E,.int .i64 t.a,.int .i64 t.b,.slice a t.kids.length c] 54))):=Oy _ _
 by_cases g1:z0<A.size
 ·have y:decide ((z0:Int) - (A.size:Int)<0)=true:=dT (by omega)
  go_in
  go_wp2
  go_ret
  exact⟨.inl rfl,d.o⟩
 have y:decide ((z0:Int) - (A.size:Int)<0)=false:=dF (by omega)
 obtain⟨z1,O⟩:=O1 (z0 - A.size);have Y:(z0:Int) - (A.size:Int)=(z1:Int):=by omega
 have q2:z1<=1048576:=by omega
 have HQ:=Hd Y;rw[Y] at y;clear Y O
 by_cases g2:z1<E.size
 ·have y2:decide ((z1:Int) - (E.size:Int)<0)=true:=dT (by omega)
  go_in
  go_wp2_with (rw[HQ.o])
  go_ret
  exact⟨.inl rfl,d.o⟩
 have y2:decide ((z1:Int) - (E.size:Int)<0)=false:=dF (by omega)
 obtain⟨z2,U⟩:=O1 (z1 - E.size);have Z:(z1:Int) - (E.size:Int)=(z2:Int):=by omega
 have q4:z2<=1048576:=by omega
 have J:=Hd Z;rw[Z] at y2;clear Z U
 go_in
 go_wp2_with (first|rw[HQ.o]|rw[J.o])
 refine (VE _ t.kids z2 _ (H.o.bl d.o) q4).mono ?_;rintro e w2 ⟨(rfl|⟨z3,V,rfl,M⟩),hb2⟩
 ·have j:=d.up hb2;clear hb2
  go_wp2
  go_ret
  exact⟨.inl rfl,j.o⟩
 have j:=d.up hb2;have y3:decide ((z3:Int)<0)=false:=dF (by omega)
 clear hb2
 go_wp2
 go_ret
 exact⟨.inr ⟨z3,V,rfl,by have:=G.o;omega,by have:=I.o;omega,M⟩,j.o⟩
theorem Wk (v:Value)(T:List Tm)(z0:Nat)(w:World)(h:Hb w v T)(hz0:z0<=1048576) :
 Calls prog 39 #[v,.int .i64 (z0:Nat)] w (Cg (T.length<=1048576/\∀ t∈T,Cx t) w):=by
 obtain⟨a,c,rfl,hc,b3,V,M⟩:=h;unfold maxLen at b3;have HA:=Hd M;have a7:=Hd V;clear M V
 by_cases hl:z0<T.length
 ·have y:decide ((z0:Int) - (T.length:Int)<0)=true:=dT (by omega)
  go_in
  go_wp2
  go_ret
  exact⟨.inl rfl,Jh _ _⟩
 have y:decide ((z0:Int) - (T.length:Int)<0)=false:=dF (by omega)
 go_in
 go_wp2
 go_loopw [1,5] (fun zv iv wr=>∃ (i z:Nat),i<=T.length/\z<=1048576/\zv=.int .i64 (z:Nat)/\iv=.int .i64 (i:Nat)/\(∀ j (h:j<T.length),j<i->Cx T[j])/\Up w wr) (fun _ iv _=>T.length - (intOf iv).toNat)
 case atStart=>exact⟨0,z0 - T.length,Jy _,by omega,by go_num,rfl,fun j _ h=>absurd h (J2 _),Jh _ _⟩
 obtain⟨i,z,hi,hz,rfl,rfl,U,d⟩:=hrel;have J:=Hd U;have Y:=Hd d;clear U
 by_cases A:i<T.length
 ·obtain⟨b,off,rfl,hb,M⟩:∃ b off,a=some ⟨b,off,none⟩/\b<w.heap.size/\∀ i (h:i<T.length),w.cell? ⟨b,off+i*6,none⟩=some (.int .i64 T[i].op)/\w.cell? ⟨b,off+i*6+1,none⟩=some (.string (Oo T[i].sort))/\w.cell? ⟨b,off+i*6+2,none⟩=some (.string (Oo T[i].text))/\w.cell? ⟨b,off+i*6+3,none⟩=some (.int .i64 T[i].a)/\w.cell? ⟨b,off+i*6+4,none⟩=some (.int .i64 T[i].b)/\∃ va,w.cell? ⟨b,off+i*6+5,none⟩=some va/\N8 w va T[i].kids:=by
   rcases HA.o with h|h
   ·rw[h] at A;exact absurd A (J2 _)
   exact h
  obtain⟨k0,k1,k2,k3,k4,va,k5,I⟩:=M i A;rw[<-d.cell (p:=⟨b,off+i*6,none⟩) hb] at k0;rw[<-d.cell (p:=⟨b,off+i*6+1,none⟩) hb] at k1;rw[<-d.cell (p:=⟨b,off+i*6+2,none⟩) hb] at k2;rw[<-d.cell (p:=⟨b,off+i*6+3,none⟩) hb] at k3;rw[<-d.cell (p:=⟨b,off+i*6+4,none⟩) hb] at k4;rw[<-d.cell (p:=⟨b,off+i*6+5,none⟩) hb] at k5;have G:=a7.o _ (Jw A);obtain⟨t,ht⟩:=O1 (T[i]);have HT:=Hd ht;rw[ht] at k0 k1 k2 k3 k4 I G;have a8:=Hd (I.bl d);have K:=Hd G;obtain⟨pa,ca,rfl,-,-,-⟩:=I;clear ht d M G
  go_wp2_with fail
  refine (VG t _ z _ a8.o K.o.1 K.o.2 hz).mono ?_;rintro e w2 ⟨(rfl|⟨z2,b6,rfl,O⟩),hb2⟩
  ·have E:=Y.up hb2;clear hb2
   go_wp2
   go_ret
   exact⟨.inl rfl,E.o⟩
  have E:=Y.up hb2;have Z:=Hd O;have y2:decide ((z2:Int)<0)=false:=dF (by omega)
  clear hb2 O
  go_wp2
  go_roundw
  case rel=>
   refine⟨i+1,z2,by omega,b6,by go_num,by go_num,fun j hj hji=>?_,E.o⟩
   by_cases e:j=i
   ·subst e;rw[HT.o];exact Z.o
   exact J.o j hj (by omega)
  simp[intOf];omega
 have b4:i=T.length:=by omega
 subst b4;clear d
 go_wp2
 go_ret
 refine⟨.inr ⟨z,hz,rfl,by omega,fun s hs=>?_⟩,Y.o⟩;obtain⟨j,hj,rfl⟩:=Ya hs;exact J.o j hj hj
structure ArgBank (w:World)(vs vf vt:Value)(S:List (List UInt8))(F:List Fn)(T:List Tm):Prop where
 s:Nt w vs S
 f:I6 w vf F
 t:Hb w vt T
theorem ArgBank.bl {w w':World}{vs vf vt:Value}{S:List (List UInt8)}{F:List Fn}{T:List Tm}(h:ArgBank w vs vf vt S F T)(hb:Up w w'):ArgBank w' vs vf vt S F T:=⟨h.s.bl hb,h.f.bl hb,h.t.bl hb⟩
structure SmallB (S:List (List UInt8))(F:List Fn)(T:List Tm):Prop where
 s:Ci S
 f:F.length<=1048576/\∀ f∈F,Ch f
 t:T.length<=1048576/\∀ t∈T,Cx t
theorem VU {vs vf vt:Value}{S:List (List UInt8)}{F:List Fn}{T:List Tm}(z0:Nat)(w:World)(h:ArgBank w vs vf vt S F T)(hz0:z0<=1048576) :
 Calls prog 8 #[.agg #[vs,vf,vt],.int .i64 (z0:Nat)] w (Cg (SmallB S F T) w):=by
 obtain⟨a1,c1,e1,-,-,-,-⟩:=h.s;obtain⟨a2,c2,e2,-,-,-,-⟩:=h.f;obtain⟨a3,c3,e3,-,-,-,-⟩:=h.t;have G:Hid (Up w (w.alloc (.cells #[vs,vf,vt] 26))):=Oy _ _;have K:Hid (Bx (w.alloc (.cells #[vs,vf,vt] 26)) w.heap.size [vs,vf,vt]):=Oi w _ _;have H1:=Hd (h.bl G.o);subst e1 e2 e3;clear h
 go_in
 go_wp2_with fail
 refine (Q4 _ S z0 _ H1.o.s hz0).mono ?_;rintro e w2 ⟨(rfl|⟨z2,a8,rfl,M⟩),hb2⟩
 ·have j:=G.up hb2;clear hb2
  go_wp2
  go_ret
  exact⟨.inl rfl,j.o⟩
 have j:=G.up hb2;have H2:=Hd (H1.o.bl hb2);have V:=Hd M;have J:=Hd (K.o.bl K.o.lt hb2);have y2:decide ((z2:Int)<0)=false:=dF (by omega)
 obtain⟨b0,b1,b2⟩:=J.o.c3;clear hb2 M
 go_wp2_with fail
 refine (VK _ F z2 _ H2.o.f a8).mono ?_;rintro e w3 ⟨(rfl|⟨z3,b3,rfl,O⟩),d⟩
 ·have A:=j.up d;clear d
  go_wp2
  go_ret
  exact⟨.inl rfl,A.o⟩
 have A:=j.up d;have H3:=Hd (H2.o.bl d);have Y:=Hd O;have a7:=Hd (J.o.bl J.o.lt d);have y3:decide ((z3:Int)<0)=false:=dF (by omega)
 clear b0 b1 b2;obtain⟨b0,b1,b2⟩:=a7.o.c3;clear d O
 go_wp2_with fail
 refine (Wk _ T z3 _ H3.o.t b3).mono ?_;rintro e w4 ⟨(rfl|⟨z4,b4,rfl,U⟩),E⟩
 ·have I:=A.up E;clear E
  go_wp2
  go_ret
  exact⟨.inl rfl,I.o⟩
 have I:=A.up E;have Z:=Hd U;have y4:decide ((z4:Int)<0)=false:=dF (by omega)
 clear E U
 go_wp2
 go_ret
 exact⟨.inr ⟨z4,b4,rfl,V.o,Y.o,Z.o⟩,I.o⟩
theorem Qf {w w':World}{base:Nat}{e:TypeId}{s:Nat}{v:Value}{n:Nat}{xs:List Value}(h:w.ownsRow base e s v n xs)(hb:Up w w'):w'.ownsRow base e s v n xs:=Ox h (fun g hg=>hb.block g (h.lt g hg).2)
theorem H9 {w:World}{base g n cap s:Nat}{e:TypeId}{xs:List Value}(h:w.ownsRow base e s (.slice (some ⟨g,0,none⟩) n cap) n xs)(j:Nat)(hj:j<n*s):∃ x,w.cell? ⟨g,j,none⟩=some x:=by
 rw[h.cellAt j hj];exact⟨_,Jf (by have:=h.1;omega)⟩
theorem EG:(prog.info? 3).map (fun i=>(i.zero,i.size,i.bytes))=some (some (.int .i64 0),1,8):=by kernel_rfl
theorem XO:∃ i:TypeInfo,prog.info? 3=some i/\i.zero=some (.int .i64 0)/\i.size=1/\i.bytes=8:=info_parts EG
theorem Fu {α:Type}{f:α->Value}{xs:List Value}{L:List α}{i:Nat}(hx:xs.length=L.length)(h:∀ j (hj:j<L.length),j<i->xs[j]? = some (f L[j]))(hi:i<L.length):∀ j (hj:j<L.length),j<i+1->(xs.set i (f L[i]))[j]? = some (f L[j]):=by
 intro j hj d
 by_cases e:j=i
 ·subst e;rw[Y3 (by omega)]
 rw[J6 (by omega)];exact h j hj (by omega)
theorem Ml {α:Type}{f:α->Value}{xs:List Value}{L:List α}(hx:xs.length=L.length)(h:∀ j (hj:j<L.length),j<L.length->xs[j]? = some (f L[j])):xs=L.map f:=by
 refine List.ext_getElem? fun j=>?_
 by_cases hj:j<L.length
 ·rw[h j hj hj,Y1,Jf hj];rfl
 rw[Yj (by omega),Yj (by rw[Zv];omega)]
theorem Q5 (v:Value)(L:List (List UInt8))(w:World)(h:Nt w v L)(hs:Ci L) :
 Calls prog 43 #[v] w fun e w'=>∃ g c,e=.returned (.slice (some ⟨g,0,none⟩) L.length c)/\w'.ownsRow w.heap.size 9 1 (.slice (some ⟨g,0,none⟩) L.length c) L.length (U3 L)/\Up w w':=by
 obtain⟨a,c,rfl,hc,b3,-,J⟩:=h;unfold maxLen at b3;obtain⟨i0,M,b5,b6,b7⟩:=R1;have d0:=hs.1;have HA:=Hd J;clear J hs
 go_in
 go_wp2_with (at_make;refine wpList_make_full _ rfl _ _ 22 rfl w.heap.size 9 i0 (.string ⟨#[]⟩) 1 underlying22 M b5 b6 .i64 .i64 _ _ L.length rfl rfl (by simp) (by simp) (by rw[b7];omega) (by unfold maxLen;omega) Of ?_)
 intro w1 E K;have V:Hid (Up w w1):=(Jh _ _).grown K Of (fun k e=>by cases e);have a7:=Hd E;clear E K
 go_wp2
 go_loopw [4] (fun iv wr=>∃ (i:Nat) (xs:List Value),i<=L.length/\iv=.int .i64 i/\(∀ j (hj:j<L.length),j<i->xs[j]? = some (.string (Oo L[j])))/\wr.ownsRow w.heap.size 9 1 (.slice (some ⟨w.heap.size,0,none⟩) L.length L.length) L.length xs/\Up w wr) (fun iv _=>L.length - (intOf iv).toNat)
 case atStart=>exact⟨0,_,Jy _,rfl,fun j _ h=>absurd h (J2 _),a7.o,V.o⟩
 obtain⟨i,xs,hi,rfl,A,d,U⟩:=hrel;have HB:=Hd U;have Y:=Hd A;have I:Hid (xs.length=L.length):=by have:=d.1;unfold Hid;omega
 by_cases G:i<L.length
 ·obtain⟨b,off,rfl,hb,J⟩:∃ b off,a=some ⟨b,off,none⟩/\b<w.heap.size/\∀ i (h:i<L.length),w.cell? ⟨b,off+i,none⟩=some (.string (Oo L[i])):=by
   rcases HA.o with h|h
   ·rw[h] at G;exact absurd G (J2 _)
   exact h
  have k0:=J i G;rw[<-U.cell (p:=⟨b,off+i,none⟩) hb] at k0;have Z:=Hd (Fu (f:=fun x=>.string (Oo x)) I.o A G);obtain⟨x0,e0⟩:=H9 d i (by omega);have g0:=d.frozenAt i;have O:=(d.stored i (.string (Oo L[i]))).1;have a8:=Hd O;clear A d U J O
  go_wp2
  go_roundw
  case rel=>exact⟨i+1,_,by omega,by go_num,Z.o,a8.o,HB.o.sc⟩
  simp[intOf];omega
 have b4:i=L.length:=by omega
 subst b4;have HO:=Hd d;clear d U A
 go_wp2
 go_ret
 have e:=Ml (f:=fun x=>.string (Oo x)) I.o Y.o;have ho:=HO.o;rw[e] at ho;exact⟨_,_,rfl,ho,HB.o⟩
theorem VD (v:Value)(L:List Int)(w:World)(h:N8 w v L)(hs:L.length<=1048576) :
 Calls prog 32 #[v] w fun e w'=>∃ g c,e=.returned (.slice (some ⟨g,0,none⟩) L.length c)/\w'.ownsRow w.heap.size 3 1 (.slice (some ⟨g,0,none⟩) L.length c) L.length (G8 L)/\Up w w':=by
 obtain⟨a,c,rfl,hc,b3,J⟩:=h;unfold maxLen at b3;obtain⟨i0,M,b5,b6,b7⟩:=XO;have d0:=hs;have HA:=Hd J;clear J hs
 go_in
 go_wp2_with (at_make;refine wpList_make_full _ rfl _ _ 52 rfl w.heap.size 3 i0 (.int .i64 0) 1 underlying52 M b5 b6 .i64 .i64 _ _ L.length rfl rfl (by simp) (by simp) (by rw[b7];omega) (by unfold maxLen;omega) Of ?_)
 intro w1 E K;have V:Hid (Up w w1):=(Jh _ _).grown K Of (fun k e=>by cases e);have a7:=Hd E;clear E K
 go_wp2
 go_loopw [4] (fun iv wr=>∃ (i:Nat) (xs:List Value),i<=L.length/\iv=.int .i64 i/\(∀ j (hj:j<L.length),j<i->xs[j]? = some (.int .i64 L[j]))/\wr.ownsRow w.heap.size 3 1 (.slice (some ⟨w.heap.size,0,none⟩) L.length L.length) L.length xs/\Up w wr) (fun iv _=>L.length - (intOf iv).toNat)
 case atStart=>exact⟨0,_,Jy _,rfl,fun j _ h=>absurd h (J2 _),a7.o,V.o⟩
 obtain⟨i,xs,hi,rfl,A,d,U⟩:=hrel;have HB:=Hd U;have Y:=Hd A;have I:Hid (xs.length=L.length):=by have:=d.1;unfold Hid;omega
 by_cases G:i<L.length
 ·obtain⟨b,off,rfl,hb,J⟩:∃ b off,a=some ⟨b,off,none⟩/\b<w.heap.size/\∀ i (h:i<L.length),w.cell? ⟨b,off+i,none⟩=some (.int .i64 L[i]):=by
   rcases HA.o with h|h
   ·rw[h] at G;exact absurd G (J2 _)
   exact h
  have k0:=J i G;rw[<-U.cell (p:=⟨b,off+i,none⟩) hb] at k0;have Z:=Hd (Fu (f:=fun x=>.int .i64 x) I.o A G);obtain⟨x0,e0⟩:=H9 d i (by omega);have g0:=d.frozenAt i;have O:=(d.stored i (.int .i64 L[i])).1;have a8:=Hd O;clear A d U J O
  go_wp2
  go_roundw
  case rel=>exact⟨i+1,_,by omega,by go_num,Z.o,a8.o,HB.o.sc⟩
  simp[intOf];omega
 have b4:i=L.length:=by omega
 subst b4;have HO:=Hd d;clear d U A
 go_wp2
 go_ret
 have e:=Ml (f:=fun x=>.int .i64 x) I.o Y.o;have ho:=HO.o;rw[e] at ho;exact⟨_,_,rfl,ho,HB.o⟩
theorem RB (w:World)(A B:List Value)(ta tb:TypeId):∃ W2,(w.alloc (.cells A.toArray ta)).alloc (.cells B.toArray tb)=W2/\Up w W2/\Bx W2 w.heap.size A/\Bx W2 (w.heap.size+1) B/\W2.heap.size=w.heap.size+1+1:=by
 refine⟨_,rfl,Hv (Oy _ _) _,(Oi w A ta).alloc _,?_,by simp⟩;have h:=Oi (w.alloc (.cells A.toArray ta)) B tb
 rwa [show (w.alloc (.cells A.toArray ta)).heap.size=w.heap.size+1 by simp] at h
theorem CY (w:World)(A B C:List Value)(ta tb tc:TypeId):∃ W3,((w.alloc (.cells A.toArray ta)).alloc (.cells B.toArray tb)).alloc (.cells C.toArray tc)=W3/\Up w W3/\Bx W3 w.heap.size A/\Bx W3 (w.heap.size+1) B/\Bx W3 (w.heap.size+1+1) C/\W3.heap.size=w.heap.size+1+1+1:=by
 obtain⟨h,h2,hb,x1,j,d⟩:=RB w A B ta tb;refine⟨_,rfl,?_,?_,?_,?_,?_⟩
 ·rw[h2];exact Hv hb _
 ·rw[h2];exact x1.alloc _
 ·rw[h2];exact j.alloc _
 ·rw[h2,<-d];exact Oi h C tc
 rw[h2,Ji,d]
theorem GD (f:Fn)(va:Value)(w:World)(h:Nt w va f.args)(hs:Ci f.args) :
 Calls prog 21 #[.agg #[.string (Oo f.name),va,.string (Oo f.sort)]] w fun e w'=>∃ g c,e=.returned (.agg #[.string (Oo f.name),.slice (some ⟨g,0,none⟩) f.args.length c,.string (Oo f.sort)])/\w'.ownsRow w.heap.size 9 1 (.slice (some ⟨g,0,none⟩) f.args.length c) f.args.length (U3 f.args)/\Up w w':=by
 have H:=Hd h;obtain⟨a,c,rfl,-,-,-,-⟩:=h
 go_in
 go_wp2_with fail
 obtain⟨W3,Y,Z,x1,x2,x3,J⟩:=CY w [.string (Oo f.name),.slice a f.args.length c,.string (Oo f.sort)] [.string ⟨#[]⟩,.slice none 0 0,.string ⟨#[]⟩] [.string (Oo f.name),.slice none 0 0,.string ⟨#[]⟩] 44 47 47;rw[Y];clear Y;have E:=Hd Z;have M:=Hd x1;have O:=Hd x2;have U:=Hd x3;have b3:=Hd J;clear Z x1 x2 x3 J;refine (Q5 _ f.args W3 (H.o.bl E.o) hs).mono ?_;rintro e w4 ⟨A,c4,rfl,j,d⟩;have a8:=E.up d;have K:=Hd j;have b4:=Hd (M.o.bl M.o.lt d);have G:=Hd (O.o.bl O.o.lt d);have I:=Hd (U.o.bl U.o.lt d);clear j d;obtain⟨b0,b1,b2⟩:=b4.o.c3;obtain⟨d0,d1,d2⟩:=G.o.c3;obtain⟨q0,q1,q2⟩:=I.o.c3;obtain⟨f0,f1,f2⟩:=G.o.f3;have r1:=I.o.fz 1;have r2:=I.o.fz 2
 go_wp2_with fail
 clear b0 b1 b2 d0 d1 d2 q0 q1 q2 f0 f1 f2 r1 r2;have a7:w.heap.size+1≠w.heap.size+1+1:=by omega
 have hA:Bx ((w4.setCell ⟨w.heap.size+1+1,1,none⟩ (.slice (some ⟨A,0,none⟩) f.args.length c4)).setCell ⟨w.heap.size+1+1,2,none⟩ (.string (Oo f.sort))) (w.heap.size+1) [.string ⟨#[]⟩,.slice none 0 0,.string ⟨#[]⟩]:=by
  obtain⟨ty,hh⟩:=G.o;refine⟨ty,?_⟩;rw[Jq _ ⟨w.heap.size+1+1,2,none⟩ _ _ a7,Jq _ ⟨w.heap.size+1+1,1,none⟩ _ _ a7];exact hh
 have hE:=((hA.set 0 (.string (Oo f.name))).set 1 (.slice (some ⟨A,0,none⟩) f.args.length c4)).set 2 (.string (Oo f.sort));have V:Up w (((((w4.setCell ⟨w.heap.size+1+1,1,none⟩ (.slice (some ⟨A,0,none⟩) f.args.length c4)).setCell ⟨w.heap.size+1+1,2,none⟩ (.string (Oo f.sort))).setCell ⟨w.heap.size+1,0,none⟩ (.string (Oo f.name))).setCell ⟨w.heap.size+1,1,none⟩ (.slice (some ⟨A,0,none⟩) f.args.length c4)).setCell ⟨w.heap.size+1,2,none⟩ (.string (Oo f.sort))):=
  ((((a8.o.setCell (p:=⟨w.heap.size+1+1,1,none⟩) (by show _<=w.heap.size+1+1;omega) _).setCell (p:=⟨w.heap.size+1+1,2,none⟩) (by show _<=w.heap.size+1+1;omega) _).setCell (p:=⟨w.heap.size+1,0,none⟩) (by show _<=w.heap.size+1;omega) _).setCell (p:=⟨w.heap.size+1,1,none⟩) (by show _<=w.heap.size+1;omega) _).setCell (p:=⟨w.heap.size+1,2,none⟩) (by show _<=w.heap.size+1;omega) _
 have hO:((((w4.setCell ⟨w.heap.size+1+1,1,none⟩ (.slice (some ⟨A,0,none⟩) f.args.length c4)).setCell ⟨w.heap.size+1+1,2,none⟩ (.string (Oo f.sort))).setCell ⟨w.heap.size+1,0,none⟩ (.string (Oo f.name))).setCell ⟨w.heap.size+1,1,none⟩ (.slice (some ⟨A,0,none⟩) f.args.length c4)).setCell ⟨w.heap.size+1,2,none⟩ (.string (Oo f.sort)) |>.ownsRow w.heap.size 9 1 (.slice (some ⟨A,0,none⟩) f.args.length c4) f.args.length (U3 f.args):=by
  refine E7 (Ox K.o (fun g hg=>?_)) E.o.size;have d9:=Ot K.o g hg;have J:=b3.o;have n1:g≠w.heap.size+1:=by omega
  have n2:g≠w.heap.size+1+1:=by omega
  rw[Jq _ ⟨w.heap.size+1,2,none⟩ _ _ n1,Jq _ ⟨w.heap.size+1,1,none⟩ _ _ n1,Jq _ ⟨w.heap.size+1,0,none⟩ _ _ n1,Jq _ ⟨w.heap.size+1+1,2,none⟩ _ _ n2,Jq _ ⟨w.heap.size+1+1,1,none⟩ _ _ n2]
 obtain⟨e0,e1,e2⟩:=hE.c3;refine Jj (v:=.agg #[.string (Oo f.name),.slice (some ⟨A,0,none⟩) f.args.length c4,.string (Oo f.sort)]) ?_ rfl ⟨A,c4,rfl,hO,V⟩;clear hA hE V hO;simp[results,results21,go_sem,e0,e1,e2]
def IV (N:Nat)(w:World)(P:World->Prop):Prop:=∀ W',w.heap.size<=W'.heap.size->(∀ k,N<=k->k<w.heap.size->W'.heap[k]? = w.heap[k]?)->P W'
def My (wr:World)(N:Nat)(xs:List Value)(F:List Fn)(i:Nat):Prop:=
 ∀ j (h:j<F.length),j<i->xs[j*3]? = some (.string (Oo F[j].name))/\(∃ va,xs[j*3+1]? = some va/\wr.ownsRow N 9 1 va F[j].args.length (U3 F[j].args))/\xs[j*3+2]? = some (.string (Oo F[j].sort))
theorem My.next {wr wr':World}{N:Nat}{xs:List Value}{F:List Fn}{i:Nat}(hx:xs.length=F.length*3)(h:My wr N xs F i)(hi:i<F.length){va:Value}(hk:∀ k,N<=k->k<wr.heap.size->wr'.heap[k]? = wr.heap[k]?)(hva:wr'.ownsRow N 9 1 va F[i].args.length (U3 F[i].args)) :
 My wr' N (((xs.set (i*3) (.string (Oo F[i].name))).set (i*3+1) va).set (i*3+2) (.string (Oo F[i].sort))) F (i+1):=by
 intro j d A
 by_cases e:j=i
 ·subst e;refine⟨?_,⟨va,?_,hva⟩,?_⟩
  ·rw[J6 (by omega),J6 (by omega),Y3 (by omega)]
  ·rw[J6 (by omega),Y3 (by simp;omega)]
  rw[Y3 (by simp;omega)]
 obtain⟨G,⟨E,I,hb⟩,h2⟩:=h j d (by omega);refine⟨?_,⟨E,?_,Ox hb (fun g hg=>hk g (Ot hb g hg) (hb.lt g hg).2)⟩,?_⟩<;>rw[J6 (by omega),J6 (by omega),J6 (by omega)]<;>assumption
theorem VC (t:Tm)(va:Value)(w:World)(h:N8 w va t.kids)(hs:t.kids.length<=1048576) :
 Calls prog 27 #[.agg #[.int .i64 t.op,.string (Oo t.sort),.string (Oo t.text),.int .i64 t.a,.int .i64 t.b,va]] w fun e w'=>∃ g c,e=.returned (.agg #[.int .i64 t.op,.string (Oo t.sort),.string (Oo t.text),.int .i64 t.a,.int .i64 t.b,.slice (some ⟨g,0,none⟩) t.kids.length c])/\w'.ownsRow w.heap.size 3 1 (.slice (some ⟨g,0,none⟩) t.kids.length c) t.kids.length (G8 t.kids)/\Up w w':=by
 have H:=Hd h;obtain⟨a,c,rfl,-,-,-⟩:=h
 go_in
 go_wp2_with fail
 obtain⟨W3,Y,Z,x1,x2,x3,I⟩:=CY w [.int .i64 t.op,.string (Oo t.sort),.string (Oo t.text),.int .i64 t.a,.int .i64 t.b,.slice a t.kids.length c] [.int .i64 0,.string ⟨#[]⟩,.string ⟨#[]⟩,.int .i64 0,.int .i64 0,.slice none 0 0] [.int .i64 t.op,.string (Oo t.sort),.string (Oo t.text),.int .i64 t.a,.int .i64 t.b,.slice none 0 0] 54 57 57;rw[Y];clear Y;have E:=Hd Z;have b9:=Hd x1;have M:=Hd x2;have O:=Hd x3;have a8:=Hd I;clear Z x1 x2 x3 I;refine (VD _ t.kids W3 (H.o.bl E.o) hs).mono ?_;rintro e w4 ⟨j,c4,rfl,d,A⟩;have a7:=E.up A;have K:=Hd d;have G:=Hd (M.o.bl M.o.lt A);have U:=Hd (O.o.bl O.o.lt A);clear d A;obtain⟨d0,d1,d2,d3,d4,d5⟩:=G.o.cs6;obtain⟨q0,q1,q2,q3,q4,q5⟩:=U.o.cs6;obtain⟨f0,f1,f2,f3,f4,f5⟩:=G.o.f6;have r5:=U.o.fz 5
 go_wp2_with fail
 clear d0 d1 d2 d3 d4 d5 q0 q1 q2 q3 q4 q5 f0 f1 f2 f3 f4 f5 r5;have b3:w.heap.size+1≠w.heap.size+1+1:=by omega
 have hA:Bx (w4.setCell ⟨w.heap.size+1+1,5,none⟩ (.slice (some ⟨j,0,none⟩) t.kids.length c4)) (w.heap.size+1) [.int .i64 0,.string ⟨#[]⟩,.string ⟨#[]⟩,.int .i64 0,.int .i64 0,.slice none 0 0]:=by
  obtain⟨ty,hh⟩:=G.o;refine⟨ty,?_⟩;rw[Jq _ ⟨w.heap.size+1+1,5,none⟩ _ _ b3];exact hh
 have hE:=((((((hA.set 0 (.int .i64 t.op)).set 1 (.string (Oo t.sort))).set 2 (.string (Oo t.text))).set 3 (.int .i64 t.a)).set 4 (.int .i64 t.b)).set 5 (.slice (some ⟨j,0,none⟩) t.kids.length c4));have V:=(((((((a7.o.setCell (p:=⟨w.heap.size+1+1,5,none⟩) (by show _<=w.heap.size+1+1;omega) (.slice (some ⟨j,0,none⟩) t.kids.length c4)).setCell (p:=⟨w.heap.size+1,0,none⟩) (by show _<=w.heap.size+1;omega) (.int .i64 t.op)).setCell (p:=⟨w.heap.size+1,1,none⟩) (by show _<=w.heap.size+1;omega) (.string (Oo t.sort))).setCell (p:=⟨w.heap.size+1,2,none⟩) (by show _<=w.heap.size+1;omega) (.string (Oo t.text))).setCell (p:=⟨w.heap.size+1,3,none⟩) (by show _<=w.heap.size+1;omega) (.int .i64 t.a)).setCell (p:=⟨w.heap.size+1,4,none⟩) (by show _<=w.heap.size+1;omega) (.int .i64 t.b)).setCell (p:=⟨w.heap.size+1,5,none⟩) (by show _<=w.heap.size+1;omega) (.slice (some ⟨j,0,none⟩) t.kids.length c4));have hO:(((((((w4.setCell ⟨w.heap.size+1+1,5,none⟩ (.slice (some ⟨j,0,none⟩) t.kids.length c4)).setCell ⟨w.heap.size+1,0,none⟩ (.int .i64 t.op)).setCell ⟨w.heap.size+1,1,none⟩ (.string (Oo t.sort))).setCell ⟨w.heap.size+1,2,none⟩ (.string (Oo t.text))).setCell ⟨w.heap.size+1,3,none⟩ (.int .i64 t.a)).setCell ⟨w.heap.size+1,4,none⟩ (.int .i64 t.b)).setCell ⟨w.heap.size+1,5,none⟩ (.slice (some ⟨j,0,none⟩) t.kids.length c4)).ownsRow w.heap.size 3 1 (.slice (some ⟨j,0,none⟩) t.kids.length c4) t.kids.length (G8 t.kids):=by
  refine E7 (Ox K.o (fun g hg=>?_)) E.o.size;have g1:=Ot K.o g hg;have I:=a8.o;have J:g≠w.heap.size+1:=by omega
  have n2:g≠w.heap.size+1+1:=by omega
  rw[Jq _ ⟨w.heap.size+1,5,none⟩ _ _ J,Jq _ ⟨w.heap.size+1,4,none⟩ _ _ J,Jq _ ⟨w.heap.size+1,3,none⟩ _ _ J,Jq _ ⟨w.heap.size+1,2,none⟩ _ _ J,Jq _ ⟨w.heap.size+1,1,none⟩ _ _ J,Jq _ ⟨w.heap.size+1,0,none⟩ _ _ J,Jq _ ⟨w.heap.size+1+1,5,none⟩ _ _ n2]
 obtain⟨e0,e1,e2,e3,e4,e5⟩:=hE.cs6;refine Jj (v:=.agg #[.int .i64 t.op,.string (Oo t.sort),.string (Oo t.text),.int .i64 t.a,.int .i64 t.b,.slice (some ⟨j,0,none⟩) t.kids.length c4]) ?_ rfl ⟨j,c4,rfl,hO,V⟩;clear hA hE V hO;simp[results,results27,go_sem,e0,e1,e2,e3,e4,e5]
def Mz (wr:World)(N:Nat)(xs:List Value)(T:List Tm)(i:Nat):Prop:=
 ∀ j (h:j<T.length),j<i->xs[j*6]? = some (.int .i64 T[j].op)/\xs[j*6+1]? = some (.string (Oo T[j].sort))/\xs[j*6+2]? = some (.string (Oo T[j].text))/\xs[j*6+3]? = some (.int .i64 T[j].a)/\xs[j*6+4]? = some (.int .i64 T[j].b)/\∃ va,xs[j*6+5]? = some va/\wr.ownsRow N 3 1 va T[j].kids.length (G8 T[j].kids)
theorem Mz.next {wr wr':World}{N:Nat}{xs:List Value}{T:List Tm}{i:Nat}(hx:xs.length=T.length*6)(h:Mz wr N xs T i)(hi:i<T.length){va:Value}(hk:∀ k,N<=k->k<wr.heap.size->wr'.heap[k]? = wr.heap[k]?)(hva:wr'.ownsRow N 3 1 va T[i].kids.length (G8 T[i].kids)) :
 Mz wr' N ((((((xs.set (i*6) (.int .i64 T[i].op)).set (i*6+1) (.string (Oo T[i].sort))).set (i*6+2) (.string (Oo T[i].text))).set (i*6+3) (.int .i64 T[i].a)).set (i*6+4) (.int .i64 T[i].b)).set (i*6+5) va) T (i+1):=by
 intro j d A
 by_cases e:j=i
 ·subst e;refine⟨?_,?_,?_,?_,?_,va,?_,hva⟩
  ·rw[J6 (by omega),J6 (by omega),J6 (by omega),J6 (by omega),J6 (by omega),Y3 (by first|omega|(simp;omega))]
  ·rw[J6 (by omega),J6 (by omega),J6 (by omega),J6 (by omega),Y3 (by first|omega|(simp;omega))]
  ·rw[J6 (by omega),J6 (by omega),J6 (by omega),Y3 (by first|omega|(simp;omega))]
  ·rw[J6 (by omega),J6 (by omega),Y3 (by first|omega|(simp;omega))]
  ·rw[J6 (by omega),Y3 (by first|omega|(simp;omega))]
  rw[Y3 (by first|omega|(simp;omega))]
 obtain⟨G,I,h2,h3,h4,E,h5,hb⟩:=h j d (by omega);refine⟨?_,?_,?_,?_,?_,E,?_,Ox hb (fun g hg=>hk g (Ot hb g hg) (hb.lt g hg).2)⟩<;>rw[J6 (by omega),J6 (by omega),J6 (by omega),J6 (by omega),J6 (by omega),J6 (by omega)]<;>assumption
end Go.Proofs.YtipgjenolpofpaaGreatDoor
