import Derived.Test.YtipgjenolpofpaaGreatDoorP14
import Derived.Test.YtipgjenolpofpaaGreatDoorP40
set_option maxRecDepth 100000
set_option maxHeartbeats 4000000
namespace Go.Proofs.YtipgjenolpofpaaGreatDoor
open Go.ChangeShapes Go.WideShapes Go.ChangeAt Go.RowKit Go.Proofs.Tryz
def Na (l:List UInt8):Bool:=decide ((Lib.cut (Lib.trimPrefix l [45]) [47]).1.length<=30)&&decide ((Lib.cut (Lib.trimPrefix l [45]) [47]).2.1.length<=30)
theorem Bo (l p:List UInt8):(Lib.trimPrefix l p).length<=l.length:=by
 unfold Lib.trimPrefix
 split
 ·rw[Zb];omega
 exact Of
theorem Pg (s:ByteArray)(m:Int)(w:World)(hs:s.size<=1048576)(hm:w.cell? ⟨1,0,none⟩=some (.int .i64 m)) :
 Calls prog 138 #[.string s] w fun e w'=>e=.returned (.bool (Na s.data.toList))/\Up w w':=by
 have d:Hid (Na s.data.toList=(decide ((Lib.cut (Lib.trimPrefix s.data.toList [45]) [47]).1.length<=30)&&decide ((Lib.cut (Lib.trimPrefix s.data.toList [45]) [47]).2.1.length<=30))):=rfl;have hl:(Lib.trimPrefix s.data.toList [45]).length<=1048576:=Yk (Bo _ _) (by rw[Ol];exact hs)
 go_enter func138,ntmps138
 go_wp2_with fail
 refine (Tryz.strings_TrimPrefix s ⟨#[45]⟩ _).mono ?_;rw[show (⟨#[45]⟩:ByteArray).data.toList=[45] from rfl];generalize Lib.trimPrefix s.data.toList [45]=R at d hl ⊢;rintro e O ⟨rfl,rfl⟩
 go_wp2_with fail
 refine (Tryz.strings_Cut ⟨R.toArray⟩ ⟨#[47]⟩ m _ (by show R.toArray.size<_;simp;omega) hm).mono ?_;rw[show (⟨#[47]⟩:ByteArray).data.toList=[47] from rfl,show (⟨R.toArray⟩:ByteArray).data.toList=R from rfl];generalize Lib.cut R [47]=C at d ⊢;obtain⟨c1,c2,c3⟩:=C;simp only at d ⊢;rintro e K ⟨rfl,M,rfl⟩;have J:(⟨c1.toArray⟩:ByteArray).size=c1.length:=by show c1.toArray.size=_;simp
 have A:(⟨c2.toArray⟩:ByteArray).size=c2.length:=by show c2.toArray.size=_;simp
 by_cases h:c1.length<=30
 ·by_cases j:c2.length<=30
  ·have G:Hid (Na s.data.toList=true):=by unfold Hid;rw[d.o,Jb h,Jb j];rfl
   go_wp2_with fail
   go_ret
   exact⟨Oz (by rw[G.o];first|rfl|(rw[Js];omega)),below_drewN (Jh _ _) _⟩
  have G:Hid (Na s.data.toList=false):=by unfold Hid;rw[d.o,Jb h,Jg j];rfl
  have I:30<c2.length:=by omega
  go_wp2_with fail
  go_ret
  exact⟨Oz (by rw[G.o];first|rfl|(rw[Jm];omega)),below_drewN (Jh _ _) _⟩
 have G:Hid (Na s.data.toList=false):=by unfold Hid;rw[d.o,Jg h];rfl
 have E:30<c1.length:=by omega
 go_wp2_with fail
 go_ret
 exact⟨Oz (by rw[G.o]),below_drewN (Jh _ _) _⟩
def UE (so tx:List UInt8):Prop:=Na tx=true/\((so=Kn/\Q.isIntB (Oo tx)=true)∨(so=Ki/\∃ k x y,Q.IsCut (Oo tx) k/\Q.RatV (Oo tx) k x y))
open Classical in
noncomputable def Gr (t:Tm):Bool:=decide (UE t.sort t.text)
theorem L4 (t:Tm)(m:Int)(w:World)(hs:t.sort=Kn∨t.sort=Ki)(htx:t.text.length<=1048576)(hm:w.cell? ⟨1,0,none⟩=some (.int .i64 m))(hSP:Q.SP w)(hNS:Q.NS w)(hLT:Q.LT w) :
 Calls prog 118 #[.string (Oo t.sort),.string (Oo t.text)] w fun e w'=>e=.returned (.bool (Gr t))/\Up w w':=by
 have b5:(Oo t.text).size<=1048576:=by show t.text.toArray.size<=_;simpa using htx
 have J:(Oo t.text).size<=maxLen:=by unfold maxLen;omega
 have Y:Hid (Gr t=true↔UE t.sort t.text):=by unfold Hid Gr;exact @Js _ (Classical.propDecidable _)
 have V:=Hd hSP;have a7:=Hd hNS;have b3:=Hd hLT;clear hSP hNS hLT
 go_enter func118,ntmps118
 go_wp2_with fail
 refine (Pg (Oo t.text) m _ b5 hm).mono ?_;rw[Ou]
 cases E:Na t.text
 ·have G:Hid (Gr t=false):=by
   unfold Hid;rw[J9];intro h;have:=(Y.o.1 h).1;rw[E] at this
   cases this
  clear E;rintro e w1 ⟨rfl,A⟩;have d:=Hd A;clear A
  go_wp2_with fail
  go_ret
  exact⟨Oz G.o.symm,d.o⟩
 have O:=Hd E;clear E;rintro e w1 ⟨rfl,A⟩;have d:=Hd A;clear A
 rcases hs with hs|hs
 ·have q:((Oo t.sort).toList==[73,110,116])=true:=by rw[Jl,Ou,hs];rfl
  have G:Hid (Gr t=Q.isIntB (Oo t.text)):=by
   unfold Hid;rw[Yb,Y.o];constructor
   ·rintro⟨-,h|h⟩
    ·exact h.2
    rw[hs] at h;exact absurd h.1 (by decide)
   intro h;exact⟨O.o,.inl ⟨hs,h⟩⟩
  clear hs
  go_wp2_with fail
  refine (Q.readInteger_any (Oo t.text) _ J).mono ?_;generalize Q.isIntB (Oo t.text)=B at G ⊢;rintro e w2 ⟨n,a,l,c,rfl,-,j⟩;have I:Hid (Up w (w2.alloc (.cells #[.bool n,.slice a l c] 162))):=(d.o.trans (j.mono d.o.size)).alloc (Yk d.o.size j.size) _;clear j
  go_wp2_with fail
  go_ret
  exact⟨Oz G.o.symm,I.o⟩
 have q:((Oo t.sort).toList==[73,110,116])=false:=by rw[Jl,Ou,hs];rfl
 obtain⟨k,hk⟩:=Q.isCut_ex (Oo t.text);have U:=Hd hk;have HG:Hid (Gr t=true↔∃ x y,Q.RatV (Oo t.text) k x y):=by
  unfold Hid;rw[Y.o];constructor
  ·rintro⟨-,h|⟨-,k2,x,y,a8,Z⟩⟩
   ·rw[hs] at h;exact absurd h.1 (by decide)
   obtain rfl:=Q.isCut_unique U.o a8;exact⟨x,y,Z⟩
  rintro⟨x,y,Z⟩;exact⟨O.o,.inr ⟨hs,k,x,y,U.o,Z⟩⟩
 clear hs hk
 go_wp2_with fail
 refine (Q.readRational_any (Oo t.text) k _ J U.o (V.o.below d.o) (a7.o.below d.o) (b3.o.below d.o)).mono ?_;rintro e w2 ⟨z,ok,rfl,⟨b6,M,-⟩,j⟩;have G:Hid (Gr t=ok):=by unfold Hid;rw[Yb,HG.o,M]
 have K:=d.up j;clear j M;obtain⟨s1,p1,l1,c1,s2,p2,l2,c2,rfl⟩:=b6;have I:Hid (Up w (w2.alloc (.cells #[.bool s1,.slice p1 l1 c1,.bool s2,.slice p2 l2 c2] 166))):=K.o.alloc K.o.size _
 go_wp2_with fail
 go_ret
 exact⟨Oz G.o.symm,I.o⟩
end Go.Proofs.YtipgjenolpofpaaGreatDoor
namespace Go.Proofs.YtipgjenolpofpaaGreatDoor
open Go.ChangeShapes Go.WideShapes Go.ChangeAt Go.RowKit
theorem M3 (s:ByteArray)(h:Q.isIntB s=true)(neg:Bool)(t:List Nat)(hok:Q.okL t)(htr:Q.isTrim t)(hx:Q.sg neg (Q.val t)=Q.numT s):Q.digC t=(Q.dgs s).size:=by
 unfold Q.isIntB at h;simp only[J4,Ur,Yg,Vt,Jm,Ju] at h;obtain⟨⟨⟨O,U⟩,h3⟩,h4⟩:=h;have d:∀ c∈(Q.dgs s).data.toList,Q.dig c:=fun c hc=>by have:=h3 c hc;unfold Q.isDig at this;simpa[Q.dig] using this
 have j:Q.okL (Q.lim s):=Q.trimL_ok _ (Q.chunks_ok _ d);have A:Q.val t=Q.val (Q.lim s):=by
  unfold Q.numT at hx
  cases neg<;>cases hn:Q.isNeg s<;>rw[hn] at hx<;>simp[Q.sg] at hx<;>omega
 obtain rfl:=Q.val_inj t (Q.lim s) hok j htr (Q.trimL_trim _) A
 by_cases h5:(Q.dgs s).data.toList.head? = some 48
 ·have J:s.toList=[48]:=by
   rcases h4 with h|h
   ·exact absurd h5 h
   simpa using h
  have K:s=Q.strB [48]:=by
   rw[Jl] at J;apply ByteArray.ext
   show s.data=[48].toArray
   rw[<-J]
  have e:Q.digC (Q.lim (Q.strB [48]))=(Q.dgs (Q.strB [48])).size:=by kernel_rfl
  rw[K];exact e
 have G:Q.textD (Q.lim s)=(Q.dgs s).data.toList:=Q.textD_chunks (Q.dgs s).data.toList d h5;have E:(Q.dgs s).data.toList.length=(Q.dgs s).size:=by simp
 have I:¬ (Q.lim s).length=0:=fun e=>by
  rw[Jv e] at G;have M:(Q.dgs s).data.toList.length=0:=by rw[<-G];rfl
  omega
 unfold Q.digC;rw[if_neg I,G,E]
theorem Mp (t:List Nat)(hok:Q.okL t)(htr:Q.isTrim t)(h:Q.digC t<=62):t.length<=600:=by
 by_cases d:t=[]
 ·rw[d];exact Jy _
 have:=Q.textD_ge t hok htr d;unfold Q.digC at h;rw[if_neg (fun e=>d (Jv e))] at h;omega
theorem IU {l:List UInt8}(h:∀ j:Nat,l[j]? ≠ some 47):Lib.cut l [47]=(l,[],false):=by
 unfold Lib.cut;rw[Lib.index_one];have E:=Lib.indexByte_ge l 47
 by_cases A:Lib.indexByte l 47 = -1
 ·rw[A];rfl
 obtain⟨o,d⟩:=Zn (show 0<=Lib.indexByte l 47 by omega);exact absurd (Lib.indexByte_some d).1 (h o)
theorem A5 {l:List UInt8}{i:Nat}(h0:l[i]? = some 47)(h:∀ j:Nat,j<i->l[j]? ≠ some 47):Lib.cut l [47]=(l.take i,l.drop (i+1),true):=by
 unfold Lib.cut;rw[Lib.index_one];have G:=Lib.indexByte_ge l 47
 by_cases E:Lib.indexByte l 47 = -1
 ·exact absurd h0 (Lib.indexByte_none E i)
 obtain⟨o,d⟩:=Zn (show 0<=Lib.indexByte l 47 by omega);have A:=Lib.indexByte_some d;have:o=i:=by
  rcases Nat.lt_trichotomy o i with hl|hl|hl
  ·exact absurd A.1 (h o hl)
  ·exact hl
  exact absurd h0 (A.2 i hl)
 subst this;rw[d,if_pos (by simp)];rfl
theorem Qd (r:List UInt8):Lib.trimPrefix (45::r) [45]=r:=by
 simp[Lib.trimPrefix,Lib.hasPrefix]
theorem Po {l:List UInt8}(h:l.head? ≠ some 45):Lib.trimPrefix l [45]=l:=by
 cases l with
 | nil=>rfl
 | cons c r=>
   have:¬ (45:UInt8)=c:=fun e=>h (by simp[<-e]);simp[Lib.trimPrefix,Lib.hasPrefix,this]
theorem Td (l:List UInt8):Q.isNeg (Oo l)=decide (l.head? = some 45):=by
 unfold Q.isNeg;rw[Jl];have:((Oo l).extract 0 1).data.toList=l.take 1:=by
  rw[Y9,Zo]
  show (l.toArray.toList.drop 0).take (1 - 0)=_
  simp
 rw[this]
 cases l with
 | nil=>rfl
 | cons c r=>by_cases h:c=45<;>simp[h]
theorem Rj (l:List UInt8):(Q.dgs (Oo l)).size=(Lib.trimPrefix l [45]).length:=by
 unfold Q.dgs;rw[Td]
 cases l with
 | nil=>rfl
 | cons c r=>
   by_cases h:c=45
   ·subst h;rw[Qd,if_pos (by simp),Yn];have:(Oo (45::r)).size=r.length+1:=by show (45::r).toArray.size=_;simp
    omega
   ·rw[Po (by simpa using h),if_neg (by simpa using h)]
    show (c::r).toArray.size=_
    simp
theorem M7 (l:List UInt8)(i:Nat):Q.cutP (Oo l) (some i)=Oo (l.take i):=by
 apply ByteArray.ext
 show ((Oo l).extract 0 i).data=_
 rw[Y9]
 show l.toArray.extract 0 i=(l.take i).toArray
 apply Array.toList_inj.1;rw[Zo];simp[List.extract]
theorem ES (l:List UInt8)(i:Nat):Q.cutQ (Oo l) (some i)=Oo (l.drop (i+1)):=by
 apply ByteArray.ext
 show ((Oo l).extract (i+1) (Oo l).size).data=_
 rw[Y9]
 show l.toArray.extract (i+1) l.toArray.size=(l.drop (i+1)).toArray
 apply Array.toList_inj.1;rw[Zo]
 show (l.drop (i+1)).take (l.toArray.size - (i+1))=l.drop (i+1)
 exact Jn (by simp)
theorem Ca {l:List UInt8}(h:Q.IsCut (Oo l) none):Na l=decide ((Q.dgs (Oo l)).size<=30):=by
 have d:∀ j:Nat,l[j]? ≠ some 47:=fun j=>by have:=h j;rwa [Ou] at this
 have A:∀ j:Nat,(Lib.trimPrefix l [45])[j]? ≠ some 47:=fun j=>by
  by_cases hn:l.head? = some 45
  ·obtain⟨r,rfl⟩:∃ r,l=45::r:=by cases l with|nil=>cases hn|cons c r=>exact⟨r,by simp at hn;rw[hn]⟩
   rw[Qd];exact d (j+1)
  rw[Po hn];exact d j
 unfold Na;rw[IU A,Rj];simp
theorem Fu {l:List UInt8}{i:Nat}(h:Q.IsCut (Oo l) (some i)):Na l=(decide ((Q.dgs (Q.cutP (Oo l) (some i))).size<=30)&&decide ((Q.cutQ (Oo l) (some i)).size<=30))/\l.length=i+1+(Q.cutQ (Oo l) (some i)).size/\i<=(Q.dgs (Q.cutP (Oo l) (some i))).size+1:=by
 obtain⟨d,J⟩:=h;rw[Ou] at d;have A:∀ j:Nat,j<i->l[j]? ≠ some 47:=fun j hj=>by have:=J j hj;rwa [Ou] at this
 have G:i<l.length:=by
  rcases Nat.lt_or_ge i l.length with g|g
  ·exact g
  rw[List.getElem?_eq_none_iff.2 g] at d;cases d
 rw[M7,ES,Rj];have I:(Oo (l.drop (i+1))).size=(l.drop (i+1)).length:=by show (l.drop (i+1)).toArray.size=_;simp
 rw[I]
 by_cases hn:l.head? = some 45
 ·obtain⟨r,rfl⟩:∃ r,l=45::r:=by cases l with|nil=>cases hn|cons c r=>exact⟨r,by simp at hn;rw[hn]⟩
  cases i with
  | zero=>simp at d
  | succ i=>
    have e:Lib.cut r [47]=(r.take i,r.drop (i+1),true):=A5 (by simpa using d) (fun j hj=>by simpa using A (j+1) (by omega));unfold Na;rw[Qd,e,List.take_succ_cons,Qd];refine⟨rfl,?_,?_⟩
    ·simp at G ⊢;omega
    ·simp at G ⊢;omega
 have e:=A5 d A;have E:(l.take i).head? ≠ some 45:=by
  cases l with
  | nil=>simp
  | cons c r=>cases i with|zero=>simp|succ i=>simpa using hn
 unfold Na;rw[Po hn,e,Po E];refine⟨rfl,?_,?_⟩
 ·simp;omega
 simp;omega
theorem UB {l:List UInt8}(h:Q.isIntB (Oo l)=true):Q.IsCut (Oo l) none:=by
 intro j d;rw[Ou] at d;unfold Q.isIntB at h;simp only[J4,Ju] at h;have h3:=h.1.2;have E:(47:UInt8)∈(Q.dgs (Oo l)).data.toList:=by
  unfold Q.dgs;rw[Td];have A:=Ve d
  split
  ·have e:((Oo l).extract 1 (Oo l).size).data.toList=l.drop 1:=by
    rw[Y9,Zo]
    show (l.drop 1).take (l.toArray.size - 1)=_
    exact Jn (by simp)
   rw[e]
   cases j with
   | zero=>rename_i hd;cases l with|nil=>simp at d|cons c r=>simp at d hd;rw[d] at hd;exact absurd hd (by decide)
   | succ j=>exact Ve (i:=j) (by simpa using d)
  rw[Ou];exact A
 have:=h3 47 E;exact absurd this (by decide)
end Go.Proofs.YtipgjenolpofpaaGreatDoor
namespace Go.Proofs.YtipgjenolpofpaaGreatDoor
open Go.ChangeShapes Go.WideShapes Go.ChangeAt Go.RowKit Go.Proofs.Tryz
theorem DY (l:List UInt8):l.length<=(Lib.trimPrefix l [45]).length+1:=by
 unfold Lib.trimPrefix
 split
 ·rw[Zb];simp;omega
 omega
theorem ER {so tx:List UInt8}(h:UE so tx):tx.length<=62:=by
 obtain⟨A,hn⟩:=h;have d:Q.IsCut (Oo tx) none->tx.length<=62:=fun hc=>by
  rw[Ca hc,Rj,Js] at A;have:=DY tx;omega
 rcases hn with⟨-,h⟩|⟨-,k,x,y,j,-⟩
 ·exact d (UB h)
 cases k with
 | none=>exact d j
 | some i=>
   obtain⟨e,E,G⟩:=Fu j;rw[e,J4,Js,Js] at A;omega
theorem At (B:Nat)(w:World)(z:Value)(x y:Int)(hB:B<=w.heap.size)(hz:Q.IsQN B w z x y)(p q:ByteArray)(hp:Q.isIntB p=true)(hq:Q.isIntB q=true)(hx:x=Q.numT p)(hy:y=Q.numT q)(h1:(Q.dgs p).size<=62)(h2:(Q.dgs q).size<=62) :
 Calls prog 89 #[z,.int .i64 30] w fun e w'=>e=.returned (.bool (decide ((Q.dgs p).size<=30)&&decide ((Q.dgs q).size<=30)))/\Up w w':=by
 obtain⟨M,K,pa,A,O,E,U,I,ql,G,rfl,⟨j,t1,d,v1,-⟩,h,t2,z2,v2,-⟩:=hz;have V:=M3 p hp j t1 d.1 d.2.1 (v1.trans hx);have J:=M3 q hq h t2 z2.1 z2.2.1 (v2.trans hy);have Z:=Mp t1 d.1 d.2.1 (by omega);have Y:=Mp t2 z2.1 z2.2.1 (by omega);refine (Q.l2Fits_30 B M K pa A O E U I ql G j h t1 t2 w hB d z2 Z Y).mono ?_;rintro e w' ⟨rfl,hb⟩;exact⟨by rw[V,J,Bool.decide_and],hb⟩
theorem Sc:(Q.dgs (Q.strB [49])).size=1:=by kernel_rfl
theorem Fo (B:Nat)(w:World)(z:Value)(l:List UInt8)(k:Option Nat)(x y:Int)(hB:B<=w.heap.size)(hz:Q.IsQN B w z x y)(hl:l.length<=62)(hk:Q.IsCut (Oo l) k)(hV:Q.RatV (Oo l) k x y) :
 Calls prog 89 #[z,.int .i64 30] w fun e w'=>e=.returned (.bool (Na l))/\Up w w':=by
 have j:∀ m:List UInt8,m.length<=62->(Q.dgs (Oo m)).size<=62:=fun m hm=>by
  rw[Rj];have:=Bo m [45];omega
 cases k with
 | none=>
   obtain⟨d,h,h3⟩:=hV;refine (At B w z x y hB hz (Oo l) (Q.strB [49]) d Q.int_one h (h3.trans Q.num_one.symm) (j l hl) (by rw[Sc];decide)).mono ?_;rintro e w' ⟨rfl,hb⟩;refine⟨?_,hb⟩;rw[Ca hk];rw[Sc];simp
 | some i=>
   obtain⟨⟨d,h⟩,⟨-,-,-,hn,-⟩,h3,h4⟩:=hV;obtain⟨E,G,I⟩:=Fu hk;have A:Q.dgs (Q.cutQ (Oo l) (some i))=Q.cutQ (Oo l) (some i):=by unfold Q.dgs;rw[hn];rfl
   refine (At B w z x y hB hz _ _ d h h3 h4 (by rw[M7];exact j _ (by rw[J3];omega)) (by rw[A];omega)).mono ?_;rintro e w' ⟨rfl,hb⟩;refine⟨?_,hb⟩;rw[E,A]
theorem KY (t:Tm)(vk:Value)(w:World)(htx:t.text.length<=1048576) :
 Calls prog 71 #[.agg #[.int .i64 t.op,.string (Oo t.sort),.string (Oo t.text),.int .i64 t.a,.int .i64 t.b,vk]] w fun e w'=>e=.returned (.bool (Gr t))/\Up w w':=by
 have j:(Oo t.text).size=t.text.length:=by show t.text.toArray.size=_;simp
 have J:(Oo t.text).size<=maxLen:=by unfold maxLen;omega
 have HN:Hid (Gr t=true↔UE t.sort t.text):=by unfold Hid Gr;exact @Js _ (Classical.propDecidable _)
 have I:Hid (Up w (w.alloc (.cells #[.int .i64 t.op,.string (Oo t.sort),.string (Oo t.text),.int .i64 t.a,.int .i64 t.b,vk] 57))):=Oy _ _
 by_cases hl:62<t.text.length
 ·have G:Hid (Gr t=false):=by
   unfold Hid;rw[J9];intro h;have:=ER (HN.o.1 h);omega
  have z1:decide ((62:Int)<((Oo t.text).size:Int))=true:=by rw[j,Js];omega
  clear hl j J
  go_enter func71,ntmps71
  go_wp2_with fail
  go_ret
  exact⟨Oz G.o.symm,I.o⟩
 have b3:t.text.length<=62:=by omega
 have z1:decide ((62:Int)<((Oo t.text).size:Int))=false:=by rw[j,Jm];omega
 have HL:=Hd b3;have HM:=Hd J;clear hl b3 j J htx
 by_cases A:t.sort=Kn
 ·have q:((Oo t.sort).toList==[73,110,116])=true:=by rw[Jl,Ou,A];rfl
  have HG:Hid (Gr t=(Na t.text&&Q.isIntB (Oo t.text))):=by
   unfold Hid;rw[Yb,HN.o,J4];constructor
   ·rintro⟨h1,h|h⟩
    ·exact⟨h1,h.2⟩
    rw[A] at h;exact absurd h.1 (by decide)
   intro h;exact⟨h.1,.inl ⟨A,h.2⟩⟩
  clear A
  go_enter func71,ntmps71
  go_wp2_with fail
  refine (Q.isInt_spec (Oo t.text) _ HM.o).mono ?_
  cases Z:Q.isIntB (Oo t.text)
  ·have G:Hid (Gr t=false):=by unfold Hid;rw[HG.o,Z,Y0]
   clear Z;rintro e w1 ⟨rfl,rfl⟩
   go_wp2_with fail
   go_ret
   exact⟨Oz G.o.symm,I.o⟩
  have G:Hid (Gr t=Na t.text):=by unfold Hid;rw[HG.o,Z,Bool.and_true]
  have E:=Hd (UB Z);have HV:Hid (Q.RatV (Oo t.text) none (Q.numT (Oo t.text)) 1):=⟨Z,rfl,rfl⟩;clear Z;rintro e w1 ⟨rfl,rfl⟩
  go_wp2_with fail
  refine (Q.l2Read_any (Oo t.text) none _ _ _ HM.o E.o HV.o).mono ?_;rintro e w2 ⟨z,rfl,j,hb⟩;have HF:=Hd (Fo _ w2 z t.text none _ _ hb.size j HL.o E.o HV.o);have d:=Hd (I.o.trans (hb.mono I.o.size));obtain⟨p0,pn,pa,pl,pc,q0,qn,qa,ql,qc,rfl,-⟩:=j;clear hb
  go_wp2_with fail
  refine HF.o.mono ?_;rintro e w3 ⟨rfl,hb⟩;have M:=Hd (d.o.trans (hb.mono d.o.size));clear hb
  go_wp2_with fail
  go_ret
  exact⟨Oz G.o.symm,M.o⟩
 have q:((Oo t.sort).toList==[73,110,116])=false:=by rw[Jl,Ou,Jc];exact A
 by_cases Y:t.sort=Ki
 ·have q2:((Oo t.sort).toList==[82,101,97,108])=true:=by rw[Jl,Ou,Y];rfl
  obtain⟨k,hk⟩:=Q.isCut_ex (Oo t.text);have E:=Hd hk;have HG:Hid (Gr t=true↔Na t.text=true/\∃ x y,Q.RatV (Oo t.text) k x y):=by
   unfold Hid;rw[HN.o];constructor
   ·rintro⟨h1,h|⟨-,k2,x,y,K,V⟩⟩
    ·exact absurd h.1 A
    obtain rfl:=Q.isCut_unique E.o K;exact⟨h1,x,y,V⟩
   rintro⟨h1,x,y,V⟩;exact⟨h1,.inr ⟨Y,k,x,y,E.o,V⟩⟩
  clear A Y hk
  go_enter func71,ntmps71
  go_wp2_with fail
  refine (Q.specIsRat_any (Oo t.text) _ HM.o).mono ?_;rintro e w1 ⟨b,rfl,hR,U⟩;have HR:Hid (b=true↔∃ x y,Q.RatV (Oo t.text) k x y):=by
   obtain⟨k2,K,h⟩:=hR;obtain rfl:=Q.isCut_unique E.o K;exact h
  have O:=Hd (I.o.trans (U.mono I.o.size));have hc:w1.cell? ⟨w.heap.size,2,none⟩=some (.string (Oo t.text)):=by
   have hx:=Ox w [.int .i64 t.op,.string (Oo t.sort),.string (Oo t.text),.int .i64 t.a,.int .i64 t.b,vk] 57;exact (hx.below hx.lt U).cell 2
  clear hR U
  cases b
  ·have G:Hid (Gr t=false):=by
    unfold Hid;rw[J9];intro h;have:=HR.o.2 (HG.o.1 h).2
    cases this
   go_wp2_with fail
   go_ret
   exact⟨Oz G.o.symm,O.o⟩
  have G:Hid (Gr t=Na t.text):=by
   unfold Hid;rw[Yb,HG.o];exact⟨fun h=>h.1,fun h=>⟨h,HR.o.1 rfl⟩⟩
  obtain⟨x,y,V⟩:=HR.o.1 rfl;have HV:=Hd V;clear V
  go_wp2_with fail
  refine (Q.l2Read_any (Oo t.text) k x y _ HM.o E.o HV.o).mono ?_;rintro e w2 ⟨z,rfl,j,hb⟩;have HF:=Hd (Fo _ w2 z t.text k x y hb.size j HL.o E.o HV.o);have d:=Hd (O.o.trans (hb.mono O.o.size));obtain⟨p0,pn,pa,pl,pc,q0,qn,qa,ql,qc,rfl,-⟩:=j;clear hb
  go_wp2_with fail
  refine HF.o.mono ?_;rintro e w3 ⟨rfl,hb⟩;have M:=Hd (d.o.trans (hb.mono d.o.size));clear hb
  go_wp2_with fail
  go_ret
  exact⟨Oz G.o.symm,M.o⟩
 have q2:((Oo t.sort).toList==[82,101,97,108])=false:=by rw[Jl,Ou,Jc];exact Y
 have G:Hid (Gr t=false):=by
  unfold Hid;rw[J9];intro h
  rcases (HN.o.1 h).2 with h|h
  ·exact A h.1
  exact Y h.1
 clear A Y
 go_enter func71,ntmps71
 go_wp2_with fail
 go_ret
 exact⟨Oz G.o.symm,I.o⟩
theorem NZ {t:Tm}(h:Gr t=true):t.sort=Kn∨t.sort=Ki:=by
 unfold Gr at h
 rcases ((@Js _ (Classical.propDecidable _)).1 h).2 with h|h
 ·exact .inl h.1
 exact .inr h.1
structure Vars (w:World):Prop where
 ev:EV w
 rt:RT w
 ml:∃ m,w.cell? ⟨1,0,none⟩=some (.int .i64 m)
 sp:Q.SP w
 ns:Q.NS w
 lt:Q.LT w
theorem Vars.below {w w':World}(h:Vars w)(hb:Up w w'):Vars w':=by
 obtain⟨m,d⟩:=h.ml;exact⟨h.ev.keep (Below.keep hb),h.rt.keep (Below.keep hb),⟨m,(Below.keep hb).cell _ _ d⟩,h.sp.below hb,h.ns.below hb,h.lt.below hb⟩
structure BankZ (S:List (List UInt8))(F:List Fn)(T:List Tm):Prop where
 ls:S.length<=1048576
 lf:F.length<=1048576
 lt:T.length<=1048576
 s:∀ s∈S,s.length<=1048576
 f:∀ f∈F,f.name.length<=1048576/\(∀ a∈f.args,a.length<=1048576)/\f.sort.length<=1048576
 t:∀ t∈T,t.sort.length<=1048576/\t.text.length<=1048576/\t.kids.length<=1048576/\(Lit.int .i64 t.op).wf=true/\(Lit.int .i64 t.a).wf=true/\(Lit.int .i64 t.b).wf=true
structure BankAt (w:World)(vs vf vt:Value)(S:List (List UInt8))(F:List Fn)(T:List Tm):Prop where
 s:O8 w vs S
 f:Ex w vf F
 t:Kb w vt T
theorem BankAt.below {w w':World}{vs vf vt:Value}{S:List (List UInt8)}{F:List Fn}{T:List Tm}(h:BankAt w vs vf vt S F T)(hb:Up w w'):BankAt w' vs vf vt S F T:=⟨h.s.below hb,h.f.below hb,h.t.below hb⟩
theorem QH {w:World}{S:List (List UInt8)}{F:List Fn}{T:List Tm}(hv:Vars w)(hz:BankZ S F T):∀ t∈T,t.op=12->((Ov (Oh (Og S)) t.sort).kind=2∨(Ov (Oh (Og S)) t.sort).kind=3)->∀ W,Up w W->Calls prog 118 #[.string (Oo t.sort),.string (Oo t.text)] W fun e w'=>e=.returned (.bool (Gr t))/\Up W w':=by
 intro t j _ h W E;have d:=hv.below E;obtain⟨m,A⟩:=d.ml;refine L4 t m W ?_ (hz.t t j).2.1 A d.sp d.ns d.lt
 rcases h with h|h
 ·exact .inl (((OK _).i _).1 h)
 exact .inr (((OK _).r _).1 h)
theorem IZ {w:World}{vs vf vt:Value}{S:List (List UInt8)}{F:List Fn}{T:List Tm}(h:BankAt w vs vf vt S F T)(hz:BankZ S F T)(hv:Vars w):Calls prog 46 #[.agg #[vs,vf,vt]] w (YT S Gr F T w):=by
 obtain⟨A,j,d⟩:=h;have J:=A;have K:=j;have h3:=d;obtain⟨I,c1,rfl,-,-,-⟩:=J;obtain⟨G,c2,rfl,-,-,-⟩:=K;obtain⟨E,c3,rfl,-,-,-⟩:=h3;exact Ah I G E c1 c2 c3 S Gr F T w A j d hz.ls hz.lf hv.ev hv.rt hz.s hz.f hz.t (QH hv hz)
theorem Ld {w:World}{vs vf vt:Value}{S:List (List UInt8)}{F:List Fn}{T:List Tm}(h:BankAt w vs vf vt S F T)(hz:BankZ S F T)(hv:Vars w) :
 Calls prog 11 #[.agg #[vs,vf,vt]] w fun e w'=>e=.returned (.bool (Gb S Gr F T))/\Up w w':=by
 obtain⟨p1,c1,O,-,-,-⟩:=h.s;obtain⟨U,c2,J,-,-,-⟩:=h.f;obtain⟨p3,c3,K,-,-,-⟩:=h.t;have d:Hid (Up w (w.alloc (.cells #[vs,vf,vt] 32))):=Oy _ _;have I:=Hd (IZ (h.below d.o) hz (hv.below d.o));subst O J K;clear h hz hv
 go_enter func11,ntmps11
 go_wp2_with fail
 refine I.o.mono ?_;rintro e M (⟨j,rfl,hb⟩|⟨j,kb,sb,Y,tb,gb,n,vS,V,Z,bF,rfl,-,A⟩)
 ·have G:=Hd j;have E:=d.up hb;clear j hb I
  go_wp2_with fail
  go_ret
  exact⟨Oz G.o.symm,E.o⟩
 have G:=Hd j;have E:Hid (Up w M):=d.o.trans (A.low.mono d.o.size);clear j A I
 go_wp2_with fail
 go_ret
 exact⟨Oz G.o.symm,E.o⟩
theorem OO (S:List (List UInt8))(F:List Fn)(T:List Tm):Gb S Gr F T=Hh S Gr F T:=
 QO S Gr F T fun own t h=>by
  rcases NZ h with h|h
  ·exact .inl (((OK own).i _).2 h)
  ·exact .inr (((OK own).r _).2 h)
theorem Fb {w:World}{vs vf vt:Value}{S:List (List UInt8)}{F:List Fn}{T:List Tm}(h:BankAt w vs vf vt S F T)(hz:BankZ S F T)(hvs:∃ ad n c,vs=.slice (some ad) n c) :
 Calls prog 9 #[.agg #[vs,vf,vt]] w fun e w'=>e=.returned (.bool (Hh S Gr F T))/\Up w w':=
 L9 vs vf vt S Gr F T w h.s h.f h.t hz.s (fun f hf=>⟨(hz.f f hf).1,(hz.f f hf).2.2,(hz.f f hf).2.1⟩) (fun t ht=>⟨(hz.t t ht).1,(hz.t t ht).2.1,(hz.t t ht).2.2.1⟩) hz.ls hz.lf hz.lt hvs (fun t ht vk w' _=>KY t vk w' (hz.t t ht).2.1)
theorem Ha (x:List UInt8):(Oo x).size=x.length:=by show x.toArray.size=_;simp
def Nw (w:World)(v:Value)(L:List (List UInt8)):Prop:=
 ∃ a c,v=.slice a L.length c/\L.length<=c/\c<=maxLen/\(∀ s∈L,s.length<=maxLen)/\(L=[]∨∃ b off,a=some ⟨b,off,none⟩/\b<w.heap.size/\∀ i (h:i<L.length),w.cell? ⟨b,off+i,none⟩=some (.string (Oo L[i])))
theorem Nw.below {w w':World}{v:Value}{L:List (List UInt8)}(h:Nw w v L)(hb:Up w w'):Nw w' v L:=by
 obtain⟨a,c,rfl,A,G,h3,h4⟩:=h;refine⟨a,c,rfl,A,G,h3,?_⟩
 rcases h4 with h|⟨b,d,rfl,j,E⟩
 ·exact .inl h
 exact .inr ⟨b,d,rfl,Jz j hb.size,fun i hi=>(hb.cell (p:=⟨b,d+i,none⟩) j).trans (E i hi)⟩
def N9 (w:World)(v:Value)(L:List Int):Prop:=
 ∃ a c,v=.slice a L.length c/\L.length<=c/\c<=maxLen/\(L=[]∨∃ b off,a=some ⟨b,off,none⟩/\b<w.heap.size/\∀ i (h:i<L.length),w.cell? ⟨b,off+i,none⟩=some (.int .i64 L[i]))
theorem N9.below {w w':World}{v:Value}{L:List Int}(h:N9 w v L)(hb:Up w w'):N9 w' v L:=by
 obtain⟨a,c,rfl,A,G,h4⟩:=h;refine⟨a,c,rfl,A,G,?_⟩
 rcases h4 with h|⟨b,d,rfl,j,E⟩
 ·exact .inl h
 exact .inr ⟨b,d,rfl,Jz j hb.size,fun i hi=>(hb.cell (p:=⟨b,d+i,none⟩) j).trans (E i hi)⟩
def Xx (w:World)(v:Value)(F:List Fn):Prop:=
 ∃ a c,v=.slice a F.length c/\F.length<=c/\c<=maxLen/\(∀ f∈F,f.name.length<=maxLen/\f.sort.length<=maxLen)/\(F=[]∨∃ b off,a=some ⟨b,off,none⟩/\b<w.heap.size/\∀ i (h:i<F.length),w.cell? ⟨b,off+i*3,none⟩=some (.string (Oo F[i].name))/\(∃ va,w.cell? ⟨b,off+i*3+1,none⟩=some va/\Nw w va F[i].args)/\w.cell? ⟨b,off+i*3+2,none⟩=some (.string (Oo F[i].sort)))
theorem Xx.below {w w':World}{v:Value}{F:List Fn}(h:Xx w v F)(hb:Up w w'):Xx w' v F:=by
 obtain⟨a,c,rfl,I,E,h3,h4⟩:=h;refine⟨a,c,rfl,I,E,h3,?_⟩
 rcases h4 with h|⟨b,d,rfl,j,J⟩
 ·exact .inl h
 refine .inr ⟨b,d,rfl,Jz j hb.size,fun i hi=>?_⟩;obtain⟨K,⟨G,A,ha⟩,k2⟩:=J i hi;exact⟨(hb.cell (p:=⟨b,d+i*3,none⟩) j).trans K,⟨G,(hb.cell (p:=⟨b,d+i*3+1,none⟩) j).trans A,ha.below hb⟩,(hb.cell (p:=⟨b,d+i*3+2,none⟩) j).trans k2⟩
def Ht (w:World)(v:Value)(T:List Tm):Prop:=
 ∃ a c,v=.slice a T.length c/\T.length<=c/\c<=maxLen/\(∀ t∈T,t.sort.length<=maxLen/\t.text.length<=maxLen)/\(T=[]∨∃ b off,a=some ⟨b,off,none⟩/\b<w.heap.size/\∀ i (h:i<T.length),w.cell? ⟨b,off+i*6,none⟩=some (.int .i64 T[i].op)/\w.cell? ⟨b,off+i*6+1,none⟩=some (.string (Oo T[i].sort))/\w.cell? ⟨b,off+i*6+2,none⟩=some (.string (Oo T[i].text))/\w.cell? ⟨b,off+i*6+3,none⟩=some (.int .i64 T[i].a)/\w.cell? ⟨b,off+i*6+4,none⟩=some (.int .i64 T[i].b)/\∃ va,w.cell? ⟨b,off+i*6+5,none⟩=some va/\N9 w va T[i].kids)
theorem Ht.below {w w':World}{v:Value}{T:List Tm}(h:Ht w v T)(hb:Up w w'):Ht w' v T:=by
 obtain⟨a,c,rfl,I,E,h3,h4⟩:=h;refine⟨a,c,rfl,I,E,h3,?_⟩
 rcases h4 with h|⟨b,d,rfl,j,J⟩
 ·exact .inl h
 refine .inr ⟨b,d,rfl,Jz j hb.size,fun i hi=>?_⟩;obtain⟨K,A,k2,k3,k4,G,k5,ha⟩:=J i hi;exact⟨(hb.cell (p:=⟨b,d+i*6,none⟩) j).trans K,(hb.cell (p:=⟨b,d+i*6+1,none⟩) j).trans A,(hb.cell (p:=⟨b,d+i*6+2,none⟩) j).trans k2,(hb.cell (p:=⟨b,d+i*6+3,none⟩) j).trans k3,(hb.cell (p:=⟨b,d+i*6+4,none⟩) j).trans k4,G,(hb.cell (p:=⟨b,d+i*6+5,none⟩) j).trans k5,ha.below hb⟩
def Cf (L:List (List UInt8)):Prop:=L.length<=1048576/\∀ s∈L,s.length<=1048576
def Lu (f:Fn):Prop:=f.name.length<=1048576/\Cf f.args/\f.sort.length<=1048576
def Cj (t:Tm):Prop:=t.sort.length<=1048576/\t.text.length<=1048576/\t.kids.length<=1048576
def Ft (P:Prop)(w:World)(e:Ending)(w':World):Prop:=(e=.returned (.int .i64 (-1))∨∃ z:Nat,z<=1048576/\e=.returned (.int .i64 (z:Nat))/\P)/\Up w w'
theorem Q3 (v:Value)(L:List (List UInt8))(z0:Nat)(w:World)(h:Nw w v L)(hz0:z0<=1048576) :
 Calls prog 37 #[v,.int .i64 (z0:Nat)] w (Ft (Cf L) w):=by
 obtain⟨a,c,rfl,hc,V,J,E⟩:=h;unfold maxLen at V;have HA:=Hd E;have O:=Hd J;clear E J
 by_cases hl:z0<L.length
 ·have y:decide ((z0:Int) - (L.length:Int)<0)=true:=dT (by omega)
  go_enter func37,ntmps37
  go_wp2_with fail
  go_ret
  exact⟨.inl rfl,Jh _ _⟩
 have y:decide ((z0:Int) - (L.length:Int)<0)=false:=dF (by omega)
 go_enter func37,ntmps37
 go_wp2_with fail
 go_loopw [1,5] (fun zv iv wr=>∃ (i z:Nat),i<=L.length/\z<=1048576/\zv=.int .i64 (z:Nat)/\iv=.int .i64 (i:Nat)/\(∀ j (h:j<L.length),j<i->L[j].length<=1048576)/\w=wr) (fun _ iv _=>L.length - (intOf iv).toNat)
 case atStart=>exact⟨0,z0 - L.length,Jy _,by omega,by go_num,rfl,fun j _ h=>absurd h (J1 _),rfl⟩
 case round=>
  obtain⟨i,z,hi,hz,rfl,rfl,A,rfl⟩:=hrel;have K:=Hd A;clear A
  by_cases d:i<L.length
  ·obtain⟨b,off,rfl,hb,E⟩:∃ b off,a=some ⟨b,off,none⟩/\b<w.heap.size/\∀ i (h:i<L.length),w.cell? ⟨b,off+i,none⟩=some (.string (Oo L[i])):=by
    rcases HA.o with h|h
    ·rw[h] at d;exact absurd d (J1 _)
    ·exact h
   have k0:=E i d;have G:=O.o _ (Jw d);unfold maxLen at G;have hs:=Ha L[i];obtain⟨s,I⟩:=O1 (Oo L[i]);rw[I] at k0 hs;have M:=Hd hs;have Y:(s.size:Int)<=9223372036854775807:=by rw[hs];omega
   clear E I G hs
   by_cases Z:z<s.size
   ·have y2:decide ((z:Int) - (s.size:Int)<0)=true:=dT (by omega)
    go_wp2_with fail
    go_ret
    exact⟨.inl rfl,Jh _ _⟩
   ·have y2:decide ((z:Int) - (s.size:Int)<0)=false:=dF (by omega)
    go_wp2_with fail
    go_roundw
    case rel=>
     refine⟨i+1,z - s.size,by omega,by omega,by go_num,by go_num,fun j hj hji=>?_,trivial⟩
     by_cases e:j=i
     ·subst e;have:=M.o;omega
     ·exact K.o j hj (by omega)
    case measure=>simp[intOf];omega
  ·have U:i=L.length:=by omega
   subst U
   go_wp2_with fail
   go_ret
   refine⟨.inr ⟨z,hz,rfl,by omega,fun s hs=>?_⟩,Jh _ _⟩;obtain⟨j,hj,rfl⟩:=Ya hs;exact K.o j hj hj
theorem VO (v:Value)(L:List Int)(z0:Nat)(w:World)(h:N9 w v L)(hz0:z0<=1048576) :
 Calls prog 60 #[v,.int .i64 (z0:Nat)] w (Ft (L.length<=1048576) w):=by
 obtain⟨a,c,rfl,hc,d,-⟩:=h;unfold maxLen at d
 by_cases hl:z0<L.length
 ·have y:decide ((z0:Int) - (L.length:Int)<0)=true:=dT (by omega)
  go_enter func60,ntmps60
  go_wp2_with fail
  go_ret
  exact⟨.inl rfl,Jh _ _⟩
 have y:decide ((z0:Int) - (L.length:Int)<0)=false:=dF (by omega)
 go_enter func60,ntmps60
 go_wp2_with fail
 go_ret
 exact⟨.inr ⟨z0 - L.length,by omega,by go_num,by omega⟩,Jh _ _⟩
theorem NI (f:Fn)(va:Value)(z0:Nat)(w:World)(h:Nw w va f.args)(hn:f.name.length<=maxLen)(hs:f.sort.length<=maxLen)(hz0:z0<=1048576) :
 Calls prog 19 #[.agg #[.string (Oo f.name),va,.string (Oo f.sort)],.int .i64 (z0:Nat)] w (Ft (Lu f) w):=by
 have H:=Hd h;obtain⟨a,c,rfl,-,-,-,-⟩:=h;have e1:=Ha f.name;have Y:=Ha f.sort;obtain⟨G,h1⟩:∃ s,Oo f.name=s:=⟨_,rfl⟩;obtain⟨I,h2⟩:∃ s,Oo f.sort=s:=⟨_,rfl⟩;rw[h1] at e1 ⊢;rw[h2] at Y ⊢;unfold maxLen at hn hs;have x1:(G.size:Int)<=9223372036854775807:=by omega
 have x2:(I.size:Int)<=9223372036854775807:=by omega
 have U:=Hd e1;have b3:=Hd Y;clear h1 h2 e1 Y;obtain⟨W1,j⟩:=O1 (w.alloc (.cells #[.string G,.slice a f.args.length c,.string I] 44));have E:Hid (Up w W1):=by unfold Hid;rw[<-j];exact Oy _ _
 have J:Hid (Bx W1 w.heap.size [.string G,.slice a f.args.length c,.string I]):=by unfold Hid;rw[<-j];exact Ox w _ _
 have K:=Hd j;clear j
 by_cases g1:z0<G.size
 ·have y:decide ((z0:Int) - (G.size:Int)<0)=true:=dT (by omega)
  go_enter func19,ntmps19
  go_wp2_with fail
  go_ret
  exact⟨.inl rfl,by rw[K.o];exact E.o⟩
 have y:decide ((z0:Int) - (G.size:Int)<0)=false:=dF (by omega)
 obtain⟨z1,Z⟩:=O1 (z0 - G.size);have O:(z0:Int) - (G.size:Int)=(z1:Int):=by omega
 have q2:z1<=1048576:=by omega
 have HQ:=Hd O;rw[O] at y;clear O Z
 go_enter func19,ntmps19
 go_wp2_with (rw[HQ.o])
 rw[K.o];refine (Q3 _ f.args z1 W1 (H.o.below E.o) q2).mono ?_;rintro e w2 ⟨(rfl|⟨z2,b6,rfl,M⟩),d⟩
 ·have A:=E.up d;clear d
  go_wp2_with fail
  go_ret
  exact⟨.inl rfl,A.o⟩
 have A:=E.up d;have V:=Hd M;obtain⟨b0,b1,b2⟩:=(J.o.below J.o.lt d).c3;have y2:decide ((z2:Int)<0)=false:=dF (by omega)
 clear d M
 by_cases g2:z2<I.size
 ·have y3:decide ((z2:Int) - (I.size:Int)<0)=true:=dT (by omega)
  go_wp2_with fail
  go_ret
  exact⟨.inl rfl,A.o⟩
 have y3:decide ((z2:Int) - (I.size:Int)<0)=false:=dF (by omega)
 go_wp2_with fail
 go_ret
 exact⟨.inr ⟨z2 - I.size,by omega,by go_num,by have:=U.o;omega,V.o,by have:=b3.o;omega⟩,A.o⟩
theorem YQ (v:Value)(F:List Fn)(z0:Nat)(w:World)(h:Xx w v F)(hz0:z0<=1048576) :
 Calls prog 38 #[v,.int .i64 (z0:Nat)] w (Ft (F.length<=1048576/\∀ f∈F,Lu f) w):=by
 obtain⟨a,c,rfl,hc,b4,K,M⟩:=h;unfold maxLen at b4;have HA:=Hd M;have b5:=Hd K;clear M K
 by_cases hl:z0<F.length
 ·have y:decide ((z0:Int) - (F.length:Int)<0)=true:=dT (by omega)
  go_enter func38,ntmps38
  go_wp2_with fail
  go_ret
  exact⟨.inl rfl,Jh _ _⟩
 have y:decide ((z0:Int) - (F.length:Int)<0)=false:=dF (by omega)
 go_enter func38,ntmps38
 go_wp2_with fail
 go_loopw [1,5] (fun zv iv wr=>∃ (i z:Nat),i<=F.length/\z<=1048576/\zv=.int .i64 (z:Nat)/\iv=.int .i64 (i:Nat)/\(∀ j (h:j<F.length),j<i->Lu F[j])/\Up w wr) (fun _ iv _=>F.length - (intOf iv).toNat)
 case atStart=>exact⟨0,z0 - F.length,Jy _,by omega,by go_num,rfl,fun j _ h=>absurd h (J1 _),Jh _ _⟩
 case round=>
  obtain⟨i,z,hi,hz,rfl,rfl,U,G⟩:=hrel;have O:=Hd U;have HB:=Hd G;clear U
  by_cases d:i<F.length
  ·obtain⟨b,off,rfl,hb,M⟩:∃ b off,a=some ⟨b,off,none⟩/\b<w.heap.size/\∀ i (h:i<F.length),w.cell? ⟨b,off+i*3,none⟩=some (.string (Oo F[i].name))/\(∃ va,w.cell? ⟨b,off+i*3+1,none⟩=some va/\Nw w va F[i].args)/\w.cell? ⟨b,off+i*3+2,none⟩=some (.string (Oo F[i].sort)):=by
    rcases HA.o with h|h
    ·rw[h] at d;exact absurd d (J1 _)
    ·exact h
   obtain⟨k0,⟨va,k1,E⟩,k2⟩:=M i d;rw[<-G.cell (p:=⟨b,off+i*3,none⟩) hb] at k0;rw[<-G.cell (p:=⟨b,off+i*3+1,none⟩) hb] at k1;rw[<-G.cell (p:=⟨b,off+i*3+2,none⟩) hb] at k2;have I:=b5.o _ (Jw d);obtain⟨f,hf⟩:=O1 (F[i]);have HF:=Hd hf;rw[hf] at k0 k2 E I;have b7:=Hd (E.below G);have Y:=Hd I;obtain⟨pa,ca,rfl,-,-,-,-⟩:=E;clear hf G M I
   go_wp2_with fail
   refine (NI f _ z _ b7.o Y.o.1 Y.o.2 hz).mono ?_;rintro e w2 ⟨(rfl|⟨z2,Z,rfl,V⟩),A⟩
   ·have J:=HB.up A;clear A
    go_wp2_with fail
    go_ret
    exact⟨.inl rfl,J.o⟩
   ·have J:=HB.up A;have b6:=Hd V;have y2:decide ((z2:Int)<0)=false:=dF (by omega)
    clear A V
    go_wp2_with fail
    go_roundw
    case rel=>
     refine⟨i+1,z2,by omega,Z,by go_num,by go_num,fun j hj hji=>?_,J.o⟩
     by_cases e:j=i
     ·subst e;rw[HF.o];exact b6.o
     ·exact O.o j hj (by omega)
    case measure=>simp[intOf];omega
  ·have b3:i=F.length:=by omega
   subst b3;clear G
   go_wp2_with fail
   go_ret
   refine⟨.inr ⟨z,hz,rfl,by omega,fun s hs=>?_⟩,HB.o⟩;obtain⟨j,hj,rfl⟩:=Ya hs;exact O.o j hj hj
theorem ZM (t:Tm)(va:Value)(z0:Nat)(w:World)(h:N9 w va t.kids)(hn:t.sort.length<=maxLen)(hs:t.text.length<=maxLen)(hz0:z0<=1048576) :
 Calls prog 25 #[.agg #[.int .i64 t.op,.string (Oo t.sort),.string (Oo t.text),.int .i64 t.a,.int .i64 t.b,va],.int .i64 (z0:Nat)] w (Ft (Cj t) w):=by
 have H:=Hd h;obtain⟨a,c,rfl,-,-,-⟩:=h;have Z:=Ha t.sort;have U:=Ha t.text;obtain⟨E,h1⟩:∃ s,Oo t.sort=s:=⟨_,rfl⟩;obtain⟨A,h2⟩:∃ s,Oo t.text=s:=⟨_,rfl⟩;rw[h1] at Z ⊢;rw[h2] at U ⊢;unfold maxLen at hn hs;have x1:(E.size:Int)<=9223372036854775807:=by omega
 have x2:(A.size:Int)<=9223372036854775807:=by omega
 have M:=Hd Z;have a8:=Hd U;clear h1 h2 Z U;have d:Hid (Up w (w.alloc (.cells #[.int .i64 t.op,.string E,.string A,.int .i64 t.a,.int .i64 t.b,.slice a t.kids.length c] 54))):=Oy _ _
 by_cases g1:z0<E.size
 ·have y:decide ((z0:Int) - (E.size:Int)<0)=true:=dT (by omega)
  go_enter func25,ntmps25
  go_wp2_with fail
  go_ret
  exact⟨.inl rfl,d.o⟩
 have y:decide ((z0:Int) - (E.size:Int)<0)=false:=dF (by omega)
 obtain⟨z1,Y⟩:=O1 (z0 - E.size);have I:(z0:Int) - (E.size:Int)=(z1:Int):=by omega
 have q2:z1<=1048576:=by omega
 have HQ:=Hd I;rw[I] at y;clear I Y
 by_cases g2:z1<A.size
 ·have y2:decide ((z1:Int) - (A.size:Int)<0)=true:=dT (by omega)
  go_enter func25,ntmps25
  go_wp2_with (rw[HQ.o])
  go_ret
  exact⟨.inl rfl,d.o⟩
 have y2:decide ((z1:Int) - (A.size:Int)<0)=false:=dF (by omega)
 obtain⟨z2,J⟩:=O1 (z1 - A.size);have O:(z1:Int) - (A.size:Int)=(z2:Int):=by omega
 have q4:z2<=1048576:=by omega
 have K:=Hd O;rw[O] at y2;clear O J
 go_enter func25,ntmps25
 go_wp2_with (first|rw[HQ.o]|rw[K.o])
 refine (VO _ t.kids z2 _ (H.o.below d.o) q4).mono ?_;rintro e w2 ⟨(rfl|⟨z3,V,rfl,a7⟩),j⟩
 ·have G:=d.up j;clear j
  go_wp2_with fail
  go_ret
  exact⟨.inl rfl,G.o⟩
 have G:=d.up j;have y3:decide ((z3:Int)<0)=false:=dF (by omega)
 clear j
 go_wp2_with fail
 go_ret
 exact⟨.inr ⟨z3,V,rfl,by have:=M.o;omega,by have:=a8.o;omega,a7⟩,G.o⟩
theorem S4 (v:Value)(T:List Tm)(z0:Nat)(w:World)(h:Ht w v T)(hz0:z0<=1048576) :
 Calls prog 39 #[v,.int .i64 (z0:Nat)] w (Ft (T.length<=1048576/\∀ t∈T,Cj t) w):=by
 obtain⟨a,c,rfl,hc,b3,K,M⟩:=h;unfold maxLen at b3;have HA:=Hd M;have b5:=Hd K;clear M K
 by_cases hl:z0<T.length
 ·have y:decide ((z0:Int) - (T.length:Int)<0)=true:=dT (by omega)
  go_enter func39,ntmps39
  go_wp2_with fail
  go_ret
  exact⟨.inl rfl,Jh _ _⟩
 have y:decide ((z0:Int) - (T.length:Int)<0)=false:=dF (by omega)
 go_enter func39,ntmps39
 go_wp2_with fail
 go_loopw [1,5] (fun zv iv wr=>∃ (i z:Nat),i<=T.length/\z<=1048576/\zv=.int .i64 (z:Nat)/\iv=.int .i64 (i:Nat)/\(∀ j (h:j<T.length),j<i->Cj T[j])/\Up w wr) (fun _ iv _=>T.length - (intOf iv).toNat)
 case atStart=>exact⟨0,z0 - T.length,Jy _,by omega,by go_num,rfl,fun j _ h=>absurd h (J1 _),Jh _ _⟩
 case round=>
  obtain⟨i,z,hi,hz,rfl,rfl,U,d⟩:=hrel;have O:=Hd U;have HB:=Hd d;clear U
  by_cases A:i<T.length
  ·obtain⟨b,off,rfl,hb,M⟩:∃ b off,a=some ⟨b,off,none⟩/\b<w.heap.size/\∀ i (h:i<T.length),w.cell? ⟨b,off+i*6,none⟩=some (.int .i64 T[i].op)/\w.cell? ⟨b,off+i*6+1,none⟩=some (.string (Oo T[i].sort))/\w.cell? ⟨b,off+i*6+2,none⟩=some (.string (Oo T[i].text))/\w.cell? ⟨b,off+i*6+3,none⟩=some (.int .i64 T[i].a)/\w.cell? ⟨b,off+i*6+4,none⟩=some (.int .i64 T[i].b)/\∃ va,w.cell? ⟨b,off+i*6+5,none⟩=some va/\N9 w va T[i].kids:=by
    rcases HA.o with h|h
    ·rw[h] at A;exact absurd A (J1 _)
    ·exact h
   obtain⟨k0,k1,k2,k3,k4,va,k5,G⟩:=M i A;rw[<-d.cell (p:=⟨b,off+i*6,none⟩) hb] at k0;rw[<-d.cell (p:=⟨b,off+i*6+1,none⟩) hb] at k1;rw[<-d.cell (p:=⟨b,off+i*6+2,none⟩) hb] at k2;rw[<-d.cell (p:=⟨b,off+i*6+3,none⟩) hb] at k3;rw[<-d.cell (p:=⟨b,off+i*6+4,none⟩) hb] at k4;rw[<-d.cell (p:=⟨b,off+i*6+5,none⟩) hb] at k5;have I:=b5.o _ (Jw A);obtain⟨t,ht⟩:=O1 (T[i]);have HT:=Hd ht;rw[ht] at k0 k1 k2 k3 k4 G I;have b7:=Hd (G.below d);have Y:=Hd I;obtain⟨pa,ca,rfl,-,-,-⟩:=G;clear ht d M I
   go_wp2_with fail
   refine (ZM t _ z _ b7.o Y.o.1 Y.o.2 hz).mono ?_;rintro e w2 ⟨(rfl|⟨z2,Z,rfl,V⟩),E⟩
   ·have J:=HB.up E;clear E
    go_wp2_with fail
    go_ret
    exact⟨.inl rfl,J.o⟩
   ·have J:=HB.up E;have b6:=Hd V;have y2:decide ((z2:Int)<0)=false:=dF (by omega)
    clear E V
    go_wp2_with fail
    go_roundw
    case rel=>
     refine⟨i+1,z2,by omega,Z,by go_num,by go_num,fun j hj hji=>?_,J.o⟩
     by_cases e:j=i
     ·subst e;rw[HT.o];exact b6.o
     ·exact O.o j hj (by omega)
    case measure=>simp[intOf];omega
  ·have a8:i=T.length:=by omega
   subst a8;clear d
   go_wp2_with fail
   go_ret
   refine⟨.inr ⟨z,hz,rfl,by omega,fun s hs=>?_⟩,HB.o⟩;obtain⟨j,hj,rfl⟩:=Ya hs;exact O.o j hj hj
structure ArgBank (w:World)(vs vf vt:Value)(S:List (List UInt8))(F:List Fn)(T:List Tm):Prop where
 s:Nw w vs S
 f:Xx w vf F
 t:Ht w vt T
theorem ArgBank.below {w w':World}{vs vf vt:Value}{S:List (List UInt8)}{F:List Fn}{T:List Tm}(h:ArgBank w vs vf vt S F T)(hb:Up w w'):ArgBank w' vs vf vt S F T:=⟨h.s.below hb,h.f.below hb,h.t.below hb⟩
structure SmallB (S:List (List UInt8))(F:List Fn)(T:List Tm):Prop where
 s:Cf S
 f:F.length<=1048576/\∀ f∈F,Lu f
 t:T.length<=1048576/\∀ t∈T,Cj t
theorem VY {vs vf vt:Value}{S:List (List UInt8)}{F:List Fn}{T:List Tm}(z0:Nat)(w:World)(h:ArgBank w vs vf vt S F T)(hz0:z0<=1048576) :
 Calls prog 8 #[.agg #[vs,vf,vt],.int .i64 (z0:Nat)] w (Ft (SmallB S F T) w):=by
 obtain⟨a1,c1,e1,-,-,-,-⟩:=h.s;obtain⟨a2,c2,e2,-,-,-,-⟩:=h.f;obtain⟨a3,c3,e3,-,-,-,-⟩:=h.t;have J:Hid (Up w (w.alloc (.cells #[vs,vf,vt] 26))):=Oy _ _;have M:Hid (Bx (w.alloc (.cells #[vs,vf,vt] 26)) w.heap.size [vs,vf,vt]):=Ox w _ _;have H1:=Hd (h.below J.o);subst e1 e2 e3;clear h
 go_enter func8,ntmps8
 go_wp2_with fail
 refine (Q3 _ S z0 _ H1.o.s hz0).mono ?_;rintro e w2 ⟨(rfl|⟨z2,Y,rfl,U⟩),j⟩
 ·have E:=J.up j;clear j
  go_wp2_with fail
  go_ret
  exact⟨.inl rfl,E.o⟩
 have E:=J.up j;have H2:=Hd (H1.o.below j);have a8:=Hd U;have I:=Hd (M.o.below M.o.lt j);have y2:decide ((z2:Int)<0)=false:=dF (by omega)
 obtain⟨b0,b1,b2⟩:=I.o.c3;clear j U
 go_wp2_with fail
 refine (YQ _ F z2 _ H2.o.f Y).mono ?_;rintro e w3 ⟨(rfl|⟨z3,Z,rfl,O⟩),d⟩
 ·have G:=E.up d;clear d
  go_wp2_with fail
  go_ret
  exact⟨.inl rfl,G.o⟩
 have G:=E.up d;have H3:=Hd (H2.o.below d);have b5:=Hd O;have b3:=Hd (I.o.below I.o.lt d);have y3:decide ((z3:Int)<0)=false:=dF (by omega)
 clear b0 b1 b2;obtain⟨b0,b1,b2⟩:=b3.o.c3;clear d O
 go_wp2_with fail
 refine (S4 _ T z3 _ H3.o.t Z).mono ?_;rintro e w4 ⟨(rfl|⟨z4,b4,rfl,V⟩),A⟩
 ·have K:=G.up A;clear A
  go_wp2_with fail
  go_ret
  exact⟨.inl rfl,K.o⟩
 have K:=G.up A;have a7:=Hd V;have y4:decide ((z4:Int)<0)=false:=dF (by omega)
 clear A V
 go_wp2_with fail
 go_ret
 exact⟨.inr ⟨z4,b4,rfl,a8.o,b5.o,a7.o⟩,K.o⟩
theorem Ql {w w':World}{base:Nat}{e:TypeId}{s:Nat}{v:Value}{n:Nat}{xs:List Value}(h:w.ownsRow base e s v n xs)(hb:Up w w'):w'.ownsRow base e s v n xs:=Oi h (fun g hg=>hb.block g (h.lt g hg).2)
theorem Iy {w:World}{base g n cap s:Nat}{e:TypeId}{xs:List Value}(h:w.ownsRow base e s (.slice (some ⟨g,0,none⟩) n cap) n xs)(j:Nat)(hj:j<n*s):∃ x,w.cell? ⟨g,j,none⟩=some x:=by
 rw[h.cellAt j hj];exact⟨_,Jf (by have:=h.1;omega)⟩
theorem NP:(prog.info? 3).map (fun i=>(i.zero,i.size,i.bytes))=some (some (.int .i64 0),1,8):=by kernel_rfl
theorem IC:∃ i:TypeInfo,prog.info? 3=some i/\i.zero=some (.int .i64 0)/\i.size=1/\i.bytes=8:=info_parts NP
theorem Ly {α:Type}{f:α->Value}{xs:List Value}{L:List α}{i:Nat}(hx:xs.length=L.length)(h:∀ j (hj:j<L.length),j<i->xs[j]? = some (f L[j]))(hi:i<L.length):∀ j (hj:j<L.length),j<i+1->(xs.set i (f L[i]))[j]? = some (f L[j]):=by
 intro j hj d
 by_cases e:j=i
 ·subst e;rw[Y4 (by omega)]
 rw[J6 (by omega)];exact h j hj (by omega)
theorem Mm {α:Type}{f:α->Value}{xs:List Value}{L:List α}(hx:xs.length=L.length)(h:∀ j (hj:j<L.length),j<L.length->xs[j]? = some (f L[j])):xs=L.map f:=by
 refine List.ext_getElem? fun j=>?_
 by_cases hj:j<L.length
 ·rw[h j hj hj,Y2,Jf hj];rfl
 rw[Yj (by omega),Yj (by rw[Zv];omega)]
theorem Qt (v:Value)(L:List (List UInt8))(w:World)(h:Nw w v L)(hs:Cf L) :
 Calls prog 43 #[v] w fun e w'=>∃ g c,e=.returned (.slice (some ⟨g,0,none⟩) L.length c)/\w'.ownsRow w.heap.size 9 1 (.slice (some ⟨g,0,none⟩) L.length c) L.length (U3 L)/\Up w w':=by
 obtain⟨a,c,rfl,hc,Z,-,K⟩:=h;unfold maxLen at Z;obtain⟨i0,M,b3,b4,V⟩:=Rp;have d2:=hs.1;have HA:=Hd K;clear K hs
 go_enter func43,ntmps43
 go_wp2_with (at_make;refine wpList_make_full _ rfl _ _ 22 rfl w.heap.size 9 i0 (.string ⟨#[]⟩) 1 underlying22 M b3 b4 .i64 .i64 _ _ L.length rfl rfl (by simp) (by simp) (by rw[V];omega) (by unfold maxLen;omega) Of ?_)
 intro w1 E O;have b7:Hid (Up w w1):=(Jh _ _).grown O Of (fun k e=>by cases e);have a8:=Hd E;clear E O
 go_wp2_with fail
 go_loopw [4] (fun iv wr=>∃ (i:Nat) (xs:List Value),i<=L.length/\iv=.int .i64 i/\(∀ j (hj:j<L.length),j<i->xs[j]? = some (.string (Oo L[j])))/\wr.ownsRow w.heap.size 9 1 (.slice (some ⟨w.heap.size,0,none⟩) L.length L.length) L.length xs/\Up w wr) (fun iv _=>L.length - (intOf iv).toNat)
 case atStart=>exact⟨0,_,Jy _,rfl,fun j _ h=>absurd h (J1 _),a8.o,b7.o⟩
 case round=>
  obtain⟨i,xs,hi,rfl,A,d,U⟩:=hrel;have HB:=Hd U;have b5:=Hd A;have J:Hid (xs.length=L.length):=by have:=d.1;unfold Hid;omega
  by_cases G:i<L.length
  ·obtain⟨b,off,rfl,hb,K⟩:∃ b off,a=some ⟨b,off,none⟩/\b<w.heap.size/\∀ i (h:i<L.length),w.cell? ⟨b,off+i,none⟩=some (.string (Oo L[i])):=by
    rcases HA.o with h|h
    ·rw[h] at G;exact absurd G (J1 _)
    ·exact h
   have k0:=K i G;rw[<-U.cell (p:=⟨b,off+i,none⟩) hb] at k0;have b6:=Hd (Ly (f:=fun x=>.string (Oo x)) J.o A G);obtain⟨x0,e0⟩:=Iy d i (by omega);have g0:=d.frozenAt i;have I:=(d.stored i (.string (Oo L[i]))).1;have a7:=Hd I;clear A d U K I
   go_wp2_with fail
   go_roundw
   case rel=>exact⟨i+1,_,by omega,by go_num,b6.o,a7.o,HB.o.setCell (p:=⟨w.heap.size,i,none⟩) Of _⟩
   case measure=>simp[intOf];omega
  ·have Y:i=L.length:=by omega
   subst Y;have HO:=Hd d;clear d U A
   go_wp2_with fail
   go_ret
   have e:=Mm (f:=fun x=>.string (Oo x)) J.o b5.o;have ho:=HO.o;rw[e] at ho;exact⟨_,_,rfl,ho,HB.o⟩
theorem OQ (v:Value)(L:List Int)(w:World)(h:N9 w v L)(hs:L.length<=1048576) :
 Calls prog 32 #[v] w fun e w'=>∃ g c,e=.returned (.slice (some ⟨g,0,none⟩) L.length c)/\w'.ownsRow w.heap.size 3 1 (.slice (some ⟨g,0,none⟩) L.length c) L.length (G7 L)/\Up w w':=by
 obtain⟨a,c,rfl,hc,Z,K⟩:=h;unfold maxLen at Z;obtain⟨i0,M,b3,b4,V⟩:=IC;have d2:=hs;have HA:=Hd K;clear K hs
 go_enter func32,ntmps32
 go_wp2_with (at_make;refine wpList_make_full _ rfl _ _ 52 rfl w.heap.size 3 i0 (.int .i64 0) 1 underlying52 M b3 b4 .i64 .i64 _ _ L.length rfl rfl (by simp) (by simp) (by rw[V];omega) (by unfold maxLen;omega) Of ?_)
 intro w1 E O;have b7:Hid (Up w w1):=(Jh _ _).grown O Of (fun k e=>by cases e);have a8:=Hd E;clear E O
 go_wp2_with fail
 go_loopw [4] (fun iv wr=>∃ (i:Nat) (xs:List Value),i<=L.length/\iv=.int .i64 i/\(∀ j (hj:j<L.length),j<i->xs[j]? = some (.int .i64 L[j]))/\wr.ownsRow w.heap.size 3 1 (.slice (some ⟨w.heap.size,0,none⟩) L.length L.length) L.length xs/\Up w wr) (fun iv _=>L.length - (intOf iv).toNat)
 case atStart=>exact⟨0,_,Jy _,rfl,fun j _ h=>absurd h (J1 _),a8.o,b7.o⟩
 case round=>
  obtain⟨i,xs,hi,rfl,A,d,U⟩:=hrel;have HB:=Hd U;have b5:=Hd A;have J:Hid (xs.length=L.length):=by have:=d.1;unfold Hid;omega
  by_cases G:i<L.length
  ·obtain⟨b,off,rfl,hb,K⟩:∃ b off,a=some ⟨b,off,none⟩/\b<w.heap.size/\∀ i (h:i<L.length),w.cell? ⟨b,off+i,none⟩=some (.int .i64 L[i]):=by
    rcases HA.o with h|h
    ·rw[h] at G;exact absurd G (J1 _)
    ·exact h
   have k0:=K i G;rw[<-U.cell (p:=⟨b,off+i,none⟩) hb] at k0;have b6:=Hd (Ly (f:=fun x=>.int .i64 x) J.o A G);obtain⟨x0,e0⟩:=Iy d i (by omega);have g0:=d.frozenAt i;have I:=(d.stored i (.int .i64 L[i])).1;have a7:=Hd I;clear A d U K I
   go_wp2_with fail
   go_roundw
   case rel=>exact⟨i+1,_,by omega,by go_num,b6.o,a7.o,HB.o.setCell (p:=⟨w.heap.size,i,none⟩) Of _⟩
   case measure=>simp[intOf];omega
  ·have Y:i=L.length:=by omega
   subst Y;have HO:=Hd d;clear d U A
   go_wp2_with fail
   go_ret
   have e:=Mm (f:=fun x=>.int .i64 x) J.o b5.o;have ho:=HO.o;rw[e] at ho;exact⟨_,_,rfl,ho,HB.o⟩
theorem DG (w:World)(A B:List Value)(ta tb:TypeId):∃ W2,(w.alloc (.cells A.toArray ta)).alloc (.cells B.toArray tb)=W2/\Up w W2/\Bx W2 w.heap.size A/\Bx W2 (w.heap.size+1) B/\W2.heap.size=w.heap.size+1+1:=by
 refine⟨_,rfl,Ho (Oy _ _) _,(Ox w A ta).alloc _,?_,by simp⟩;have h:=Ox (w.alloc (.cells A.toArray ta)) B tb
 rwa [show (w.alloc (.cells A.toArray ta)).heap.size=w.heap.size+1 by simp] at h
theorem CD (w:World)(A B C:List Value)(ta tb tc:TypeId):∃ W3,((w.alloc (.cells A.toArray ta)).alloc (.cells B.toArray tb)).alloc (.cells C.toArray tc)=W3/\Up w W3/\Bx W3 w.heap.size A/\Bx W3 (w.heap.size+1) B/\Bx W3 (w.heap.size+1+1) C/\W3.heap.size=w.heap.size+1+1+1:=by
 obtain⟨E,d,hb,G,j,h⟩:=DG w A B ta tb;refine⟨_,rfl,?_,?_,?_,?_,?_⟩
 ·rw[d];exact Ho hb _
 ·rw[d];exact G.alloc _
 ·rw[d];exact j.alloc _
 ·rw[d,<-h];exact Ox E C tc
 rw[d,Ji,h]
theorem KV (f:Fn)(va:Value)(w:World)(h:Nw w va f.args)(hs:Cf f.args) :
 Calls prog 21 #[.agg #[.string (Oo f.name),va,.string (Oo f.sort)]] w fun e w'=>∃ g c,e=.returned (.agg #[.string (Oo f.name),.slice (some ⟨g,0,none⟩) f.args.length c,.string (Oo f.sort)])/\w'.ownsRow w.heap.size 9 1 (.slice (some ⟨g,0,none⟩) f.args.length c) f.args.length (U3 f.args)/\Up w w':=by
 have H:=Hd h;obtain⟨a,c,rfl,-,-,-,-⟩:=h
 go_enter func21,ntmps21
 go_wp2_with fail
 obtain⟨W3,Z,U,x1,x2,x3,I⟩:=CD w [.string (Oo f.name),.slice a f.args.length c,.string (Oo f.sort)] [.string ⟨#[]⟩,.slice none 0 0,.string ⟨#[]⟩] [.string (Oo f.name),.slice none 0 0,.string ⟨#[]⟩] 44 47 47;rw[Z];clear Z;have J:=Hd U;have K:=Hd x1;have O:=Hd x2;have Y:=Hd x3;have b5:=Hd I;clear U x1 x2 x3 I;refine (Qt _ f.args W3 (H.o.below J.o) hs).mono ?_;rintro e w4 ⟨A,c4,rfl,d,j⟩;have b3:=J.up j;have M:=Hd d;have a8:=Hd (K.o.below K.o.lt j);have G:=Hd (O.o.below O.o.lt j);have E:=Hd (Y.o.below Y.o.lt j);clear d j;obtain⟨b0,b1,b2⟩:=a8.o.c3;obtain⟨d0,d1,d2⟩:=G.o.c3;obtain⟨q0,q1,q2⟩:=E.o.c3;obtain⟨f0,f1,f2⟩:=G.o.f3;have r1:=E.o.frozen 1;have r2:=E.o.frozen 2
 go_wp2_with fail
 clear b0 b1 b2 d0 d1 d2 q0 q1 q2 f0 f1 f2 r1 r2;have V:w.heap.size+1≠w.heap.size+1+1:=by omega
 have hA:Bx ((w4.setCell ⟨w.heap.size+1+1,1,none⟩ (.slice (some ⟨A,0,none⟩) f.args.length c4)).setCell ⟨w.heap.size+1+1,2,none⟩ (.string (Oo f.sort))) (w.heap.size+1) [.string ⟨#[]⟩,.slice none 0 0,.string ⟨#[]⟩]:=by
  obtain⟨ty,hh⟩:=G.o;refine⟨ty,?_⟩;rw[Jq _ ⟨w.heap.size+1+1,2,none⟩ _ _ V,Jq _ ⟨w.heap.size+1+1,1,none⟩ _ _ V];exact hh
 have hE:=((hA.set 0 (.string (Oo f.name))).set 1 (.slice (some ⟨A,0,none⟩) f.args.length c4)).set 2 (.string (Oo f.sort));have a7:Up w (((((w4.setCell ⟨w.heap.size+1+1,1,none⟩ (.slice (some ⟨A,0,none⟩) f.args.length c4)).setCell ⟨w.heap.size+1+1,2,none⟩ (.string (Oo f.sort))).setCell ⟨w.heap.size+1,0,none⟩ (.string (Oo f.name))).setCell ⟨w.heap.size+1,1,none⟩ (.slice (some ⟨A,0,none⟩) f.args.length c4)).setCell ⟨w.heap.size+1,2,none⟩ (.string (Oo f.sort))):=
  ((((b3.o.setCell (p:=⟨w.heap.size+1+1,1,none⟩) (by show _<=w.heap.size+1+1;omega) _).setCell (p:=⟨w.heap.size+1+1,2,none⟩) (by show _<=w.heap.size+1+1;omega) _).setCell (p:=⟨w.heap.size+1,0,none⟩) (by show _<=w.heap.size+1;omega) _).setCell (p:=⟨w.heap.size+1,1,none⟩) (by show _<=w.heap.size+1;omega) _).setCell (p:=⟨w.heap.size+1,2,none⟩) (by show _<=w.heap.size+1;omega) _
 have hO:((((w4.setCell ⟨w.heap.size+1+1,1,none⟩ (.slice (some ⟨A,0,none⟩) f.args.length c4)).setCell ⟨w.heap.size+1+1,2,none⟩ (.string (Oo f.sort))).setCell ⟨w.heap.size+1,0,none⟩ (.string (Oo f.name))).setCell ⟨w.heap.size+1,1,none⟩ (.slice (some ⟨A,0,none⟩) f.args.length c4)).setCell ⟨w.heap.size+1,2,none⟩ (.string (Oo f.sort)) |>.ownsRow w.heap.size 9 1 (.slice (some ⟨A,0,none⟩) f.args.length c4) f.args.length (U3 f.args):=by
  refine E7 (Oi M.o (fun g hg=>?_)) J.o.size;have e4:=Ot M.o g hg;have I:=b5.o;have n1:g≠w.heap.size+1:=by omega
  have n2:g≠w.heap.size+1+1:=by omega
  rw[Jq _ ⟨w.heap.size+1,2,none⟩ _ _ n1,Jq _ ⟨w.heap.size+1,1,none⟩ _ _ n1,Jq _ ⟨w.heap.size+1,0,none⟩ _ _ n1,Jq _ ⟨w.heap.size+1+1,2,none⟩ _ _ n2,Jq _ ⟨w.heap.size+1+1,1,none⟩ _ _ n2]
 obtain⟨e0,e1,e2⟩:=hE.c3;refine Jj (v:=.agg #[.string (Oo f.name),.slice (some ⟨A,0,none⟩) f.args.length c4,.string (Oo f.sort)]) ?_ rfl ⟨A,c4,rfl,hO,a7⟩;clear hA hE a7 hO;simp[results,results21,go_sem,e0,e1,e2]
def RN (N:Nat)(w:World)(P:World->Prop):Prop:=∀ W',w.heap.size<=W'.heap.size->(∀ k,N<=k->k<w.heap.size->W'.heap[k]? = w.heap[k]?)->P W'
def Mv (wr:World)(N:Nat)(xs:List Value)(F:List Fn)(i:Nat):Prop:=
 ∀ j (h:j<F.length),j<i->xs[j*3]? = some (.string (Oo F[j].name))/\(∃ va,xs[j*3+1]? = some va/\wr.ownsRow N 9 1 va F[j].args.length (U3 F[j].args))/\xs[j*3+2]? = some (.string (Oo F[j].sort))
theorem Mv.next {wr wr':World}{N:Nat}{xs:List Value}{F:List Fn}{i:Nat}(hx:xs.length=F.length*3)(h:Mv wr N xs F i)(hi:i<F.length){va:Value}(hk:∀ k,N<=k->k<wr.heap.size->wr'.heap[k]? = wr.heap[k]?)(hva:wr'.ownsRow N 9 1 va F[i].args.length (U3 F[i].args)) :
 Mv wr' N (((xs.set (i*3) (.string (Oo F[i].name))).set (i*3+1) va).set (i*3+2) (.string (Oo F[i].sort))) F (i+1):=by
 intro j E A
 by_cases e:j=i
 ·subst e;refine⟨?_,⟨va,?_,hva⟩,?_⟩
  ·rw[J6 (by omega),J6 (by omega),Y4 (by omega)]
  ·rw[J6 (by omega),Y4 (by simp;omega)]
  rw[Y4 (by simp;omega)]
 obtain⟨G,⟨d,I,hb⟩,J⟩:=h j E (by omega);refine⟨?_,⟨d,?_,Oi hb (fun g hg=>hk g (Ot hb g hg) (hb.lt g hg).2)⟩,?_⟩<;>rw[J6 (by omega),J6 (by omega),J6 (by omega)]<;>assumption
theorem VC (v:Value)(F:List Fn)(w:World)(h:Xx w v F)(hs:F.length<=1048576/\∀ f∈F,Lu f) :
 Calls prog 44 #[v] w fun e w'=>∃ v',e=.returned v'/\(∃ p c,v'=.slice p F.length c)/\RN w.heap.size w' (fun W=>Ex W v' F)/\Up w w':=by
 obtain⟨a,c,rfl,hc,d2,-,hA⟩:=h;unfold maxLen at d2;obtain⟨i0,b3,d7,d9,c8⟩:=T3;have g6:=hs.1;have HA:=Hd hA;have d4:=Hd hs.2;clear hA hs
 go_enter func44,ntmps44
 go_wp2_with (at_make;refine wpList_make_full _ rfl _ _ 29 rfl w.heap.size 47 i0 _ 3 underlying29 b3 d7 d9 .i64 .i64 _ _ F.length rfl rfl (by simp) (by simp) (by rw[c8];omega) (by unfold maxLen;omega) Of ?_)
 intro w1 J b8;have e5:Hid (Up w w1):=(Jh _ _).grown b8 Of (fun k e=>by cases e);have d6:=Hd J;clear J b8
 go_wp2_with fail
 go_loopw [4] (fun iv wr=>∃ (i:Nat) (xs:List Value),i<=F.length/\iv=.int .i64 i/\Mv wr (w.heap.size+1) xs F i/\wr.ownsRow w.heap.size 47 3 (.slice (some ⟨w.heap.size,0,none⟩) F.length F.length) F.length xs/\Up w wr) (fun iv _=>F.length - (intOf iv).toNat)
 case atStart=>exact⟨0,_,Jy _,rfl,fun j _ h=>absurd h (J1 _),d6.o,e5.o⟩
 case round=>
  obtain⟨i,xs,hi,rfl,E,A,O⟩:=hrel;have HB:=Hd O;have b5:=Hd E;have d3:Hid (xs.length=F.length*3):=A.1;have HO:=Hd A;have U:Hid (w.heap.size<wr.heap.size):=(A.lt _ rfl).2
  by_cases I:i<F.length
  ·obtain⟨b,off,rfl,hb,hA⟩:∃ b off,a=some ⟨b,off,none⟩/\b<w.heap.size/\∀ i (h:i<F.length),w.cell? ⟨b,off+i*3,none⟩=some (.string (Oo F[i].name))/\(∃ va,w.cell? ⟨b,off+i*3+1,none⟩=some va/\Nw w va F[i].args)/\w.cell? ⟨b,off+i*3+2,none⟩=some (.string (Oo F[i].sort)):=by
    rcases HA.o with h|h
    ·rw[h] at I;exact absurd I (J1 _)
    ·exact h
   obtain⟨k0,⟨va,k1,G⟩,k2⟩:=hA i I;rw[<-O.cell (p:=⟨b,off+i*3,none⟩) hb] at k0;rw[<-O.cell (p:=⟨b,off+i*3+1,none⟩) hb] at k1;rw[<-O.cell (p:=⟨b,off+i*3+2,none⟩) hb] at k2;have V:=Hd (G.below O);have b7:=Hd (d4.o _ (Jw I)).2.1;have b6:Hid (∀ wr' va,(∀ k,w.heap.size+1<=k->k<wr.heap.size->wr'.heap[k]? = wr.heap[k]?)->wr'.ownsRow (w.heap.size+1) 9 1 va F[i].args.length (U3 F[i].args)->Mv wr' (w.heap.size+1) (((xs.set (i*3) (.string (Oo F[i].name))).set (i*3+1) va).set (i*3+2) (.string (Oo F[i].sort))) F (i+1)):=fun wr' va hk hv=>Mv.next d3.o b5.o I hk hv;obtain⟨f,hf⟩:=O1 (F[i]);rw[hf] at k0 k2 V b7 b6;obtain⟨pa,ca,rfl,-,-,-,-⟩:=G;rw[hf] at k1;rw[hf] at V;clear hf E A O hA
   go_wp2_with (go_at_call 21;refine (KV f _ _ V.o b7.o).mono ?_;rintro e w2 ⟨g2,c2,rfl,Z,K⟩;have d:=Ql HO.o K;have e3:=HB.up K;obtain⟨x0,e0⟩:=Iy d (i*3) (by omega);obtain⟨x1,e1⟩:=Iy d (i*3+1) (by omega);obtain⟨x2,e2⟩:=Iy d (i*3+2) (by omega);have g0:=d.frozenAt (i*3);have g1:=d.frozenAt (i*3+1);have f8:=d.frozenAt (i*3+2);have e4:=Hd d;have Y:=Hd Z;have d8:=Hd K;clear K d Z)
   have a7:=(((e4.o.stored (i*3) (.string (Oo f.name))).1.stored (i*3+1) (.slice (some ⟨g2,0,none⟩) f.args.length c2)).1.stored (i*3+2) (.string (Oo f.sort))).1;have d5:=Hd a7;have hh:∀ k,k≠w.heap.size->(((w2.setCell ⟨w.heap.size,i*3,none⟩ (.string (Oo f.name))).setCell ⟨w.heap.size,i*3+1,none⟩ (.slice (some ⟨g2,0,none⟩) f.args.length c2)).setCell ⟨w.heap.size,i*3+2,none⟩ (.string (Oo f.sort))).heap[k]? = w2.heap[k]? := fun k hk=>by rw[Jq _ ⟨w.heap.size,i*3+2,none⟩ _ _ hk,Jq _ ⟨w.heap.size,i*3+1,none⟩ _ _ hk,Jq _ ⟨w.heap.size,i*3,none⟩ _ _ hk]
   have b4:=Hd hh;clear a7 hh
   go_roundw
   case rel=>
    refine⟨i+1,_,by omega,by go_num,b6.o _ (.slice (some ⟨g2,0,none⟩) f.args.length c2) (fun k hk hk2=>(b4.o k (by omega)).trans (d8.o.block k hk2)) ?_,d5.o,((e3.o.setCell (p:=⟨w.heap.size,i*3,none⟩) Of _).setCell (p:=⟨w.heap.size,i*3+1,none⟩) Of _).setCell (p:=⟨w.heap.size,i*3+2,none⟩) Of _⟩;exact E7 (Oi Y.o (fun g hg=>b4.o g (fun e=>by have:=Ot Y.o g hg;have:=U.o;omega))) U.o
   case measure=>simp[intOf];omega
  ·have d1:i=F.length:=by omega
   subst d1;clear A O E
   go_wp2_with fail
   go_ret
   refine⟨_,rfl,⟨_,_,rfl⟩,fun W' hsz hkk=>?_,HB.o⟩;have M:W'.ownsRow _ _ _ _ _ _:=Oi HO.o (fun g hg=>hkk g (Ot HO.o g hg) (HO.o.lt g hg).2);refine⟨_,_,rfl,Of,by unfold maxLen;omega,.inr ⟨w.heap.size,rfl,Jz U.o hsz,fun j hj=>?_⟩⟩;obtain⟨h0,⟨va,h1,G⟩,h2⟩:=b5.o j hj hj;refine⟨?_,⟨va,?_,Bk (Oi G (fun g hg=>hkk g (Yk (Y1 _) (Ot G g hg)) (G.lt g hg).2))⟩,?_⟩
   ·rw[M.cellAt (j*3) (by omega)];exact h0
   ·rw[M.cellAt (j*3+1) (by omega)];exact h1
   ·rw[M.cellAt (j*3+2) (by omega)];exact h2
theorem YB (t:Tm)(va:Value)(w:World)(h:N9 w va t.kids)(hs:t.kids.length<=1048576) :
 Calls prog 27 #[.agg #[.int .i64 t.op,.string (Oo t.sort),.string (Oo t.text),.int .i64 t.a,.int .i64 t.b,va]] w fun e w'=>∃ g c,e=.returned (.agg #[.int .i64 t.op,.string (Oo t.sort),.string (Oo t.text),.int .i64 t.a,.int .i64 t.b,.slice (some ⟨g,0,none⟩) t.kids.length c])/\w'.ownsRow w.heap.size 3 1 (.slice (some ⟨g,0,none⟩) t.kids.length c) t.kids.length (G7 t.kids)/\Up w w':=by
 have H:=Hd h;obtain⟨a,c,rfl,-,-,-⟩:=h
 go_enter func27,ntmps27
 go_wp2_with fail
 obtain⟨W3,Y,U,x1,x2,x3,G⟩:=CD w [.int .i64 t.op,.string (Oo t.sort),.string (Oo t.text),.int .i64 t.a,.int .i64 t.b,.slice a t.kids.length c] [.int .i64 0,.string ⟨#[]⟩,.string ⟨#[]⟩,.int .i64 0,.int .i64 0,.slice none 0 0] [.int .i64 t.op,.string (Oo t.sort),.string (Oo t.text),.int .i64 t.a,.int .i64 t.b,.slice none 0 0] 54 57 57;rw[Y];clear Y;have I:=Hd U;have d6:=Hd x1;have O:=Hd x2;have V:=Hd x3;have b3:=Hd G;clear U x1 x2 x3 G;refine (OQ _ t.kids W3 (H.o.below I.o) hs).mono ?_;rintro e w4 ⟨A,c4,rfl,d,j⟩;have a8:=I.up j;have K:=Hd d;have E:=Hd (O.o.below O.o.lt j);have M:=Hd (V.o.below V.o.lt j);clear d j;obtain⟨d0,d1,d2,d3,d4,d5⟩:=E.o.cs6;obtain⟨q0,q1,q2,q3,q4,q5⟩:=M.o.cs6;obtain⟨f0,f1,f2,f3,f4,f5⟩:=E.o.f6;have r5:=M.o.frozen 5
 go_wp2_with fail
 clear d0 d1 d2 d3 d4 d5 q0 q1 q2 q3 q4 q5 f0 f1 f2 f3 f4 f5 r5;have a7:w.heap.size+1≠w.heap.size+1+1:=by omega
 have hA:Bx (w4.setCell ⟨w.heap.size+1+1,5,none⟩ (.slice (some ⟨A,0,none⟩) t.kids.length c4)) (w.heap.size+1) [.int .i64 0,.string ⟨#[]⟩,.string ⟨#[]⟩,.int .i64 0,.int .i64 0,.slice none 0 0]:=by
  obtain⟨ty,hh⟩:=E.o;refine⟨ty,?_⟩;rw[Jq _ ⟨w.heap.size+1+1,5,none⟩ _ _ a7];exact hh
 have hE:=((((((hA.set 0 (.int .i64 t.op)).set 1 (.string (Oo t.sort))).set 2 (.string (Oo t.text))).set 3 (.int .i64 t.a)).set 4 (.int .i64 t.b)).set 5 (.slice (some ⟨A,0,none⟩) t.kids.length c4));have Z:=(((((((a8.o.setCell (p:=⟨w.heap.size+1+1,5,none⟩) (by show _<=w.heap.size+1+1;omega) (.slice (some ⟨A,0,none⟩) t.kids.length c4)).setCell (p:=⟨w.heap.size+1,0,none⟩) (by show _<=w.heap.size+1;omega) (.int .i64 t.op)).setCell (p:=⟨w.heap.size+1,1,none⟩) (by show _<=w.heap.size+1;omega) (.string (Oo t.sort))).setCell (p:=⟨w.heap.size+1,2,none⟩) (by show _<=w.heap.size+1;omega) (.string (Oo t.text))).setCell (p:=⟨w.heap.size+1,3,none⟩) (by show _<=w.heap.size+1;omega) (.int .i64 t.a)).setCell (p:=⟨w.heap.size+1,4,none⟩) (by show _<=w.heap.size+1;omega) (.int .i64 t.b)).setCell (p:=⟨w.heap.size+1,5,none⟩) (by show _<=w.heap.size+1;omega) (.slice (some ⟨A,0,none⟩) t.kids.length c4));have hO:(((((((w4.setCell ⟨w.heap.size+1+1,5,none⟩ (.slice (some ⟨A,0,none⟩) t.kids.length c4)).setCell ⟨w.heap.size+1,0,none⟩ (.int .i64 t.op)).setCell ⟨w.heap.size+1,1,none⟩ (.string (Oo t.sort))).setCell ⟨w.heap.size+1,2,none⟩ (.string (Oo t.text))).setCell ⟨w.heap.size+1,3,none⟩ (.int .i64 t.a)).setCell ⟨w.heap.size+1,4,none⟩ (.int .i64 t.b)).setCell ⟨w.heap.size+1,5,none⟩ (.slice (some ⟨A,0,none⟩) t.kids.length c4)).ownsRow w.heap.size 3 1 (.slice (some ⟨A,0,none⟩) t.kids.length c4) t.kids.length (G7 t.kids):=by
  refine E7 (Oi K.o (fun g hg=>?_)) I.o.size;have e8:=Ot K.o g hg;have G:=b3.o;have J:g≠w.heap.size+1:=by omega
  have n2:g≠w.heap.size+1+1:=by omega
  rw[Jq _ ⟨w.heap.size+1,5,none⟩ _ _ J,Jq _ ⟨w.heap.size+1,4,none⟩ _ _ J,Jq _ ⟨w.heap.size+1,3,none⟩ _ _ J,Jq _ ⟨w.heap.size+1,2,none⟩ _ _ J,Jq _ ⟨w.heap.size+1,1,none⟩ _ _ J,Jq _ ⟨w.heap.size+1,0,none⟩ _ _ J,Jq _ ⟨w.heap.size+1+1,5,none⟩ _ _ n2]
 obtain⟨e0,e1,e2,e3,e4,e5⟩:=hE.cs6;refine Jj (v:=.agg #[.int .i64 t.op,.string (Oo t.sort),.string (Oo t.text),.int .i64 t.a,.int .i64 t.b,.slice (some ⟨A,0,none⟩) t.kids.length c4]) ?_ rfl ⟨A,c4,rfl,hO,Z⟩;clear hA hE Z hO;simp[results,results27,go_sem,e0,e1,e2,e3,e4,e5]
def Mh (wr:World)(N:Nat)(xs:List Value)(T:List Tm)(i:Nat):Prop:=
 ∀ j (h:j<T.length),j<i->xs[j*6]? = some (.int .i64 T[j].op)/\xs[j*6+1]? = some (.string (Oo T[j].sort))/\xs[j*6+2]? = some (.string (Oo T[j].text))/\xs[j*6+3]? = some (.int .i64 T[j].a)/\xs[j*6+4]? = some (.int .i64 T[j].b)/\∃ va,xs[j*6+5]? = some va/\wr.ownsRow N 3 1 va T[j].kids.length (G7 T[j].kids)
theorem Mh.next {wr wr':World}{N:Nat}{xs:List Value}{T:List Tm}{i:Nat}(hx:xs.length=T.length*6)(h:Mh wr N xs T i)(hi:i<T.length){va:Value}(hk:∀ k,N<=k->k<wr.heap.size->wr'.heap[k]? = wr.heap[k]?)(hva:wr'.ownsRow N 3 1 va T[i].kids.length (G7 T[i].kids)) :
 Mh wr' N ((((((xs.set (i*6) (.int .i64 T[i].op)).set (i*6+1) (.string (Oo T[i].sort))).set (i*6+2) (.string (Oo T[i].text))).set (i*6+3) (.int .i64 T[i].a)).set (i*6+4) (.int .i64 T[i].b)).set (i*6+5) va) T (i+1):=by
 intro j E A
 by_cases e:j=i
 ·subst e;refine⟨?_,?_,?_,?_,?_,va,?_,hva⟩
  ·rw[J6 (by omega),J6 (by omega),J6 (by omega),J6 (by omega),J6 (by omega),Y4 (by first|omega|(simp;omega))]
  ·rw[J6 (by omega),J6 (by omega),J6 (by omega),J6 (by omega),Y4 (by first|omega|(simp;omega))]
  ·rw[J6 (by omega),J6 (by omega),J6 (by omega),Y4 (by first|omega|(simp;omega))]
  ·rw[J6 (by omega),J6 (by omega),Y4 (by first|omega|(simp;omega))]
  ·rw[J6 (by omega),Y4 (by first|omega|(simp;omega))]
  rw[Y4 (by first|omega|(simp;omega))]
 obtain⟨G,I,J,h3,h4,d,h5,hb⟩:=h j E (by omega);refine⟨?_,?_,?_,?_,?_,d,?_,Oi hb (fun g hg=>hk g (Ot hb g hg) (hb.lt g hg).2)⟩<;>rw[J6 (by omega),J6 (by omega),J6 (by omega),J6 (by omega),J6 (by omega),J6 (by omega)]<;>assumption
theorem Wi (v:Value)(T:List Tm)(w:World)(h:Ht w v T)(hs:T.length<=1048576/\∀ t∈T,Cj t) :
 Calls prog 45 #[v] w fun e w'=>∃ v',e=.returned v'/\(∃ p c,v'=.slice p T.length c)/\RN w.heap.size w' (fun W=>Kb W v' T)/\Up w w':=by
 obtain⟨a,c,rfl,hc,d1,-,hA⟩:=h;unfold maxLen at d1;obtain⟨i0,a8,d6,d8,c6⟩:=Dz;have h8:=hs.1;have HA:=Hd hA;have d3:=Hd hs.2;clear hA hs
 go_enter func45,ntmps45
 go_wp2_with (at_make;refine wpList_make_full _ rfl _ _ 30 rfl w.heap.size 57 i0 _ 6 underlying30 a8 d6 d8 .i64 .i64 _ _ T.length rfl rfl (by simp) (by simp) (by rw[c6];omega) (by unfold maxLen;omega) Of ?_)
 intro w1 K b8;have e7:Hid (Up w w1):=(Jh _ _).grown b8 Of (fun k e=>by cases e);have d5:=Hd K;clear K b8
 go_wp2_with fail
 go_loopw [4] (fun iv wr=>∃ (i:Nat) (xs:List Value),i<=T.length/\iv=.int .i64 i/\Mh wr (w.heap.size+1) xs T i/\wr.ownsRow w.heap.size 57 6 (.slice (some ⟨w.heap.size,0,none⟩) T.length T.length) T.length xs/\Up w wr) (fun iv _=>T.length - (intOf iv).toNat)
 case atStart=>exact⟨0,_,Jy _,rfl,fun j _ h=>absurd h (J1 _),d5.o,e7.o⟩
 case round=>
  obtain⟨i,xs,hi,rfl,E,A,M⟩:=hrel;have HB:=Hd M;have b4:=Hd E;have d2:Hid (xs.length=T.length*6):=A.1;have HO:=Hd A;have U:Hid (w.heap.size<wr.heap.size):=(A.lt _ rfl).2
  by_cases J:i<T.length
  ·obtain⟨b,off,rfl,hb,hA⟩:∃ b off,a=some ⟨b,off,none⟩/\b<w.heap.size/\∀ i (h:i<T.length),w.cell? ⟨b,off+i*6,none⟩=some (.int .i64 T[i].op)/\w.cell? ⟨b,off+i*6+1,none⟩=some (.string (Oo T[i].sort))/\w.cell? ⟨b,off+i*6+2,none⟩=some (.string (Oo T[i].text))/\w.cell? ⟨b,off+i*6+3,none⟩=some (.int .i64 T[i].a)/\w.cell? ⟨b,off+i*6+4,none⟩=some (.int .i64 T[i].b)/\∃ va,w.cell? ⟨b,off+i*6+5,none⟩=some va/\N9 w va T[i].kids:=by
    rcases HA.o with h|h
    ·rw[h] at J;exact absurd J (J1 _)
    ·exact h
   obtain⟨k0,k1,k2,k3,k4,va,k5,I⟩:=hA i J;rw[<-M.cell (p:=⟨b,off+i*6,none⟩) hb] at k0;rw[<-M.cell (p:=⟨b,off+i*6+1,none⟩) hb] at k1;rw[<-M.cell (p:=⟨b,off+i*6+2,none⟩) hb] at k2;rw[<-M.cell (p:=⟨b,off+i*6+3,none⟩) hb] at k3;rw[<-M.cell (p:=⟨b,off+i*6+4,none⟩) hb] at k4;rw[<-M.cell (p:=⟨b,off+i*6+5,none⟩) hb] at k5;have b6:=Hd (I.below M);have b7:=Hd (d3.o _ (Jw J)).2.2;have b5:Hid (∀ wr' va,(∀ k,w.heap.size+1<=k->k<wr.heap.size->wr'.heap[k]? = wr.heap[k]?)->wr'.ownsRow (w.heap.size+1) 3 1 va T[i].kids.length (G7 T[i].kids)->Mh wr' (w.heap.size+1) ((((((xs.set (i*6) (.int .i64 T[i].op)).set (i*6+1) (.string (Oo T[i].sort))).set (i*6+2) (.string (Oo T[i].text))).set (i*6+3) (.int .i64 T[i].a)).set (i*6+4) (.int .i64 T[i].b)).set (i*6+5) va) T (i+1)):=fun wr' va hk hv=>Mh.next d2.o b4.o J hk hv;obtain⟨pa,ca,rfl,-,-,-⟩:=I;obtain⟨t,ht⟩:=O1 (T[i]);rw[ht] at k0 k1 k2 k3 k4 k5 b6 b7 b5;clear ht E A M hA
   go_wp2_with (go_at_call 27;refine (YB t _ _ b6.o b7.o).mono ?_;rintro e w2 ⟨g2,c2,rfl,Y,O⟩;have d:=Ql HO.o O;have d9:=HB.up O;obtain⟨x0,e0⟩:=Iy d (i*6) (by omega);have g8:=d.frozenAt (i*6);obtain⟨x1,e1⟩:=Iy d (i*6+1) (by omega);have g9:=d.frozenAt (i*6+1);obtain⟨x2,e2⟩:=Iy d (i*6+2) (by omega);have g1:=d.frozenAt (i*6+2);obtain⟨x3,e3⟩:=Iy d (i*6+3) (by omega);have g5:=d.frozenAt (i*6+3);obtain⟨x4,e4⟩:=Iy d (i*6+4) (by omega);have g6:=d.frozenAt (i*6+4);obtain⟨x5,e5⟩:=Iy d (i*6+5) (by omega);have h7:=d.frozenAt (i*6+5);have e6:=Hd d;have V:=Hd Y;have d7:=Hd O;clear O d Y)
   have Z:=((((((e6.o.stored (i*6) (.int .i64 t.op)).1.stored (i*6+1) (.string (Oo t.sort))).1.stored (i*6+2) (.string (Oo t.text))).1.stored (i*6+3) (.int .i64 t.a)).1.stored (i*6+4) (.int .i64 t.b)).1.stored (i*6+5) (.slice (some ⟨g2,0,none⟩) t.kids.length c2)).1;have d4:=Hd Z;have hh:∀ k,k≠w.heap.size->((((((w2.setCell ⟨w.heap.size,i*6,none⟩ (.int .i64 t.op)).setCell ⟨w.heap.size,i*6+1,none⟩ (.string (Oo t.sort))).setCell ⟨w.heap.size,i*6+2,none⟩ (.string (Oo t.text))).setCell ⟨w.heap.size,i*6+3,none⟩ (.int .i64 t.a)).setCell ⟨w.heap.size,i*6+4,none⟩ (.int .i64 t.b)).setCell ⟨w.heap.size,i*6+5,none⟩ (.slice (some ⟨g2,0,none⟩) t.kids.length c2)).heap[k]? = w2.heap[k]? := fun k hk=>by rw[Jq _ ⟨w.heap.size,i*6+5,none⟩ _ _ hk,Jq _ ⟨w.heap.size,i*6+4,none⟩ _ _ hk,Jq _ ⟨w.heap.size,i*6+3,none⟩ _ _ hk,Jq _ ⟨w.heap.size,i*6+2,none⟩ _ _ hk,Jq _ ⟨w.heap.size,i*6+1,none⟩ _ _ hk,Jq _ ⟨w.heap.size,i*6,none⟩ _ _ hk]
   have b3:=Hd hh;clear Z hh
   go_roundw
   case rel=>
    refine⟨i+1,_,by omega,by go_num,b5.o _ (.slice (some ⟨g2,0,none⟩) t.kids.length c2) (fun k hk hk2=>(b3.o k (by omega)).trans (d7.o.block k hk2)) ?_,d4.o,((((((d9.o.setCell (p:=⟨w.heap.size,i*6,none⟩) Of _).setCell (p:=⟨w.heap.size,i*6+1,none⟩) Of _).setCell (p:=⟨w.heap.size,i*6+2,none⟩) Of _).setCell (p:=⟨w.heap.size,i*6+3,none⟩) Of _).setCell (p:=⟨w.heap.size,i*6+4,none⟩) Of _).setCell (p:=⟨w.heap.size,i*6+5,none⟩) Of _)⟩;exact E7 (Oi V.o (fun g hg=>b3.o g (fun e=>by have:=Ot V.o g hg;have:=U.o;omega))) U.o
   case measure=>simp[intOf];omega
  ·have d0:i=T.length:=by omega
   subst d0;clear A M E
   go_wp2_with fail
   go_ret
   refine⟨_,rfl,⟨_,_,rfl⟩,fun W' hsz hkk=>?_,HB.o⟩;have G:W'.ownsRow _ _ _ _ _ _:=Oi HO.o (fun g hg=>hkk g (Ot HO.o g hg) (HO.o.lt g hg).2);refine⟨_,_,rfl,Of,by unfold maxLen;omega,.inr ⟨w.heap.size,rfl,Jz U.o hsz,fun j hj=>?_⟩⟩;obtain⟨h0,h1,h2,h3,h4,va,h5,I⟩:=b4.o j hj hj;refine⟨?_,?_,?_,?_,?_,va,?_,VJ (Oi I (fun g hg=>hkk g (Yk (Y1 _) (Ot I g hg)) (I.lt g hg).2))⟩
   ·rw[G.cellAt (j*6) (by omega)];exact h0
   ·rw[G.cellAt (j*6+1) (by omega)];exact h1
   ·rw[G.cellAt (j*6+2) (by omega)];exact h2
   ·rw[G.cellAt (j*6+3) (by omega)];exact h3
   ·rw[G.cellAt (j*6+4) (by omega)];exact h4
   ·rw[G.cellAt (j*6+5) (by omega)];exact h5
theorem Ry {vs vf vt:Value}{S:List (List UInt8)}{F:List Fn}{T:List Tm}(w:World)(h:ArgBank w vs vf vt S F T)(hs:SmallB S F T) :
 Calls prog 10 #[.agg #[vs,vf,vt]] w fun e w'=>∃ us uf ut,e=.returned (.agg #[us,uf,ut])/\BankAt w' us uf ut S F T/\(∃ ad n c,us=.slice (some ad) n c)/\Up w w':=by
 obtain⟨a1,c1,e1,-,-,-,-⟩:=h.s;obtain⟨a2,c2,e2,-,-,-,-⟩:=h.f;obtain⟨a3,c3,e3,-,-,-,-⟩:=h.t;have HH:=Hd h;subst e1 e2 e3;clear h
 go_enter func10,ntmps10
 go_wp2_with fail
 obtain⟨W3,g5,f9,x1,x2,x3,g0⟩:=CD w [.slice a1 S.length c1,.slice a2 F.length c2,.slice a3 T.length c3] [.slice none 0 0,.slice none 0 0,.slice none 0 0] [.slice none 0 0,.slice none 0 0,.slice none 0 0] 26 32 32;rw[g5];clear g5;have e6:=Hd f9;have e8:=Hd x1;have g3:=Hd x2;have g1:=Hd x3;have O:=Hd g0;clear f9 x1 x2 x3 g0;refine (Qt _ S W3 (HH.o.below e6.o).s hs.s).mono ?_;rintro e w4 ⟨Z,c4,rfl,M,J⟩;have j6:=e6.up J;have f5:=Hd M;have U:=Hd (e8.o.below e8.o.lt J);have A:=Hd (g3.o.below g3.o.lt J);have d:=Hd (g1.o.below g1.o.lt J);have j0:Hid (w.heap.size+1+1+1<=w4.heap.size):=by have:=J.size;have:=O.o;unfold Hid;omega
 clear M J;obtain⟨b0,b1,b2⟩:=U.o.c3;have q0:=d.o.c3.1;have r0:=d.o.frozen 0;obtain⟨W5,G⟩:=O1 (w4.setCell ⟨w.heap.size+1+1,0,none⟩ (.slice (some ⟨Z,0,none⟩) S.length c4));have h5:∀ k,k≠w.heap.size+1+1->W5.heap[k]? = w4.heap[k]? := fun k hk=>by rw[<-G];exact Jq _ ⟨w.heap.size+1+1,0,none⟩ _ _ hk
 have d5:Hid (Bx W5 w.heap.size [.slice a1 S.length c1,.slice a2 F.length c2,.slice a3 T.length c3]):=by
  obtain⟨ty,E⟩:=U.o;exact⟨ty,(h5 _ (by omega)).trans E⟩
 have Y:Hid (Bx W5 (w.heap.size+1) [.slice none 0 0,.slice none 0 0,.slice none 0 0]):=by
  obtain⟨ty,E⟩:=A.o;exact⟨ty,(h5 _ (by omega)).trans E⟩
 have V:Hid (Bx W5 (w.heap.size+1+1) [.slice (some ⟨Z,0,none⟩) S.length c4,.slice none 0 0,.slice none 0 0]):=by unfold Hid;rw[<-G];exact d.o.set 0 _
 have e4:Hid (Up w W5):=by unfold Hid;rw[<-G];exact j6.o.setCell (p:=⟨w.heap.size+1+1,0,none⟩) (by show _<=w.heap.size+1+1;omega) _
 have j7:Hid (W5.ownsRow W3.heap.size 9 1 (.slice (some ⟨Z,0,none⟩) S.length c4) S.length (U3 S)):=Oi f5.o (fun g hg=>h5 g (fun e=>by have:=Ot f5.o g hg;have:=O.o;omega));have d9:Hid (w.heap.size+1+1+1<=W5.heap.size):=by have:=j0.o;unfold Hid;rw[<-G];simpa[World.setCell] using this
 have i8:=Hd G;clear G h5
 go_wp2_with fail
 clear b0 b1 b2 q0 r0;rw[i8.o];refine (VC _ F W5 (HH.o.below e4.o).f hs.f).mono ?_;rintro e w6 ⟨uf,rfl,⟨p6,d6,rfl⟩,b7,j⟩;have i6:=Hd b7;have i7:=e4.up j;have k7:=Hd j;have U:=Hd (d5.o.below d5.o.lt j);have A:=Hd (Y.o.below Y.o.lt j);have d:=Hd (V.o.below V.o.lt j);have f8:=Hd (Ql j7.o j);have h9:Hid (w.heap.size+1+1+1<=w6.heap.size):=by have:=j.size;have:=d9.o;unfold Hid;omega
 clear b7 j;obtain⟨b0,b1,b2⟩:=U.o.c3;have q1:=d.o.c3.2.1;have r1:=d.o.frozen 1;obtain⟨W7,K⟩:=O1 (w6.setCell ⟨w.heap.size+1+1,1,none⟩ (.slice p6 F.length d6));have h7:∀ k,k≠w.heap.size+1+1->W7.heap[k]? = w6.heap[k]? := fun k hk=>by rw[<-K];exact Jq _ ⟨w.heap.size+1+1,1,none⟩ _ _ hk
 have d5:Hid (Bx W7 w.heap.size [.slice a1 S.length c1,.slice a2 F.length c2,.slice a3 T.length c3]):=by
  obtain⟨ty,E⟩:=U.o;exact⟨ty,(h7 _ (by omega)).trans E⟩
 have Y:Hid (Bx W7 (w.heap.size+1) [.slice none 0 0,.slice none 0 0,.slice none 0 0]):=by
  obtain⟨ty,E⟩:=A.o;exact⟨ty,(h7 _ (by omega)).trans E⟩
 have V:Hid (Bx W7 (w.heap.size+1+1) [.slice (some ⟨Z,0,none⟩) S.length c4,.slice p6 F.length d6,.slice none 0 0]):=by unfold Hid;rw[<-K];exact d.o.set 1 _
 have e5:Hid (Up w W7):=by unfold Hid;rw[<-K];exact i7.o.setCell (p:=⟨w.heap.size+1+1,1,none⟩) (by show _<=w.heap.size+1+1;omega) _
 have j2:Hid (W7.ownsRow W3.heap.size 9 1 (.slice (some ⟨Z,0,none⟩) S.length c4) S.length (U3 S)):=Oi f8.o (fun g hg=>h7 g (fun e=>by have:=Ot f8.o g hg;have:=O.o;omega));have d7:Hid (w6.heap.size=W7.heap.size):=by unfold Hid;rw[<-K];simp[World.setCell]
 have j3:Hid (RN W5.heap.size W7 (fun W=>Ex W (.slice p6 F.length d6) F)):=fun W hsz hk=>i6.o W (by have:=d7.o;omega) (fun k hk1 hk2=>(hk k hk1 (by have:=d7.o;omega)).trans (h7 k (by have:=d9.o;omega)));have h6:=Hd K;clear K h7
 go_wp2_with fail
 clear b0 b1 b2 q1 r1;rw[h6.o];refine (Wi _ T W7 (HH.o.below e5.o).t hs.t).mono ?_;rintro e w8 ⟨ut,rfl,⟨p8,d8,rfl⟩,b8,I⟩;have g9:=Hd b8;have j5:=e5.up I;have b6:=Hd I;have A:=Hd (Y.o.below Y.o.lt I);have d:=Hd (V.o.below V.o.lt I);have d3:=Hd (Ql j2.o I);clear b8 I;obtain⟨d0,d1,d2⟩:=A.o.c3;obtain⟨q0,q1,q2⟩:=d.o.c3;obtain⟨f0,f1,f2⟩:=A.o.f3;have r2:=d.o.frozen 2
 go_wp2_with fail
 clear d0 d1 d2 q0 q1 q2 f0 f1 f2 r2;have j4:w.heap.size+1≠w.heap.size+1+1:=by omega
 have hA:Bx (w8.setCell ⟨w.heap.size+1+1,2,none⟩ (.slice p8 T.length d8)) (w.heap.size+1) [.slice none 0 0,.slice none 0 0,.slice none 0 0]:=by
  obtain⟨ty,E⟩:=A.o;refine⟨ty,?_⟩;rw[Jq _ ⟨w.heap.size+1+1,2,none⟩ _ _ j4];exact E
 have hE:=((hA.set 0 (.slice (some ⟨Z,0,none⟩) S.length c4)).set 1 (.slice p6 F.length d6)).set 2 (.slice p8 T.length d8);have d4:=(((j5.o.setCell (p:=⟨w.heap.size+1+1,2,none⟩) (by show _<=w.heap.size+1+1;omega) (.slice p8 T.length d8)).setCell (p:=⟨w.heap.size+1,0,none⟩) (by show _<=w.heap.size+1;omega) (.slice (some ⟨Z,0,none⟩) S.length c4)).setCell (p:=⟨w.heap.size+1,1,none⟩) (by show _<=w.heap.size+1;omega) (.slice p6 F.length d6)).setCell (p:=⟨w.heap.size+1,2,none⟩) (by show _<=w.heap.size+1;omega) (.slice p8 T.length d8);generalize c8:(((w8.setCell ⟨w.heap.size+1+1,2,none⟩ (.slice p8 T.length d8)).setCell ⟨w.heap.size+1,0,none⟩ (.slice (some ⟨Z,0,none⟩) S.length c4)).setCell ⟨w.heap.size+1,1,none⟩ (.slice p6 F.length d6)).setCell ⟨w.heap.size+1,2,none⟩ (.slice p8 T.length d8)=WE at hE d4 ⊢;have E:∀ k,k≠w.heap.size+1->k≠w.heap.size+1+1->WE.heap[k]? = w8.heap[k]? := fun k hk hk2=>by rw[<-c8,Jq _ ⟨w.heap.size+1,2,none⟩ _ _ hk,Jq _ ⟨w.heap.size+1,1,none⟩ _ _ hk,Jq _ ⟨w.heap.size+1,0,none⟩ _ _ hk,Jq _ ⟨w.heap.size+1+1,2,none⟩ _ _ hk2]
 have hsz:WE.heap.size=w8.heap.size:=by rw[<-c8];simp[World.setCell]
 have l6:=d9.o;have l1:=h9.o;have k9:=d7.o;have k8:=b6.o.size;have e7:BankAt WE (.slice (some ⟨Z,0,none⟩) S.length c4) (.slice p6 F.length d6) (.slice p8 T.length d8) S F T:=by
  refine⟨Bk (Oi d3.o (fun g hg=>E g (fun e=>?_) (fun e=>?_))),j3.o WE (by omega) (fun k hk1 hk2=>?_),g9.o WE (by omega) (fun k hk1 hk2=>E k (by omega) (by omega))⟩
  ·have:=Ot d3.o g hg;have:=O.o;omega
  ·have:=Ot d3.o g hg;have:=O.o;omega
  rw[E k (by omega) (by omega)];exact b6.o.block k hk2
 obtain⟨e0,e1,e2⟩:=hE.c3;refine Jj (v:=.agg #[.slice (some ⟨Z,0,none⟩) S.length c4,.slice p6 F.length d6,.slice p8 T.length d8]) ?_ rfl ⟨_,_,_,rfl,e7,⟨_,_,_,rfl⟩,d4⟩;clear hA hE d4 e7 E c8;simp[results,results10,go_sem,e0,e1,e2]
end Go.Proofs.YtipgjenolpofpaaGreatDoor
