import Derived.Test.YtdmdmgfjpomdbaaGreatDoorP00
import Derived.Test.YtdmdmgfjpomdbaaGreatDoorP30
import Derived.Test.YtdmdmgfjpomdbaaGreatDoorP12
import Derived.Test.YtdmdmgfjpomdbaaGreatDoorP14
import Derived.Test.YtdmdmgfjpomdbaaGreatDoorP34
set_option maxRecDepth 100000
set_option maxHeartbeats 4000000
namespace Go.Proofs.YtdmdmgfjpomdbaaGreatDoor
open ChangeShapes WideShapes ChangeAt RowKit Proofs.Tryz
def Gq (l:List UInt8):Bool:=decide ((Lib.cut (Lib.trimPrefix l [45]) [47]).1.length<=30)&&decide ((Lib.cut (Lib.trimPrefix l [45]) [47]).2.1.length<=30)
theorem Sn (l p:List UInt8):(Lib.trimPrefix l p).length<=l.length:=by
 unfold Lib.trimPrefix
 split
 ·rw[Zf];omega
 exact leR
theorem P6 (s:ByteArray)(m:Int)(w:World)(hs:s.size<=1048576)(hm:w.cell? ⟨1,0,none⟩=some (.int .i64 m)) :
 Calls prog 130 #[.string s] w fun e w'=>e=.returned (.bool (Gq s.data.toList))/\Up w w':=by
 have d:Hid (Gq s.data.toList=(decide ((Lib.cut (Lib.trimPrefix s.data.toList [45]) [47]).1.length<=30)&&decide ((Lib.cut (Lib.trimPrefix s.data.toList [45]) [47]).2.1.length<=30))):=rfl;have hl:(Lib.trimPrefix s.data.toList [45]).length<=1048576:=Yc (Sn _ _) (by rw[Om];exact hs)
 go_in
 go_wp2_with fail
 refine (Tryz.strings_TrimPrefix s ⟨#[45]⟩ _).mono ?_;rw[show (⟨#[45]⟩:ByteArray).data.toList=[45] from rfl];generalize Lib.trimPrefix s.data.toList [45]=R at d hl ⊢;rintro e M ⟨rfl,rfl⟩
 go_wp2_with fail
 refine (Tryz.strings_Cut ⟨R.toArray⟩ ⟨#[47]⟩ m _ (by show R.toArray.size<_;simp;omega) hm).mono ?_;rw[show (⟨#[47]⟩:ByteArray).data.toList=[47] from rfl,show (⟨R.toArray⟩:ByteArray).data.toList=R from rfl];generalize Lib.cut R [47]=C at d ⊢;obtain⟨c1,c2,c3⟩:=C;simp only at d ⊢;rintro e w2 ⟨rfl,K,rfl⟩;have A:(⟨c1.toArray⟩:ByteArray).size=c1.length:=by show c1.toArray.size=_;simp
 have E:(⟨c2.toArray⟩:ByteArray).size=c2.length:=by show c2.toArray.size=_;simp
 by_cases h:c1.length<=30
 ·by_cases j:c2.length<=30
  ·have G:Hid (Gq s.data.toList=true):=by unfold Hid;rw[d.o,Ja h,Ja j];rfl
   go_wp2
   go_ret
   exact⟨Oy (by rw[G.o];first|rfl|(rw[Ju];omega)),below_drewN (Je _ _) _⟩
  have G:Hid (Gq s.data.toList=false):=by unfold Hid;rw[d.o,Ja h,Jc j];rfl
  have J:30<c2.length:=by omega
  go_wp2
  go_ret
  exact⟨Oy (by rw[G.o];first|rfl|(rw[Jj];omega)),below_drewN (Je _ _) _⟩
 have G:Hid (Gq s.data.toList=false):=by unfold Hid;rw[d.o,Jc h];rfl
 have I:30<c1.length:=by omega
 go_wp2
 go_ret
 exact⟨Oy (by rw[G.o]),below_drewN (Je _ _) _⟩
def EW (so tx:List UInt8):Prop:=Gq tx=true/\((so=U8/\Q.isIntB (Oo tx)=true)∨(so=Ku/\∃ k x y,Q.IsCut (Oo tx) k/\Q.RatV (Oo tx) k x y))
def SC (s:ByteArray):Option Nat:=s.data.toList.findIdx? (fun c=>decide (c=47))
theorem SR (s:ByteArray):Q.IsCut s (SC s):=by
 unfold SC
 cases h:s.data.toList.findIdx? (fun c=>decide (c=47)) with
 | none=>
   intro j e;have:=List.findIdx?_eq_none_iff.1 h 47 (Vn e);simp at this
 | some i=>
   obtain⟨A,d,h2⟩:=Zk.1 h;refine⟨by rw[Jd A,of_decide_eq_true d],fun j hj e=>?_⟩;rw[Jd (by omega)] at e;exact h2 j hj (Ja (Option.some.inj e))
def SL (s:ByteArray):Bool:=
 match SC s with
 | none=>Q.isIntB s
 | some i=>Q.isIntB (Q.cutP s (some i))&&Q.isIntB (Q.cutQ s (some i))&&decide (Q.numT (Q.cutQ s (some i))≠0/\Q.cutP s (some i)≠Q.strB [48]/\Q.cutQ s (some i)≠Q.strB [49]/\Q.isNeg (Q.cutQ s (some i))=false/\Int.gcd (Q.numT (Q.cutP s (some i))) (Q.numT (Q.cutQ s (some i)))=1)
theorem SF (s:ByteArray):SL s=true↔∃ k x y,Q.IsCut s k/\Q.RatV s k x y:=by
 have H:SL s=true↔∃ x y,Q.RatV s (SC s) x y:=by
  unfold SL
  cases SC s with
  | none=>exact⟨fun h=>⟨_,_,h,rfl,rfl⟩,fun ⟨_,_,h,_⟩=>h⟩
  | some i=>
    simp only[J3,Yi];exact⟨fun h=>⟨_,_,h.1,h.2,rfl,rfl⟩,fun ⟨_,_,h1,h2,_⟩=>⟨h1,h2⟩⟩
 rw[H];refine⟨fun ⟨x,y,h⟩=>⟨_,x,y,SR s,h⟩,fun ⟨k,x,y,hk,h⟩=>?_⟩;rw[Q.isCut_unique hk (SR s)] at h;exact⟨x,y,h⟩
def Gt (t:Tm):Bool:=Gq t.text&&(decide (t.sort=U8)&&Q.isIntB (Oo t.text)||decide (t.sort=Ku)&&SL (Oo t.text))
theorem SQ (t:Tm):Gt t=true↔EW t.sort t.text:=by
 unfold Gt EW;rw[<-SF];simp only[J3,Uu,Yi]
theorem B4 (t:Tm)(m:Int)(w:World)(hs:t.sort=U8∨t.sort=Ku)(htx:t.text.length<=1048576)(hm:w.cell? ⟨1,0,none⟩=some (.int .i64 m))(hSP:Q.SP w)(hNS:Q.NS w)(hLT:Q.LT w) :
 Calls prog 110 #[.string (Oo t.sort),.string (Oo t.text)] w fun e w'=>e=.returned (.bool (Gt t))/\Up w w':=by
 have b3:(Oo t.text).size<=1048576:=by show t.text.toArray.size<=_;simpa using htx
 have K:(Oo t.text).size<=maxLen:=by unfold maxLen;omega
 have V:Hid (Gt t=true↔EW t.sort t.text):=SQ t;have Z:=Hd hSP;have Y:=Hd hNS;have U:=Hd hLT;clear hSP hNS hLT
 go_in
 go_wp2_with fail
 refine (P6 (Oo t.text) m _ b3 hm).mono ?_;rw[Ou]
 cases A:Gq t.text
 ·have G:Hid (Gt t=false):=by
   unfold Hid;rw[J8];intro h;have:=(V.o.1 h).1;rw[A] at this
   cases this
  clear A;rintro e w1 ⟨rfl,j⟩;have d:=Hd j;clear j
  go_wp2
  go_ret
  exact⟨Oy G.o.symm,d.o⟩
 have J:=Hd A;clear A;rintro e w1 ⟨rfl,j⟩;have d:=Hd j;clear j
 rcases hs with hs|hs
 ·have q:((Oo t.sort).toList==[73,110,116])=true:=by rw[Jk,Ou,hs];rfl
  have G:Hid (Gt t=Q.isIntB (Oo t.text)):=by
   unfold Hid;rw[Yd,V.o];constructor
   ·rintro⟨-,h|h⟩
    ·exact h.2
    rw[hs] at h;exact absurd h.1 (by decide)
   intro h;exact⟨J.o,.inl ⟨hs,h⟩⟩
  clear hs
  go_wp2_with fail
  refine (Q.readInteger_any (Oo t.text) _ K).mono ?_;generalize Q.isIntB (Oo t.text)=B at G ⊢;rintro e w2 ⟨n,a,l,c,rfl,-,hb2⟩;have E:Hid (Up w (w2.alloc (.cells #[.bool n,.slice a l c] 155))):=(d.o.trans (hb2.mono d.o.size)).alloc (Yc d.o.size hb2.size) _;clear hb2
  go_wp2
  go_ret
  exact⟨Oy G.o.symm,E.o⟩
 have q:((Oo t.sort).toList==[73,110,116])=false:=by rw[Jk,Ou,hs];rfl
 obtain⟨k,hk⟩:=Q.isCut_ex (Oo t.text);have O:=Hd hk;have HG:Hid (Gt t=true↔∃ x y,Q.RatV (Oo t.text) k x y):=by
  unfold Hid;rw[V.o];constructor
  ·rintro⟨-,h|⟨-,k2,x,y,a7,hv⟩⟩
   ·rw[hs] at h;exact absurd h.1 (by decide)
   obtain rfl:=Q.isCut_unique O.o a7;exact⟨x,y,hv⟩
  rintro⟨x,y,hv⟩;exact⟨J.o,.inr ⟨hs,k,x,y,O.o,hv⟩⟩
 clear hs hk
 go_wp2_with fail
 refine (Q.readRational_any (Oo t.text) k _ K O.o (Z.o.bl d.o) (Y.o.bl d.o) (U.o.bl d.o)).mono ?_;rintro e w2 ⟨z,ok,rfl,⟨a8,M,-⟩,hb2⟩;have G:Hid (Gt t=ok):=by unfold Hid;rw[Yd,HG.o,M]
 have I:=d.up hb2;clear hb2 M;obtain⟨s1,p1,l1,c1,s2,p2,l2,c2,rfl⟩:=a8;have E:Hid (Up w (w2.alloc (.cells #[.bool s1,.slice p1 l1 c1,.bool s2,.slice p2 l2 c2] 159))):=I.o.alloc I.o.size _
 go_wp2
 go_ret
 exact⟨Oy G.o.symm,E.o⟩
end Go.Proofs.YtdmdmgfjpomdbaaGreatDoor
namespace Go.Proofs.YtdmdmgfjpomdbaaGreatDoor
open ChangeShapes WideShapes ChangeAt RowKit
variable {l:List UInt8}
theorem Aq (s:ByteArray)(h:Q.isIntB s=true)(neg:Bool)(t:List Nat)(hok:Q.okL t)(htr:Q.isTrim t)(hx:Q.sg neg (Q.val t)=Q.numT s):Q.digC t=(Q.dgs s).size:=by
 unfold Q.isIntB at h;simp only[J3,Uu,Yi,V4,Jj,Jt] at h;obtain⟨⟨⟨M,h2⟩,h3⟩,h4⟩:=h;have d:∀ c∈(Q.dgs s).data.toList,Q.dig c:=fun c hc=>by have:=h3 c hc;unfold Q.isDig at this;simpa[Q.dig] using this
 have A:Q.okL (Q.lim s):=Q.trimL_ok _ (Q.chunks_ok _ d);have E:Q.val t=Q.val (Q.lim s):=by
  unfold Q.numT at hx
  cases neg<;>cases hn:Q.isNeg s<;>rw[hn] at hx<;>simp[Q.sg] at hx<;>omega
 obtain rfl:=Q.val_inj t (Q.lim s) hok A htr (Q.trimL_trim _) E
 by_cases h5:(Q.dgs s).data.toList.head? = some 48
 ·have J:s.toList=[48]:=by
   rcases h4 with h|h
   ·exact absurd h5 h
   simpa using h
  have K:s=Q.strB [48]:=by
   rw[Jk] at J;apply ByteArray.ext
   show s.data=[48].toArray
   rw[<-J]
  have e:Q.digC (Q.lim (Q.strB [48]))=(Q.dgs (Q.strB [48])).size:=by kernel_rfl
  rw[K];exact e
 have I:Q.textD (Q.lim s)=(Q.dgs s).data.toList:=Q.textD_chunks (Q.dgs s).data.toList d h5;have j:(Q.dgs s).data.toList.length=(Q.dgs s).size:=by simp
 have G:¬ (Q.lim s).length=0:=fun e=>by
  rw[Jw e] at I;have O:(Q.dgs s).data.toList.length=0:=by rw[<-I];rfl
  omega
 unfold Q.digC;rw[if_neg G,I,j]
theorem A0 (t:List Nat)(hok:Q.okL t)(htr:Q.isTrim t)(h:Q.digC t<=62):t.length<=600:=by
 by_cases d:t=[]
 ·rw[d];exact Jr _
 have:=Q.textD_ge t hok htr d;unfold Q.digC at h;rw[if_neg (fun e=>d (Jw e))] at h;omega
theorem RA (h:∀ j:Nat,l[j]? ≠ some 47):Lib.cut l [47]=(l,[],false):=by
 unfold Lib.cut;rw[Lib.index_one];have A:=Lib.indexByte_ge l 47
 by_cases d:Lib.indexByte l 47 = -1
 ·rw[d];rfl
 obtain⟨o,E⟩:=Zt (show 0<=Lib.indexByte l 47 by omega);exact absurd (Lib.indexByte_some E).1 (h o)
theorem Wm {i:Nat}(h0:l[i]? = some 47)(h:∀ j:Nat,j<i->l[j]? ≠ some 47):Lib.cut l [47]=(l.take i,l.drop (i+1),true):=by
 unfold Lib.cut;rw[Lib.index_one];have G:=Lib.indexByte_ge l 47
 by_cases E:Lib.indexByte l 47 = -1
 ·exact absurd h0 (Lib.indexByte_none E i)
 obtain⟨o,d⟩:=Zt (show 0<=Lib.indexByte l 47 by omega);have A:=Lib.indexByte_some d;have:o=i:=by
  rcases Nat.lt_trichotomy o i with hl|hl|hl
  ·exact absurd A.1 (h o hl)
  ·exact hl
  exact absurd h0 (A.2 i hl)
 subst this;rw[d,if_pos (by simp)];rfl
theorem R0 (r:List UInt8):Lib.trimPrefix (45::r) [45]=r:=by
 simp[Lib.trimPrefix,Lib.hasPrefix]
theorem Dc (h:l.head? ≠ some 45):Lib.trimPrefix l [45]=l:=by
 cases l with
 | nil=>rfl
 | cons c r=>
   have:¬ (45:UInt8)=c:=fun e=>h (by simp[<-e]);simp[Lib.trimPrefix,Lib.hasPrefix,this]
theorem YE (l:List UInt8):Q.isNeg (Oo l)=decide (l.head? = some 45):=by
 unfold Q.isNeg;rw[Jk];have:((Oo l).extract 0 1).data.toList=l.take 1:=by
  rw[Zc,Zu]
  show (l.toArray.toList.drop 0).take (1 - 0)=_
  simp
 rw[this]
 cases l with
 | nil=>rfl
 | cons c r=>by_cases h:c=45<;>simp[h]
theorem Pt (l:List UInt8):(Q.dgs (Oo l)).size=(Lib.trimPrefix l [45]).length:=by
 unfold Q.dgs;rw[YE]
 cases l with
 | nil=>rfl
 | cons c r=>
   by_cases h:c=45
   ·subst h;rw[R0,if_pos (by simp),Yo];have:(Oo (45::r)).size=r.length+1:=by show (45::r).toArray.size=_;simp
    omega
   rw[Dc (by simpa using h),if_neg (by simpa using h)]
   show (c::r).toArray.size=_
   simp
theorem Ax (l:List UInt8)(i:Nat):Q.cutP (Oo l) (some i)=Oo (l.take i):=by
 apply ByteArray.ext
 show ((Oo l).extract 0 i).data=_
 rw[Zc]
 show l.toArray.extract 0 i=(l.take i).toArray
 apply Array.toList_inj.1;rw[Zu];simp[List.extract]
theorem GD (l:List UInt8)(i:Nat):Q.cutQ (Oo l) (some i)=Oo (l.drop (i+1)):=by
 apply ByteArray.ext
 show ((Oo l).extract (i+1) (Oo l).size).data=_
 rw[Zc]
 show l.toArray.extract (i+1) l.toArray.size=(l.drop (i+1)).toArray
 apply Array.toList_inj.1;rw[Zu]
 show (l.drop (i+1)).take (l.toArray.size - (i+1))=l.drop (i+1)
 exact Jl (by simp)
theorem Bo (h:Q.IsCut (Oo l) none):Gq l=decide ((Q.dgs (Oo l)).size<=30):=by
 have d:∀ j:Nat,l[j]? ≠ some 47:=fun j=>by have:=h j;rwa [Ou] at this
 have h2:∀ j:Nat,(Lib.trimPrefix l [45])[j]? ≠ some 47:=fun j=>by
  by_cases hn:l.head? = some 45
  ·obtain⟨r,rfl⟩:∃ r,l=45::r:=by cases l with|nil=>cases hn|cons c r=>exact⟨r,by simp at hn;rw[hn]⟩
   rw[R0];exact d (j+1)
  rw[Dc hn];exact d j
 unfold Gq;rw[RA h2,Pt];simp
theorem By {i:Nat}(h:Q.IsCut (Oo l) (some i)):Gq l=(decide ((Q.dgs (Q.cutP (Oo l) (some i))).size<=30)&&decide ((Q.cutQ (Oo l) (some i)).size<=30))/\l.length=i+1+(Q.cutQ (Oo l) (some i)).size/\i<=(Q.dgs (Q.cutP (Oo l) (some i))).size+1:=by
 obtain⟨d,I⟩:=h;rw[Ou] at d;have A:∀ j:Nat,j<i->l[j]? ≠ some 47:=fun j hj=>by have:=I j hj;rwa [Ou] at this
 have G:i<l.length:=by
  rcases Nat.lt_or_ge i l.length with g|g
  ·exact g
  rw[List.getElem?_eq_none_iff.2 g] at d;cases d
 rw[Ax,GD,Pt];have J:(Oo (l.drop (i+1))).size=(l.drop (i+1)).length:=by show (l.drop (i+1)).toArray.size=_;simp
 rw[J]
 by_cases hn:l.head? = some 45
 ·obtain⟨r,rfl⟩:∃ r,l=45::r:=by cases l with|nil=>cases hn|cons c r=>exact⟨r,by simp at hn;rw[hn]⟩
  cases i with
  | zero=>simp at d
  | succ i=>
    have e:Lib.cut r [47]=(r.take i,r.drop (i+1),true):=Wm (by simpa using d) (fun j hj=>by simpa using A (j+1) (by omega));unfold Gq;rw[R0,e,List.take_succ_cons,R0];refine⟨rfl,?_,?_⟩
    ·simp at G ⊢;omega
    simp at G ⊢;omega
 have e:=Wm d A;have E:(l.take i).head? ≠ some 45:=by
  cases l with
  | nil=>simp
  | cons c r=>cases i with|zero=>simp|succ i=>simpa using hn
 unfold Gq;rw[Dc hn,e,Dc E];refine⟨rfl,?_,?_⟩
 ·simp;omega
 simp;omega
theorem NH (h:Q.isIntB (Oo l)=true):Q.IsCut (Oo l) none:=by
 intro j d;rw[Ou] at d;unfold Q.isIntB at h;simp only[J3,Jt] at h;have h3:=h.1.2;have E:(47:UInt8)∈(Q.dgs (Oo l)).data.toList:=by
  unfold Q.dgs;rw[YE];have A:=Vn d
  split
  ·have e:((Oo l).extract 1 (Oo l).size).data.toList=l.drop 1:=by
    rw[Zc,Zu]
    show (l.drop 1).take (l.toArray.size - 1)=_
    exact Jl (by simp)
   rw[e]
   cases j with
   | zero=>rename_i hd;cases l with|nil=>simp at d|cons c r=>simp at d hd;rw[d] at hd;exact absurd hd (by decide)
   | succ j=>exact Vn (i:=j) (by simpa using d)
  rw[Ou];exact A
 have:=h3 47 E;exact absurd this (by decide)
end Go.Proofs.YtdmdmgfjpomdbaaGreatDoor
namespace Go.Proofs.YtdmdmgfjpomdbaaGreatDoor
open ChangeShapes WideShapes ChangeAt RowKit Proofs.Tryz
variable {F:List Fn}{S:List (List UInt8)}{T:List Tm}{i:Nat}{v vf vs vt:Value}{w w':World}{xs:List Value}
theorem LC (l:List UInt8):l.length<=(Lib.trimPrefix l [45]).length+1:=by
 unfold Lib.trimPrefix
 split
 ·rw[Zf];simp;omega
 omega
theorem XN {so tx:List UInt8}(h:EW so tx):tx.length<=62:=by
 obtain⟨A,hn⟩:=h;have d:Q.IsCut (Oo tx) none->tx.length<=62:=fun hc=>by
  rw[Bo hc,Pt,Ju] at A;have:=LC tx;omega
 rcases hn with⟨-,h⟩|⟨-,k,x,y,j,-⟩
 ·exact d (NH h)
 cases k with
 | none=>exact d j
 | some i=>
   obtain⟨e,E,h2⟩:=By j;rw[e,J3,Ju,Ju] at A;omega
theorem OK (B:Nat)(w:World)(z:Value)(x y:Int)(hB:B<=w.heap.size)(hz:Q.IsQN B w z x y)(p q:ByteArray)(hp:Q.isIntB p=true)(hq:Q.isIntB q=true)(hx:x=Q.numT p)(hy:y=Q.numT q)(h1:(Q.dgs p).size<=62)(h2:(Q.dgs q).size<=62) :
 Calls prog 86 #[z,.int .i64 30] w fun e w'=>e=.returned (.bool (decide ((Q.dgs p).size<=30)&&decide ((Q.dgs q).size<=30)))/\Up w w':=by
 obtain⟨J,U,K,O,M,V,qn,Y,ql,Z,rfl,⟨h,t1,d,v1,-⟩,j,t2,z2,v2,-⟩:=hz;have A:=Aq p hp h t1 d.1 d.2.1 (v1.trans hx);have E:=Aq q hq j t2 z2.1 z2.2.1 (v2.trans hy);have G:=A0 t1 d.1 d.2.1 (by omega);have I:=A0 t2 z2.1 z2.2.1 (by omega);refine (Q.l2Fits_30 B J U K O M V qn Y ql Z h j t1 t2 w hB d z2 G I).mono ?_;rintro e w' ⟨rfl,hb⟩;exact⟨by rw[A,E,Bool.decide_and],hb⟩
theorem YR:(Q.dgs (Q.strB [49])).size=1:=by kernel_rfl
theorem Ln (B:Nat)(w:World)(z:Value)(l:List UInt8)(k:Option Nat)(x y:Int)(hB:B<=w.heap.size)(hz:Q.IsQN B w z x y)(hl:l.length<=62)(hk:Q.IsCut (Oo l) k)(hV:Q.RatV (Oo l) k x y) :
 Calls prog 86 #[z,.int .i64 30] w fun e w'=>e=.returned (.bool (Gq l))/\Up w w':=by
 have h:∀ m:List UInt8,m.length<=62->(Q.dgs (Oo m)).size<=62:=fun m hm=>by
  rw[Pt];have:=Sn m [45];omega
 cases k with
 | none=>
   obtain⟨d,h2,h3⟩:=hV;refine (OK B w z x y hB hz (Oo l) (Q.strB [49]) d Q.int_one h2 (h3.trans Q.num_one.symm) (h l hl) (by rw[YR];decide)).mono ?_;rintro e w' ⟨rfl,hb⟩;refine⟨?_,hb⟩;rw[Bo hk];rw[YR];simp
 | some i=>
   obtain⟨⟨d,h2⟩,⟨-,-,-,hn,-⟩,h3,h4⟩:=hV;obtain⟨A,e2,E⟩:=By hk;have j:Q.dgs (Q.cutQ (Oo l) (some i))=Q.cutQ (Oo l) (some i):=by unfold Q.dgs;rw[hn];rfl
   refine (OK B w z x y hB hz _ _ d h2 h3 h4 (by rw[Ax];exact h _ (by rw[J4];omega)) (by rw[j];omega)).mono ?_;rintro e w' ⟨rfl,hb⟩;refine⟨?_,hb⟩;rw[A,j]
theorem IT (t:Tm)(vk:Value)(w:World)(htx:t.text.length<=1048576) :
 Calls prog 72 #[.agg #[.int .i64 t.op,.string (Oo t.sort),.string (Oo t.text),.int .i64 t.a,.int .i64 t.b,vk]] w fun e w'=>e=.returned (.bool (Gt t))/\Up w w':=by
 have j:(Oo t.text).size=t.text.length:=by show t.text.toArray.size=_;simp
 have U:(Oo t.text).size<=maxLen:=by unfold maxLen;omega
 have HN:Hid (Gt t=true↔EW t.sort t.text):=SQ t;have I:Hid (Up w (w.alloc (.cells #[.int .i64 t.op,.string (Oo t.sort),.string (Oo t.text),.int .i64 t.a,.int .i64 t.b,vk] 55))):=Oz _ _
 by_cases hl:62<t.text.length
 ·have G:Hid (Gt t=false):=by
   unfold Hid;rw[J8];intro h;have:=XN (HN.o.1 h);omega
  have z1:decide ((62:Int)<((Oo t.text).size:Int))=true:=by rw[j,Ju];omega
  clear hl j U
  go_in
  go_wp2
  go_ret
  exact⟨Oy G.o.symm,I.o⟩
 have b4:t.text.length<=62:=by omega
 have z1:decide ((62:Int)<((Oo t.text).size:Int))=false:=by rw[j,Jj];omega
 have HL:=Hd b4;have HM:=Hd U;clear hl b4 j U htx
 by_cases A:t.sort=U8
 ·have q:((Oo t.sort).toList==[73,110,116])=true:=by rw[Jk,Ou,A];rfl
  have HG:Hid (Gt t=(Gq t.text&&Q.isIntB (Oo t.text))):=by
   unfold Hid;rw[Yd,HN.o,J3];constructor
   ·rintro⟨h1,h|h⟩
    ·exact⟨h1,h.2⟩
    rw[A] at h;exact absurd h.1 (by decide)
   intro h;exact⟨h.1,.inl ⟨A,h.2⟩⟩
  clear A
  go_in
  go_wp2_with fail
  refine (Q.isInt_spec (Oo t.text) _ HM.o).mono ?_
  cases V:Q.isIntB (Oo t.text)
  ·have G:Hid (Gt t=false):=by unfold Hid;rw[HG.o,V,Y1]
   clear V;rintro e w1 ⟨rfl,rfl⟩
   go_wp2
   go_ret
   exact⟨Oy G.o.symm,I.o⟩
  have G:Hid (Gt t=Gq t.text):=by unfold Hid;rw[HG.o,V,Bool.and_true]
  have E:=Hd (NH V);have HV:Hid (Q.RatV (Oo t.text) none (Q.numT (Oo t.text)) 1):=⟨V,rfl,rfl⟩;clear V;rintro e w1 ⟨rfl,rfl⟩
  go_wp2_with fail
  refine (Q.l2Read_any (Oo t.text) none _ _ _ HM.o E.o HV.o).mono ?_;rintro e w2 ⟨z,rfl,j,hb⟩;have HF:=Hd (Ln _ w2 z t.text none _ _ hb.size j HL.o E.o HV.o);have d:=Hd (I.o.trans (hb.mono I.o.size));obtain⟨p0,pn,pa,pl,pc,q0,qn,qa,ql,qc,rfl,-⟩:=j;clear hb
  go_wp2_with fail
  refine HF.o.mono ?_;rintro e w3 ⟨rfl,hb⟩;have K:=Hd (d.o.trans (hb.mono d.o.size));clear hb
  go_wp2
  go_ret
  exact⟨Oy G.o.symm,K.o⟩
 have q:((Oo t.sort).toList==[73,110,116])=false:=by rw[Jk,Ou,Jb];exact A
 by_cases Y:t.sort=Ku
 ·have q2:((Oo t.sort).toList==[82,101,97,108])=true:=by rw[Jk,Ou,Y];rfl
  obtain⟨k,hk⟩:=Q.isCut_ex (Oo t.text);have E:=Hd hk;have HG:Hid (Gt t=true↔Gq t.text=true/\∃ x y,Q.RatV (Oo t.text) k x y):=by
   unfold Hid;rw[HN.o];constructor
   ·rintro⟨h1,h|⟨-,k2,x,y,O,Z⟩⟩
    ·exact absurd h.1 A
    obtain rfl:=Q.isCut_unique E.o O;exact⟨h1,x,y,Z⟩
   rintro⟨h1,x,y,Z⟩;exact⟨h1,.inr ⟨Y,k,x,y,E.o,Z⟩⟩
  clear A Y hk
  go_in
  go_wp2_with fail
  refine (Q.specIsRat_any (Oo t.text) _ HM.o).mono ?_;rintro e w1 ⟨b,rfl,hR,M⟩;have HR:Hid (b=true↔∃ x y,Q.RatV (Oo t.text) k x y):=by
   obtain⟨k2,O,h⟩:=hR;obtain rfl:=Q.isCut_unique E.o O;exact h
  have J:=Hd (I.o.trans (M.mono I.o.size));have hc:w1.cell? ⟨w.heap.size,2,none⟩=some (.string (Oo t.text)):=by
   have hx:=Oi w [.int .i64 t.op,.string (Oo t.sort),.string (Oo t.text),.int .i64 t.a,.int .i64 t.b,vk] 55;exact (hx.bl hx.lt M).cell 2
  clear hR M
  cases b
  ·have G:Hid (Gt t=false):=by
    unfold Hid;rw[J8];intro h;have:=HR.o.2 (HG.o.1 h).2
    cases this
   go_wp2
   go_ret
   exact⟨Oy G.o.symm,J.o⟩
  have G:Hid (Gt t=Gq t.text):=by
   unfold Hid;rw[Yd,HG.o];exact⟨fun h=>h.1,fun h=>⟨h,HR.o.1 rfl⟩⟩
  obtain⟨x,y,Z⟩:=HR.o.1 rfl;have HV:=Hd Z;clear Z
  go_wp2_with fail
  refine (Q.l2Read_any (Oo t.text) k x y _ HM.o E.o HV.o).mono ?_;rintro e w2 ⟨z,rfl,j,hb⟩;have HF:=Hd (Ln _ w2 z t.text k x y hb.size j HL.o E.o HV.o);have d:=Hd (J.o.trans (hb.mono J.o.size));obtain⟨p0,pn,pa,pl,pc,q0,qn,qa,ql,qc,rfl,-⟩:=j;clear hb
  go_wp2_with fail
  refine HF.o.mono ?_;rintro e w3 ⟨rfl,hb⟩;have K:=Hd (d.o.trans (hb.mono d.o.size));clear hb
  go_wp2
  go_ret
  exact⟨Oy G.o.symm,K.o⟩
 have q2:((Oo t.sort).toList==[82,101,97,108])=false:=by rw[Jk,Ou,Jb];exact Y
 have G:Hid (Gt t=false):=by
  unfold Hid;rw[J8];intro h
  rcases (HN.o.1 h).2 with h|h
  ·exact A h.1
  exact Y h.1
 clear A Y
 go_in
 go_wp2
 go_ret
 exact⟨Oy G.o.symm,I.o⟩
theorem XE {t:Tm}(h:Gt t=true):t.sort=U8∨t.sort=Ku:=by
 rcases ((SQ t).1 h).2 with h|h
 ·exact .inl h.1
 exact .inr h.1
structure Vars (w:World):Prop where
 ev:EV w
 rt:RT w
 ml:∃ m,w.cell? ⟨1,0,none⟩=some (.int .i64 m)
 sp:Q.SP w
 ns:Q.NS w
 lt:Q.LT w
theorem Vars.bl (h:Vars w)(hb:Up w w'):Vars w':=by
 obtain⟨m,d⟩:=h.ml;exact⟨h.ev.keep (Below.keep hb),h.rt.keep (Below.keep hb),⟨m,(Below.keep hb).cell _ _ d⟩,h.sp.bl hb,h.ns.bl hb,h.lt.bl hb⟩
structure BankZ (S:List (List UInt8))(F:List Fn)(T:List Tm):Prop where
 ls:S.length<=1048576
 lf:F.length<=1048576
 lt:T.length<=1048576
 s:∀ s∈S,s.length<=1048576
 f:∀ f∈F,f.name.length<=1048576/\(∀ a∈f.args,a.length<=1048576)/\f.sort.length<=1048576
 t:∀ t∈T,t.sort.length<=1048576/\t.text.length<=1048576/\t.kids.length<=1048576/\(Lit.int .i64 t.op).wf=true/\(Lit.int .i64 t.a).wf=true/\(Lit.int .i64 t.b).wf=true
structure BankAt (w:World)(vs vf vt:Value)(S:List (List UInt8))(F:List Fn)(T:List Tm):Prop where
 s:O3 w vs S
 f:E9 w vf F
 t:K9 w vt T
theorem BankAt.bl (h:BankAt w vs vf vt S F T)(hb:Up w w'):BankAt w' vs vf vt S F T:=⟨h.s.bl hb,h.f.bl hb,h.t.bl hb⟩
theorem DE (hv:Vars w)(hz:BankZ S F T):∀ t∈T,t.op=12->((Ov (Oc (Oq S)) t.sort).kind=2∨(Ov (Oc (Oq S)) t.sort).kind=3)->∀ W,Up w W->Calls prog 110 #[.string (Oo t.sort),.string (Oo t.text)] W fun e w'=>e=.returned (.bool (Gt t))/\Up W w':=by
 intro t E _ h W j;have d:=hv.bl j;obtain⟨m,A⟩:=d.ml;refine B4 t m W ?_ (hz.t t E).2.1 A d.sp d.ns d.lt
 rcases h with h|h
 ·exact .inl (((KG _).i _).1 h)
 exact .inr (((KG _).r _).1 h)
theorem DK (h:BankAt w vs vf vt S F T)(hz:BankZ S F T)(hv:Vars w):Calls prog 37 #[.agg #[vs,vf,vt]] w (ZA S Gt F T w):=by
 obtain⟨j,d,A⟩:=h;have E:=j;have h2:=d;have h3:=A;obtain⟨G,c1,rfl,-,-,-⟩:=E;obtain⟨I,c2,rfl,-,-,-⟩:=h2;obtain⟨J,c3,rfl,-,-,-⟩:=h3;exact Tz G I J c1 c2 c3 S Gt F T w j d A hz.ls hz.lf hv.ev hv.rt hz.s hz.f hz.t (DE hv hz)
theorem Li (S:List (List UInt8))(F:List Fn)(T:List Tm):Hf S Gt F T=Gn S Gt F T:=
 PK S Gt F T fun own t h=>by
  rcases XE h with h|h
  ·exact .inl (((KG own).i _).2 h)
  exact .inr (((KG own).r _).2 h)
theorem Lh (h:BankAt w vs vf vt S F T)(hz:BankZ S F T)(hvs:∃ ad n c,vs=.slice (some ad) n c) :
 Calls prog 30 #[.agg #[vs,vf,vt]] w fun e w'=>e=.returned (.bool (Gn S Gt F T))/\Up w w':=
 B0 vs vf vt S Gt F T w h.s h.f h.t hz.s (fun f hf=>⟨(hz.f f hf).1,(hz.f f hf).2.2,(hz.f f hf).2.1⟩) (fun t ht=>⟨(hz.t t ht).1,(hz.t t ht).2.1,(hz.t t ht).2.2.1⟩) hz.ls hz.lf hz.lt hvs (fun t ht vk w' _=>IT t vk w' (hz.t t ht).2.1)
theorem H5 (x:List UInt8):(Oo x).size=x.length:=by show x.toArray.size=_;simp
def E3 (w:World)(v:Value)(L:List (List UInt8)):Prop:=
 ∃ a c,v=.slice a L.length c/\L.length<=c/\c<=maxLen/\(∀ s∈L,s.length<=maxLen)/\(L=[]∨∃ b off,a=some ⟨b,off,none⟩/\b<w.heap.size/\∀ i (h:i<L.length),w.cell? ⟨b,off+i,none⟩=some (.string (Oo L[i])))
theorem E3.bl {L:List (List UInt8)}(h:E3 w v L)(hb:Up w w'):E3 w' v L:=by
 obtain⟨a,c,rfl,A,h2,h3,h4⟩:=h;refine⟨a,c,rfl,A,h2,h3,?_⟩
 rcases h4 with h|⟨b,j,rfl,d,E⟩
 ·exact .inl h
 exact .inr ⟨b,j,rfl,Jq d hb.size,fun i hi=>(hb.cell (p:=⟨b,j+i,none⟩) d).trans (E i hi)⟩
def G2 (w:World)(v:Value)(L:List Int):Prop:=
 ∃ a c,v=.slice a L.length c/\L.length<=c/\c<=maxLen/\(L=[]∨∃ b off,a=some ⟨b,off,none⟩/\b<w.heap.size/\∀ i (h:i<L.length),w.cell? ⟨b,off+i,none⟩=some (.int .i64 L[i]))
theorem G2.bl {L:List Int}(h:G2 w v L)(hb:Up w w'):G2 w' v L:=by
 obtain⟨a,c,rfl,A,h2,h4⟩:=h;refine⟨a,c,rfl,A,h2,?_⟩
 rcases h4 with h|⟨b,j,rfl,d,E⟩
 ·exact .inl h
 exact .inr ⟨b,j,rfl,Jq d hb.size,fun i hi=>(hb.cell (p:=⟨b,j+i,none⟩) d).trans (E i hi)⟩
def X9 (w:World)(v:Value)(F:List Fn):Prop:=
 ∃ a c,v=.slice a F.length c/\F.length<=c/\c<=maxLen/\(∀ f∈F,f.name.length<=maxLen/\f.sort.length<=maxLen)/\(F=[]∨∃ b off,a=some ⟨b,off,none⟩/\b<w.heap.size/\∀ i (h:i<F.length),w.cell? ⟨b,off+i*3,none⟩=some (.string (Oo F[i].name))/\(∃ va,w.cell? ⟨b,off+i*3+1,none⟩=some va/\E3 w va F[i].args)/\w.cell? ⟨b,off+i*3+2,none⟩=some (.string (Oo F[i].sort)))
theorem X9.bl (h:X9 w v F)(hb:Up w w'):X9 w' v F:=by
 obtain⟨a,c,rfl,A,h2,h3,h4⟩:=h;refine⟨a,c,rfl,A,h2,h3,?_⟩
 rcases h4 with h|⟨b,j,rfl,d,E⟩
 ·exact .inl h
 refine .inr ⟨b,j,rfl,Jq d hb.size,fun i hi=>?_⟩;obtain⟨G,⟨va,I,ha⟩,k2⟩:=E i hi;exact⟨(hb.cell (p:=⟨b,j+i*3,none⟩) d).trans G,⟨va,(hb.cell (p:=⟨b,j+i*3+1,none⟩) d).trans I,ha.bl hb⟩,(hb.cell (p:=⟨b,j+i*3+2,none⟩) d).trans k2⟩
def Im (w:World)(v:Value)(T:List Tm):Prop:=
 ∃ a c,v=.slice a T.length c/\T.length<=c/\c<=maxLen/\(∀ t∈T,t.sort.length<=maxLen/\t.text.length<=maxLen)/\(T=[]∨∃ b off,a=some ⟨b,off,none⟩/\b<w.heap.size/\∀ i (h:i<T.length),w.cell? ⟨b,off+i*6,none⟩=some (.int .i64 T[i].op)/\w.cell? ⟨b,off+i*6+1,none⟩=some (.string (Oo T[i].sort))/\w.cell? ⟨b,off+i*6+2,none⟩=some (.string (Oo T[i].text))/\w.cell? ⟨b,off+i*6+3,none⟩=some (.int .i64 T[i].a)/\w.cell? ⟨b,off+i*6+4,none⟩=some (.int .i64 T[i].b)/\∃ va,w.cell? ⟨b,off+i*6+5,none⟩=some va/\G2 w va T[i].kids)
theorem Im.bl (h:Im w v T)(hb:Up w w'):Im w' v T:=by
 obtain⟨a,c,rfl,A,h2,h3,h4⟩:=h;refine⟨a,c,rfl,A,h2,h3,?_⟩
 rcases h4 with h|⟨b,j,rfl,d,E⟩
 ·exact .inl h
 refine .inr ⟨b,j,rfl,Jq d hb.size,fun i hi=>?_⟩;obtain⟨G,I,k2,k3,k4,va,k5,ha⟩:=E i hi;exact⟨(hb.cell (p:=⟨b,j+i*6,none⟩) d).trans G,(hb.cell (p:=⟨b,j+i*6+1,none⟩) d).trans I,(hb.cell (p:=⟨b,j+i*6+2,none⟩) d).trans k2,(hb.cell (p:=⟨b,j+i*6+3,none⟩) d).trans k3,(hb.cell (p:=⟨b,j+i*6+4,none⟩) d).trans k4,va,(hb.cell (p:=⟨b,j+i*6+5,none⟩) d).trans k5,ha.bl hb⟩
def F0 (L:List (List UInt8)):Prop:=L.length<=1048576/\∀ s∈L,s.length<=1048576
def Qz (f:Fn):Prop:=f.name.length<=1048576/\F0 f.args/\f.sort.length<=1048576
def F1 (t:Tm):Prop:=t.sort.length<=1048576/\t.text.length<=1048576/\t.kids.length<=1048576
def Fj (P:Prop)(w:World)(e:Ending)(w':World):Prop:=(e=.returned (.int .i64 (-1))∨∃ z:Nat,z<=1048576/\e=.returned (.int .i64 (z:Nat))/\P)/\Up w w'
theorem R8 (v:Value)(L:List (List UInt8))(z0:Nat)(w:World)(h:E3 w v L)(hz0:z0<=1048576) :
 Calls prog 27 #[v,.int .i64 (z0:Nat)] w (Fj (F0 L) w):=by
 obtain⟨a,c,rfl,hc,U,J,E⟩:=h;unfold maxLen at U;have Z:=Hd E;have O:=Hd J;clear E J
 by_cases hl:z0<L.length
 ·have y:decide ((z0:Int) - (L.length:Int)<0)=true:=dT (by omega)
  go_in
  go_wp2
  go_ret
  exact⟨.inl rfl,Je _ _⟩
 have y:decide ((z0:Int) - (L.length:Int)<0)=false:=dF (by omega)
 go_in
 go_wp2
 go_loopw [1,5] (fun zv iv wr=>∃ (i z:Nat),i<=L.length/\z<=1048576/\zv=.int .i64 (z:Nat)/\iv=.int .i64 (i:Nat)/\(∀ j (h:j<L.length),j<i->L[j].length<=1048576)/\w=wr) (fun _ iv _=>L.length - (intOf iv).toNat)
 case atStart=>exact⟨0,z0 - L.length,Jr _,by omega,by go_num,rfl,fun j _ h=>absurd h (J2 _),rfl⟩
 obtain⟨i,z,hi,hz,rfl,rfl,I,rfl⟩:=hrel;have A:=Hd I;clear I
 by_cases d:i<L.length
 ·obtain⟨b,off,rfl,hb,E⟩:∃ b off,a=some ⟨b,off,none⟩/\b<w.heap.size/\∀ i (h:i<L.length),w.cell? ⟨b,off+i,none⟩=some (.string (Oo L[i])):=by
   rcases Z.o with h|h
   ·rw[h] at d;exact absurd d (J2 _)
   exact h
  have k0:=E i d;have K:=O.o _ (Jo d);unfold maxLen at K;have hs:=H5 L[i];obtain⟨s,G⟩:=Oa (Oo L[i]);rw[G] at k0 hs;have M:=Hd hs;have Y:(s.size:Int)<=9223372036854775807:=by rw[hs];omega
  clear E G K hs
  by_cases a8:z<s.size
  ·have y2:decide ((z:Int) - (s.size:Int)<0)=true:=dT (by omega)
   go_wp2
   go_ret
   exact⟨.inl rfl,Je _ _⟩
  have y2:decide ((z:Int) - (s.size:Int)<0)=false:=dF (by omega)
  go_wp2
  go_roundw
  case rel=>
   refine⟨i+1,z - s.size,by omega,by omega,by go_num,by go_num,fun j hj hji=>?_,trivial⟩
   by_cases e:j=i
   ·subst e;have:=M.o;omega
   exact A.o j hj (by omega)
  simp[intOf];omega
 have V:i=L.length:=by omega
 subst V
 go_wp2
 go_ret
 refine⟨.inr ⟨z,hz,rfl,by omega,fun s hs=>?_⟩,Je _ _⟩;obtain⟨j,hj,rfl⟩:=J6 hs;exact A.o j hj hj
theorem EH (v:Value)(L:List Int)(z0:Nat)(w:World)(h:G2 w v L)(hz0:z0<=1048576) :
 Calls prog 48 #[v,.int .i64 (z0:Nat)] w (Fj (L.length<=1048576) w):=by
 obtain⟨a,c,rfl,hc,d,-⟩:=h;unfold maxLen at d
 by_cases hl:z0<L.length
 ·have y:decide ((z0:Int) - (L.length:Int)<0)=true:=dT (by omega)
  go_in
  go_wp2
  go_ret
  exact⟨.inl rfl,Je _ _⟩
 have y:decide ((z0:Int) - (L.length:Int)<0)=false:=dF (by omega)
 go_in
 go_wp2
 go_ret
 exact⟨.inr ⟨z0 - L.length,by omega,by go_num,by omega⟩,Je _ _⟩
theorem Sz (f:Fn)(va:Value)(z0:Nat)(w:World)(h:E3 w va f.args)(hn:f.name.length<=maxLen)(hs:f.sort.length<=maxLen)(hz0:z0<=1048576) :
 Calls prog 15 #[.agg #[.string (Oo f.name),va,.string (Oo f.sort)],.int .i64 (z0:Nat)] w (Fj (Qz f) w):=by
 have H:=Hd h;obtain⟨a,c,rfl,-,-,-,-⟩:=h;have Y:=H5 f.name;have e2:=H5 f.sort;obtain⟨E,h1⟩:∃ s,Oo f.name=s:=⟨_,rfl⟩;obtain⟨G,h2⟩:∃ s,Oo f.sort=s:=⟨_,rfl⟩;rw[h1] at Y ⊢;rw[h2] at e2 ⊢;unfold maxLen at hn hs;have x1:(E.size:Int)<=9223372036854775807:=by omega
 have x2:(G.size:Int)<=9223372036854775807:=by omega
 have M:=Hd Y;have O:=Hd e2;clear h1 h2 Y e2;obtain⟨V,A⟩:=Oa (w.alloc (.cells #[.string E,.slice a f.args.length c,.string G] 42));have d:Hid (Up w V):=by unfold Hid;rw[<-A];exact Oz _ _
 have J:Hid (Bx V w.heap.size [.string E,.slice a f.args.length c,.string G]):=by unfold Hid;rw[<-A];exact Oi w _ _
 have I:=Hd A;clear A
 by_cases g1:z0<E.size
 ·have y:decide ((z0:Int) - (E.size:Int)<0)=true:=dT (by omega)
  go_in
  go_wp2
  go_ret
  exact⟨.inl rfl,by rw[I.o];exact d.o⟩
 have y:decide ((z0:Int) - (E.size:Int)<0)=false:=dF (by omega)
 obtain⟨z1,Z⟩:=Oa (z0 - E.size);have q1:(z0:Int) - (E.size:Int)=(z1:Int):=by omega
 have q2:z1<=1048576:=by omega
 have HQ:=Hd q1;rw[q1] at y;clear q1 Z
 go_in
 go_wp2_with (rw[HQ.o])
 rw[I.o];refine (R8 _ f.args z1 V (H.o.bl d.o) q2).mono ?_;rintro e w2 ⟨(rfl|⟨z2,b4,rfl,K⟩),hb2⟩
 ·have j:=d.up hb2;clear hb2
  go_wp2
  go_ret
  exact⟨.inl rfl,j.o⟩
 have j:=d.up hb2;have U:=Hd K;obtain⟨b0,b1,b2⟩:=(J.o.bl J.o.lt hb2).c3;have y2:decide ((z2:Int)<0)=false:=dF (by omega)
 clear hb2 K
 by_cases g2:z2<G.size
 ·have y3:decide ((z2:Int) - (G.size:Int)<0)=true:=dT (by omega)
  go_wp2
  go_ret
  exact⟨.inl rfl,j.o⟩
 have y3:decide ((z2:Int) - (G.size:Int)<0)=false:=dF (by omega)
 go_wp2
 go_ret
 exact⟨.inr ⟨z2 - G.size,by omega,by go_num,by have:=M.o;omega,U.o,by have:=O.o;omega⟩,j.o⟩
theorem EG (v:Value)(F:List Fn)(z0:Nat)(w:World)(h:X9 w v F)(hz0:z0<=1048576) :
 Calls prog 28 #[v,.int .i64 (z0:Nat)] w (Fj (F.length<=1048576/\∀ f∈F,Qz f) w):=by
 obtain⟨a,c,rfl,hc,b3,V,M⟩:=h;unfold maxLen at b3;have HA:=Hd M;have a7:=Hd V;clear M V
 by_cases hl:z0<F.length
 ·have y:decide ((z0:Int) - (F.length:Int)<0)=true:=dT (by omega)
  go_in
  go_wp2
  go_ret
  exact⟨.inl rfl,Je _ _⟩
 have y:decide ((z0:Int) - (F.length:Int)<0)=false:=dF (by omega)
 go_in
 go_wp2
 go_loopw [1,5] (fun zv iv wr=>∃ (i z:Nat),i<=F.length/\z<=1048576/\zv=.int .i64 (z:Nat)/\iv=.int .i64 (i:Nat)/\(∀ j (h:j<F.length),j<i->Qz F[j])/\Up w wr) (fun _ iv _=>F.length - (intOf iv).toNat)
 case atStart=>exact⟨0,z0 - F.length,Jr _,by omega,by go_num,rfl,fun j _ h=>absurd h (J2 _),Je _ _⟩
 obtain⟨i,z,hi,hz,rfl,rfl,U,E⟩:=hrel;have J:=Hd U;have Y:=Hd E;clear U
 by_cases d:i<F.length
 ·obtain⟨b,off,rfl,hb,M⟩:∃ b off,a=some ⟨b,off,none⟩/\b<w.heap.size/\∀ i (h:i<F.length),w.cell? ⟨b,off+i*3,none⟩=some (.string (Oo F[i].name))/\(∃ va,w.cell? ⟨b,off+i*3+1,none⟩=some va/\E3 w va F[i].args)/\w.cell? ⟨b,off+i*3+2,none⟩=some (.string (Oo F[i].sort)):=by
   rcases HA.o with h|h
   ·rw[h] at d;exact absurd d (J2 _)
   exact h
  obtain⟨k0,⟨va,k1,I⟩,k2⟩:=M i d;rw[<-E.cell (p:=⟨b,off+i*3,none⟩) hb] at k0;rw[<-E.cell (p:=⟨b,off+i*3+1,none⟩) hb] at k1;rw[<-E.cell (p:=⟨b,off+i*3+2,none⟩) hb] at k2;have G:=a7.o _ (Jo d);obtain⟨f,hf⟩:=Oa (F[i]);have HF:=Hd hf;rw[hf] at k0 k2 I G;have a8:=Hd (I.bl E);have K:=Hd G;obtain⟨pa,ca,rfl,-,-,-,-⟩:=I;clear hf E M G
  go_wp2_with fail
  refine (Sz f _ z _ a8.o K.o.1 K.o.2 hz).mono ?_;rintro e w2 ⟨(rfl|⟨z2,b6,rfl,O⟩),hb2⟩
  ·have A:=Y.up hb2;clear hb2
   go_wp2
   go_ret
   exact⟨.inl rfl,A.o⟩
  have A:=Y.up hb2;have Z:=Hd O;have y2:decide ((z2:Int)<0)=false:=dF (by omega)
  clear hb2 O
  go_wp2
  go_roundw
  case rel=>
   refine⟨i+1,z2,by omega,b6,by go_num,by go_num,fun j hj hji=>?_,A.o⟩
   by_cases e:j=i
   ·subst e;rw[HF.o];exact Z.o
   exact J.o j hj (by omega)
  simp[intOf];omega
 have b5:i=F.length:=by omega
 subst b5;clear E
 go_wp2
 go_ret
 refine⟨.inr ⟨z,hz,rfl,by omega,fun s hs=>?_⟩,Y.o⟩;obtain⟨j,hj,rfl⟩:=J6 hs;exact J.o j hj hj
theorem EI (t:Tm)(va:Value)(z0:Nat)(w:World)(h:G2 w va t.kids)(hn:t.sort.length<=maxLen)(hs:t.text.length<=maxLen)(hz0:z0<=1048576) :
 Calls prog 21 #[.agg #[.int .i64 t.op,.string (Oo t.sort),.string (Oo t.text),.int .i64 t.a,.int .i64 t.b,va],.int .i64 (z0:Nat)] w (Fj (F1 t) w):=by
 have H:=Hd h;obtain⟨a,c,rfl,-,-,-⟩:=h;have K:=H5 t.sort;have e2:=H5 t.text;obtain⟨A,h1⟩:∃ s,Oo t.sort=s:=⟨_,rfl⟩;obtain⟨E,h2⟩:∃ s,Oo t.text=s:=⟨_,rfl⟩;rw[h1] at K ⊢;rw[h2] at e2 ⊢;unfold maxLen at hn hs;have x1:(A.size:Int)<=9223372036854775807:=by omega
 have x2:(E.size:Int)<=9223372036854775807:=by omega
 have G:=Hd K;have I:=Hd e2;clear h1 h2 K e2;have d:Hid (Up w (w.alloc (.cells #[.int .i64 t.op,.string A,.string E,.int .i64 t.a,.int .i64 t.b,.slice a t.kids.length c] 52))):=Oz _ _
 by_cases g1:z0<A.size
 ·have y:decide ((z0:Int) - (A.size:Int)<0)=true:=dT (by omega)
  go_in
  go_wp2
  go_ret
  exact⟨.inl rfl,d.o⟩
 have y:decide ((z0:Int) - (A.size:Int)<0)=false:=dF (by omega)
 obtain⟨z1,O⟩:=Oa (z0 - A.size);have Y:(z0:Int) - (A.size:Int)=(z1:Int):=by omega
 have q2:z1<=1048576:=by omega
 have HQ:=Hd Y;rw[Y] at y;clear Y O
 by_cases g2:z1<E.size
 ·have y2:decide ((z1:Int) - (E.size:Int)<0)=true:=dT (by omega)
  go_in
  go_wp2_with (rw[HQ.o])
  go_ret
  exact⟨.inl rfl,d.o⟩
 have y2:decide ((z1:Int) - (E.size:Int)<0)=false:=dF (by omega)
 obtain⟨z2,U⟩:=Oa (z1 - E.size);have Z:(z1:Int) - (E.size:Int)=(z2:Int):=by omega
 have q4:z2<=1048576:=by omega
 have J:=Hd Z;rw[Z] at y2;clear Z U
 go_in
 go_wp2_with (first|rw[HQ.o]|rw[J.o])
 refine (EH _ t.kids z2 _ (H.o.bl d.o) q4).mono ?_;rintro e w2 ⟨(rfl|⟨z3,V,rfl,M⟩),hb2⟩
 ·have j:=d.up hb2;clear hb2
  go_wp2
  go_ret
  exact⟨.inl rfl,j.o⟩
 have j:=d.up hb2;have y3:decide ((z3:Int)<0)=false:=dF (by omega)
 clear hb2
 go_wp2
 go_ret
 exact⟨.inr ⟨z3,V,rfl,by have:=G.o;omega,by have:=I.o;omega,M⟩,j.o⟩
theorem ZH (v:Value)(T:List Tm)(z0:Nat)(w:World)(h:Im w v T)(hz0:z0<=1048576) :
 Calls prog 29 #[v,.int .i64 (z0:Nat)] w (Fj (T.length<=1048576/\∀ t∈T,F1 t) w):=by
 obtain⟨a,c,rfl,hc,b3,V,M⟩:=h;unfold maxLen at b3;have HA:=Hd M;have a7:=Hd V;clear M V
 by_cases hl:z0<T.length
 ·have y:decide ((z0:Int) - (T.length:Int)<0)=true:=dT (by omega)
  go_in
  go_wp2
  go_ret
  exact⟨.inl rfl,Je _ _⟩
 have y:decide ((z0:Int) - (T.length:Int)<0)=false:=dF (by omega)
 go_in
 go_wp2
 go_loopw [1,5] (fun zv iv wr=>∃ (i z:Nat),i<=T.length/\z<=1048576/\zv=.int .i64 (z:Nat)/\iv=.int .i64 (i:Nat)/\(∀ j (h:j<T.length),j<i->F1 T[j])/\Up w wr) (fun _ iv _=>T.length - (intOf iv).toNat)
 case atStart=>exact⟨0,z0 - T.length,Jr _,by omega,by go_num,rfl,fun j _ h=>absurd h (J2 _),Je _ _⟩
 obtain⟨i,z,hi,hz,rfl,rfl,U,d⟩:=hrel;have J:=Hd U;have Y:=Hd d;clear U
 by_cases A:i<T.length
 ·obtain⟨b,off,rfl,hb,M⟩:∃ b off,a=some ⟨b,off,none⟩/\b<w.heap.size/\∀ i (h:i<T.length),w.cell? ⟨b,off+i*6,none⟩=some (.int .i64 T[i].op)/\w.cell? ⟨b,off+i*6+1,none⟩=some (.string (Oo T[i].sort))/\w.cell? ⟨b,off+i*6+2,none⟩=some (.string (Oo T[i].text))/\w.cell? ⟨b,off+i*6+3,none⟩=some (.int .i64 T[i].a)/\w.cell? ⟨b,off+i*6+4,none⟩=some (.int .i64 T[i].b)/\∃ va,w.cell? ⟨b,off+i*6+5,none⟩=some va/\G2 w va T[i].kids:=by
   rcases HA.o with h|h
   ·rw[h] at A;exact absurd A (J2 _)
   exact h
  obtain⟨k0,k1,k2,k3,k4,va,k5,I⟩:=M i A;rw[<-d.cell (p:=⟨b,off+i*6,none⟩) hb] at k0;rw[<-d.cell (p:=⟨b,off+i*6+1,none⟩) hb] at k1;rw[<-d.cell (p:=⟨b,off+i*6+2,none⟩) hb] at k2;rw[<-d.cell (p:=⟨b,off+i*6+3,none⟩) hb] at k3;rw[<-d.cell (p:=⟨b,off+i*6+4,none⟩) hb] at k4;rw[<-d.cell (p:=⟨b,off+i*6+5,none⟩) hb] at k5;have G:=a7.o _ (Jo A);obtain⟨t,ht⟩:=Oa (T[i]);have HT:=Hd ht;rw[ht] at k0 k1 k2 k3 k4 I G;have a8:=Hd (I.bl d);have K:=Hd G;obtain⟨pa,ca,rfl,-,-,-⟩:=I;clear ht d M G
  go_wp2_with fail
  refine (EI t _ z _ a8.o K.o.1 K.o.2 hz).mono ?_;rintro e w2 ⟨(rfl|⟨z2,b6,rfl,O⟩),hb2⟩
  ·have E:=Y.up hb2;clear hb2
   go_wp2
   go_ret
   exact⟨.inl rfl,E.o⟩
  have E:=Y.up hb2;have Z:=Hd O;have y2:decide ((z2:Int)<0)=false:=dF (by omega)
  clear hb2 O
  go_wp2
  go_roundw
  case rel=>
   refine⟨i+1,z2,by omega,b6,by go_num,by go_num,fun j hj hji=>?_,E.o⟩
   by_cases e:j=i
   ·subst e;rw[HT.o];exact Z.o
   exact J.o j hj (by omega)
  simp[intOf];omega
 have b4:i=T.length:=by omega
 subst b4;clear d
 go_wp2
 go_ret
 refine⟨.inr ⟨z,hz,rfl,by omega,fun s hs=>?_⟩,Y.o⟩;obtain⟨j,hj,rfl⟩:=J6 hs;exact J.o j hj hj
structure ArgBank (w:World)(vs vf vt:Value)(S:List (List UInt8))(F:List Fn)(T:List Tm):Prop where
 s:E3 w vs S
 f:X9 w vf F
 t:Im w vt T
theorem ArgBank.bl (h:ArgBank w vs vf vt S F T)(hb:Up w w'):ArgBank w' vs vf vt S F T:=⟨h.s.bl hb,h.f.bl hb,h.t.bl hb⟩
structure SmallB (S:List (List UInt8))(F:List Fn)(T:List Tm):Prop where
 s:F0 S
 f:F.length<=1048576/\∀ f∈F,Qz f
 t:T.length<=1048576/\∀ t∈T,F1 t
theorem EN (z0:Nat)(w:World)(h:ArgBank w vs vf vt S F T)(hz0:z0<=1048576) :
 Calls prog 6 #[.agg #[vs,vf,vt],.int .i64 (z0:Nat)] w (Fj (SmallB S F T) w):=by
 obtain⟨a1,c1,e1,-,-,-,-⟩:=h.s;obtain⟨a2,c2,e2,-,-,-,-⟩:=h.f;obtain⟨a3,c3,e3,-,-,-,-⟩:=h.t;have G:Hid (Up w (w.alloc (.cells #[vs,vf,vt] 26))):=Oz _ _;have K:Hid (Bx (w.alloc (.cells #[vs,vf,vt] 26)) w.heap.size [vs,vf,vt]):=Oi w _ _;have H1:=Hd (h.bl G.o);subst e1 e2 e3;clear h
 go_in
 go_wp2_with fail
 refine (R8 _ S z0 _ H1.o.s hz0).mono ?_;rintro e w2 ⟨(rfl|⟨z2,a8,rfl,M⟩),hb2⟩
 ·have j:=G.up hb2;clear hb2
  go_wp2
  go_ret
  exact⟨.inl rfl,j.o⟩
 have j:=G.up hb2;have H2:=Hd (H1.o.bl hb2);have V:=Hd M;have J:=Hd (K.o.bl K.o.lt hb2);have y2:decide ((z2:Int)<0)=false:=dF (by omega)
 obtain⟨b0,b1,b2⟩:=J.o.c3;clear hb2 M
 go_wp2_with fail
 refine (EG _ F z2 _ H2.o.f a8).mono ?_;rintro e w3 ⟨(rfl|⟨z3,b3,rfl,O⟩),d⟩
 ·have A:=j.up d;clear d
  go_wp2
  go_ret
  exact⟨.inl rfl,A.o⟩
 have A:=j.up d;have H3:=Hd (H2.o.bl d);have Y:=Hd O;have a7:=Hd (J.o.bl J.o.lt d);have y3:decide ((z3:Int)<0)=false:=dF (by omega)
 clear b0 b1 b2;obtain⟨b0,b1,b2⟩:=a7.o.c3;clear d O
 go_wp2_with fail
 refine (ZH _ T z3 _ H3.o.t b3).mono ?_;rintro e w4 ⟨(rfl|⟨z4,b4,rfl,U⟩),E⟩
 ·have I:=A.up E;clear E
  go_wp2
  go_ret
  exact⟨.inl rfl,I.o⟩
 have I:=A.up E;have Z:=Hd U;have y4:decide ((z4:Int)<0)=false:=dF (by omega)
 clear E U
 go_wp2
 go_ret
 exact⟨.inr ⟨z4,b4,rfl,V.o,Y.o,Z.o⟩,I.o⟩
theorem Et {base:Nat}{e:TypeId}{s:Nat}{n:Nat}(h:w.ownsRow base e s v n xs)(hb:Up w w'):w'.ownsRow base e s v n xs:=own_other' h (fun g hg=>hb.block g (h.lt g hg).2)
theorem I5 {base g n cap s:Nat}{e:TypeId}(h:w.ownsRow base e s (.slice (some ⟨g,0,none⟩) n cap) n xs)(j:Nat)(hj:j<n*s):∃ x,w.cell? ⟨g,j,none⟩=some x:=by
 rw[h.cellAt j hj];exact⟨_,Jd (by have:=h.1;omega)⟩
theorem IR:(prog.info? 3).map (fun i=>(i.zero,i.size,i.bytes))=some (some (.int .i64 0),1,8):=by kernel_rfl
theorem Lp:∃ i:TypeInfo,prog.info? 3=some i/\i.zero=some (.int .i64 0)/\i.size=1/\i.bytes=8:=info_parts IR
theorem Me {α:Type}{f:α->Value}{L:List α}(hx:xs.length=L.length)(h:∀ j (hj:j<L.length),j<i->xs[j]? = some (f L[j]))(hi:i<L.length):∀ j (hj:j<L.length),j<i+1->(xs.set i (f L[i]))[j]? = some (f L[j]):=by
 intro j hj d
 by_cases e:j=i
 ·subst e;rw[Y7 (by omega)]
 rw[J9 (by omega)];exact h j hj (by omega)
theorem Aj {α:Type}{f:α->Value}{L:List α}(hx:xs.length=L.length)(h:∀ j (hj:j<L.length),j<L.length->xs[j]? = some (f L[j])):xs=L.map f:=by
 refine List.ext_getElem? fun j=>?_
 by_cases hj:j<L.length
 ·rw[h j hj hj,Y6,Jd hj];rfl
 rw[Ym (by omega),Ym (by rw[Zy];omega)]
theorem R9 (v:Value)(L:List (List UInt8))(w:World)(h:E3 w v L)(hs:F0 L) :
 Calls prog 34 #[v] w fun e w'=>∃ g c,e=.returned (.slice (some ⟨g,0,none⟩) L.length c)/\w'.ownsRow w.heap.size 9 1 (.slice (some ⟨g,0,none⟩) L.length c) L.length (strsC L)/\Up w w':=by
 obtain⟨a,c,rfl,hc,b3,-,J⟩:=h;unfold maxLen at b3;obtain⟨i0,M,b5,b6,b7⟩:=Q8;have d0:=hs.1;have HA:=Hd J;clear J hs
 go_in
 go_wp2_with (at_make;refine wpList_make_full _ rfl _ _ 22 rfl w.heap.size 9 i0 (.string ⟨#[]⟩) 1 underlying22 M b5 b6 .i64 .i64 _ _ L.length rfl rfl (by simp) (by simp) (by rw[b7];omega) (by unfold maxLen;omega) leR ?_)
 intro w1 E K;have V:Hid (Up w w1):=(Je _ _).grown K leR (fun k e=>by cases e);have a7:=Hd E;clear E K
 go_wp2
 go_loopw [4] (fun iv wr=>∃ (i:Nat) (xs:List Value),i<=L.length/\iv=.int .i64 i/\(∀ j (hj:j<L.length),j<i->xs[j]? = some (.string (Oo L[j])))/\wr.ownsRow w.heap.size 9 1 (.slice (some ⟨w.heap.size,0,none⟩) L.length L.length) L.length xs/\Up w wr) (fun iv _=>L.length - (intOf iv).toNat)
 case atStart=>exact⟨0,_,Jr _,rfl,fun j _ h=>absurd h (J2 _),a7.o,V.o⟩
 obtain⟨i,xs,hi,rfl,A,d,U⟩:=hrel;have HB:=Hd U;have Y:=Hd A;have I:Hid (xs.length=L.length):=by have:=d.1;unfold Hid;omega
 by_cases G:i<L.length
 ·obtain⟨b,off,rfl,hb,J⟩:∃ b off,a=some ⟨b,off,none⟩/\b<w.heap.size/\∀ i (h:i<L.length),w.cell? ⟨b,off+i,none⟩=some (.string (Oo L[i])):=by
   rcases HA.o with h|h
   ·rw[h] at G;exact absurd G (J2 _)
   exact h
  have k0:=J i G;rw[<-U.cell (p:=⟨b,off+i,none⟩) hb] at k0;have Z:=Hd (Me (f:=fun x=>.string (Oo x)) I.o A G);obtain⟨x0,e0⟩:=I5 d i (by omega);have g0:=d.frozenAt i;have O:=(d.stored i (.string (Oo L[i]))).1;have a8:=Hd O;clear A d U J O
  go_wp2
  go_roundw
  case rel=>exact⟨i+1,_,by omega,by go_num,Z.o,a8.o,HB.o.sc⟩
  simp[intOf];omega
 have b4:i=L.length:=by omega
 subst b4;have HO:=Hd d;clear d U A
 go_wp2
 go_ret
 have e:=Aj (f:=fun x=>.string (Oo x)) I.o Y.o;have ho:=HO.o;rw[e] at ho;exact⟨_,_,rfl,ho,HB.o⟩
theorem EF (v:Value)(L:List Int)(w:World)(h:G2 w v L)(hs:L.length<=1048576) :
 Calls prog 51 #[v] w fun e w'=>∃ g c,e=.returned (.slice (some ⟨g,0,none⟩) L.length c)/\w'.ownsRow w.heap.size 3 1 (.slice (some ⟨g,0,none⟩) L.length c) L.length (Nx L)/\Up w w':=by
 obtain⟨a,c,rfl,hc,b3,J⟩:=h;unfold maxLen at b3;obtain⟨i0,M,b5,b6,b7⟩:=Lp;have d0:=hs;have HA:=Hd J;clear J hs
 go_in
 go_wp2_with (at_make;refine wpList_make_full _ rfl _ _ 50 rfl w.heap.size 3 i0 (.int .i64 0) 1 underlying50 M b5 b6 .i64 .i64 _ _ L.length rfl rfl (by simp) (by simp) (by rw[b7];omega) (by unfold maxLen;omega) leR ?_)
 intro w1 E K;have V:Hid (Up w w1):=(Je _ _).grown K leR (fun k e=>by cases e);have a7:=Hd E;clear E K
 go_wp2
 go_loopw [4] (fun iv wr=>∃ (i:Nat) (xs:List Value),i<=L.length/\iv=.int .i64 i/\(∀ j (hj:j<L.length),j<i->xs[j]? = some (.int .i64 L[j]))/\wr.ownsRow w.heap.size 3 1 (.slice (some ⟨w.heap.size,0,none⟩) L.length L.length) L.length xs/\Up w wr) (fun iv _=>L.length - (intOf iv).toNat)
 case atStart=>exact⟨0,_,Jr _,rfl,fun j _ h=>absurd h (J2 _),a7.o,V.o⟩
 obtain⟨i,xs,hi,rfl,A,d,U⟩:=hrel;have HB:=Hd U;have Y:=Hd A;have I:Hid (xs.length=L.length):=by have:=d.1;unfold Hid;omega
 by_cases G:i<L.length
 ·obtain⟨b,off,rfl,hb,J⟩:∃ b off,a=some ⟨b,off,none⟩/\b<w.heap.size/\∀ i (h:i<L.length),w.cell? ⟨b,off+i,none⟩=some (.int .i64 L[i]):=by
   rcases HA.o with h|h
   ·rw[h] at G;exact absurd G (J2 _)
   exact h
  have k0:=J i G;rw[<-U.cell (p:=⟨b,off+i,none⟩) hb] at k0;have Z:=Hd (Me (f:=fun x=>.int .i64 x) I.o A G);obtain⟨x0,e0⟩:=I5 d i (by omega);have g0:=d.frozenAt i;have O:=(d.stored i (.int .i64 L[i])).1;have a8:=Hd O;clear A d U J O
  go_wp2
  go_roundw
  case rel=>exact⟨i+1,_,by omega,by go_num,Z.o,a8.o,HB.o.sc⟩
  simp[intOf];omega
 have b4:i=L.length:=by omega
 subst b4;have HO:=Hd d;clear d U A
 go_wp2
 go_ret
 have e:=Aj (f:=fun x=>.int .i64 x) I.o Y.o;have ho:=HO.o;rw[e] at ho;exact⟨_,_,rfl,ho,HB.o⟩
theorem VO (w:World)(A B:List Value)(ta tb:TypeId):∃ W2,(w.alloc (.cells A.toArray ta)).alloc (.cells B.toArray tb)=W2/\Up w W2/\Bx W2 w.heap.size A/\Bx W2 (w.heap.size+1) B/\W2.heap.size=w.heap.size+1+1:=by
 refine⟨_,rfl,Ex (Oz _ _) _,(Oi w A ta).alloc _,?_,by simp⟩;have h:=Oi (w.alloc (.cells A.toArray ta)) B tb
 rwa [show (w.alloc (.cells A.toArray ta)).heap.size=w.heap.size+1 by simp] at h
theorem GK (w:World)(A B C:List Value)(ta tb tc:TypeId):∃ W3,((w.alloc (.cells A.toArray ta)).alloc (.cells B.toArray tb)).alloc (.cells C.toArray tc)=W3/\Up w W3/\Bx W3 w.heap.size A/\Bx W3 (w.heap.size+1) B/\Bx W3 (w.heap.size+1+1) C/\W3.heap.size=w.heap.size+1+1+1:=by
 obtain⟨h,h2,hb,j,E,d⟩:=VO w A B ta tb;refine⟨_,rfl,?_,?_,?_,?_,?_⟩
 ·rw[h2];exact Ex hb _
 ·rw[h2];exact j.alloc _
 ·rw[h2];exact E.alloc _
 ·rw[h2,<-d];exact Oi h C tc
 rw[h2,Jf,d]
theorem X7 (f:Fn)(va:Value)(w:World)(h:E3 w va f.args)(hs:F0 f.args) :
 Calls prog 17 #[.agg #[.string (Oo f.name),va,.string (Oo f.sort)]] w fun e w'=>∃ g c,e=.returned (.agg #[.string (Oo f.name),.slice (some ⟨g,0,none⟩) f.args.length c,.string (Oo f.sort)])/\w'.ownsRow w.heap.size 9 1 (.slice (some ⟨g,0,none⟩) f.args.length c) f.args.length (strsC f.args)/\Up w w':=by
 have H:=Hd h;obtain⟨a,c,rfl,-,-,-,-⟩:=h
 go_in
 go_wp2_with fail
 obtain⟨W3,Y,Z,x1,x2,x3,J⟩:=GK w [.string (Oo f.name),.slice a f.args.length c,.string (Oo f.sort)] [.string ⟨#[]⟩,.slice none 0 0,.string ⟨#[]⟩] [.string (Oo f.name),.slice none 0 0,.string ⟨#[]⟩] 42 45 45;rw[Y];clear Y;have E:=Hd Z;have M:=Hd x1;have O:=Hd x2;have U:=Hd x3;have b3:=Hd J;clear Z x1 x2 x3 J;refine (R9 _ f.args W3 (H.o.bl E.o) hs).mono ?_;rintro e w4 ⟨A,c4,rfl,j,d⟩;have a8:=E.up d;have K:=Hd j;have b4:=Hd (M.o.bl M.o.lt d);have G:=Hd (O.o.bl O.o.lt d);have I:=Hd (U.o.bl U.o.lt d);clear j d;obtain⟨b0,b1,b2⟩:=b4.o.c3;obtain⟨d0,d1,d2⟩:=G.o.c3;obtain⟨q0,q1,q2⟩:=I.o.c3;obtain⟨f0,f1,f2⟩:=G.o.f3;have r1:=I.o.fz 1;have r2:=I.o.fz 2
 go_wp2_with fail
 clear b0 b1 b2 d0 d1 d2 q0 q1 q2 f0 f1 f2 r1 r2;have a7:w.heap.size+1≠w.heap.size+1+1:=by omega
 have hA:Bx ((w4.setCell ⟨w.heap.size+1+1,1,none⟩ (.slice (some ⟨A,0,none⟩) f.args.length c4)).setCell ⟨w.heap.size+1+1,2,none⟩ (.string (Oo f.sort))) (w.heap.size+1) [.string ⟨#[]⟩,.slice none 0 0,.string ⟨#[]⟩]:=by
  obtain⟨ty,hh⟩:=G.o;refine⟨ty,?_⟩;rw[Jh _ ⟨w.heap.size+1+1,2,none⟩ _ _ a7,Jh _ ⟨w.heap.size+1+1,1,none⟩ _ _ a7];exact hh
 have hE:=((hA.set 0 (.string (Oo f.name))).set 1 (.slice (some ⟨A,0,none⟩) f.args.length c4)).set 2 (.string (Oo f.sort));have V:Up w (((((w4.setCell ⟨w.heap.size+1+1,1,none⟩ (.slice (some ⟨A,0,none⟩) f.args.length c4)).setCell ⟨w.heap.size+1+1,2,none⟩ (.string (Oo f.sort))).setCell ⟨w.heap.size+1,0,none⟩ (.string (Oo f.name))).setCell ⟨w.heap.size+1,1,none⟩ (.slice (some ⟨A,0,none⟩) f.args.length c4)).setCell ⟨w.heap.size+1,2,none⟩ (.string (Oo f.sort))):=
  ((((a8.o.setCell (p:=⟨w.heap.size+1+1,1,none⟩) (by show _<=w.heap.size+1+1;omega) _).setCell (p:=⟨w.heap.size+1+1,2,none⟩) (by show _<=w.heap.size+1+1;omega) _).setCell (p:=⟨w.heap.size+1,0,none⟩) (by show _<=w.heap.size+1;omega) _).setCell (p:=⟨w.heap.size+1,1,none⟩) (by show _<=w.heap.size+1;omega) _).setCell (p:=⟨w.heap.size+1,2,none⟩) (by show _<=w.heap.size+1;omega) _
 have hO:((((w4.setCell ⟨w.heap.size+1+1,1,none⟩ (.slice (some ⟨A,0,none⟩) f.args.length c4)).setCell ⟨w.heap.size+1+1,2,none⟩ (.string (Oo f.sort))).setCell ⟨w.heap.size+1,0,none⟩ (.string (Oo f.name))).setCell ⟨w.heap.size+1,1,none⟩ (.slice (some ⟨A,0,none⟩) f.args.length c4)).setCell ⟨w.heap.size+1,2,none⟩ (.string (Oo f.sort)) |>.ownsRow w.heap.size 9 1 (.slice (some ⟨A,0,none⟩) f.args.length c4) f.args.length (strsC f.args):=by
  refine Kh (own_other' K.o (fun g hg=>?_)) E.o.size;have e3:=Ol K.o g hg;have J:=b3.o;have n1:g≠w.heap.size+1:=by omega
  have n2:g≠w.heap.size+1+1:=by omega
  rw[Jh _ ⟨w.heap.size+1,2,none⟩ _ _ n1,Jh _ ⟨w.heap.size+1,1,none⟩ _ _ n1,Jh _ ⟨w.heap.size+1,0,none⟩ _ _ n1,Jh _ ⟨w.heap.size+1+1,2,none⟩ _ _ n2,Jh _ ⟨w.heap.size+1+1,1,none⟩ _ _ n2]
 obtain⟨e0,e1,e2⟩:=hE.c3;refine Jg (v:=.agg #[.string (Oo f.name),.slice (some ⟨A,0,none⟩) f.args.length c4,.string (Oo f.sort)]) ?_ rfl ⟨A,c4,rfl,hO,V⟩;clear hA hE V hO;simp[results,results17,go_sem,e0,e1,e2]
def RY (wr:World)(N:Nat)(xs:List Value)(F:List Fn)(i:Nat):Prop:=
 ∀ j (h:j<F.length),j<i->xs[j*3]? = some (.string (Oo F[j].name))/\(∃ va,xs[j*3+1]? = some va/\wr.ownsRow N 9 1 va F[j].args.length (strsC F[j].args))/\xs[j*3+2]? = some (.string (Oo F[j].sort))
theorem RY.next {wr wr':World}{N:Nat}(hx:xs.length=F.length*3)(h:RY wr N xs F i)(hi:i<F.length){va:Value}(hk:∀ k,N<=k->k<wr.heap.size->wr'.heap[k]? = wr.heap[k]?)(hva:wr'.ownsRow N 9 1 va F[i].args.length (strsC F[i].args)) :
 RY wr' N (((xs.set (i*3) (.string (Oo F[i].name))).set (i*3+1) va).set (i*3+2) (.string (Oo F[i].sort))) F (i+1):=by
 intro j d A
 by_cases e:j=i
 ·subst e;refine⟨?_,⟨va,?_,hva⟩,?_⟩
  ·rw[J9 (by omega),J9 (by omega),Y7 (by omega)]
  ·rw[J9 (by omega),Y7 (by simp;omega)]
  rw[Y7 (by simp;omega)]
 obtain⟨G,⟨E,I,hb⟩,h2⟩:=h j d (by omega);refine⟨?_,⟨E,?_,own_other' hb (fun g hg=>hk g (Ol hb g hg) (hb.lt g hg).2)⟩,?_⟩<;>rw[J9 (by omega),J9 (by omega),J9 (by omega)]<;>assumption
theorem EL (t:Tm)(va:Value)(w:World)(h:G2 w va t.kids)(hs:t.kids.length<=1048576) :
 Calls prog 23 #[.agg #[.int .i64 t.op,.string (Oo t.sort),.string (Oo t.text),.int .i64 t.a,.int .i64 t.b,va]] w fun e w'=>∃ g c,e=.returned (.agg #[.int .i64 t.op,.string (Oo t.sort),.string (Oo t.text),.int .i64 t.a,.int .i64 t.b,.slice (some ⟨g,0,none⟩) t.kids.length c])/\w'.ownsRow w.heap.size 3 1 (.slice (some ⟨g,0,none⟩) t.kids.length c) t.kids.length (Nx t.kids)/\Up w w':=by
 have H:=Hd h;obtain⟨a,c,rfl,-,-,-⟩:=h
 go_in
 go_wp2_with fail
 obtain⟨W3,Y,Z,x1,x2,x3,I⟩:=GK w [.int .i64 t.op,.string (Oo t.sort),.string (Oo t.text),.int .i64 t.a,.int .i64 t.b,.slice a t.kids.length c] [.int .i64 0,.string ⟨#[]⟩,.string ⟨#[]⟩,.int .i64 0,.int .i64 0,.slice none 0 0] [.int .i64 t.op,.string (Oo t.sort),.string (Oo t.text),.int .i64 t.a,.int .i64 t.b,.slice none 0 0] 52 55 55;rw[Y];clear Y;have E:=Hd Z;have c6:=Hd x1;have M:=Hd x2;have O:=Hd x3;have a8:=Hd I;clear Z x1 x2 x3 I;refine (EF _ t.kids W3 (H.o.bl E.o) hs).mono ?_;rintro e w4 ⟨j,c4,rfl,d,A⟩;have a7:=E.up A;have K:=Hd d;have G:=Hd (M.o.bl M.o.lt A);have U:=Hd (O.o.bl O.o.lt A);clear d A;obtain⟨d0,d1,d2,d3,d4,d5⟩:=G.o.cs6;obtain⟨q0,q1,q2,q3,q4,q5⟩:=U.o.cs6;obtain⟨f0,f1,f2,f3,f4,f5⟩:=G.o.f6;have r5:=U.o.fz 5
 go_wp2_with fail
 clear d0 d1 d2 d3 d4 d5 q0 q1 q2 q3 q4 q5 f0 f1 f2 f3 f4 f5 r5;have b3:w.heap.size+1≠w.heap.size+1+1:=by omega
 have hA:Bx (w4.setCell ⟨w.heap.size+1+1,5,none⟩ (.slice (some ⟨j,0,none⟩) t.kids.length c4)) (w.heap.size+1) [.int .i64 0,.string ⟨#[]⟩,.string ⟨#[]⟩,.int .i64 0,.int .i64 0,.slice none 0 0]:=by
  obtain⟨ty,hh⟩:=G.o;refine⟨ty,?_⟩;rw[Jh _ ⟨w.heap.size+1+1,5,none⟩ _ _ b3];exact hh
 have hE:=((((((hA.set 0 (.int .i64 t.op)).set 1 (.string (Oo t.sort))).set 2 (.string (Oo t.text))).set 3 (.int .i64 t.a)).set 4 (.int .i64 t.b)).set 5 (.slice (some ⟨j,0,none⟩) t.kids.length c4));have V:=(((((((a7.o.setCell (p:=⟨w.heap.size+1+1,5,none⟩) (by show _<=w.heap.size+1+1;omega) (.slice (some ⟨j,0,none⟩) t.kids.length c4)).setCell (p:=⟨w.heap.size+1,0,none⟩) (by show _<=w.heap.size+1;omega) (.int .i64 t.op)).setCell (p:=⟨w.heap.size+1,1,none⟩) (by show _<=w.heap.size+1;omega) (.string (Oo t.sort))).setCell (p:=⟨w.heap.size+1,2,none⟩) (by show _<=w.heap.size+1;omega) (.string (Oo t.text))).setCell (p:=⟨w.heap.size+1,3,none⟩) (by show _<=w.heap.size+1;omega) (.int .i64 t.a)).setCell (p:=⟨w.heap.size+1,4,none⟩) (by show _<=w.heap.size+1;omega) (.int .i64 t.b)).setCell (p:=⟨w.heap.size+1,5,none⟩) (by show _<=w.heap.size+1;omega) (.slice (some ⟨j,0,none⟩) t.kids.length c4));have hO:(((((((w4.setCell ⟨w.heap.size+1+1,5,none⟩ (.slice (some ⟨j,0,none⟩) t.kids.length c4)).setCell ⟨w.heap.size+1,0,none⟩ (.int .i64 t.op)).setCell ⟨w.heap.size+1,1,none⟩ (.string (Oo t.sort))).setCell ⟨w.heap.size+1,2,none⟩ (.string (Oo t.text))).setCell ⟨w.heap.size+1,3,none⟩ (.int .i64 t.a)).setCell ⟨w.heap.size+1,4,none⟩ (.int .i64 t.b)).setCell ⟨w.heap.size+1,5,none⟩ (.slice (some ⟨j,0,none⟩) t.kids.length c4)).ownsRow w.heap.size 3 1 (.slice (some ⟨j,0,none⟩) t.kids.length c4) t.kids.length (Nx t.kids):=by
  refine Kh (own_other' K.o (fun g hg=>?_)) E.o.size;have g1:=Ol K.o g hg;have I:=a8.o;have J:g≠w.heap.size+1:=by omega
  have n2:g≠w.heap.size+1+1:=by omega
  rw[Jh _ ⟨w.heap.size+1,5,none⟩ _ _ J,Jh _ ⟨w.heap.size+1,4,none⟩ _ _ J,Jh _ ⟨w.heap.size+1,3,none⟩ _ _ J,Jh _ ⟨w.heap.size+1,2,none⟩ _ _ J,Jh _ ⟨w.heap.size+1,1,none⟩ _ _ J,Jh _ ⟨w.heap.size+1,0,none⟩ _ _ J,Jh _ ⟨w.heap.size+1+1,5,none⟩ _ _ n2]
 obtain⟨e0,e1,e2,e3,e4,e5⟩:=hE.cs6;refine Jg (v:=.agg #[.int .i64 t.op,.string (Oo t.sort),.string (Oo t.text),.int .i64 t.a,.int .i64 t.b,.slice (some ⟨j,0,none⟩) t.kids.length c4]) ?_ rfl ⟨j,c4,rfl,hO,V⟩;clear hA hE V hO;simp[results,results23,go_sem,e0,e1,e2,e3,e4,e5]
def RZ (wr:World)(N:Nat)(xs:List Value)(T:List Tm)(i:Nat):Prop:=
 ∀ j (h:j<T.length),j<i->xs[j*6]? = some (.int .i64 T[j].op)/\xs[j*6+1]? = some (.string (Oo T[j].sort))/\xs[j*6+2]? = some (.string (Oo T[j].text))/\xs[j*6+3]? = some (.int .i64 T[j].a)/\xs[j*6+4]? = some (.int .i64 T[j].b)/\∃ va,xs[j*6+5]? = some va/\wr.ownsRow N 3 1 va T[j].kids.length (Nx T[j].kids)
theorem RZ.next {wr wr':World}{N:Nat}(hx:xs.length=T.length*6)(h:RZ wr N xs T i)(hi:i<T.length){va:Value}(hk:∀ k,N<=k->k<wr.heap.size->wr'.heap[k]? = wr.heap[k]?)(hva:wr'.ownsRow N 3 1 va T[i].kids.length (Nx T[i].kids)) :
 RZ wr' N ((((((xs.set (i*6) (.int .i64 T[i].op)).set (i*6+1) (.string (Oo T[i].sort))).set (i*6+2) (.string (Oo T[i].text))).set (i*6+3) (.int .i64 T[i].a)).set (i*6+4) (.int .i64 T[i].b)).set (i*6+5) va) T (i+1):=by
 intro j d A
 by_cases e:j=i
 ·subst e;refine⟨?_,?_,?_,?_,?_,va,?_,hva⟩
  ·rw[J9 (by omega),J9 (by omega),J9 (by omega),J9 (by omega),J9 (by omega),Y7 (by first|omega|(simp;omega))]
  ·rw[J9 (by omega),J9 (by omega),J9 (by omega),J9 (by omega),Y7 (by first|omega|(simp;omega))]
  ·rw[J9 (by omega),J9 (by omega),J9 (by omega),Y7 (by first|omega|(simp;omega))]
  ·rw[J9 (by omega),J9 (by omega),Y7 (by first|omega|(simp;omega))]
  ·rw[J9 (by omega),Y7 (by first|omega|(simp;omega))]
  rw[Y7 (by first|omega|(simp;omega))]
 obtain⟨G,I,h2,h3,h4,E,h5,hb⟩:=h j d (by omega);refine⟨?_,?_,?_,?_,?_,E,?_,own_other' hb (fun g hg=>hk g (Ol hb g hg) (hb.lt g hg).2)⟩<;>rw[J9 (by omega),J9 (by omega),J9 (by omega),J9 (by omega),J9 (by omega),J9 (by omega)]<;>assumption
theorem Q5 (v1 v2:Value)(L:List (List UInt8))(w:World)(h1:O3 w v1 L)(h2:O3 w v2 L) :
 Calls prog 39 #[v1,v2] w fun e w'=>e=.returned (.bool true)/\Up w w':=by
 obtain⟨U,c1,rfl,Z,m1,r1⟩:=h1;obtain⟨V,c2,rfl,l2,m2,r2⟩:=h2;unfold maxLen at m1 m2;have M:=Hd r1;have O:=Hd r2;clear r1 r2
 go_in
 go_wp2
 go_loopw [5] (fun iv wr=>∃ i:Nat,i<=L.length/\iv=.int .i64 (i:Nat)/\Up w wr) (fun iv _=>L.length - (intOf iv).toNat)
 case atStart=>exact⟨0,Jr _,rfl,Je _ _⟩
 obtain⟨i,Y,rfl,j⟩:=hrel;have J:=Hd j
 by_cases d:i<L.length
 ·obtain⟨b1,rfl,I,A⟩:∃ b,U=some ⟨b,0,none⟩/\b<w.heap.size/\∀ i (h:i<L.length),w.cell? ⟨b,i,none⟩=some (.string (Oo L[i])):=by
   rcases M.o with h|h
   ·rw[h] at d;exact absurd d (J2 _)
   exact h
  obtain⟨b2,rfl,hb2,E⟩:∃ b,V=some ⟨b,0,none⟩/\b<w.heap.size/\∀ i (h:i<L.length),w.cell? ⟨b,i,none⟩=some (.string (Oo L[i])):=by
   rcases O.o with h|h
   ·rw[h] at d;exact absurd d (J2 _)
   exact h
  have K:=A i d;have m0:=E i d;rw[<-j.cell (p:=⟨b1,i,none⟩) I] at K;rw[<-j.cell (p:=⟨b2,i,none⟩) hb2] at m0;generalize Oo L[i]=s at K m0;clear j A E
  go_wp2
  go_region
  all_goals
   have G:=Hd J.o.drew
   go_wp2
   go_roundw
   case rel=>exact⟨i+1,by omega,by go_num,G.o⟩
   simp[intOf];omega
 clear j
 go_wp2
 go_ret
 exact⟨rfl,J.o⟩
theorem OZ (v1 v2:Value)(L:List Int)(w:World)(h1:Kg w v1 L)(h2:Kg w v2 L) :
 Calls prog 53 #[v1,v2] w fun e w'=>e=.returned (.bool true)/\Up w w':=by
 obtain⟨U,c1,rfl,Z,m1,r1⟩:=h1;obtain⟨V,c2,rfl,l2,m2,r2⟩:=h2;unfold maxLen at m1 m2;have M:=Hd r1;have O:=Hd r2;clear r1 r2
 go_in
 go_wp2
 go_loopw [5] (fun iv wr=>∃ i:Nat,i<=L.length/\iv=.int .i64 (i:Nat)/\Up w wr) (fun iv _=>L.length - (intOf iv).toNat)
 case atStart=>exact⟨0,Jr _,rfl,Je _ _⟩
 obtain⟨i,Y,rfl,j⟩:=hrel;have J:=Hd j
 by_cases d:i<L.length
 ·obtain⟨b1,rfl,I,A⟩:∃ b,U=some ⟨b,0,none⟩/\b<w.heap.size/\∀ i (h:i<L.length),w.cell? ⟨b,i,none⟩=some (.int .i64 L[i]):=by
   rcases M.o with h|h
   ·rw[h] at d;exact absurd d (J2 _)
   exact h
  obtain⟨b2,rfl,hb2,E⟩:∃ b,V=some ⟨b,0,none⟩/\b<w.heap.size/\∀ i (h:i<L.length),w.cell? ⟨b,i,none⟩=some (.int .i64 L[i]):=by
   rcases O.o with h|h
   ·rw[h] at d;exact absurd d (J2 _)
   exact h
  have K:=A i d;have m0:=E i d;rw[<-j.cell (p:=⟨b1,i,none⟩) I] at K;rw[<-j.cell (p:=⟨b2,i,none⟩) hb2] at m0;generalize L[i]=s at K m0;clear j A E
  go_wp2
  go_region
  all_goals
   have G:=Hd J.o.drew
   go_wp2
   go_roundw
   case rel=>exact⟨i+1,by omega,by go_num,G.o⟩
   simp[intOf];omega
 clear j
 go_wp2
 go_ret
 exact⟨rfl,J.o⟩
theorem Le (f:Fn)(va vb:Value)(w:World)(h1:O3 w va f.args)(h2:O3 w vb f.args) :
 Calls prog 19 #[.agg #[.string (Oo f.name),va,.string (Oo f.sort)],.agg #[.string (Oo f.name),vb,.string (Oo f.sort)]] w fun e w'=>e=.returned (.bool true)/\Up w w':=by
 have O:=Hd h1;have U:=Hd h2;obtain⟨Y,c1,rfl,-,-,-⟩:=h1;obtain⟨Z,c2,rfl,-,-,-⟩:=h2;generalize Oo f.name=I;generalize Oo f.sort=J
 go_in
 go_wp2_with fail
 obtain⟨V,E,hb2,K,M,-⟩:=VO w [.string I,.slice Y f.args.length c1,.string J] [.string I,.slice Z f.args.length c2,.string J] 45 45;have h:=Hd hb2;have j:=Hd K;have A:=Hd M;rw[E];clear E hb2 K M;refine (Q5 _ _ f.args V (O.o.bl h.o) (U.o.bl h.o)).mono ?_;rintro e w3 ⟨rfl,d⟩;have G:=h.up d;obtain⟨b0,b1,b2⟩:=(j.o.bl j.o.lt d).c3;obtain⟨d0,d1,d2⟩:=(A.o.bl A.o.lt d).c3;clear d
 go_wp2
 go_ret
 exact⟨rfl,G.o⟩
theorem OY (v1 v2:Value)(L:List Fn)(w:World)(h1:E9 w v1 L)(h2:E9 w v2 L) :
 Calls prog 40 #[v1,v2] w fun e w'=>e=.returned (.bool true)/\Up w w':=by
 obtain⟨p1,c1,rfl,l1,m1,r1⟩:=h1;obtain⟨p2,c2,rfl,l2,m2,r2⟩:=h2;unfold maxLen at m1 m2;have H1:=Hd r1;have H2:=Hd r2;clear r1 r2
 go_in
 go_wp2
 go_loopw [5] (fun iv wr=>∃ i:Nat,i<=L.length/\iv=.int .i64 (i:Nat)/\Up w wr) (fun iv _=>L.length - (intOf iv).toNat)
 case atStart=>exact⟨0,Jr _,rfl,Je _ _⟩
 obtain⟨i,hi,rfl,O⟩:=hrel;have j:=Hd O
 by_cases d:i<L.length
 ·obtain⟨b1,rfl,E,K⟩:∃ b,p1=some ⟨b,0,none⟩/\b<w.heap.size/\∀ i (h:i<L.length),w.cell? ⟨b,i*3,none⟩=some (.string (Oo L[i].name))/\(∃ va,w.cell? ⟨b,i*3+1,none⟩=some va/\O3 w va L[i].args)/\w.cell? ⟨b,i*3+2,none⟩=some (.string (Oo L[i].sort)):=by
   rcases H1.o with h|h
   ·rw[h] at d;exact absurd d (J2 _)
   exact h
  obtain⟨b2,rfl,hb2,M⟩:∃ b,p2=some ⟨b,0,none⟩/\b<w.heap.size/\∀ i (h:i<L.length),w.cell? ⟨b,i*3,none⟩=some (.string (Oo L[i].name))/\(∃ va,w.cell? ⟨b,i*3+1,none⟩=some va/\O3 w va L[i].args)/\w.cell? ⟨b,i*3+2,none⟩=some (.string (Oo L[i].sort)):=by
   rcases H2.o with h|h
   ·rw[h] at d;exact absurd d (J2 _)
   exact h
  obtain⟨k0,⟨va,k1,I⟩,k2⟩:=K i d;obtain⟨m0,⟨vb,m1,J⟩,m2⟩:=M i d;obtain⟨f,hx⟩:=Oa (L[i]);rw[hx] at k0 k2 m0 m2 I J;have V:=Hd I;have Y:=Hd J;obtain⟨pa,ca,rfl,-,-,-⟩:=I;obtain⟨pb,cb,rfl,-,-,-⟩:=J;have A:Hid (∀ W,Up w W->W.cell? ⟨b1,i*3,none⟩=some (.string (Oo f.name))/\W.cell? ⟨b1,i*3+1,none⟩=some (.slice pa f.args.length ca)/\W.cell? ⟨b1,i*3+2,none⟩=some (.string (Oo f.sort))/\W.cell? ⟨b2,i*3,none⟩=some (.string (Oo f.name))/\W.cell? ⟨b2,i*3+1,none⟩=some (.slice pb f.args.length cb)/\W.cell? ⟨b2,i*3+2,none⟩=some (.string (Oo f.sort))):=fun W h=>⟨(h.cell (p:=⟨b1,i*3,none⟩) E).trans k0,(h.cell (p:=⟨b1,i*3+1,none⟩) E).trans k1,(h.cell (p:=⟨b1,i*3+2,none⟩) E).trans k2,(h.cell (p:=⟨b2,i*3,none⟩) hb2).trans m0,(h.cell (p:=⟨b2,i*3+1,none⟩) hb2).trans m1,(h.cell (p:=⟨b2,i*3+2,none⟩) hb2).trans m2⟩;have Z:=A.o wr O;clear O K M hx k0 k1 k2 m0 m1 m2 Z;have i1:(i:Int)<(L.length:Int):=by omega
  go_wp2
  go_region_held3 (fun W=>W.cell? ⟨b1,i*3,none⟩=some (.string (Oo f.name))/\W.cell? ⟨b1,i*3+1,none⟩=some (.slice pa f.args.length ca)/\W.cell? ⟨b1,i*3+2,none⟩=some (.string (Oo f.sort))/\W.cell? ⟨b2,i*3,none⟩=some (.string (Oo f.name))/\W.cell? ⟨b2,i*3+1,none⟩=some (.slice pb f.args.length cb)/\W.cell? ⟨b2,i*3+2,none⟩=some (.string (Oo f.sort)))
   (first
     | exact A.o _ j.o.drew
     | exact A.o _ (j.o.drew.trans (G.mono j.o.size)))
   ((go_at_call 19;refine (Le f _ _ _ (V.o.bl j.o.drew) (Y.o.bl j.o.drew)).mono ?_;rintro e w2 ⟨rfl,G⟩))
  all_goals
   have U:Hid (Up w w2):=j.o.drew.trans (G.mono j.o.size);clear G
   go_wp2
   go_roundw
   case rel=>exact⟨i+1,by omega,by go_num,U.o⟩
   simp[intOf];omega
 clear O
 go_wp2
 go_ret
 exact⟨rfl,j.o⟩
theorem OV (t:Tm)(va vb:Value)(w:World)(h1:Kg w va t.kids)(h2:Kg w vb t.kids) :
 Calls prog 25 #[.agg #[.int .i64 t.op,.string (Oo t.sort),.string (Oo t.text),.int .i64 t.a,.int .i64 t.b,va],.agg #[.int .i64 t.op,.string (Oo t.sort),.string (Oo t.text),.int .i64 t.a,.int .i64 t.b,vb]] w fun e w'=>e=.returned (.bool true)/\Up w w':=by
 have K:=Hd h1;have M:=Hd h2;obtain⟨Y,c1,rfl,-,-,-⟩:=h1;obtain⟨Z,c2,rfl,-,-,-⟩:=h2;generalize Oo t.sort=E;generalize Oo t.text=G
 go_in
 go_wp2_with fail
 obtain⟨V,h,hb2,I,J,-⟩:=VO w [.int .i64 t.op,.string E,.string G,.int .i64 t.a,.int .i64 t.b,.slice Y t.kids.length c1] [.int .i64 t.op,.string E,.string G,.int .i64 t.a,.int .i64 t.b,.slice Z t.kids.length c2] 55 55;have d:=Hd hb2;have O:=Hd I;have U:=Hd J;rw[h];clear h hb2 I J;refine (OZ _ _ t.kids V (K.o.bl d.o) (M.o.bl d.o)).mono ?_;rintro e w3 ⟨rfl,j⟩;have A:=d.up j;clear j
 go_wp2
 go_ret
 exact⟨rfl,A.o⟩
theorem Ss (v1 v2:Value)(L:List Tm)(w:World)(h1:K9 w v1 L)(h2:K9 w v2 L) :
 Calls prog 41 #[v1,v2] w fun e w'=>e=.returned (.bool true)/\Up w w':=by
 obtain⟨p1,c1,rfl,l1,m1,r1⟩:=h1;obtain⟨p2,c2,rfl,l2,m2,r2⟩:=h2;unfold maxLen at m1 m2;have H1:=Hd r1;have H2:=Hd r2;clear r1 r2
 go_in
 go_wp2
 go_loopw [5] (fun iv wr=>∃ i:Nat,i<=L.length/\iv=.int .i64 (i:Nat)/\Up w wr) (fun iv _=>L.length - (intOf iv).toNat)
 case atStart=>exact⟨0,Jr _,rfl,Je _ _⟩
 obtain⟨i,hi,rfl,O⟩:=hrel;have A:=Hd O
 by_cases j:i<L.length
 ·obtain⟨b1,rfl,d,K⟩:∃ b,p1=some ⟨b,0,none⟩/\b<w.heap.size/\∀ i (h:i<L.length),w.cell? ⟨b,i*6,none⟩=some (.int .i64 L[i].op)/\w.cell? ⟨b,i*6+1,none⟩=some (.string (Oo L[i].sort))/\w.cell? ⟨b,i*6+2,none⟩=some (.string (Oo L[i].text))/\w.cell? ⟨b,i*6+3,none⟩=some (.int .i64 L[i].a)/\w.cell? ⟨b,i*6+4,none⟩=some (.int .i64 L[i].b)/\∃ va,w.cell? ⟨b,i*6+5,none⟩=some va/\Kg w va L[i].kids:=by
   rcases H1.o with h|h
   ·rw[h] at j;exact absurd j (J2 _)
   exact h
  obtain⟨b2,rfl,hb2,M⟩:∃ b,p2=some ⟨b,0,none⟩/\b<w.heap.size/\∀ i (h:i<L.length),w.cell? ⟨b,i*6,none⟩=some (.int .i64 L[i].op)/\w.cell? ⟨b,i*6+1,none⟩=some (.string (Oo L[i].sort))/\w.cell? ⟨b,i*6+2,none⟩=some (.string (Oo L[i].text))/\w.cell? ⟨b,i*6+3,none⟩=some (.int .i64 L[i].a)/\w.cell? ⟨b,i*6+4,none⟩=some (.int .i64 L[i].b)/\∃ va,w.cell? ⟨b,i*6+5,none⟩=some va/\Kg w va L[i].kids:=by
   rcases H2.o with h|h
   ·rw[h] at j;exact absurd j (J2 _)
   exact h
  obtain⟨k0,k1,k2,k3,k4,va,k5,I⟩:=K i j;obtain⟨m0,m1,m2,m3,m4,vb,m5,J⟩:=M i j;obtain⟨t,hx⟩:=Oa (L[i]);rw[hx] at k0 k1 k2 k3 k4 m0 m1 m2 m3 m4 I J;have V:=Hd I;have Y:=Hd J;obtain⟨pa,ca,rfl,-,-,-⟩:=I;obtain⟨pb,cb,rfl,-,-,-⟩:=J;have E:Hid (∀ W,Up w W->W.cell? ⟨b1,i*6,none⟩=some (.int .i64 t.op)/\W.cell? ⟨b1,i*6+1,none⟩=some (.string (Oo t.sort))/\W.cell? ⟨b1,i*6+2,none⟩=some (.string (Oo t.text))/\W.cell? ⟨b1,i*6+3,none⟩=some (.int .i64 t.a)/\W.cell? ⟨b1,i*6+4,none⟩=some (.int .i64 t.b)/\W.cell? ⟨b1,i*6+5,none⟩=some (.slice pa t.kids.length ca)/\W.cell? ⟨b2,i*6,none⟩=some (.int .i64 t.op)/\W.cell? ⟨b2,i*6+1,none⟩=some (.string (Oo t.sort))/\W.cell? ⟨b2,i*6+2,none⟩=some (.string (Oo t.text))/\W.cell? ⟨b2,i*6+3,none⟩=some (.int .i64 t.a)/\W.cell? ⟨b2,i*6+4,none⟩=some (.int .i64 t.b)/\W.cell? ⟨b2,i*6+5,none⟩=some (.slice pb t.kids.length cb)):=fun W h=>⟨(h.cell (p:=⟨b1,i*6,none⟩) d).trans k0,(h.cell (p:=⟨b1,i*6+1,none⟩) d).trans k1,(h.cell (p:=⟨b1,i*6+2,none⟩) d).trans k2,(h.cell (p:=⟨b1,i*6+3,none⟩) d).trans k3,(h.cell (p:=⟨b1,i*6+4,none⟩) d).trans k4,(h.cell (p:=⟨b1,i*6+5,none⟩) d).trans k5,(h.cell (p:=⟨b2,i*6,none⟩) hb2).trans m0,(h.cell (p:=⟨b2,i*6+1,none⟩) hb2).trans m1,(h.cell (p:=⟨b2,i*6+2,none⟩) hb2).trans m2,(h.cell (p:=⟨b2,i*6+3,none⟩) hb2).trans m3,(h.cell (p:=⟨b2,i*6+4,none⟩) hb2).trans m4,(h.cell (p:=⟨b2,i*6+5,none⟩) hb2).trans m5⟩;have Z:=E.o wr O;clear O K M hx k0 k1 k2 k3 k4 k5 m0 m1 m2 m3 m4 m5 Z;have i1:(i:Int)<(L.length:Int):=by omega
  go_wp2
  go_region_held3 (fun W=>W.cell? ⟨b1,i*6,none⟩=some (.int .i64 t.op)/\W.cell? ⟨b1,i*6+1,none⟩=some (.string (Oo t.sort))/\W.cell? ⟨b1,i*6+2,none⟩=some (.string (Oo t.text))/\W.cell? ⟨b1,i*6+3,none⟩=some (.int .i64 t.a)/\W.cell? ⟨b1,i*6+4,none⟩=some (.int .i64 t.b)/\W.cell? ⟨b1,i*6+5,none⟩=some (.slice pa t.kids.length ca)/\W.cell? ⟨b2,i*6,none⟩=some (.int .i64 t.op)/\W.cell? ⟨b2,i*6+1,none⟩=some (.string (Oo t.sort))/\W.cell? ⟨b2,i*6+2,none⟩=some (.string (Oo t.text))/\W.cell? ⟨b2,i*6+3,none⟩=some (.int .i64 t.a)/\W.cell? ⟨b2,i*6+4,none⟩=some (.int .i64 t.b)/\W.cell? ⟨b2,i*6+5,none⟩=some (.slice pb t.kids.length cb))
   (first
     | exact E.o _ A.o.drew
     | exact E.o _ (A.o.drew.trans (G.mono A.o.size)))
   ((go_at_call 25;refine (OV t _ _ _ (V.o.bl A.o.drew) (Y.o.bl A.o.drew)).mono ?_;rintro e w2 ⟨rfl,G⟩))
  all_goals
   have U:Hid (Up w w2):=A.o.drew.trans (G.mono A.o.size);clear G
   go_wp2
   go_roundw
   case rel=>exact⟨i+1,by omega,by go_num,U.o⟩
   simp[intOf];omega
 clear O
 go_wp2
 go_ret
 exact⟨rfl,A.o⟩
theorem Cj {us uf ut:Value}(w:World)(h1:BankAt w us uf ut S F T)(h2:BankAt w vs vf vt S F T) :
 Calls prog 11 #[.agg #[us,uf,ut],.agg #[vs,vf,vt]] w fun e w'=>e=.returned (.bool true)/\Up w w':=by
 obtain⟨p1,c1,e1,-,-,-⟩:=h1.s;obtain⟨p2,c2,e2,-,-,-⟩:=h1.f;obtain⟨p3,c3,e3,-,-,-⟩:=h1.t;obtain⟨q1,d1,e4,-,-,-⟩:=h2.s;obtain⟨q2,d2,e5,-,-,-⟩:=h2.f;obtain⟨q3,d3,e6,-,-,-⟩:=h2.t;have U:=Hd h1;have V:=Hd h2;subst e1 e2 e3 e4 e5 e6;clear h1 h2
 go_in
 go_wp2_with fail
 obtain⟨W2,M,hb2,x1,x2,-⟩:=VO w [.slice p1 S.length c1,.slice p2 F.length c2,.slice p3 T.length c3] [.slice q1 S.length d1,.slice q2 F.length d2,.slice q3 T.length d3] 31 31;have j:=Hd hb2;have J:=Hd x1;have K:=Hd x2;rw[M];clear M hb2 x1 x2;refine (Q5 _ _ S W2 (U.o.s.bl j.o) (V.o.s.bl j.o)).mono ?_;rintro e w3 ⟨rfl,d⟩;have A:=j.up d;have G:=Hd (J.o.bl J.o.lt d);have I:=Hd (K.o.bl K.o.lt d);clear d;obtain⟨b0,b1,b2⟩:=G.o.c3;obtain⟨g0,g1,g2⟩:=I.o.c3
 go_wp2_with fail
 refine (OY _ _ F w3 (U.o.f.bl A.o) (V.o.f.bl A.o)).mono ?_;rintro e w4 ⟨rfl,h⟩;have E:=A.up h;have Z:=Hd (G.o.bl G.o.lt h);have a7:=Hd (I.o.bl I.o.lt h);clear h b0 b1 b2 g0 g1 g2;obtain⟨b0,b1,b2⟩:=Z.o.c3;obtain⟨g0,g1,g2⟩:=a7.o.c3
 go_wp2_with fail
 refine (Ss _ _ T w4 (U.o.t.bl E.o) (V.o.t.bl E.o)).mono ?_;rintro e w5 ⟨rfl,O⟩;have Y:=E.up O;clear O
 go_wp2
 go_ret
 exact⟨rfl,Y.o⟩
end Go.Proofs.YtdmdmgfjpomdbaaGreatDoor
namespace Go.Proofs.YtdmdmgfjpomdbaaGreatDoor
open ChangeShapes WideShapes ChangeAt RowKit
def BD (T:List Tm):Prop:=∀ t∈T,(Lit.int .i64 t.op).wf=true/\(Lit.int .i64 t.a).wf=true/\(Lit.int .i64 t.b).wf=true
theorem SmallB.z {S:List (List UInt8)}{F:List Fn}{T:List Tm}(h:SmallB S F T)(hw:BD T):BankZ S F T:=
 ⟨h.s.1,h.f.1,h.t.1,h.s.2,fun f hf=>⟨(h.f.2 f hf).1,(h.f.2 f hf).2.1.2,(h.f.2 f hf).2.2⟩,fun t ht=>⟨(h.t.2 t ht).1,(h.t.2 t ht).2.1,(h.t.2 t ht).2.2,hw t ht⟩⟩
end Go.Proofs.YtdmdmgfjpomdbaaGreatDoor
