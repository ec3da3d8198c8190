import Derived.Test.YtfkagjelljnpdaaGreatDoorP24
import Derived.Test.YtfkagjelljnpdaaGreatDoorP12
set_option linter.all false
set_option maxRecDepth 100000
set_option maxHeartbeats 4000000
namespace Go.Proofs.YtfkagjelljnpdaaGreatDoor
open ChangeShapes WideShapes ChangeAt RowKit
theorem Q0(x:List UInt8):(Oo x).size=x.length:=by show x.toArray.size=_;simp
end Go.Proofs.YtfkagjelljnpdaaGreatDoor
namespace Go.Proofs.YtfkagjelljnpdaaGreatDoor
open ChangeShapes WideShapes ChangeAt RowKit Proofs.Tryz
theorem Km{w w':World}{base:Nat}{e:TypeId}{s:Nat}{v:Value}{n:Nat}{xs:List Value}(h:w.ownsRow base e s v n xs)(hb:Up w w'):w'.ownsRow base e s v n xs:=own_other' h (fun g hg=>hb.block g (h.lt g hg).2)
theorem ZF{w:World}{base g n cap s:Nat}{e:TypeId}{xs:List Value}(h:w.ownsRow base e s (.slice (some ⟨g,0,none⟩) n cap) n xs)(j:Nat)(hj:j<n*s):∃x,w.cell? ⟨g,j,none⟩=some x:=by
 rw[h.cellAt j hj];exact⟨_,Jg (by have:=h.1;omega)⟩
theorem EC:(prog.info? 3).map (fun i=>(i.zero,i.size,i.bytes))=some (some (.int .i64 0),1,8):=by kernel_rfl
theorem Iv:∃i:TypeInfo,prog.info? 3=some i/\i.zero=some (.int .i64 0)/\i.size=1/\i.bytes=8:=info_parts EC
theorem LC(w:World)(A B:List Value)(ta tb:TypeId):∃W2,(w.alloc (.cells A.toArray ta)).alloc (.cells B.toArray tb)=W2/\Up w W2/\Bx W2 w.heap.size A/\Bx W2 (w.heap.size+1) B/\W2.heap.size=w.heap.size+1+1:=by
 refine⟨_,rfl,Eu (Oy _ _) _,(Oq w A ta).alloc _,?_,by simp⟩;have h:=Oq (w.alloc (.cells A.toArray ta)) B tb
 rwa [show(w.alloc (.cells A.toArray ta)).heap.size=w.heap.size+1 by simp]at h
theorem MS(w:World)(A B C:List Value)(ta tb tc:TypeId):∃W3,((w.alloc (.cells A.toArray ta)).alloc (.cells B.toArray tb)).alloc (.cells C.toArray tc)=W3/\Up w W3/\Bx W3 w.heap.size A/\Bx W3 (w.heap.size+1) B/\Bx W3 (w.heap.size+1+1) C/\W3.heap.size=w.heap.size+1+1+1:=by
 obtain⟨q,h,hb,E,G,j⟩:=LC w A B ta tb;refine⟨_,rfl,?_,?_,?_,?_,?_⟩
 ·rw[h];exact Eu hb _
 ·rw[h];exact E.alloc _
 ·rw[h];exact G.alloc _
 ·rw[h,<-j];exact Oq q C tc
 rw[h,Ju,j]
end Go.Proofs.YtfkagjelljnpdaaGreatDoor
namespace Go.Proofs.YtfkagjelljnpdaaGreatDoor
open ChangeShapes WideShapes ChangeAt RowKit
end Go.Proofs.YtfkagjelljnpdaaGreatDoor
namespace Go.Proofs.YtfkagjelljnpdaaGreatDoor
open ChangeShapes WideShapes ChangeAt RowKit Proofs.Tryz
def Ea(l:List UInt8):Bool:=decide ((Lib.cut (Lib.trimPrefix l [45]) [47]).1.length<=30)&&decide ((Lib.cut (Lib.trimPrefix l [45]) [47]).2.1.length<=30)
theorem Bz(l p:List UInt8):(Lib.trimPrefix l p).length<=l.length:=by
 unfold Lib.trimPrefix
 split
 ·rw[Yr];omega
 exact leR
theorem Rv(s:ByteArray)(m:Int)(w:World)(hs:s.size<=1048576)(hm:w.cell? ⟨1,0,none⟩=some (.int .i64 m)) :
 Calls prog 158 #[.string s] w fun e w'=>e=.returned (.bool (Ea s.data.toList))/\Up w w':=by
 have h:Hid (Ea s.data.toList=(decide ((Lib.cut (Lib.trimPrefix s.data.toList [45]) [47]).1.length<=30)&&decide ((Lib.cut (Lib.trimPrefix s.data.toList [45]) [47]).2.1.length<=30))):=rfl;have hl:(Lib.trimPrefix s.data.toList [45]).length<=1048576:=Jm (Bz _ _) (by rw[Oc];exact hs)
 go_in
 go_wp2_with fail
 refine(Tryz.strings_TrimPrefix s ⟨#[45]⟩ _).mono ?_;rw[show(⟨#[45]⟩:ByteArray).data.toList=[45]from rfl];generalize Lib.trimPrefix s.data.toList [45]=R at h hl ⊢;rintro e w1 ⟨rfl,rfl⟩
 go_wp2_with fail
 refine(Tryz.strings_Cut ⟨R.toArray⟩ ⟨#[47]⟩ m _ (by show R.toArray.size<_;simp;omega) hm).mono ?_;rw[show(⟨#[47]⟩:ByteArray).data.toList=[47]from rfl,show(⟨R.toArray⟩:ByteArray).data.toList=R from rfl];generalize Lib.cut R [47]=C at h ⊢;obtain⟨c1,c2,c3⟩:=C;simp only at h ⊢;rintro e V ⟨rfl,nq,rfl⟩;have E:(⟨c1.toArray⟩:ByteArray).size=c1.length:=by show c1.toArray.size=_;simp
 have J:(⟨c2.toArray⟩:ByteArray).size=c2.length:=by show c2.toArray.size=_;simp
 by_cases j:c1.length<=30
 ·by_cases q:c2.length<=30
  ·have G:Hid (Ea s.data.toList=true):=by unfold Hid;rw[h.o,Jb j,Jb q];rfl
   go_wp2
   go_ret
   exact⟨Oz (by rw[G.o];first|rfl|(rw[Jv];omega)),below_drewN (Ji _ _) _⟩
  have G:Hid (Ea s.data.toList=false):=by unfold Hid;rw[h.o,Jb j,Jd q];rfl
  have O:30<c2.length:=by omega
  go_wp2
  go_ret
  exact⟨Oz (by rw[G.o];first|rfl|(rw[J0];omega)),below_drewN (Ji _ _) _⟩
 have G:Hid (Ea s.data.toList=false):=by unfold Hid;rw[h.o,Jd j];rfl
 have K:30<c1.length:=by omega
 go_wp2
 go_ret
 exact⟨Oz (by rw[G.o]),below_drewN (Ji _ _) _⟩
end Go.Proofs.YtfkagjelljnpdaaGreatDoor
namespace Go.Proofs.YtfkagjelljnpdaaGreatDoor
open ChangeShapes WideShapes ChangeAt RowKit
variable {l:List UInt8}
def Ab(so tx:List UInt8):Prop:=Ea tx=true/\((so=Uu/\Q.Ol (Oo tx)=true)∨(so=Ui/\∃k x y,Q.Kb (Oo tx) k/\Q.P7 (Oo tx) k x y))
def XE(s:ByteArray):Option Nat:=s.data.toList.findIdx? (fun c=>decide (c=47))
theorem UU(s:ByteArray):Q.Kb s (XE s):=by
 unfold XE
 cases h:s.data.toList.findIdx? (fun c=>decide (c=47))with
 | none=>
   intro j e;have:=Zl.1 h 47 (Zb e);simp at this
 | some i=>
   obtain⟨G,q,E⟩:=J9.1 h;refine⟨by rw[Jg G,of_decide_eq_true q],fun j hj e=>?_⟩;rw[Jg (by omega)]at e;exact E j hj (Jb (Option.some.inj e))
def CZ(s:ByteArray):Bool:=
 match XE s with
 | none=>Q.Ol s
 | some i=>Q.Ol (Q.Xv s (some i))&&Q.Ol (Q.Gw s (some i))&&decide (Q.G9 (Q.Gw s (some i))≠0/\Q.Xv s (some i)≠Q.Kc [48]/\Q.Gw s (some i)≠Q.Kc [49]/\Q.Ur (Q.Gw s (some i))=false/\Int.gcd (Q.G9 (Q.Xv s (some i))) (Q.G9 (Q.Gw s (some i)))=1)
theorem QT(s:ByteArray):CZ s=true↔∃k x y,Q.Kb s k/\Q.P7 s k x y:=by
 have H:CZ s=true↔∃x y,Q.P7 s (XE s) x y:=by
  unfold CZ
  cases XE s with
  | none=>exact⟨fun h=>⟨_,_,h,rfl,rfl⟩,fun⟨_,_,h,_⟩=>h⟩
  | some i=>
    simp only[Jw,J1];exact⟨fun h=>⟨_,_,h.1,h.2,rfl,rfl⟩,fun⟨_,_,h1,h2,_⟩=>⟨h1,h2⟩⟩
 rw[H];refine⟨fun⟨x,y,h⟩=>⟨_,x,y,UU s,h⟩,fun⟨k,x,y,hk,h⟩=>?_⟩;rw[Q.Ku hk (UU s)]at h;exact⟨x,y,h⟩
def Ep(t:Tm):Bool:=Ea t.text&&(decide (t.sort=Uu)&&Q.Ol (Oo t.text)||decide (t.sort=Ui)&&CZ (Oo t.text))
theorem Cj(t:Tm):Ep t=true↔Ab t.sort t.text:=by
 unfold Ep Ab;rw[<-QT];simp only[Jw,Vn,J1]
theorem L0(s:ByteArray)(h:Q.Ol s=true)(neg:Bool)(t:List Nat)(hok:Q.C1 t)(htr:Q.Kl t)(hx:Q.sg neg (Q.val t)=Q.G9 s):Q.Il t=(Q.dgs s).size:=by
 unfold Q.Ol at h;simp only[Jw,Vn,J1,Z8,J0,Jx]at h;obtain⟨⟨⟨Z,h2⟩,R⟩,V⟩:=h;have j:∀c∈(Q.dgs s).data.toList,Q.P8 c:=fun c hc=>by have:=R c hc;unfold Q.E5 at this;simpa[Q.P8]using this
 have E:Q.C1 (Q.UI s):=Q.Xj _ (Q.KX _ j);have G:Q.val t=Q.val (Q.UI s):=by
  unfold Q.G9 at hx
  cases neg<;>cases hn:Q.Ur s<;>rw[hn]at hx<;>simp[Q.sg]at hx<;>omega
 obtain rfl:=Q.CP t (Q.UI s) hok E htr (Q.Gp _) G
 by_cases O:(Q.dgs s).data.toList.head? = some 48
 ·have h6:s.toList=[48]:=by
   rcases V with h|h
   ·exact absurd O h
   simpa using h
  have Y:s=Q.Kc [48]:=by
   rw[Jk]at h6;apply ByteArray.ext
   show s.data=[48].toArray
   rw[<-h6]
  have e:Q.Il (Q.UI (Q.Kc [48]))=(Q.dgs (Q.Kc [48])).size:=by kernel_rfl
  rw[Y];exact e
 have K:Q.textD (Q.UI s)=(Q.dgs s).data.toList:=Q.Ai (Q.dgs s).data.toList j O;have q:(Q.dgs s).data.toList.length=(Q.dgs s).size:=by simp
 have J:¬ (Q.UI s).length=0:=fun e=>by
  rw[Jt e]at K;have h8:(Q.dgs s).data.toList.length=0:=by rw[<-K];rfl
  omega
 unfold Q.Il;rw[if_neg J,K,q]
theorem Mr(t:List Nat)(hok:Q.C1 t)(htr:Q.Kl t)(h:Q.Il t<=62):t.length<=600:=by
 by_cases j:t=[]
 ·rw[j];exact Jp _
 have:=Q.RA t hok htr j;unfold Q.Il at h;rw[if_neg (fun e=>j (Jt e))]at h;omega
theorem XG(h:∀j:Nat,l[j]? ≠ some 47):Lib.cut l [47]=(l,[],false):=by
 unfold Lib.cut;rw[Lib.index_one];have E:=Lib.indexByte_ge l 47
 by_cases q:Lib.indexByte l 47 = -1
 ·rw[q];rfl
 obtain⟨o,G⟩:=Vg (show 0<=Lib.indexByte l 47 by omega);exact absurd (Lib.indexByte_some G).1 (h o)
theorem Sh{i:Nat}(h0:l[i]? = some 47)(h:∀j:Nat,j<i->l[j]? ≠ some 47):Lib.cut l [47]=(l.take i,l.drop (i+1),true):=by
 unfold Lib.cut;rw[Lib.index_one];have J:=Lib.indexByte_ge l 47
 by_cases G:Lib.indexByte l 47 = -1
 ·exact absurd h0 (Lib.indexByte_none G i)
 obtain⟨o,q⟩:=Vg (show 0<=Lib.indexByte l 47 by omega);have E:=Lib.indexByte_some q;have:o=i:=by
  rcases Nat.lt_trichotomy o i with hl|hl|hl
  ·exact absurd E.1 (h o hl)
  ·exact hl
  exact absurd h0 (E.2 i hl)
 subst this;rw[q,if_pos (by simp)];rfl
theorem Qu(r:List UInt8):Lib.trimPrefix (45::r) [45]=r:=by
 simp[Lib.trimPrefix,Lib.hasPrefix]
theorem Ra(h:l.head? ≠ some 45):Lib.trimPrefix l [45]=l:=by
 cases l with
 | nil=>rfl
 | cons c r=>
   have:¬ (45:UInt8)=c:=fun e=>h (by simp[<-e]);simp[Lib.trimPrefix,Lib.hasPrefix,this]
theorem Tq(l:List UInt8):Q.Ur (Oo l)=decide (l.head? = some 45):=by
 unfold Q.Ur;rw[Jk];have:((Oo l).extract 0 1).data.toList=l.take 1:=by
  rw[Zi,Z7]
  show(l.toArray.toList.drop 0).take (1 - 0)=_
  simp
 rw[this]
 cases l with
 | nil=>rfl
 | cons c r=>by_cases h:c=45<;>simp[h]
theorem Q9(l:List UInt8):(Q.dgs (Oo l)).size=(Lib.trimPrefix l [45]).length:=by
 unfold Q.dgs;rw[Tq]
 cases l with
 | nil=>rfl
 | cons c r=>
   by_cases h:c=45
   ·subst h;rw[Qu,if_pos (by simp),Yn];have:(Oo (45::r)).size=r.length+1:=by show(45::r).toArray.size=_;simp
    omega
   rw[Ra (by simpa using h),if_neg (by simpa using h)]
   show(c::r).toArray.size=_
   simp
theorem Lj(l:List UInt8)(i:Nat):Q.Xv (Oo l) (some i)=Oo (l.take i):=by
 apply ByteArray.ext
 show((Oo l).extract 0 i).data=_
 rw[Zi]
 show l.toArray.extract 0 i=(l.take i).toArray
 apply Array.toList_inj.1;rw[Z7];simp[List.extract]
theorem KF(l:List UInt8)(i:Nat):Q.Gw (Oo l) (some i)=Oo (l.drop (i+1)):=by
 apply ByteArray.ext
 show((Oo l).extract (i+1) (Oo l).size).data=_
 rw[Zi]
 show l.toArray.extract (i+1) l.toArray.size=(l.drop (i+1)).toArray
 apply Array.toList_inj.1;rw[Z7]
 show(l.drop (i+1)).take (l.toArray.size - (i+1))=l.drop (i+1)
 exact Yf (by simp)
theorem Fp(h:Q.Kb (Oo l) none):Ea l=decide ((Q.dgs (Oo l)).size<=30):=by
 have q:∀j:Nat,l[j]? ≠ some 47:=fun j=>by have:=h j;rwa [Ov]at this
 have E:∀j:Nat,(Lib.trimPrefix l [45])[j]? ≠ some 47:=fun j=>by
  by_cases hn:l.head? = some 45
  ·obtain⟨r,rfl⟩:∃r,l=45::r:=by cases l with|nil=>cases hn|cons c r=>exact⟨r,by simp at hn;rw[hn]⟩
   rw[Qu];exact q (j+1)
  rw[Ra hn];exact q j
 unfold Ea;rw[XG E,Q9];simp
theorem Fd{i:Nat}(h:Q.Kb (Oo l) (some i)):Ea l=(decide ((Q.dgs (Q.Xv (Oo l) (some i))).size<=30)&&decide ((Q.Gw (Oo l) (some i)).size<=30))/\l.length=i+1+(Q.Gw (Oo l) (some i)).size/\i<=(Q.dgs (Q.Xv (Oo l) (some i))).size+1:=by
 obtain⟨q,K⟩:=h;rw[Ov]at q;have E:∀j:Nat,j<i->l[j]? ≠ some 47:=fun j hj=>by have:=K j hj;rwa [Ov]at this
 have J:i<l.length:=by
  rcases Nat.lt_or_ge i l.length with g|g
  ·exact g
  rw[Zd.2 g]at q;cases q
 rw[Lj,KF,Q9];have O:(Oo (l.drop (i+1))).size=(l.drop (i+1)).length:=by show(l.drop (i+1)).toArray.size=_;simp
 rw[O]
 by_cases hn:l.head? = some 45
 ·obtain⟨r,rfl⟩:∃r,l=45::r:=by cases l with|nil=>cases hn|cons c r=>exact⟨r,by simp at hn;rw[hn]⟩
  cases i with
  | zero=>simp at q
  | succ i=>
    have e:Lib.cut r [47]=(r.take i,r.drop (i+1),true):=Sh (by simpa using q) (fun j hj=>by simpa using E (j+1) (by omega));unfold Ea;rw[Qu,e,List.take_succ_cons,Qu];refine⟨rfl,?_,?_⟩
    ·simp at J ⊢;omega
    simp at J ⊢;omega
 have e:=Sh q E;have G:(l.take i).head? ≠ some 45:=by
  cases l with
  | nil=>simp
  | cons c r=>cases i with|zero=>simp|succ i=>simpa using hn
 unfold Ea;rw[Ra hn,e,Ra G];refine⟨rfl,?_,?_⟩
 ·simp;omega
 simp;omega
theorem UG(h:Q.Ol (Oo l)=true):Q.Kb (Oo l) none:=by
 intro j q;rw[Ov]at q;unfold Q.Ol at h;simp only[Jw,Jx]at h;have G:=h.1.2;have hm:(47:UInt8)∈(Q.dgs (Oo l)).data.toList:=by
  unfold Q.dgs;rw[Tq];have E:=Zb q
  split
  ·have e:((Oo l).extract 1 (Oo l).size).data.toList=l.drop 1:=by
    rw[Zi,Z7]
    show(l.drop 1).take (l.toArray.size - 1)=_
    exact Yf (by simp)
   rw[e]
   cases j with
   | zero=>rename_i hd;cases l with|nil=>simp at q|cons c r=>simp at q hd;rw[q]at hd;exact absurd hd (by decide)
   | succ j=>exact Zb (i:=j) (by simpa using q)
  rw[Ov];exact E
 have:=G 47 hm;exact absurd this (by decide)
end Go.Proofs.YtfkagjelljnpdaaGreatDoor
namespace Go.Proofs.YtfkagjelljnpdaaGreatDoor
open ChangeShapes WideShapes ChangeAt RowKit Proofs.Tryz
theorem CX(l:List UInt8):l.length<=(Lib.trimPrefix l [45]).length+1:=by
 unfold Lib.trimPrefix
 split
 ·rw[Yr];simp;omega
 omega
theorem NC{so tx:List UInt8}(h:Ab so tx):tx.length<=62:=by
 obtain⟨E,hn⟩:=h;have j:Q.Kb (Oo tx) none->tx.length<=62:=fun hc=>by
  rw[Fp hc,Q9,Jv]at E;have:=CX tx;omega
 rcases hn with⟨-,h⟩|⟨-,k,x,y,q,-⟩
 ·exact j (UG h)
 cases k with
 | none=>exact j q
 | some i=>
   obtain⟨e,G,J⟩:=Fd q;rw[e,Jw,Jv,Jv]at E;omega
theorem Sl(B:Nat)(w:World)(z:Value)(x y:Int)(hB:B<=w.heap.size)(hz:Q.Wm B w z x y)(p q:ByteArray)(hp:Q.Ol p=true)(hq:Q.Ol q=true)(hx:x=Q.G9 p)(hy:y=Q.G9 q)(h1:(Q.dgs p).size<=62)(h2:(Q.dgs q).size<=62) :
 Calls prog 87 #[z,.int .i64 30] w fun e w'=>e=.returned (.bool (decide ((Q.dgs p).size<=30)&&decide ((Q.dgs q).size<=30)))/\Up w w':=by
 obtain⟨R,Z,V,pl,Y,q0,qn,qa,ql,qc,rfl,⟨j,t1,h,v1,-⟩,E,t2,z2,v2,-⟩:=hz;have G:=L0 p hp j t1 h.1 h.2.1 (v1.trans hx);have J:=L0 q hq E t2 z2.1 z2.2.1 (v2.trans hy);have K:=Mr t1 h.1 h.2.1 (by omega);have O:=Mr t2 z2.1 z2.2.1 (by omega);refine(Q.EJ B R Z V pl Y q0 qn qa ql qc j E t1 t2 w hB h z2 K O).mono ?_;rintro e w' ⟨rfl,hb⟩;exact⟨by rw[G,J,Bool.decide_and],hb⟩
theorem Tf:(Q.dgs (Q.Kc [49])).size=1:=by kernel_rfl
theorem D3(B:Nat)(w:World)(z:Value)(l:List UInt8)(k:Option Nat)(x y:Int)(hB:B<=w.heap.size)(hz:Q.Wm B w z x y)(hl:l.length<=62)(hk:Q.Kb (Oo l) k)(hV:Q.P7 (Oo l) k x y) :
 Calls prog 87 #[z,.int .i64 30] w fun e w'=>e=.returned (.bool (Ea l))/\Up w w':=by
 have hd:∀m:List UInt8,m.length<=62->(Q.dgs (Oo m)).size<=62:=fun m hm=>by
  rw[Q9];have:=Bz m [45];omega
 cases k with
 | none=>
   obtain⟨h,j,q⟩:=hV;refine(Sl B w z x y hB hz (Oo l) (Q.Kc [49]) h Q.DN j (q.trans Q.DS.symm) (hd l hl) (by rw[Tf];decide)).mono ?_;rintro e w' ⟨rfl,hb⟩;refine⟨?_,hb⟩;rw[Fp hk];rw[Tf];simp
 | some i=>
   obtain⟨⟨h,j⟩,⟨-,-,-,hn,-⟩,q,G⟩:=hV;obtain⟨E,J,K⟩:=Fd hk;have hq:Q.dgs (Q.Gw (Oo l) (some i))=Q.Gw (Oo l) (some i):=by unfold Q.dgs;rw[hn];rfl
   refine(Sl B w z x y hB hz _ _ h j q G (by rw[Lj];exact hd _ (by rw[J7];omega)) (by rw[hq];omega)).mono ?_;rintro e w' ⟨rfl,hb⟩;refine⟨?_,hb⟩;rw[E,hq]
theorem ND{t:Tm}(h:Ep t=true):t.sort=Uu∨t.sort=Ui:=by
 rcases((Cj t).1 h).2 with h|h
 ·exact .inl h.1
 exact .inr h.1
end Go.Proofs.YtfkagjelljnpdaaGreatDoor
namespace Go.Proofs.YtfkagjelljnpdaaGreatDoor
open ChangeShapes WideShapes ChangeAt RowKit
structure Vars(w:World):Prop where
 ev:EV w
 rt:RT w
 ml:∃m,w.cell? ⟨1,0,none⟩=some (.int .i64 m)
 sp:Q.SP w
 ns:Q.NS w
 lt:Q.LT w
theorem Vars.bl{w w':World}(h:Vars w)(hb:Up w w'):Vars w':=by
 obtain⟨m,hm⟩:=h.ml;exact⟨h.ev.keep (Below.keep hb),h.rt.keep (Below.keep hb),⟨m,(Below.keep hb).cell _ _ hm⟩,h.sp.bl hb,h.ns.bl hb,h.lt.bl hb⟩
structure BankZ(S:List (List UInt8))(F:List Fn)(T:List Tm):Prop where
 ls:S.length<=1048576
 lf:F.length<=1048576
 lt:T.length<=1048576
 s:∀s∈S,s.length<=1048576
 f:∀f∈F,f.name.length<=1048576/\(∀a∈f.args,a.length<=1048576)/\f.sort.length<=1048576
 t:∀t∈T,t.sort.length<=1048576/\t.text.length<=1048576/\t.kids.length<=1048576/\(Lit.int .i64 t.op).wf=true/\(Lit.int .i64 t.a).wf=true/\(Lit.int .i64 t.b).wf=true
structure BankAt(w:World)(vs vf vt:Value)(S:List (List UInt8))(F:List Fn)(T:List Tm):Prop where
 s:O4 w vs S
 f:Em w vf F
 t:TermsAt w vt T
theorem BankAt.bl{w w':World}{vs vf vt:Value}{S:List (List UInt8)}{F:List Fn}{T:List Tm}(h:BankAt w vs vf vt S F T)(hb:Up w w'):BankAt w' vs vf vt S F T:=⟨h.s.bl hb,h.f.bl hb,h.t.bl hb⟩
theorem OB(S:List (List UInt8))(F:List Fn)(T:List Tm):N4 S Ep F T=Ek S Ep F T:=
 XM S Ep F T fun own t h=>by
  rcases ND h with h|h
  ·exact .inl (((ZR own).i _).2 h)
  exact .inr (((ZR own).r _).2 h)
end Go.Proofs.YtfkagjelljnpdaaGreatDoor
