import Derived.Test.YtdmdmgfjpomdbaaGreatDoorP00
import Derived.Test.YtdmdmgfjpomdbaaGreatDoorRows
import Derived.WalkKit
import Derived.WalkSpells
import Derived.ProofKit
import Derived.OpenShut
import Derived.ShutString
import Derived.Lib.Strings
import Derived.Lib.IndexBytes
import Derived.RangeFuncBox
import Derived.RangeFuncLeaves
import Derived.Shelf.Abstract
import Derived.OwnWalkIn
import Derived.TacticsInMore
import Derived.LoopNIn
import Derived.LoopIn
import Derived.Maps.AppendAt
import Derived.Laws.IdiomStrings
import Derived.RangeFuncCalls
set_option maxRecDepth 100000
set_option maxHeartbeats 2000000
namespace Go.Proofs.YtdmdmgfjpomdbaaGreatDoor.Q
open ChangeShapes WideShapes ChangeAt RowKit Proofs.Tryz
variable {B:Nat}{l:List Nat}{v:Value}{w:World}
def isNeg (s:ByteArray):Bool:=(s.extract 0 1).toList==[45]
def dgs (s:ByteArray):ByteArray:=if isNeg s then s.extract 1 s.size else s
def isDig (c:UInt8):Bool:=decide (48<=c.toNat/\c.toNat<=57)
def isIntB (s:ByteArray):Bool:=
 decide (0<(dgs s).size)&&decide ((dgs s).size<=2500)&&(dgs s).data.toList.all isDig&&(!decide ((dgs s).data.toList.head? = some 48)||s.toList==[48])
theorem Ws (s:ByteArray):(dgs s).size<=s.size:=by
 unfold dgs;split
 ·rw[Yo];omega
 exact leR
theorem Oy {a b:Bool}(h:a=b):Ending.returned (.bool a)=.returned (.bool b):=by rw[h]
theorem H6 (s:ByteArray)(k:Nat)(h:k<s.size):s.data.toList.take (k+1)=s.data.toList.take k++[s[k]]:=by
 rw[Ye (by simpa using h)];rfl
theorem G1 (s:ByteArray)(k:Nat)(h:k<s.size)(hp:(s.data.toList.take k).all isDig=true)(h1:48<=s[k].toNat)(h2:s[k].toNat<=57) :
 (s.data.toList.take (k+1)).all isDig=true:=by
 rw[H6 s k h,List.all_append,hp];simp[isDig,h1,h2]
theorem Rx (s:ByteArray)(k:Nat)(h:k<s.size)(h1:¬ (48<=s[k].toNat/\s[k].toNat<=57)):s.data.toList.all isDig=false:=by
 rw[J8];intro ha;rw[Jt] at ha;have:=ha s[k] (by show s.data[k]∈_;exact V8 _);simp[isDig] at this;omega
theorem Q9 (s d:ByteArray)(hd:dgs s=d)(h:d.size=0):isIntB s=false:=by subst hd;simp[isIntB,h]
theorem Qe (s d:ByteArray)(hd:dgs s=d)(h:2500<d.size):isIntB s=false:=by
 subst hd;unfold isIntB;rw[Jc (show ¬ (dgs s).size<=2500 by omega)];simp
theorem Gf (d:ByteArray)(h:0<d.size):d.data.toList.head? = some d[0]:=by
 obtain⟨⟨l⟩⟩:=d
 cases l with
 | nil=>simp[ByteArray.size] at h
 | cons a l=>rfl
theorem Qn (s d:ByteArray)(hd:dgs s=d)(h:0<d.size)(h2:d[0].toNat=48):isIntB s=(s.toList==[48]):=by
 subst hd;have e:(dgs s)[0]=48:=UInt8.toNat_inj.1 (by rw[h2];rfl)
 cases hb:s.toList==[48] with
 | false=>
   unfold isIntB;rw[hb,Gf _ h,e];simp
 | true=>
   have hl:s.toList=[48]:=by simpa using hb
   rw[Jk] at hl;have j:s=⟨#[48]⟩:=by
    obtain⟨⟨l⟩⟩:=s;simp at hl;rw[hl]
   subst j;simp[isIntB,dgs,isNeg,ByteArray.toList_eq,isDig,ByteArray.size]
theorem Lt (s d:ByteArray)(hd:dgs s=d)(h:0<d.size)(h1:d.size<=2500)(h2:¬ d[0].toNat=48):isIntB s=d.data.toList.all isDig:=by
 subst hd;have e:¬ (dgs s)[0]=48:=fun e=>h2 (by rw[e];rfl);unfold isIntB;rw[Gf _ h];simp[h,h1,e]
theorem I8 (s:ByteArray)(w:World)(hs:s.size<=maxLen) :
 Calls prog 146 #[.string s,.string ⟨#[45]⟩] w fun e w'=>e=.returned (.string (dgs s))/\w'=w:=by
 unfold maxLen at hs;have A:((s.extract 0 1).toList==[45])=true->dgs s=s.extract 1 s.size:=fun h=>by unfold dgs isNeg;rw[if_pos h]
 have d:((s.extract 0 1).toList==[45])=false->dgs s=s:=fun h=>by unfold dgs isNeg;rw[if_neg (by rw[h];decide)]
 have j:¬ 1<=(s.size:Int)->dgs s=s:=fun h=>d (by
  rw[Lib.extract_toList];have:s.data.toList=[]:=by
   have:=Lib.size_eq s;exact Jw (by omega)
  rw[this];rfl)
 have I:=Hd A;have G:=Hd d;have E:=Hd j;clear A d j
 go_in
 go_wp2
 all_goals go_ret
 ·rw[I.o ‹_›];exact⟨rfl,rfl⟩
 ·rw[G.o ‹_›];exact⟨rfl,rfl⟩
 rw[E.o (by omega)];exact⟨rfl,rfl⟩
theorem Il (d:ByteArray)(h:0<d.size):d.toList.isEmpty=false:=by
 rw[Jk];have:=Lib.size_eq d
 cases hl:d.data.toList with
 | nil=>exfalso;rw[hl] at this;simp only[Zn] at this;omega
 | cons _ _=>rfl
theorem Rn (d:ByteArray)(h:d.size=0):d.toList.isEmpty=true:=by
 rw[Jk,Jw (l:=d.data.toList) (by rw[<-Lib.size_eq];exact h)];rfl
theorem Lm (s:ByteArray)(w:World)(hs:s.size<=maxLen) :
 Calls prog 147 #[.string s] w fun e w'=>e=.returned (.bool (isIntB s))/\w'=w:=by
 have E:=Ws s;unfold maxLen at hs;obtain⟨d,A⟩:=Oa (dgs s);rw[A] at E;have h:=Hd A;clear A
 by_cases c0:d.size=0
 ·have e:=Rn d c0;have F:Hid (isIntB s=false):=Q9 s d h.o c0;clear c0
  go_in
  go_wp2_with (go_at_call 146;refine (I8 _ _ hs).mono ?_;rintro e w' ⟨rfl,rfl⟩;rw[h.o])
  go_ret
  exact⟨Oy F.o.symm,rfl⟩
 have e:=Il d (by omega)
 by_cases c1:2500<d.size
 ·have F:Hid (isIntB s=false):=Qe s d h.o c1;clear c0;have c2:decide (2500<(d.size:Int))=true:=by simp;omega
  go_in
  go_wp2_with (go_at_call 146;refine (I8 _ _ hs).mono ?_;rintro e w' ⟨rfl,rfl⟩;rw[h.o])
  go_ret
  exact⟨Oy F.o.symm,rfl⟩
 have c2:decide (2500<(d.size:Int))=false:=by simp;omega
 have c3:0<d.size:=by omega
 by_cases c4:d[0].toNat=48
 ·have F:Hid (isIntB s=(s.toList==[48])):=Qn s d h.o c3 c4;clear c0;have c5:((d[0].toNat:Int)==48)=true:=by simp;omega
  go_in
  go_wp2_with (go_at_call 146;refine (I8 _ _ hs).mono ?_;rintro e w' ⟨rfl,rfl⟩;rw[h.o])
  go_ret
  exact⟨Oy F.o.symm,rfl⟩
 have F:Hid (isIntB s=d.data.toList.all isDig):=Lt s d h.o c3 (by omega) c4;have c5:((d[0].toNat:Int)==48)=false:=by simp;omega
 clear c0 c4
 go_in
 go_wp2_with (go_at_call 146;refine (I8 _ _ hs).mono ?_;rintro e w' ⟨rfl,rfl⟩;rw[h.o])
 go_loop [21] (fun i=>∃ k:Nat,k<=d.size/\i=.int .i64 k/\(d.data.toList.take k).all isDig=true) (fun i=>d.size - (intOf i).toNat)
 case atStart=>exact⟨0,Jr _,rfl,rfl⟩
 obtain⟨k,J,rfl,I⟩:=hrel;have G:=Hd I;clear I
 by_cases j:k<d.size
 ·go_wp2
  ·go_ret
   exact⟨Oy (by rw[F.o,Rx d k j (by omega)]),rfl⟩
  ·go_round
   case rel=>exact⟨k+1,by omega,by go_num,G1 d k j G.o (by omega) (by omega)⟩
   simp[intOf];omega
  go_ret
  exact⟨Oy (by rw[F.o,Rx d k j (by omega)]),rfl⟩
 go_wp2
 go_ret
 exact⟨Oy (by rw[F.o];rw[<-G.o,Jl (by rw[<-Lib.size_eq];omega)]),rfl⟩
theorem Rf (s:ByteArray)(h:isNeg s=true):∃ h0:0<s.size,s[0].toNat=45:=by
 unfold isNeg at h;rw[Lib.extract_toList] at h;obtain⟨⟨l⟩⟩:=s
 cases l with
 | nil=>simp at h
 | cons a l=>
   simp at h;refine⟨by simp[ByteArray.size],?_⟩
   show a.toNat=45
   rw[h];rfl
theorem OF (s:ByteArray)(h:isNeg s=false)(h0:0<s.size):¬ s[0].toNat=45:=by
 unfold isNeg at h;rw[Lib.extract_toList] at h;obtain⟨⟨l⟩⟩:=s
 cases l with
 | nil=>simp[ByteArray.size] at h0
 | cons a l=>
   simp at h;intro e;exact h (UInt8.toNat_inj.1 (by rw[show a.toNat=45 from e];rfl))
theorem Ls (s d:ByteArray)(hd:dgs s=d)(h:0<d.size)(h1:d.size<=2500)(h2:isNeg s=true->¬ d.toList=[48])(h3:d.size=1∨¬ d[0].toNat=48):isIntB s=d.data.toList.all isDig:=by
 by_cases c:d[0].toNat=48
 ·rw[Qn s d hd h c];have h4:d.size=1:=h3.resolve_right (fun x=>x c);have e:d[0]=48:=UInt8.toNat_inj.1 (by rw[c];rfl);have e2:d.data.toList=[48]:=by
   have j:=Gf d h;rw[Lib.size_eq] at h4;obtain⟨a,ha⟩:=List.length_eq_one_iff.1 h4;rw[ha] at j ⊢;simp at j;rw[j,e]
  cases hn:isNeg s with
  | true=>exact absurd (by rw[Jk];exact e2) (h2 hn)
  | false=>
    have:s=d:=by rw[<-hd];unfold dgs;rw[hn];rfl
    rw[this,Jk,e2];rfl
 exact Lt s d hd h h1 c
theorem Am (s d:ByteArray)(hd:dgs s=d)(h:1<d.size)(c:d[0].toNat=48):isIntB s=false:=by
 rw[Qn s d hd (by omega) c,Jb];intro e;have:=Ws s;have e2:s.size=1:=by rw[Lib.size_eq,<-Jk,e];rfl
 rw[hd] at this;omega
theorem UU (s d:ByteArray)(hd:dgs s=d)(hn:isNeg s=true)(h:(d.toList==[48])=true):isIntB s=false:=by
 have e:d.toList=[48]:=by simpa using h
 rw[Jk] at e;have J:d.size=1:=by rw[Lib.size_eq,e];rfl
 have A:=Gf d (by omega);rw[e] at A;simp at A;rw[Qn s d hd (by omega) (by rw[<-A];rfl),Jb];intro G;obtain⟨I,E⟩:=Rf s hn;have j:=Gf s I;rw[<-Jk,G] at j;simp at j;rw[<-j] at E;exact absurd E (by decide)
theorem Fl (s:ByteArray)(h:isNeg s=true):dgs s=s.extract 1 s.size:=by unfold dgs;rw[if_pos h]
theorem Fm (s:ByteArray)(h:isNeg s=false):dgs s=s:=by unfold dgs;rw[h];rfl
theorem P2 (s:ByteArray):(s.extract 1 s.size).size=s.size - 1:=by rw[Yo];omega
theorem DJ (s:ByteArray)(w:World)(hs:s.size<=maxLen)(hn:isNeg s=false) :
 Calls prog 85 #[.string s] w fun e w'=>e=.returned (.bool (isIntB s))/\w'=w:=by
 unfold maxLen at hs;have j:Hid (dgs s=s):=Fm s hn;have A:=Hd hn;clear hn
 by_cases c0:s.size=0
 ·have F:Hid (isIntB s=false):=Q9 s _ j.o c0;have I:s=ByteArray.empty:=by
   obtain⟨⟨l⟩⟩:=s;simp[ByteArray.size] at c0;rw[c0];rfl
  clear c0;subst I
  go_in
  go_wp2
  go_ret
  exact⟨Oy F.o.symm,rfl⟩
 have c2:0<s.size:=by omega
 have m0:((s[0].toNat:Int)==45)=false:=by
  have:=OF s A.o c2;simp;omega
 have z0:((s.size:Int)==0)=false:=by rw[Jb];omega
 by_cases c1:2500<s.size
 ·have F:Hid (isIntB s=false):=Qe s _ j.o c1;have J:decide (2500<(s.size:Int))=true:=by simp;omega
  clear c0
  go_in
  go_wp2
  all_goals
   go_ret
   exact⟨Oy F.o.symm,rfl⟩
 have J:decide (2500<(s.size:Int))=false:=by simp;omega
 by_cases c3:s.size=1∨¬ s[0].toNat=48
 ·have F:Hid (isIntB s=s.data.toList.all isDig):=Ls s s j.o c2 (by omega) (fun h=>by rw[A.o] at h;cases h) c3;have z2:decide (1<(s.size:Int))=false∨(decide (1<(s.size:Int))=true/\((s[0].toNat:Int)==48)=false):=by
   by_cases c4:s.size=1
   ·exact .inl (by simp;omega)
   exact .inr ⟨by simp;omega,by have:=c3.resolve_left c4;simp;omega⟩
  have z3:1<=s.size:=by omega
  clear c3 c0
  rcases z2 with z2|⟨z2,z4⟩
  all_goals
   go_in
   go_wp2
   go_loop [3] (fun i=>∃ k:Nat,k<=s.size/\i=.int .i64 k/\(s.data.toList.take k).all isDig=true) (fun i=>s.size - (intOf i).toNat)
   case atStart=>exact⟨0,Jr _,rfl,rfl⟩
   obtain⟨k,K,rfl,G⟩:=hrel;have E:=Hd G;clear G
   by_cases d:k<s.size
   ·go_wp2
    ·go_ret
     exact⟨Oy (by rw[F.o,Rx s k d (by omega)]),rfl⟩
    ·go_round
     case rel=>exact⟨k+1,by omega,by go_num,G1 s k d E.o (by omega) (by omega)⟩
     simp[intOf];omega
    go_ret
    exact⟨Oy (by rw[F.o,Rx s k d (by omega)]),rfl⟩
   go_wp2
   go_ret
   exact⟨Oy (by rw[F.o];rw[<-E.o,Jl (by rw[<-Lib.size_eq];omega)]),rfl⟩
 have F:Hid (isIntB s=false):=Am s s j.o (by omega) (by omega);have z2:decide (1<(s.size:Int))=true:=by simp;omega
 have z4:((s[0].toNat:Int)==48)=true:=by simp;omega
 clear c3
 go_in
 go_wp2
 all_goals
  go_ret
  exact⟨Oy F.o.symm,rfl⟩
theorem DW (s:ByteArray)(w:World)(hs:s.size<=maxLen)(hn:isNeg s=true) :
 Calls prog 85 #[.string s] w fun e w'=>e=.returned (.bool (isIntB s))/\w'=w:=by
 unfold maxLen at hs;have A:Hid (dgs s=s.extract 1 s.size):=Fl s hn;have K:=Hd hn;have j:Hid ((s.extract 1 s.size).size=s.size - 1):=P2 s;obtain⟨U,M⟩:=Rf s hn;have m0:((s[0].toNat:Int)==45)=true:=by simp;omega
 clear hn M
 by_cases c9:((s.extract 1 s.size).toList==[48])=true
 ·have F:Hid (isIntB s=false):=UU s _ A.o K.o c9
  go_in
  go_wp2
  go_ret
  exact⟨Oy F.o.symm,rfl⟩
 have Y:((s.extract 1 s.size).toList==[48])=false:=by simpa using c9
 have J:Hid (¬ (s.extract 1 s.size).toList=[48]):=by intro e;rw[e] at c9;exact c9 rfl
 clear c9
 by_cases c0:s.size - 1=0
 ·have F:Hid (isIntB s=false):=Q9 s _ A.o (by rw[j.o];exact c0);have z0:(((s.size - 1:Nat):Int)==0)=true:=by rw[Yf];omega
  go_in
  go_wp2
  go_ret
  exact⟨Oy F.o.symm,rfl⟩
 have c2:0<s.size - 1:=by omega
 have z0:(((s.size - 1:Nat):Int)==0)=false:=by rw[Jb];omega
 by_cases c1:2500<s.size - 1
 ·have F:Hid (isIntB s=false):=Qe s _ A.o (by rw[j.o];exact c1);have O:decide (2500<((s.size - 1:Nat):Int))=true:=dT (by omega)
  clear c0
  go_in
  go_wp2
  go_ret
  exact⟨Oy F.o.symm,rfl⟩
 have O:decide (2500<((s.size - 1:Nat):Int))=false:=dF (by omega)
 have c5:0<(s.extract 1 s.size).size:=by rw[j.o];exact c2
 by_cases c3:(s.extract 1 s.size).size=1∨¬ (s.extract 1 s.size)[0].toNat=48
 ·have F:Hid (isIntB s=(s.extract 1 s.size).data.toList.all isDig):=Ls s _ A.o c5 (by rw[j.o];omega) (fun h=>J.o) c3;have z2:decide (1<((s.size - 1:Nat):Int))=false∨(decide (1<((s.size - 1:Nat):Int))=true/\(((s.extract 1 s.size)[0].toNat:Int)==48)=false):=by
   by_cases c4:(s.extract 1 s.size).size=1
   ·exact .inl (by rw[j.o] at c4;rw[Jj];omega)
   exact .inr ⟨by rw[j.o] at c4;rw[Ju];omega,by have:=c3.resolve_left c4;rw[Jb];omega⟩
  clear c3 c0
  rcases z2 with z2|⟨z2,z4⟩
  all_goals
   go_in
   go_wp2
   go_loop [3] (fun i=>∃ k:Nat,k<=s.size - 1/\i=.int .i64 k/\((s.extract 1 s.size).data.toList.take k).all isDig=true) (fun i=>s.size - 1 - (intOf i).toNat)
   case atStart=>exact⟨0,Jr _,rfl,rfl⟩
   obtain⟨k,V,rfl,I⟩:=hrel;have G:=Hd I;clear I
   by_cases E:k<s.size - 1
   ·have d:k<(s.extract 1 s.size).size:=by rw[j.o];exact E
    go_wp2
    ·go_ret
     exact⟨Oy (by rw[F.o,Rx _ k d (by omega)]),rfl⟩
    ·go_round
     case rel=>exact⟨k+1,by omega,by go_num,G1 _ k d G.o (by omega) (by omega)⟩
     simp[intOf];omega
    go_ret
    exact⟨Oy (by rw[F.o,Rx _ k d (by omega)]),rfl⟩
   go_wp2
   go_ret
   exact⟨Oy (by rw[F.o];rw[<-G.o,Jl (by rw[<-Lib.size_eq,j.o];omega)]),rfl⟩
 have F:Hid (isIntB s=false):=Am s _ A.o (by omega) (by omega);have z2:decide (1<((s.size - 1:Nat):Int))=true:=by rw[j.o] at c3 c5;rw[Ju];omega
 have z4:(((s.extract 1 s.size)[0].toNat:Int)==48)=true:=by rw[Yf];omega
 clear c3
 go_in
 go_wp2
 all_goals
  go_ret
  exact⟨Oy F.o.symm,rfl⟩
theorem isInt_spec (s:ByteArray)(w:World)(hs:s.size<=maxLen) :
 Calls prog 85 #[.string s] w fun e w'=>e=.returned (.bool (isIntB s))/\w'=w:=by
 cases hn:isNeg s
 ·exact DJ s w hs hn
 exact DW s w hs hn
def val:List Nat->Nat
 | []=>0
 | x::l=>x+1000000000*val l
def okL (l:List Nat):Prop:=∀ x∈l,x<1000000000
def Og (l:List Nat):List Nat:=l.take (l.length - (l.reverse.takeWhile (·==0)).length)
def isTrim (l:List Nat):Prop:=∀ h:l≠[],l.getLast h≠0
def num (d:List UInt8):Nat:=d.foldl (fun a c=>a*10+(c.toNat - 48)) 0
def chunk (d:List UInt8)(i:Nat):Nat:=num ((d.take (d.length - 9*i)).drop (d.length - 9*i - 9))
def Rr (n:Nat):Nat:=(n+8) / 9
def Nn (d:List UInt8):List Nat:=(List.range (Rr d.length)).map (chunk d)
def dig (c:UInt8):Prop:=48<=c.toNat/\c.toNat<=57
theorem Dk (d:List UInt8)(c:UInt8):num (d++[c])=num d*10+(c.toNat - 48):=by simp[num]
theorem KV (d:List UInt8)(h:∀ c∈d,dig c):num d<10 ^ d.length:=by
 have j:∀ (l:List UInt8) (a k:Nat),(∀ c∈l,dig c)->a<10 ^ k->l.foldl (fun a c=>a*10+(c.toNat - 48)) a<10 ^ (k+l.length):=by
  intro l
  induction l with
  | nil=>intro a k _ h;simpa using h
  | cons c l ih=>
    intro a k A ha;have hc:=A c (by simp);have:=ih (a*10+(c.toNat - 48)) (k+1) (fun x hx=>A x (by simp[hx])) (by unfold dig at hc;rw[J7];omega);simp only[Vz,Yq];rw[show k+(l.length+1)=k+1+l.length by omega];exact this
 have:=j d 0 0 h (by simp)
 simpa[num] using this
theorem He (d:List UInt8)(i:Nat)(h:∀ c∈d,dig c):chunk d i<1000000000:=by
 unfold chunk;have j:=KV ((d.take (d.length - 9*i)).drop (d.length - 9*i - 9)) (fun c hc=>h c (Yy (Z6 hc)));have h2:((d.take (d.length - 9*i)).drop (d.length - 9*i - 9)).length<=9:=by simp;omega
 have h3:10 ^ ((d.take (d.length - 9*i)).drop (d.length - 9*i - 9)).length<=10 ^ 9:=Y0 (by omega) h2;have:(10:Nat) ^ 9=1000000000:=by decide
 omega
theorem chunks_ok (d:List UInt8)(h:∀ c∈d,dig c):okL (Nn d):=by
 intro x j;simp only[Nn,Zh] at j;obtain⟨i,_,rfl⟩:=j;exact He d i h
theorem G3 (l:List Nat):Og (l++[0])=Og l:=by
 unfold Og;simp only[Vs,Un,List.reverse_nil,Z4,Yx,Yn,Yq,Zn];rw[List.takeWhile_cons];simp only[beq_self_eq_true,if_true,Yq];rw[show l.length+(0+1) - ((List.takeWhile (fun x=>x==0) l.reverse).length+1)=l.length - (List.takeWhile (fun x=>x==0) l.reverse).length by omega];rw[Z1 (by omega)]
theorem Gp (l:List Nat)(x:Nat)(h:x≠0):Og (l++[x])=l++[x]:=by
 unfold Og;simp only[Vs,Un,List.reverse_nil,Z4,Yx];rw[List.takeWhile_cons,if_neg (by simpa using h)];exact Jl (by simp)
theorem Cn:Og []=[]:=rfl
theorem Ej (l:List Nat)(k:Nat)(h:k<l.length)(h0:l.getD k 0=0):Og (l.take (k+1))=Og (l.take k):=by
 rw[Ye h];have:l[k]=0:=by simpa[List.getD_eq_getElem?_getD,h] using h0
 rw[this,G3]
theorem Nv (l:List Nat)(k:Nat)(h:k<l.length)(h0:l.getD k 0≠0):Og (l.take (k+1))=l.take (k+1):=by
 rw[Ye h];have:l[k]≠0:=by simpa[List.getD_eq_getElem?_getD,h] using h0
 exact Gp _ _ this
theorem EM (l:List Nat):Og l=l.take (Og l).length:=by
 unfold Og;rw[J4,List.take_eq_take_iff];omega
theorem Kd (l:List Nat):(Og l).length<=l.length:=by unfold Og;rw[J4];omega
theorem trimL_ok (l:List Nat)(h:okL l):okL (Og l):=fun x hx=>h x (Yy hx)
theorem trimL_trim (l:List Nat):isTrim (Og l):=by
 induction hn:l.length generalizing l with
 | zero=>
   have:l=[]:=Jw hn;subst this;intro h;exact absurd Cn h
 | succ n ih=>
   have d:l≠[]:=by intro h;rw[h] at hn;simp at hn
   rw[<-Zl d]
   by_cases j:l.getLast d=0
   ·rw[j,G3];exact ih _ (by simp[hn])
   rw[Gp _ _ j];intro h
   simpa using j
theorem Po (l:List Nat)(h:isTrim l):Og l=l:=by
 by_cases d:l=[]
 ·rw[d];rfl
 rw[<-Zl d];exact Gp _ _ (h d)
def Kz (B:Nat)(w:World)(v:Value)(l:List Nat):Prop:=
 ∃ a cap,v=.slice a l.length cap/\l.length<=cap/\cap<=maxLen/\okL l /\
  (l=[]∨∃ b off,a=some ⟨b,off,none⟩/\B<=b/\b<w.heap.size/\∀ i,i<l.length->w.cell? ⟨b,off+i,none⟩=some (.int .u32 (l.getD i 0:Nat)))
theorem Eo {k:IntKind}{a b:Int}(h:a=b):Ending.returned (.int k a)=.returned (.int k b):=by rw[h]
theorem Ot {k:IntKind}{a b:Int}(h:a=b):Value.int k a=Value.int k b:=by rw[h]
theorem Ay (s:ByteArray)(k:Nat)(h:k<s.size):num (s.data.toList.take (k+1))=num (s.data.toList.take k)*10+(s[k].toNat - 48):=by
 rw[H6 s k h,Dk]
theorem Lu (s:ByteArray)(hd:∀ c∈s.data.toList,dig c)(k:Nat)(h:k<s.size):48<=s[k].toNat/\s[k].toNat<=57:=
 hd s[k] (by show s.data[k]∈_;exact V8 _)
theorem YQ (s:ByteArray)(hd:∀ c∈s.data.toList,dig c)(h9:s.size<=9)(k:Nat)(hk:k<s.size):num (s.data.toList.take k)<100000000:=by
 have d:=KV (s.data.toList.take k) (fun c hc=>hd c (Yy hc));have h2:(s.data.toList.take k).length<=8:=by rw[J4];omega
 have h3:10 ^ (s.data.toList.take k).length<=10 ^ 8:=Y0 (by omega) h2;have:(10:Nat) ^ 8=100000000:=by decide
 omega
theorem Dn (s:ByteArray)(w:World)(h9:s.size<=9)(hd:∀ c∈s.data.toList,dig c) :
 Calls prog 176 #[.string s] w fun e w'=>e=.returned (.int .u32 (num s.data.toList:Nat))/\w'=w:=by
 have h:=Hd hd;clear hd
 go_in
 go_wp2
 go_loop [3,7] (fun t i=>∃ k:Nat,k<=s.size/\i=.int .i64 k/\t=.int .u32 (num (s.data.toList.take k):Nat)) (fun _ i=>s.size - (intOf i).toNat)
 case atStart=>exact⟨0,Jr _,rfl,rfl⟩
 obtain⟨k,A,rfl,rfl⟩:=hrel
 by_cases d:k<s.size
 ·have hb:=YQ s h.o h9 k d;have hc:=Lu s h.o k d;have j:Hid (num (s.data.toList.take (k+1))=num (s.data.toList.take k)*10+(s[k].toNat - 48)):=Ay s k d
  go_wp2
  go_round
  case rel=>
   refine⟨k+1,by omega,by go_num,?_⟩;rw[j.o];exact Ot (by omega)
  simp[intOf];omega
 go_wp2
 go_ret
 exact⟨Eo (by rw[Jl (by rw[<-Lib.size_eq];omega)]),rfl⟩
theorem Ak (b off cap:Nat)(l:List Nat)(w:World)(hl:l.length<=cap)(hcap:cap<=maxLen)
 (hc:∀ i,i<l.length->w.cell? ⟨b,off+i,none⟩=some (.int .u32 (l.getD i 0:Nat))) :
 Calls prog 194 #[.slice (some ⟨b,off,none⟩) l.length cap] w fun e w'=>
  e=.returned (.slice (some ⟨b,off,none⟩) (Og l).length cap)/\w'=w:=by
 unfold maxLen at hcap;have J:=Hd hc;clear hc
 go_in
 go_wp2
 go_loop [0] (fun s=>∃ k:Nat,k<=l.length/\s=.slice (some ⟨b,off,none⟩) k cap/\Og (l.take k)=Og l) (fun s=>match s with|.slice _ k _=>k|_=>0)
 case atStart=>exact⟨l.length,leR,rfl,by rw[Yk]⟩
 obtain⟨k,M,rfl,I⟩:=hrel;have A:=Hd I;clear I
 cases k with
 | zero=>
   go_wp2
   go_ret
   have:Og l=[]:=by rw[<-A.o];rfl
   exact⟨by rw[this];rfl,rfl⟩
 | succ m=>
   obtain⟨x,E⟩:=Oa (l.getD m 0);have d:=J.o m (by omega);rw[E] at d;have G:=Hd E;clear E
   by_cases h:x=0
   ·have K:((x:Int)==0)=true:=by rw[Yf];omega
    have j:Hid (Og (l.take m)=Og l):=by rw[<-Ej l m (by omega) (by rw[G.o,h])];exact A.o
    clear h
    go_wp2
    go_round
    case rel=>exact⟨m,by omega,rfl,j.o⟩
    simp
   have K:((x:Int)==0)=false:=by rw[Jb];omega
   have j:Hid ((Og l).length=m+1):=by
    rw[<-A.o,Nv l m (by omega) (by rw[G.o];exact h),J4];exact Zo (by omega)
   clear h
   go_wp2
   go_ret
   exact⟨by rw[j.o];rfl,rfl⟩
theorem Br (a:Option Addr)(cap:Nat)(w:World) :
 Calls prog 194 #[.slice a 0 cap] w fun e w'=>e=.returned (.slice a 0 cap)/\w'=w:=by
 go_in
 go_wp2
 refine wp_loop_rounds 1 ?_;rw[rounds_succ]
 go_wp2
 go_ret
 exact⟨rfl,rfl⟩
theorem Qk (l:List Nat)(i:Nat)(h:i<(Og l).length):(Og l).getD i 0=l.getD i 0:=by
 rw[EM l] at h ⊢;rw[J4] at h;simp only[Ji,List.getElem?_take];rw[if_pos (by omega)]
def MN (v v':Value)(l:List Nat):Prop:=∀ B W,Kz B W v l->Kz B W v' (Og l)
theorem Kz.cut {b off cap:Nat}:MN (.slice (some ⟨b,off,none⟩) l.length cap) (.slice (some ⟨b,off,none⟩) (Og l).length cap) l:=by
 rintro B W ⟨a,G,A,hl,d,E,M⟩;have K:=Kd l;simp only[Value.slice.injEq,true_and] at A;obtain⟨rfl,rfl⟩:=A;refine⟨_,_,rfl,by omega,d,trimL_ok l E,?_⟩
 rcases M with h|⟨I,j,A,J,hb,hc⟩
 ·exact .inl (by rw[h];rfl)
 refine .inr ⟨I,j,A,J,hb,fun i hi=>?_⟩;rw[Qk l i hi];exact hc i (by omega)
theorem Nl (B:Nat)(v:Value)(l:List Nat)(w:World)(h:Kz B w v l) :
 Calls prog 194 #[v] w fun e w'=>∃ v',e=.returned v'/\MN v v' l/\w'=w:=by
 obtain⟨a,cap,rfl,hl,d,A,E⟩:=h
 rcases E with rfl|⟨b,j,rfl,_,hb,hc⟩
 ·refine (Br a cap w).mono ?_;rintro e w' ⟨rfl,rfl⟩;exact⟨_,rfl,fun B W h=>h,rfl⟩
 refine (Ak b j cap l w hl d hc).mono ?_;rintro e w' ⟨rfl,rfl⟩;exact⟨_,rfl,Kz.cut,rfl⟩
theorem Kz.bl {w':World}(h:Kz B w v l)(hb:Up w w'):Kz B w' v l:=by
 obtain⟨a,cap,rfl,hl,d,E,I⟩:=h;refine⟨a,cap,rfl,hl,d,E,?_⟩
 rcases I with rfl|⟨b,A,rfl,G,j,hc⟩
 ·exact .inl rfl
 refine .inr ⟨b,A,rfl,G,Jq j hb.size,fun i hi=>?_⟩;rw[hb.cell (p:=⟨b,A+i,none⟩) j];exact hc i hi
theorem Kz.mono {B':Nat}(h:Kz B w v l)(hb:B'<=B):Kz B' w v l:=by
 obtain⟨a,cap,rfl,hl,d,A,I⟩:=h;refine⟨a,cap,rfl,hl,d,A,?_⟩
 rcases I with rfl|⟨b,E,rfl,G,j,hc⟩
 ·exact .inl rfl
 exact .inr ⟨b,E,rfl,Yc hb G,j,hc⟩
theorem Kz.setCell (h:Kz B w v l)(p:Addr)(u:Value)(hp:p.block<B):Kz B (w.setCell p u) v l:=by
 obtain⟨a,cap,rfl,hl,d,A,I⟩:=h;refine⟨a,cap,rfl,hl,d,A,?_⟩
 rcases I with rfl|⟨b,E,rfl,G,j,hc⟩
 ·exact .inl rfl
 refine .inr ⟨b,E,rfl,G,by simpa using j,fun i hi=>?_⟩;rw[<-hc i hi];exact Vo (Jh w p u b (by omega))
theorem Xu {e:Nat}(h:w.ownsRow B e 1 v l.length (l.map (fun x=>Value.int .u32 (x:Nat))))(hok:okL l):Kz B w v l:=by
 have j:=fun g hg=>h.cells (g:=g) hg;have A:=h.lt;obtain⟨_,h⟩:=h
 rcases h with⟨rfl,hn⟩|⟨g,cap,G,rfl,I,E,hn,d,_,_⟩
 ·exact⟨none,0,by rw[hn],by omega,by unfold maxLen;omega,hok,.inl (Jw hn)⟩
 refine⟨_,cap,rfl,hn,d,hok,.inr ⟨g,0,rfl,I,(A g rfl).2,fun i hi=>?_⟩⟩;have:=j g rfl i (.int .u32 (l.getD i 0:Nat)) (by rw[Y6];simp[List.getD_eq_getElem?_getD,hi])
 by_cases i0:i=0
 ·subst i0;simpa[Addr.add] using this
 simpa[Addr.add,i0] using this
theorem Oz (w:World)(o:Obj):Up w (w.alloc o):=(Je _ _).alloc leR o
def Ky (neg:Bool)(l:List Nat):Bool:=neg&&decide (0<l.length)
theorem K1 (B:Nat)(neg:Bool)(v:Value)(l:List Nat)(w:World)(h:Kz B w v l) :
 Calls prog 177 #[.bool neg,v] w fun e w'=>∃ v',e=.returned (.agg #[.bool (Ky neg (Og l)),v'])/\MN v v' l/\Up w w':=by
 have E:∀ o,Kz B (w.alloc o) v l:=fun o=>h.bl (Oz w o);have A:=Hd E;clear E h
 cases neg
 all_goals
  go_in
  go_wp2_with fail
  refine (Nl B v l _ (A.o _)).mono ?_;rintro e K ⟨v',rfl,d,rfl⟩;have I:=Hd d;obtain⟨a,cap,rfl,hl,G,j,J⟩:=d _ _ (A.o (.cells #[] 0));clear J j d
  go_wp2
  refine Jg (v:=.agg #[.bool (Ky _ (Og l)),.slice a (Og l).length cap]) ?_ rfl ⟨_,rfl,fun B W hW=>I.o B W hW,Oz _ _⟩;simp[results,results177,go_sem,Ky]
def Ea (l:List UInt8):List UInt8:=l.dropWhile (·==48)
def Pj (s:ByteArray):ByteArray:=⟨(Ea s.data.toList).toArray⟩
def CU:Value->Nat|.string s=>s.size|_=>0
theorem VG (s:ByteArray)(h:0<s.size)(h0:s[0].toNat=48):Ea (s.extract 1 s.size).data.toList=Ea s.data.toList:=by
 have e:s[0]=48:=UInt8.toNat_inj.1 (by rw[h0];rfl);have d:=Gf s h;rw[Lib.extract_to_end]
 cases hl:s.data.toList with
 | nil=>rw[hl] at d;simp at d
 | cons a l=>
   rw[hl] at d;simp at d;rw[e] at d;subst d;simp[Ea]
theorem GA (s:ByteArray)(h:0<s.size)(h0:¬ s[0].toNat=48):Ea s.data.toList=s.data.toList:=by
 have e:¬ s[0]=48:=fun e=>h0 (by rw[e];rfl);have d:=Gf s h
 cases hl:s.data.toList with
 | nil=>rfl
 | cons a l=>
   rw[hl] at d;simp at d;rw[<-d] at e;simp[Ea,e]
theorem Ap (s:ByteArray)(h:s.size=0):Ea s.data.toList=s.data.toList:=by
 rw[Jw (l:=s.data.toList) (by rw[<-Lib.size_eq];exact h)];rfl
theorem Cg (s:ByteArray)(w:World)(_hs:s.size<=maxLen) :
 Calls prog 158 #[.string s,.int .u8 48] w fun e w'=>e=.returned (.string (Pj s))/\w'=w:=by
 unfold maxLen at _hs
 go_in
 go_wp2
 go_loop [0] (fun v=>∃ t:ByteArray,t.size<=s.size/\v=.string t/\Ea t.data.toList=Ea s.data.toList) (fun v=>CU v)
 case atStart=>exact⟨s,leR,rfl,rfl⟩
 obtain⟨t,J,rfl,G⟩:=hrel;have A:=Hd G;clear G
 by_cases I:t.size=0
 ·have h:Hid (Pj s=t):=by
   unfold Hid
   unfold Pj;rw[<-A.o,Ap t I]
  have z:decide ((0:Int)<(t.size:Int))=false:=dF (by omega)
  go_wp2
  go_ret
  exact⟨by rw[h.o];rfl,rfl⟩
 have d:0<t.size:=by omega
 by_cases j:t[0].toNat=48
 ·have z:((t[0].toNat:Int)==48)=true:=by rw[Yf];omega
  have h:Hid (Ea (t.extract 1 t.size).data.toList=Ea s.data.toList):=(VG t d j).trans A.o;have E:Hid ((t.extract 1 t.size).size=t.size - 1):=P2 t;clear j
  go_wp2
  go_round
  case rel=>exact⟨_,by rw[E.o];omega,rfl,h.o⟩
  simp only[CU];rw[E.o];omega
 have z:((t[0].toNat:Int)==48)=false:=by rw[Jb];omega
 have h:Hid (Pj s=t):=by
  unfold Hid
  unfold Pj;rw[<-A.o,GA t d j]
 clear j
 go_wp2
 go_ret
 exact⟨by rw[h.o];rfl,rfl⟩
theorem Tl (s:ByteArray)(w:World)(hs:s.size<=maxLen) :
 Calls prog 229 #[.string s,.string ⟨#[48]⟩] w fun e w'=>e=.returned (.string (Pj s))/\w'=w:=by
 have h:=hs;unfold maxLen at hs
 by_cases d:s.size=0
 ·have z:=Rn s d;have j:Hid (Pj s=s):=by unfold Hid;unfold Pj;rw[Ap s d]
  clear d
  go_in
  go_wp2
  go_ret
  exact⟨by rw[j.o];rfl,rfl⟩
 have z:=Il s (by omega)
 go_in
 go_wp2_with fail
 refine (Cg _ _ h).mono ?_;rintro e w' ⟨rfl,rfl⟩
 go_wp2
 go_ret
 exact⟨rfl,rfl⟩
end Go.Proofs.YtdmdmgfjpomdbaaGreatDoor.Q
namespace Go.Proofs.YtdmdmgfjpomdbaaGreatDoor.Q
open RowKit Shelf Proofs.Tryz
attribute [local go_sem] Oper.semAt_some
abbrev Lb:={ x:Int×Nat // x.2<1000000000 }
theorem NG (l:List Nat)(h:okL l)(i:Nat):l.getD i 0<1000000000:=by
 rw[Ji]
 by_cases d:i<l.length
 ·rw[Jd d];exact h _ (Jo _)
 rw[Ym (by omega)];simp
def bk (l:List Nat)(h:okL l)(j:Nat):Lb:=⟨((l.length:Int) - 1 - j,l.getD (l.length - 1 - j) 0),NG l h _⟩
def Rh {α:Type}(f:Nat->α)(k:Nat):List α:=(List.range k).map f
theorem Ch {α:Type}(f:Nat->α)(k:Nat):Rh f (k+1)=Rh f k++[f k]:=by simp[Rh,List.range_succ]
theorem Ri {α:Type}(f:Nat->α)(k:Nat):(Rh f k).length=k:=by simp[Rh]
def KB (n₀ Bs:Nat)(W W':World):Prop:=Below n₀ W W'/\W'.cell? ⟨Bs,0,none⟩=W.cell? ⟨Bs,0,none⟩
theorem MH {n₀ Bs:Nat}{A B C:World}(h:KB n₀ Bs A B)(k:KB n₀ Bs B C):KB n₀ Bs A C:=⟨h.1.trans k.1,k.2.trans h.2⟩
theorem BP {n₀ Bs:Nat}{w:World}(hn:n₀<=w.heap.size)(hB:Bs<w.heap.size)(W:World)(l:Nat)(o o':Obj)(hl:w.heap.size<=l)(h:W.heap[l]? = some o)(h1:o.isCells=false)(h2:o.isWalk=false):KB n₀ Bs W (W.putObj l o'):=
 ⟨belowK_b hn W l o o' hl h h1 h2,(belowK_b (n₀:=Bs+1) (w:=w) hB W l o o' hl h h1 h2).cell (p:=⟨Bs,0,none⟩) (Yl _)⟩
theorem CW (n₀ Bs:Nat)(W:World):KB n₀ Bs W W:=⟨Je _ _,rfl⟩
theorem RI (F:Fence)(n:Nat)(hf:F.fn 239)(hro:F.round=none)(hn:1<=n)(l Bs n₀ b off cap:Nat)(zs:List Nat)(hok:okL zs)(hcap:zs.length<=cap)(hmax:cap<=maxLen)(hb:b<n₀)(J Jx:List Lb->World->Prop)
 (hY:∀ pre x W,J pre W->pre.length<zs.length->YieldAt F (n - 1) prog l #[.int .i64 x.1.1,.int .u32 (x.1.2:Nat)] W fun e W'=>
   (e=.returned (.bool true)/\J (pre++[x]) W'/\KB n₀ Bs W W')∨(e=.returned (.bool false)/\Jx (pre++[x]) W'))
 (W:World) (hBs:W.cell? ⟨Bs,0,none⟩=some (.slice (some ⟨b,off,none⟩) zs.length cap)) (hc:∀ j,j<zs.length->W.cell? ⟨b,off+j,none⟩=some (.int .u32 (zs.getD j 0:Nat))) (h0:J [] W) :
 CallsIn F n prog 239 #[.func (.yield l) #[] #[],.pointer (some ⟨Bs,0,none⟩)] W fun e W'=>(∃ v,e=.returned v) /\
  ((∃ ys,ys=Rh (bk zs hok) zs.length/\J ys W')∨(∃ pre,(∃ k,k<=zs.length/\pre=Rh (bk zs hok) k)/\Jx pre W')):=by
 unfold maxLen at hmax;have Y:=Hd hc;clear hc;refine callsIn_of_wp func239 rfl hf ?_ hro;simp only[ntmps239,Uo,Yq,Zn,Nat.reduceAdd,Nat.reduceSub,V0,V3,Um,Ua,Z4,Yx]
 gi_wp2
 gi_loopw [3] (fun i wr=>∃ k:Nat,k<=zs.length/\i=.int .i64 ((zs.length:Int) - 1 - k)/\J (Rh (bk zs hok) k) wr/\KB n₀ Bs W wr)
  (fun i _=>(intOf i+1).toNat)
 case atStart=>exact⟨0,Jr _,by simp,h0,CW _ _ _⟩
 obtain⟨k,hk,rfl,E,h⟩:=hrel;have a7:wr.cell? ⟨Bs,0,none⟩=some (.slice (some ⟨b,off,none⟩) zs.length cap):=h.2.trans hBs
 by_cases U:k<zs.length
 ·obtain⟨fn,tmps,assign,body,hy,Z⟩:=hY _ (bk zs hok k) wr E (by rw[Ri];exact U);obtain⟨i,V⟩:∃ i:Nat,zs.length - 1 - k=i:=⟨_,rfl⟩;have M:wr.cell? ⟨b,off+i,none⟩=some (.int .u32 (zs.getD i 0:Nat)):=(h.1.cell (p:=⟨b,off+i,none⟩) hb).trans (Y.o i (by omega));have d:((zs.length:Int) - 1 - k)=(i:Int):=by omega
  obtain⟨y,A⟩:=Oa (zs.getD i 0);simp only[bk,V,A,d] at hy;rw[A] at M;have I:=Hd d;have a8:i<zs.length:=by omega
  rw[d];clear V A d
  gi_wp2
  refine Z.mono ?_;rintro e W3 (⟨rfl,K,O⟩|⟨rfl,G⟩)
  ·gi_wp2
   go_roundw
   case rel=>exact⟨k+1,by omega,Ot (by have:=I.o;omega),by rw[Ch];exact K,MH h O⟩
   simp[intOf]
  gi_wp2
  refine Jg (results_none rfl _ _ _) rfl ?_;exact⟨⟨_,rfl⟩,.inr ⟨_,⟨k+1,by omega,(Ch _ _).symm⟩,G⟩⟩
 obtain rfl:k=zs.length:=by omega
 gi_wp2
 go_end0
 exact⟨⟨_,rfl⟩,.inl ⟨_,rfl,E⟩⟩
theorem Bt (F:Fence)(n:Nat)(hf:F.fn 239)(hro:F.round=none)(l Bs cap:Nat)(a:Option Addr)(J:List Lb->World->Prop)(W:World)(hBs:W.cell? ⟨Bs,0,none⟩=some (.slice a 0 cap))(h0:J [] W) :
 CallsIn F n prog 239 #[.func (.yield l) #[] #[],.pointer (some ⟨Bs,0,none⟩)] W fun e W'=>(∃ v,e=.returned v)/\J [] W':=by
 refine callsIn_of_wp func239 rfl hf ?_ hro;simp only[ntmps239,Uo,Yq,Zn,Nat.reduceAdd,Nat.reduceSub,V0,V3,Um,Ua,Z4,Yx]
 gi_wp2
 gi_loopw [3] (fun i wr=>i=.int .i64 (-1)/\J [] wr) (fun _ _=>0)
 case atStart=>exact⟨rfl,h0⟩
 obtain⟨rfl,d⟩:=hrel
 gi_wp2
 go_end0
 exact⟨⟨_,rfl⟩,d⟩
theorem NY (F:Fence)(n:Nat)(hf:F.fn 227)(hro:F.round=none)(a:Option Addr)(len cap:Nat)(w:World) :
 CallsIn F n prog 227 #[.slice a len cap] w fun e w'=>e=.returned (.func (.func 239) #[] #[.pointer (some ⟨w.heap.size,0,none⟩)])/\w'=w.alloc (.cells #[.slice a len cap] 117):=by
 refine callsIn_of_wp func227 rfl hf ?_ hro;simp only[ntmps227,Uo,Yq,Zn,Nat.reduceAdd,Nat.reduceSub,V0,V3,Um,Ua,Z4,Yx]
 gi_wp2
 go_ret
 exact⟨rfl,rfl⟩
theorem F5 (F:Fence)(n:Nat)(hf:F.fn 239)(hro:F.round=none)(hn:1<=n)(Bs n₀:Nat)(sv:Value)(zs:List Nat)(hok:okL zs)(w:World)(hBs:Bs<w.heap.size)(hn₀:n₀<=w.heap.size)
 (hc:w.cell? ⟨Bs,0,none⟩=some sv) (hI:∃ a cap,sv=.slice a zs.length cap/\zs.length<=cap/\cap<=maxLen/\(zs=[]∨∃ b off,a=some ⟨b,off,none⟩/\b<n₀/\∀ i,i<zs.length->w.cell? ⟨b,off+i,none⟩=some (.int .u32 (zs.getD i 0:Nat)))) :
 SeqStopsK F n prog 239 #[.pointer (some ⟨Bs,0,none⟩)] (fun x:Lb=>#[Value.int .i64 x.1.1,Value.int .u32 (x.1.2:Nat)]) (KB n₀ Bs) (fun ys=>ys=Rh (bk zs hok) zs.length)
  (fun pre=>∃ k,k<=zs.length/\pre=Rh (bk zs hok) k) zs.length w:=fun l J Jx W hW _ _ hY h0=>by
 have d:=(hW.cell (p:=⟨Bs,0,none⟩) hBs).trans hc
 obtain⟨a,cap,rfl,hl,h,A⟩:=hI
 rcases A with rfl|⟨b,off,rfl,hb,j⟩
 ·exact (Bt F n hf hro l Bs cap a J W d h0).mono fun e W' ⟨he,hj⟩=>⟨he,.inl ⟨_,rfl,hj⟩⟩
 exact RI F n hf hro hn l Bs n₀ b off cap zs hok hl h hb J Jx hY W d (fun i hi=>(hW.cell (p:=⟨b,off+i,none⟩) (Jq hb hn₀)).trans (j i hi)) h0
end Go.Proofs.YtdmdmgfjpomdbaaGreatDoor.Q
namespace Go.Proofs.YtdmdmgfjpomdbaaGreatDoor.Q
open ChangeShapes WideShapes ChangeAt RowKit Proofs.Tryz
def tens (j:Nat):Nat:=10 ^ (8 - j)
def LT (w:World):Prop:=∀ j,j<9->w.cell? ⟨8,j,none⟩=some (.int .u32 (tens j:Nat))
def dg (x j:Nat):Nat:=48+x / tens j % 10
def Gu (x k:Nat):List Nat:=(List.range k).map (dg x)
abbrev Bm (l:List Nat):List Value:=l.map (fun x=>Value.int .u8 (x:Nat))
theorem F3 (a:List Nat)(b:Nat):Bm (a++[b])=Bm a++[Value.int .u8 (b:Nat)]:=by simp[Bm]
theorem QR (k:Nat)(h:k<9):10 ^ (9 - k)=10*tens k:=by
 unfold tens;rw[show 9 - k=8 - k+1 by omega,J7,Y2]
theorem CN (k:Nat):0<tens k:=Nat.pow_pos (by decide)
theorem LP (k:Nat):tens k<=100000000:=by
 unfold tens;have:10 ^ (8 - k)<=10 ^ 8:=Y0 (by decide) (by omega);have e:(10:Nat) ^ 8=100000000:=by decide
 omega
theorem GL (x k:Nat):Gu x (k+1)=Gu x k++[dg x k]:=by simp[Gu,List.range_succ]
theorem LU (x T:Nat):x % (10*T) / T=x / T % 10:=by rw[Y2];exact Nat.mod_mul_right_div_self x T 10
theorem LK (x T:Nat):x % (10*T) % T=x % T:=Nat.mod_mod_of_dvd x (Nat.dvd_mul_left T 10)
theorem Lq {A B C:World}{r:Option Nat}(h1:A.grownBy B r)(h2:B.grownBy C r):A.grownBy C r:=
 ⟨h2.os.trans h1.os,h2.tape.trans h1.tape,h2.output.trans h1.output,Yc h1.size h2.size,fun k hk hne=>(h2.block k (Jq hk h1.size) hne).trans (h1.block k hk hne)⟩
theorem info_u8:(prog.info? 5).map (fun i=>(i.zero,i.size,i.bytes))=some (some (.int .u8 0),1,1):=by kernel_rfl
theorem F4 (base g n cap x:Nat)(xs:List Value)(w:World)(hown0:w.ownsRow base 5 1 (.slice (some ⟨g,0,none⟩) n cap) n xs)(hLT:LT w)(hgb:8<base)(hx:x<1000000000)(hc:n+9<=cap) :
 Calls prog 228 #[.slice (some ⟨g,0,none⟩) n cap,.int .u32 (x:Nat)] w fun e w'=>
  e=.returned (.slice (some ⟨g,0,none⟩) (n+9) cap)/\w'.ownsRow base 5 1 (.slice (some ⟨g,0,none⟩) (n+9) cap) (n+9) (xs++Bm (Gu x 9))/\w.grownBy w' (some g):=by
 have Z:=Hd hLT;have d2:=(hown0.lt g rfl).1;have HO:=Hd hown0;obtain⟨i0,M,d5,b3,d6⟩:=info_parts info_u8;clear hLT hown0
 go_in
 go_wp2
 go_loopw [0,1,6] (fun v l i wr=>∃ k:Nat,k<=9/\i=.int .i64 k/\l=.int .u32 (x % 10 ^ (9 - k):Nat)/\v=.slice (some ⟨g,0,none⟩) (n+k) cap /\
  wr.ownsRow base 5 1 (.slice (some ⟨g,0,none⟩) (n+k) cap) (n+k) (xs++Bm (Gu x k))/\w.grownBy wr (some g)) (fun _ _ i _=>9 - (intOf i).toNat)
 case atStart=>
  refine⟨0,Jr _,rfl,Ot ?_,rfl,by simpa[Gu] using HO.o,World.grownBy.refl _ _⟩;have e:(10:Nat) ^ 9=1000000000:=by decide
  rw[show 9 - 0=9 from rfl,e];omega
 obtain⟨k,hk,rfl,rfl,rfl,j,G⟩:=hrel
 by_cases O:k<9
 ·have d:wr.cell? ⟨8,k,none⟩=some (.int .u32 (tens k:Nat)):=G.cell (Z.o k O) (by simp;omega);have hT:=CN k;have a8:=LP k;have e1:=QR k O;have e2:=LU x (tens k);have U:=LK x (tens k);have e4:10 ^ (9 - (k+1))=tens k:=by unfold tens;rw[show 9 - (k+1)=8 - k by omega]
  have I:x % (10*tens k)<10*tens k:=Z5 _ (by omega);have Y:Hid (dg x k=48+x / tens k % 10):=rfl;rw[e1];have E:Hid (10 ^ (9 - (k+1))=tens k):=e4;obtain⟨T,J⟩:=Oa (tens k);rw[J] at d hT a8 e2 U I Y E ⊢;obtain⟨L,hL⟩:=Oa (x % (10*T));rw[hL] at e2 U I ⊢;have hq:L / T<10:=Nat.div_lt_of_lt_mul (by omega);have HQ:Hid (dg x k=48+L / T):=by rw[e2];exact Y.o
  have HM:Hid (x % 10 ^ (9 - (k+1))=L % T):=by rw[E.o];exact U.symm
  have d1:((T:Int)==0)=false:=by rw[Jb];omega
  have d3:(L:Int) / (T:Int)<10:=by
   have:((L / T:Nat):Int)<10:=by omega
   simpa using this
  have d4:0<=(L:Int) / (T:Int):=Uv (by omega) (by omega);clear e1 e2 U e4 J hL Y E
  go_wp2_with (at_builtin;refine wpList_append_fits _ rfl _ _ 112 rfl base 5 i0 1 underlying112 M b3 g (n+k) cap _ rfl (j.alloc _) ⟨wr.heap.size,0,none⟩ 1 1 [_] rfl rfl (cell_one_new _ _ _) ?c1 ?c2 ?_)
  case c1=>first|rfl|(intro u hu;simp at hu;subst hu;rfl)
  case c2=>omega
  intro w1 A h;have K:w.grownBy w1 (some g):=Lq (Lq G (World.grownBy_alloc wr _ _)) h;have V:w1.cell? ⟨8,k,none⟩=some (.int .u32 (T:Nat)):=h.cell (a:=⟨8,k,none⟩) (by rw[Jy _ _ _ (J5 _ _ d)];exact d) (by simp;omega);have a7:Hid (w1.ownsRow base 5 1 (.slice (some ⟨g,0,none⟩) (n+(k+1)) cap) (n+(k+1)) (xs++Bm (Gu x (k+1)))):=by
   unfold Hid
   rw[GL,F3,<-List.append_assoc,HQ.o]
   simpa[<-Nat.add_assoc] using A
  clear A h j d
  go_wp2
  go_roundw
  case rel=>exact⟨k+1,by omega,by go_num,by rw[HM.o];exact Ot (by simp),rfl,a7.o,K⟩
  simp[intOf];omega
 obtain rfl:k=9:=by omega
 go_wp2
 go_ret
 exact⟨rfl,j,G⟩
end Go.Proofs.YtdmdmgfjpomdbaaGreatDoor.Q
namespace Go.Proofs.YtdmdmgfjpomdbaaGreatDoor.Q
open RowKit Shelf Proofs.Tryz
attribute [local go_sem] Oper.semAt_some
def G5 (l:List Nat):List Nat:=l.reverse.flatMap (fun x=>Gu x 9)
def O0 (l:List Nat):List UInt8:=l.map UInt8.ofNat
def strB (l:List UInt8):ByteArray:=⟨l.toArray⟩
def textD (l:List Nat):List UInt8:=Ea (O0 (G5 l))
def textL (neg:Bool)(l:List Nat):ByteArray:=if neg then strB (45::textD l) else strB (textD l)
def Bg (neg:Bool)(l:List Nat):ByteArray:=if 2500<(textD l).length then strB [] else if neg then strB (45::textD l) else strB (textD l)
theorem We {w:World}(h:LT w):8<w.heap.size:=J5 w ⟨8,0,none⟩ (h 0 (by decide))
theorem Wt (x k:Nat):(Gu x k).length=k:=by simp[Gu]
theorem Iv (l:List Nat):(G5 l).length=9*l.length:=by
 unfold G5;rw[List.length_flatMap];simp only[Wt];rw[List.map_const',List.sum_replicate_nat];simp;omega
theorem Tk (l:List Nat):∀ x∈G5 l,x<256:=by
 intro x d;unfold G5 at d;rw[List.mem_flatMap] at d;obtain⟨y,_,h⟩:=d;unfold Gu at h;rw[Zh] at h;obtain⟨j,_,rfl⟩:=h;unfold dg;omega
theorem XR (l:List Nat)(h:okL l):(Rh (bk l h) l.length).flatMap (fun x:Lb=>Gu x.1.2 9)=G5 l:=by
 unfold G5;have e:(Rh (bk l h) l.length).map (fun x:Lb=>x.1.2)=l.reverse:=by
  apply Ue
  ·simp[Rh]
  intro i d h2;simp only[Rh,Zy,List.length_range] at d;simp only[Rh,Za,List.getElem_range,bk,List.getElem_reverse];rw[Ji,Jd (by omega)];rfl
 rw[<-e,List.flatMap_map]
theorem GN (t:List UInt8):(⟨#[45]⟩:ByteArray)++strB t=strB (45::t):=by
 apply ByteArray.ext;simp[strB]
theorem X5 (l:List UInt8):(strB l).size=l.length:=by simp[strB,ByteArray.size]
theorem Is (base:Nat)(W:World)(g n cap:Nat)(ns:List Nat)(h:W.ownsRow base 5 1 (.slice (some ⟨g,0,none⟩) n cap) n (Bm ns))(hlt:∀ x∈ns,x<256)(hn:ns.length=n) :
 (convert 112 9 (.slice (some ⟨g,0,none⟩) n cap)).run prog W=.ok (.string (strB (O0 ns))) W:=by
 have hl:(O0 ns).length=n:=by simp[O0,hn]
 have:=run_convert_bytes_back (P:=prog) W 112 9 5 ⟨g,0,none⟩ cap (O0 ns) underlying112 underlying5 underlying9 (fun j hj=>by
  rw[hl] at hj;have d:j<ns.length:=by omega
  have:=h.cells (g:=g) rfl j (.int .u8 (ns[j]:Nat)) (by simp[Bm,List.getElem?_eq_getElem d]);rw[this];have h2:=hlt ns[j] (Jo _);simp only[O0,Za]
  congr 2
  rw[UInt8.toNat_ofNat_of_lt' (by simpa using h2)])
 rw[hl] at this;exact this
theorem Pg (n:Bool)(a:Option Addr)(l c:Nat)(w:World) :
 Calls prog 152 #[.agg #[.bool n,.slice a l c]] w fun e w'=>e=.returned (.bool ((l:Int)==0))/\w'=w.alloc (.cells #[.bool n,.slice a l c] 155):=by
 go_in
 go_wp2
 go_ret
 exact⟨rfl,rfl⟩
theorem longText_zero (n:Bool)(a:Option Addr)(c:Nat)(w:World) :
 Calls prog 202 #[.agg #[.bool n,.slice a 0 c]] w fun e w'=>e=.returned (.string ⟨#[48]⟩)/\Up w w':=by
 go_in
 go_wp2_with (go_at_call 152;refine (Pg _ _ _ _ _).mono ?_;rintro e w' ⟨rfl,rfl⟩)
 go_ret
 exact⟨rfl,(Oz _ _).alloc (by simp) _⟩
theorem longText_pos (B:Nat)(neg:Bool)(v:Value)(l:List Nat)(w:World)(hI:Kz B w v l)(hne:0<l.length)(hlen:l.length<=600)(hLT:LT w) :
 Calls prog 202 #[.agg #[.bool neg,v]] w fun e w'=>e=.returned (.string (textL neg l))/\Up w w':=by
 obtain⟨a,cap,rfl,hl,d3,d7,hr⟩:=hI;obtain⟨i0,d6,g1,g2,g3⟩:=info_parts info_u8;have hz:((l.length:Int)==0)=false:=by rw[Jb];omega
 have HR:=Hd hr;clear hr;refine (callsIn_wide (n:=3)).1 ?_;refine callsIn_of_wp_marks func202 rfl trivial ?_ rfl;simp only[ntmps202,Uo,Yq,Zn,Nat.reduceAdd,Nat.reduceSub,V0,V3,Um,Ua,Z4,Yx]
 gi_wp2_with (first
  | (refine⟨trivial,?_⟩;gi_at_call 152;refine (callsIn_wide.2 (Pg _ _ _ _ _)).mono ?_;rintro e w' ⟨rfl,rfl⟩)
  | (gi_at_make;refine wpListIn_make_own _ rfl _ _ 112 rfl (w.heap.size+2) 5 i0 (.int .u8 0) 1 underlying112 d6 g1 g2 .i64 .i64 _ (l.length*9) rfl rfl ?m1 ?m2 ?m3 ?m4 ?_))
 case m1=>omega
 case m2=>rw[g3];omega
 case m3=>unfold maxLen;omega
 case m4=>simp
 intro E U Z;have j0:w.heap.size+2<E.heap.size:=by
  have:=(U.lt _ rfl).2;exact this
 have e9:w.heap.size<E.heap.size:=by omega
 have d9:E.cell? ⟨w.heap.size,0,none⟩=some (.bool neg):=Z.cell (a:=⟨w.heap.size,0,none⟩) (by rw[Jy _ _ _ (by simp),Jn _ _ _ _ rfl];rfl) (by simp);have g0:E.cell? ⟨w.heap.size,1,none⟩=some (.slice a l.length cap):=Z.cell (a:=⟨w.heap.size,1,none⟩) (by rw[Jy _ _ _ (by simp),Jn _ _ _ _ rfl];rfl) (by simp);have d2:Up w E:=(((Je _ w).alloc leR _).alloc (by simp) _).grown Z (by simp;omega) (fun k h=>by cases h);clear Z
 gi_wp2_with (refine⟨trivial,?_⟩;gi_at_call 227;refine (NY Fence.wide _ trivial rfl _ _ _ _).mono ?_;rintro e w' ⟨rfl,rfl⟩)
 have bP:=Boxed.new E 112 (.slice (some ⟨w.heap.size+1+1,0,none⟩) 0 (l.length*9));have bN:=Boxed.new (E.alloc (.cells #[.slice (some ⟨w.heap.size+1+1,0,none⟩) 0 (l.length*9)] 112)) 117 (.slice a l.length cap);rw[Jf] at bN;have b6:Up w ((E.alloc (.cells #[.slice (some ⟨w.heap.size+1+1,0,none⟩) 0 (l.length*9)] 112)).alloc (.cells #[.slice a l.length cap] 117)):=(d2.alloc (by omega) _).alloc (by simp;omega) _;have d8:l=[]∨∃ b off,a=some ⟨b,off,none⟩/\b<w.heap.size/\∀ i,i<l.length->((E.alloc (.cells #[.slice (some ⟨w.heap.size+1+1,0,none⟩) 0 (l.length*9)] 112)).alloc (.cells #[.slice a l.length cap] 117)).cell? ⟨b,off+i,none⟩=some (.int .u32 (l.getD i 0:Nat)):=by
  rcases HR.o with h|⟨b,off,e,_,hb,hc⟩
  ·exact .inl h
  exact .inr ⟨b,off,e,hb,fun i hi=>(b6.cell (p:=⟨b,off+i,none⟩) hb).trans (hc i hi)⟩
 have d5:((E.alloc (.cells #[.slice (some ⟨w.heap.size+1+1,0,none⟩) 0 (l.length*9)] 112)).alloc (.cells #[.slice a l.length cap] 117)).cell? ⟨w.heap.size,0,none⟩=some (.bool neg):=by rw[Jy _ _ _ (by simp;omega),Jy _ _ _ e9];exact d9
 refine wpIn_rangeFunc_ownG rfl (by decide) (gf:=239) (lb:=#[.pointer (some ⟨E.heap.size+1,0,none⟩)]) rfl trivial (enters_of func239 (by kernel_rfl) rfl)
  (F5 Fence.wide 2 trivial rfl (by decide) (E.heap.size+1) w.heap.size _ l d7 _ (by simp) (by simp;omega) bN.cell ⟨a,cap,rfl,hl,d3,d8⟩)
  MH (BP (by simp;omega) (by simp)) (Je _ _) (fun _=>rfl)
  (fun pre W=>((∃ v,Boxed W E.heap.size 112 v/\W.ownsRow (w.heap.size+2) 5 1 v (9*pre.length) (Bm (pre.flatMap (fun x:Lb=>Gu x.1.2 9)))/\v=.slice (some ⟨w.heap.size+1+1,0,none⟩) (9*pre.length) (l.length*9))/\W.cell? ⟨w.heap.size,0,none⟩=some (.bool neg)/\E.heap.size+2<=W.heap.size)/\Up w W)
  (fun _ _ _=>False)
  (OwnFrom.and (OwnFrom.and (Own.from (holdsRow_own (w.heap.size+2) E.heap.size 112 5 1 (fun pre:List Lb=>9*pre.length) (fun pre=>Bm (pre.flatMap (fun x:Lb=>Gu x.1.2 9))) (fun pre v=>v=.slice (some ⟨w.heap.size+1+1,0,none⟩) (9*pre.length) (l.length*9))) _)
    (Own.from (fun s A B row hs hg hr=>⟨cell_kept hs.1 hg hr,Yc hs.2 hg.size⟩) _)) (ownFrom_below leR (by simp;omega)))
  (fun _ _ _ _ _ hs _ _=>hs)
  ⟨⟨⟨_,bP.alloc _,(U.alloc _).alloc _,rfl⟩,d5,by simp⟩,b6⟩
  (fun x=>{ tmps:=#[.agg #[.bool neg,.slice a l.length cap],.pointer (some ⟨w.heap.size,0,none⟩),.string ⟨#[]⟩,.pointer (some ⟨E.heap.size,0,none⟩),undef,.int .u32 (x.1.2:Nat),undef,.agg #[.bool neg,.slice a l.length cap],.bool false,.pointer (some ⟨w.heap.size,1,none⟩),.slice a l.length cap,.int .i64 l.length,.int .i64 (l.length*9),.slice (some ⟨w.heap.size+1+1,0,none⟩) 0 (l.length*9),.pointer (some ⟨w.heap.size,1,none⟩),.slice a l.length cap,.func (.func 239) #[] #[.pointer (some ⟨E.heap.size+1,0,none⟩)],.int .i64 x.1.1,.int .u32 (x.1.2:Nat),undef,undef,undef,undef,undef,undef,undef,undef,undef,undef,undef],defers:=[] }) ?assign ?body ?done ?stop
 case assign=>
  intro lx x W K hK
  gi_wp2
  exact hK
 case body=>
  rintro lx pre x W ⟨⟨⟨v,hv,G,rfl⟩,d4,f8⟩,hB⟩ i8;have hx:=x.2;have f9:=hv.cell;have e8:8<w.heap.size:=We hLT;have b4:LT W:=fun j hj=>(hB.cell (p:=⟨8,j,none⟩) e8).trans (hLT j hj);have e0:=Hd b4;have J:=Hd G;have HV:=Hd hv;clear G hv b4
  gi_wp2
  refine⟨trivial,?_⟩;refine (CallsIn.inRound lx (callsIn_wide.2 (F4 (w.heap.size+2) (w.heap.size+1+1) (9*pre.length) (l.length*9) x.1.2 _ W J.o e0.o (by omega) hx (by omega)))).mono ?_;rintro e w2 ⟨rfl,V,M⟩;have a8:=HV.o.kept M (HV.o.not_row (by decide) J.o);have i1:=a8.cell;have i7:=a8.frozen;have c8:=Hd a8;have c6:=Hd V;have I:=Hd M;clear a8 V M
  gi_wp2
  have b7:(pre++[x]).length=pre.length+1:=by simp
  have O:9*(pre++[x]).length=9*pre.length+9:=by rw[b7];omega
  have a7:=grownBy_setCell' w2 E.heap.size (.slice (some ⟨w.heap.size+1+1,0,none⟩) (9*pre.length+9) (l.length*9));refine⟨KeepsOthers.from ((KeepsOthers.of_grownBy I.o fun j o ej hj=>?_).trans (KeepsOthers.setCell _ _ _)) _,⟨?_,?_⟩,⟨⟨_,c8.o.set _,?_,?_⟩,?_,?_⟩,?_⟩
  ·rcases J.o.2 with⟨e,_⟩|⟨g,g6,h6,e,_,e7,_⟩
   ·cases e
   simp only[Value.slice.injEq,Option.some.injEq,Addr.mk.injEq,and_true] at e;obtain⟨rfl,_⟩:=e
   cases ej
   rw[e7] at hj;cases hj;rfl
  ·exact (((Je w.heap.size W).grown I.o hB.size (fun k e=>by cases e;omega)).setCell (p:=⟨E.heap.size,0,none⟩) (by show w.heap.size<=E.heap.size;omega) _)
  ·have e1:w2.heap[E.heap.size+1]? = W.heap[E.heap.size+1]? := I.o.block _ (by omega) (by simp;omega);have e2:=Jh w2 ⟨E.heap.size,0,none⟩ (.slice (some ⟨w.heap.size+1+1,0,none⟩) (9*pre.length+9) (l.length*9)) (E.heap.size+1) (Nat.succ_ne_self _);exact Vo (e2.trans e1)
  ·rw[O,Zs];have:=c6.o.kept a7 (.inr (c8.o.not_row (by decide) c6.o).symm)
   simpa[Bm] using this
  ·rw[O]
  ·exact (Vo ((Jh w2 ⟨E.heap.size,0,none⟩ _ w.heap.size (by show w.heap.size≠E.heap.size;omega)).trans (I.o.block _ (by omega) (by simp;omega)))).trans d4
  ·have:=I.o.size;simp;omega
  exact (hB.grown I.o hB.size (fun k e=>by cases e;omega)).setCell (p:=⟨E.heap.size,0,none⟩) (by show w.heap.size<=E.heap.size;omega) _
 case done=>
  rintro D ys W hD rfl ⟨⟨⟨v,hv,G,rfl⟩,d4,f8⟩,hB⟩ hK;rw[XR l d7,Ri] at G;rw[Ri] at hv;have f9:=hv.cell;have e5:=Is _ _ _ _ _ _ G (Tk l) (Iv l);have b8:(strB (O0 (G5 l))).size<=maxLen:=by rw[X5,O0,Zy,Iv];unfold maxLen;omega
  have HD:Hid (Pj (strB (O0 (G5 l)))=strB (textD l)):=rfl;obtain⟨d,hd⟩:=Oa (strB (textD l));have Y:=Hd hd;have i6:d.size<=6000:=by
   rw[<-hd,X5];have h1:(textD l).length<=(O0 (G5 l)).length:=by unfold textD Ea;exact (List.dropWhile_suffix _).length_le
   rw[O0,Zy,Iv] at h1;omega
  have b3:Hid (Up w (W.putObj D (.deferred none))):=hB.trans (belowK_b (w:=w) leR W D _ _ (by simp at hD;omega) hK rfl rfl);clear G hv U bP bN b6 d8 d5 hd d2 d9 g0;have d1:=Hd hK;clear hK hB;have HS:Hid (d.size=(textD l).length):=by rw[<-Y.o];exact X5 _
  gi_wp2
  refine⟨trivial,?_⟩;refine (callsIn_wide.2 (Tl _ _ b8)).mono ?_;rintro e w' ⟨rfl,j1⟩;subst w';rw[HD.o,Y.o]
  cases neg
  ·have HT:Hid (textL false l=d):=Y.o
   gi_wp2
   refine⟨by simp,.inl ⟨_,_,rfl,run_takeDeferred d1.o,?_⟩⟩;exact⟨_,results_tmp rfl _ _ _,by rw[HT.o];rfl,b3.o⟩
  have HT:Hid (textL true l=strB (45::textD l)):=rfl;have HC:Hid ((⟨#[45]⟩:ByteArray)++d=strB (45::textD l)):=by rw[<-Y.o];exact GN _
  gi_wp2
  refine⟨by simp,.inl ⟨_,_,rfl,run_takeDeferred d1.o,?_⟩⟩;exact⟨_,results_tmp rfl _ _ _,by rw[HT.o,<-HC.o];rfl,b3.o⟩
 rintro D c pre W _ _ h _;exact h.elim
theorem textD_no45 (l:List Nat):∀ c∈textD l,c≠45:=by
 intro c hc;have d:c∈O0 (G5 l):=(List.dropWhile_suffix _).subset hc;unfold O0 G5 at d;rw[Zh] at d;obtain⟨x,E,rfl⟩:=d;rw[List.mem_flatMap] at E;obtain⟨y,_,A⟩:=E;unfold Gu at A;rw[Zh] at A;obtain⟨j,_,rfl⟩:=A;unfold dg;intro h;have h2:=congrArg UInt8.toNat h;rw[UInt8.toNat_ofNat_of_lt' (by simp[UInt8.size];omega)] at h2;have:(45:UInt8).toNat=45:=rfl;omega
theorem textL_dgs (neg:Bool)(l:List Nat):(dgs (textL neg l)).size=(textD l).length:=by
 cases neg
 ·have h:isNeg (strB (textD l))=false:=by
   unfold isNeg;rw[Jk]
   cases d:textD l with
   | nil=>rfl
   | cons c r=>
     have:=textD_no45 l c (by rw[d];exact List.mem_cons_self ..);simp[strB,this]
  show (dgs (strB (textD l))).size=_
  rw[Fm _ h,X5]
 have h:isNeg (strB (45::textD l))=true:=by
  unfold isNeg;rw[Jk];simp[strB]
 show (dgs (strB (45::textD l))).size=_
 rw[Fl _ h,Yo,X5];simp
theorem QC (n:Bool)(a:Option Addr)(c:Nat)(w:World) :
 Calls prog 183 #[.agg #[.bool n,.slice a 0 c]] w fun e w'=>e=.returned (.string ⟨#[48]⟩)/\Up w w':=by
 have d:dgs ⟨#[48]⟩=⟨#[48]⟩:=by kernel_rfl
 have j:=Hd d;clear d
 go_in
 go_wp2_with (first
  | (go_at_call 202;refine (longText_zero _ _ _ _).mono ?_;rintro e A ⟨rfl,hb⟩;have h:Hid (Up w A):=(Oz _ _).trans (hb.mono (by simp));clear hb)
  | (go_at_call 146;refine (I8 _ _ (by decide)).mono ?_;rintro e w2 ⟨rfl,E⟩;subst w2;rw[j.o]))
 go_ret
 exact⟨rfl,h.o⟩
theorem CQ (B:Nat)(neg:Bool)(v:Value)(l:List Nat)(w:World)(hI:Kz B w v l)(hne:0<l.length)(hlen:l.length<=600)(hLT:LT w) :
 Calls prog 183 #[.agg #[.bool neg,v]] w fun e w'=>e=.returned (.string (Bg neg l))/\Up w w':=by
 have I:Hid (∀ o,Calls prog 202 #[.agg #[.bool neg,v]] (w.alloc o) fun e w'=>e=.returned (.string (textL neg l))/\Below (w.alloc o).heap.size (w.alloc o) w'):=fun o=>longText_pos B neg v l _ (hI.bl (Oz _ _)) hne hlen (fun j hj=>((Oz _ _).cell (p:=⟨8,j,none⟩) (We hLT)).trans (hLT j hj));obtain⟨a,cap,rfl,hl,K,E,Z⟩:=hI;have G:=textL_dgs neg l;have Y:(textD l).length<=6000:=by
  have V:(textD l).length<=(O0 (G5 l)).length:=by unfold textD Ea;exact (List.dropWhile_suffix _).length_le
  rw[O0,Zy,Iv] at V;omega
 have M:(textL neg l).size<=maxLen:=by
  have h2:(textL neg l).size<=6001:=by
   unfold textL;split<;>rw[X5]
   ·simp;omega
   omega
  unfold maxLen;omega
 have d:Hid (Bg neg l=if 2500<(textD l).length then strB [] else textL neg l):=rfl;generalize textL neg l=T at G M I d;generalize (textD l).length=n at G Y d;obtain⟨D,A⟩:=Oa (dgs T);rw[A] at G;have U:=Hd A;clear A Z E
 by_cases h:2500<n
 case' pos=>
  have z:decide (2500<(D.size:Int))=true:=dT (by omega)
  have J:Hid (Bg neg l=strB []):=d.o.trans (if_pos h)
 case' neg=>
  have z:decide (2500<(D.size:Int))=false:=dF (by omega)
  have J:Hid (Bg neg l=T):=d.o.trans (if_neg h)
 all_goals
  go_in
  go_wp2_with (first
   | (go_at_call 202;refine (I.o _).mono ?_;rintro e w1 ⟨rfl,hb⟩;have O:Hid (Up w w1):=(Oz _ _).trans (hb.mono (by simp));clear hb)
   | (go_at_call 146;refine (I8 _ _ M).mono ?_;rintro e w2 ⟨rfl,hw⟩;subst w2;rw[U.o]))
  go_ret
  exact⟨by rw[J.o];rfl,O.o⟩
end Go.Proofs.YtdmdmgfjpomdbaaGreatDoor.Q
