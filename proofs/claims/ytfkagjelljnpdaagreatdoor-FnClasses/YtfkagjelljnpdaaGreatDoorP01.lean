import Derived.Test.YtfkagjelljnpdaaGreatDoorP00
import Derived.Test.YtfkagjelljnpdaaGreatDoorRows
import Derived.WalkSpells
import Derived.ProofKit
import Derived.OpenShut
import Derived.ShutString
import Derived.Lib.Strings
import Derived.Lib.IndexBytes
import Derived.RangeFuncBox
import Derived.RangeFuncLeaves
import Derived.Shelf.Abstract
import Derived.OwnWalkIn
import Derived.TacticsInMore
import Derived.LoopNIn
import Derived.LoopIn
import Derived.Maps.AppendAt
import Derived.Laws.IdiomStrings
import Derived.RangeFuncCalls
import Derived.Deep.QuietTactic
import Derived.BigQuiet
import Derived.WalkSmall
import Derived.OneCell
set_option maxRecDepth 100000
set_option maxHeartbeats 1000000
namespace Go.Proofs.YtfkagjelljnpdaaGreatDoor.Q
open ChangeShapes WideShapes ChangeAt RowKit Proofs.Tryz
variable {B:Nat}{l:List Nat}{v:Value}{w:World}
def Ur(s:ByteArray):Bool:=(s.extract 0 1).toList==[45]
def dgs(s:ByteArray):ByteArray:=if Ur s then s.extract 1 s.size else s
def E5(c:UInt8):Bool:=decide (48<=c.toNat/\c.toNat<=57)
def Ol(s:ByteArray):Bool:=
 decide (0<(dgs s).size)&&decide ((dgs s).size<=2500)&&(dgs s).data.toList.all E5&&(!decide ((dgs s).data.toList.head? = some 48)||s.toList==[48])
theorem Sr(s:ByteArray):(dgs s).size<=s.size:=by
 unfold dgs;split
 ·rw[Yn];omega
 exact leR
theorem Oz{a b:Bool}(h:a=b):Ending.returned (.bool a)=.returned (.bool b):=by rw[h]
theorem Gr(s:ByteArray)(k:Nat)(h:k<s.size):s.data.toList.take (k+1)=s.data.toList.take k++[s[k]]:=by
 rw[Yl (by simpa using h)];rfl
theorem E9(s:ByteArray)(k:Nat)(h:k<s.size)(hp:(s.data.toList.take k).all E5=true)(h1:48<=s[k].toNat)(h2:s[k].toNat<=57) :
 (s.data.toList.take (k+1)).all E5=true:=by
 rw[Gr s k h,List.all_append,hp];simp[E5,h1,h2]
theorem X5(s:ByteArray)(k:Nat)(h:k<s.size)(h1:¬ (48<=s[k].toNat/\s[k].toNat<=57)):s.data.toList.all E5=false:=by
 rw[Yb];intro ha;rw[Jx]at ha;have:=ha s[k] (by show s.data[k]∈_;exact Vc _);simp[E5]at this;omega
theorem Xp(s d:ByteArray)(hd:dgs s=d)(h:d.size=0):Ol s=false:=by subst hd;simp[Ol,h]
theorem Ib(s d:ByteArray)(hd:dgs s=d)(h:2500<d.size):Ol s=false:=by
 subst hd;unfold Ol;rw[Jd (show ¬ (dgs s).size<=2500 by omega)];simp
theorem N5(d:ByteArray)(h:0<d.size):d.data.toList.head? = some d[0]:=by
 obtain⟨⟨l⟩⟩:=d
 cases l with
 | nil=>simp[ByteArray.size]at h
 | cons a l=>rfl
theorem Ia(s d:ByteArray)(hd:dgs s=d)(h:0<d.size)(h2:d[0].toNat=48):Ol s=(s.toList==[48]):=by
 subst hd;have e:(dgs s)[0]=48:=UInt8.toNat_inj.1 (by rw[h2];rfl)
 cases hb:s.toList==[48]with
 | false=>
   unfold Ol;rw[hb,N5 _ h,e];simp
 | true=>
   have hl:s.toList=[48]:=by simpa using hb
   rw[Jk]at hl;have j:s=⟨#[48]⟩:=by
    obtain⟨⟨l⟩⟩:=s;simp at hl;rw[hl]
   subst j;simp[Ol,dgs,Ur,ByteArray.toList_eq,E5,ByteArray.size]
theorem Cu(s d:ByteArray)(hd:dgs s=d)(h:0<d.size)(h1:d.size<=2500)(h2:¬ d[0].toNat=48):Ol s=d.data.toList.all E5:=by
 subst hd;have e:¬ (dgs s)[0]=48:=fun e=>h2 (by rw[e];rfl);unfold Ol;rw[N5 _ h];simp[h,h1,e]
theorem Hh(s:ByteArray)(w:World)(hs:s.size<=maxLen) :
 Calls prog 171 #[.string s,.string ⟨#[45]⟩] w fun e w'=>e=.returned (.string (dgs s))/\w'=w:=by
 unfold maxLen at hs;have E:((s.extract 0 1).toList==[45])=true->dgs s=s.extract 1 s.size:=fun h=>by unfold dgs Ur;rw[if_pos h]
 have j:((s.extract 0 1).toList==[45])=false->dgs s=s:=fun h=>by unfold dgs Ur;rw[if_neg (by rw[h];decide)]
 have q:¬ 1<=(s.size:Int)->dgs s=s:=fun h=>j (by
  rw[Lib.extract_toList];have:s.data.toList=[]:=by
   have:=Lib.size_eq s;exact Jt (by omega)
  rw[this];rfl)
 have K:=Hd E;have J:=Hd j;have G:=Hd q;clear E j q
 go_in
 go_wp2
 all_goals go_ret
 ·rw[K.o ‹_›];exact⟨rfl,rfl⟩
 ·rw[J.o ‹_›];exact⟨rfl,rfl⟩
 rw[G.o (by omega)];exact⟨rfl,rfl⟩
theorem Ii(d:ByteArray)(h:0<d.size):d.toList.isEmpty=false:=by
 rw[Jk];have:=Lib.size_eq d
 cases hl:d.data.toList with
 | nil=>exfalso;rw[hl]at this;simp only[Zp]at this;omega
 | cons _ _=>rfl
theorem Rb(d:ByteArray)(h:d.size=0):d.toList.isEmpty=true:=by
 rw[Jk,Jt (l:=d.data.toList) (by rw[<-Lib.size_eq];exact h)];rfl
theorem Cz(s:ByteArray)(w:World)(hs:s.size<=maxLen) :
 Calls prog 172 #[.string s] w fun e w'=>e=.returned (.bool (Ol s))/\w'=w:=by
 have q:=Sr s;unfold maxLen at hs;obtain⟨d,hd⟩:=O2 (dgs s);rw[hd]at q;have h:=Hd hd;clear hd
 by_cases c0:d.size=0
 ·have e:=Rb d c0;have F:Hid (Ol s=false):=Xp s d h.o c0;clear c0
  go_in
  go_wp2_with (go_at_call 171;refine(Hh _ _ hs).mono ?_;rintro e w' ⟨rfl,rfl⟩;rw[h.o])
  go_ret
  exact⟨Oz F.o.symm,rfl⟩
 have e:=Ii d (by omega)
 by_cases c1:2500<d.size
 ·have F:Hid (Ol s=false):=Ib s d h.o c1;clear c0;have c2:decide (2500<(d.size:Int))=true:=by simp;omega
  go_in
  go_wp2_with (go_at_call 171;refine(Hh _ _ hs).mono ?_;rintro e w' ⟨rfl,rfl⟩;rw[h.o])
  go_ret
  exact⟨Oz F.o.symm,rfl⟩
 have c2:decide (2500<(d.size:Int))=false:=by simp;omega
 have c3:0<d.size:=by omega
 by_cases c4:d[0].toNat=48
 ·have F:Hid (Ol s=(s.toList==[48])):=Ia s d h.o c3 c4;clear c0;have c5:((d[0].toNat:Int)==48)=true:=by simp;omega
  go_in
  go_wp2_with (go_at_call 171;refine(Hh _ _ hs).mono ?_;rintro e w' ⟨rfl,rfl⟩;rw[h.o])
  go_ret
  exact⟨Oz F.o.symm,rfl⟩
 have F:Hid (Ol s=d.data.toList.all E5):=Cu s d h.o c3 (by omega) c4;have c5:((d[0].toNat:Int)==48)=false:=by simp;omega
 clear c0 c4
 go_in
 go_wp2_with (go_at_call 171;refine(Hh _ _ hs).mono ?_;rintro e w' ⟨rfl,rfl⟩;rw[h.o])
 go_loop [21] (fun i=>∃k:Nat,k<=d.size/\i=.int .i64 k/\(d.data.toList.take k).all E5=true) (fun i=>d.size - (intOf i).toNat)
 case atStart=>exact⟨0,Jp _,rfl,rfl⟩
 obtain⟨k,G,rfl,hp⟩:=hrel;have E:=Hd hp;clear hp
 by_cases j:k<d.size
 ·go_wp2
  ·go_ret
   exact⟨Oz (by rw[F.o,X5 d k j (by omega)]),rfl⟩
  ·go_round
   case rel=>exact⟨k+1,by omega,by go_num,E9 d k j E.o (by omega) (by omega)⟩
   simp[intOf];omega
  go_ret
  exact⟨Oz (by rw[F.o,X5 d k j (by omega)]),rfl⟩
 go_wp2
 go_ret
 exact⟨Oz (by rw[F.o];rw[<-E.o,Yf (by rw[<-Lib.size_eq];omega)]),rfl⟩
theorem X9(s:ByteArray)(h:Ur s=true):∃h0:0<s.size,s[0].toNat=45:=by
 unfold Ur at h;rw[Lib.extract_toList]at h;obtain⟨⟨l⟩⟩:=s
 cases l with
 | nil=>simp at h
 | cons a l=>
   simp at h;refine⟨by simp[ByteArray.size],?_⟩
   show a.toNat=45
   rw[h];rfl
theorem S1(s:ByteArray)(h:Ur s=false)(h0:0<s.size):¬ s[0].toNat=45:=by
 unfold Ur at h;rw[Lib.extract_toList]at h;obtain⟨⟨l⟩⟩:=s
 cases l with
 | nil=>simp[ByteArray.size]at h0
 | cons a l=>
   simp at h;intro e;exact h (UInt8.toNat_inj.1 (by rw[show a.toNat=45 from e];rfl))
theorem Cv(s d:ByteArray)(hd:dgs s=d)(h:0<d.size)(h1:d.size<=2500)(h2:Ur s=true->¬ d.toList=[48])(h3:d.size=1∨¬ d[0].toNat=48):Ol s=d.data.toList.all E5:=by
 by_cases c:d[0].toNat=48
 ·rw[Ia s d hd h c];have q:d.size=1:=h3.resolve_right (fun x=>x c);have e:d[0]=48:=UInt8.toNat_inj.1 (by rw[c];rfl);have j:d.data.toList=[48]:=by
   have hh:=N5 d h;rw[Lib.size_eq]at q;obtain⟨a,ha⟩:=List.length_eq_one_iff.1 q;rw[ha]at hh ⊢;simp at hh;rw[hh,e]
  cases hn:Ur s with
  | true=>exact absurd (by rw[Jk];exact j) (h2 hn)
  | false=>
    have:s=d:=by rw[<-hd];unfold dgs;rw[hn];rfl
    rw[this,Jk,j];rfl
 exact Cu s d hd h h1 c
theorem Mu(s d:ByteArray)(hd:dgs s=d)(h:1<d.size)(c:d[0].toNat=48):Ol s=false:=by
 rw[Ia s d hd (by omega) c,Jc];intro e;have:=Sr s;have j:s.size=1:=by rw[Lib.size_eq,<-Jk,e];rfl
 rw[hd]at this;omega
theorem YU(s d:ByteArray)(hd:dgs s=d)(hn:Ur s=true)(h:(d.toList==[48])=true):Ol s=false:=by
 have e:d.toList=[48]:=by simpa using h
 rw[Jk]at e;have J:d.size=1:=by rw[Lib.size_eq,e];rfl
 have hh:=N5 d (by omega);rw[e]at hh;simp at hh;rw[Ia s d hd (by omega) (by rw[<-hh];rfl),Jc];intro E;obtain⟨G,q⟩:=X9 s hn;have j:=N5 s G;rw[<-Jk,E]at j;simp at j;rw[<-j]at q;exact absurd q (by decide)
theorem Dg(s:ByteArray)(h:Ur s=true):dgs s=s.extract 1 s.size:=by unfold dgs;rw[if_pos h]
theorem Dh(s:ByteArray)(h:Ur s=false):dgs s=s:=by unfold dgs;rw[h];rfl
theorem Dj(s:ByteArray):(s.extract 1 s.size).size=s.size - 1:=by rw[Yn];omega
theorem RI(s:ByteArray)(w:World)(hs:s.size<=maxLen)(hn:Ur s=false) :
 Calls prog 86 #[.string s] w fun e w'=>e=.returned (.bool (Ol s))/\w'=w:=by
 unfold maxLen at hs;have q:Hid (dgs s=s):=Dh s hn;have E:=Hd hn;clear hn
 by_cases c0:s.size=0
 ·have F:Hid (Ol s=false):=Xp s _ q.o c0;have J:s=ByteArray.empty:=by
   obtain⟨⟨l⟩⟩:=s;simp[ByteArray.size]at c0;rw[c0];rfl
  clear c0;subst J
  go_in
  go_wp2
  go_ret
  exact⟨Oz F.o.symm,rfl⟩
 have c2:0<s.size:=by omega
 have R:((s[0].toNat:Int)==45)=false:=by
  have:=S1 s E.o c2;simp;omega
 have z0:((s.size:Int)==0)=false:=by rw[Jc];omega
 by_cases c1:2500<s.size
 ·have F:Hid (Ol s=false):=Ib s _ q.o c1;have K:decide (2500<(s.size:Int))=true:=by simp;omega
  clear c0
  go_in
  go_wp2
  all_goals
   go_ret
   exact⟨Oz F.o.symm,rfl⟩
 have K:decide (2500<(s.size:Int))=false:=by simp;omega
 by_cases c3:s.size=1∨¬ s[0].toNat=48
 ·have F:Hid (Ol s=s.data.toList.all E5):=Cv s s q.o c2 (by omega) (fun h=>by rw[E.o]at h;cases h) c3;have z2:decide (1<(s.size:Int))=false∨(decide (1<(s.size:Int))=true/\((s[0].toNat:Int)==48)=false):=by
   by_cases c4:s.size=1
   ·exact .inl (by simp;omega)
   exact .inr ⟨by simp;omega,by have:=c3.resolve_left c4;simp;omega⟩
  have z3:1<=s.size:=by omega
  clear c3 c0
  rcases z2 with z2|⟨z2,z4⟩
  all_goals
   go_in
   go_wp2
   go_loop [3] (fun i=>∃k:Nat,k<=s.size/\i=.int .i64 k/\(s.data.toList.take k).all E5=true) (fun i=>s.size - (intOf i).toNat)
   case atStart=>exact⟨0,Jp _,rfl,rfl⟩
   obtain⟨k,O,rfl,hp⟩:=hrel;have G:=Hd hp;clear hp
   by_cases j:k<s.size
   ·go_wp2
    ·go_ret
     exact⟨Oz (by rw[F.o,X5 s k j (by omega)]),rfl⟩
    ·go_round
     case rel=>exact⟨k+1,by omega,by go_num,E9 s k j G.o (by omega) (by omega)⟩
     simp[intOf];omega
    go_ret
    exact⟨Oz (by rw[F.o,X5 s k j (by omega)]),rfl⟩
   go_wp2
   go_ret
   exact⟨Oz (by rw[F.o];rw[<-G.o,Yf (by rw[<-Lib.size_eq];omega)]),rfl⟩
 have F:Hid (Ol s=false):=Mu s s q.o (by omega) (by omega);have z2:decide (1<(s.size:Int))=true:=by simp;omega
 have z4:((s[0].toNat:Int)==48)=true:=by simp;omega
 clear c3
 go_in
 go_wp2
 all_goals
  go_ret
  exact⟨Oz F.o.symm,rfl⟩
theorem RH(s:ByteArray)(w:World)(hs:s.size<=maxLen)(hn:Ur s=true) :
 Calls prog 86 #[.string s] w fun e w'=>e=.returned (.bool (Ol s))/\w'=w:=by
 unfold maxLen at hs;have E:Hid (dgs s=s.extract 1 s.size):=Dg s hn;have O:=Hd hn;have q:Hid ((s.extract 1 s.size).size=s.size - 1):=Dj s;obtain⟨Y,R⟩:=X9 s hn;have m0:((s[0].toNat:Int)==45)=true:=by simp;omega
 clear hn R
 by_cases c9:((s.extract 1 s.size).toList==[48])=true
 ·have F:Hid (Ol s=false):=YU s _ E.o O.o c9
  go_in
  go_wp2
  go_ret
  exact⟨Oz F.o.symm,rfl⟩
 have n9:((s.extract 1 s.size).toList==[48])=false:=by simpa using c9
 have K:Hid (¬ (s.extract 1 s.size).toList=[48]):=by intro e;rw[e]at c9;exact c9 rfl
 clear c9
 by_cases c0:s.size - 1=0
 ·have F:Hid (Ol s=false):=Xp s _ E.o (by rw[q.o];exact c0);have z0:(((s.size - 1:Nat):Int)==0)=true:=by rw[J2];omega
  go_in
  go_wp2
  go_ret
  exact⟨Oz F.o.symm,rfl⟩
 have c2:0<s.size - 1:=by omega
 have z0:(((s.size - 1:Nat):Int)==0)=false:=by rw[Jc];omega
 by_cases c1:2500<s.size - 1
 ·have F:Hid (Ol s=false):=Ib s _ E.o (by rw[q.o];exact c1);have V:decide (2500<((s.size - 1:Nat):Int))=true:=dT (by omega)
  clear c0
  go_in
  go_wp2
  go_ret
  exact⟨Oz F.o.symm,rfl⟩
 have V:decide (2500<((s.size - 1:Nat):Int))=false:=dF (by omega)
 have c5:0<(s.extract 1 s.size).size:=by rw[q.o];exact c2
 by_cases c3:(s.extract 1 s.size).size=1∨¬ (s.extract 1 s.size)[0].toNat=48
 ·have F:Hid (Ol s=(s.extract 1 s.size).data.toList.all E5):=Cv s _ E.o c5 (by rw[q.o];omega) (fun h=>K.o) c3;have z2:decide (1<((s.size - 1:Nat):Int))=false∨(decide (1<((s.size - 1:Nat):Int))=true/\(((s.extract 1 s.size)[0].toNat:Int)==48)=false):=by
   by_cases c4:(s.extract 1 s.size).size=1
   ·exact .inl (by rw[q.o]at c4;rw[J0];omega)
   exact .inr ⟨by rw[q.o]at c4;rw[Jv];omega,by have:=c3.resolve_left c4;rw[Jc];omega⟩
  clear c3 c0
  rcases z2 with z2|⟨z2,z4⟩
  all_goals
   go_in
   go_wp2
   go_loop [3] (fun i=>∃k:Nat,k<=s.size - 1/\i=.int .i64 k/\((s.extract 1 s.size).data.toList.take k).all E5=true) (fun i=>s.size - 1 - (intOf i).toNat)
   case atStart=>exact⟨0,Jp _,rfl,rfl⟩
   obtain⟨k,Z,rfl,hp⟩:=hrel;have J:=Hd hp;clear hp
   by_cases G:k<s.size - 1
   ·have j:k<(s.extract 1 s.size).size:=by rw[q.o];exact G
    go_wp2
    ·go_ret
     exact⟨Oz (by rw[F.o,X5 _ k j (by omega)]),rfl⟩
    ·go_round
     case rel=>exact⟨k+1,by omega,by go_num,E9 _ k j J.o (by omega) (by omega)⟩
     simp[intOf];omega
    go_ret
    exact⟨Oz (by rw[F.o,X5 _ k j (by omega)]),rfl⟩
   go_wp2
   go_ret
   exact⟨Oz (by rw[F.o];rw[<-J.o,Yf (by rw[<-Lib.size_eq,q.o];omega)]),rfl⟩
 have F:Hid (Ol s=false):=Mu s _ E.o (by omega) (by omega);have z2:decide (1<((s.size - 1:Nat):Int))=true:=by rw[q.o]at c3 c5;rw[Jv];omega
 have z4:(((s.extract 1 s.size)[0].toNat:Int)==48)=true:=by rw[J2];omega
 clear c3
 go_in
 go_wp2
 all_goals
  go_ret
  exact⟨Oz F.o.symm,rfl⟩
theorem Ck(s:ByteArray)(w:World)(hs:s.size<=maxLen) :
 Calls prog 86 #[.string s] w fun e w'=>e=.returned (.bool (Ol s))/\w'=w:=by
 cases hn:Ur s
 ·exact RI s w hs hn
 exact RH s w hs hn
def val:List Nat->Nat
 | []=>0
 | x::l=>x+1000000000*val l
def C1(l:List Nat):Prop:=∀x∈l,x<1000000000
def O0(l:List Nat):List Nat:=l.take (l.length - (l.reverse.takeWhile (·==0)).length)
def Kl(l:List Nat):Prop:=∀h:l≠[],l.getLast h≠0
def num(d:List UInt8):Nat:=d.foldl (fun a c=>a*10+(c.toNat - 48)) 0
def chunk(d:List UInt8)(i:Nat):Nat:=num ((d.take (d.length - 9*i)).drop (d.length - 9*i - 9))
def I6(n:Nat):Nat:=(n+8) / 9
def Uy(d:List UInt8):List Nat:=(List.range (I6 d.length)).map (chunk d)
def P8(c:UInt8):Prop:=48<=c.toNat/\c.toNat<=57
theorem C0(d:List UInt8)(c:UInt8):num (d++[c])=num d*10+(c.toNat - 48):=by simp[num]
theorem ZN(d:List UInt8)(h:∀c∈d,P8 c):num d<10 ^ d.length:=by
 have j:∀(l:List UInt8) (a k:Nat),(∀c∈l,P8 c)->a<10 ^ k->l.foldl (fun a c=>a*10+(c.toNat - 48)) a<10 ^ (k+l.length):=by
  intro l
  induction l with
  | nil=>intro a k _ h;simpa using h
  | cons c l ih=>
    intro a k hd ha;have q:=hd c (by simp);have:=ih (a*10+(c.toNat - 48)) (k+1) (fun x hx=>hd x (by simp[hx])) (by unfold P8 at q;rw[Vt];omega);simp only[Vw,Yo];rw[show k+(l.length+1)=k+1+l.length by omega];exact this
 have:=j d 0 0 h (by simp)
 simpa[num]using this
theorem Nj(d:List UInt8)(i:Nat)(h:∀c∈d,P8 c):chunk d i<1000000000:=by
 unfold chunk;have q:=ZN ((d.take (d.length - 9*i)).drop (d.length - 9*i - 9)) (fun c hc=>h c (Yp (Zz hc)));have j:((d.take (d.length - 9*i)).drop (d.length - 9*i - 9)).length<=9:=by simp;omega
 have E:10 ^ ((d.take (d.length - 9*i)).drop (d.length - 9*i - 9)).length<=10 ^ 9:=Nat.pow_le_pow_right (by omega) j;have:(10:Nat) ^ 9=1000000000:=by decide
 omega
theorem KX(d:List UInt8)(h:∀c∈d,P8 c):C1 (Uy d):=by
 intro x hx;simp only[Uy,Yu]at hx;obtain⟨i,_,rfl⟩:=hx;exact Nj d i h
theorem Ni(l:List Nat):O0 (l++[0])=O0 l:=by
 unfold O0;simp only[Z0,Vr,List.reverse_nil,List.nil_append,Y4,Jq,Yo,Zp];rw[List.takeWhile_cons];simp only[beq_self_eq_true,if_true,Yo];rw[show l.length+(0+1) - ((List.takeWhile (fun x=>x==0) l.reverse).length+1)=l.length - (List.takeWhile (fun x=>x==0) l.reverse).length by omega];rw[Zo (by omega)]
theorem Ev(l:List Nat)(x:Nat)(h:x≠0):O0 (l++[x])=l++[x]:=by
 unfold O0;simp only[Z0,Vr,List.reverse_nil,List.nil_append,Y4];rw[List.takeWhile_cons,if_neg (by simpa using h)];exact Yf (by simp)
theorem Pu:O0 []=[]:=rfl
theorem Xy(l:List Nat)(k:Nat)(h:k<l.length)(h0:l.getD k 0=0):O0 (l.take (k+1))=O0 (l.take k):=by
 rw[Yl h];have:l[k]=0:=by simpa[List.getD_eq_getElem?_getD,h]using h0
 rw[this,Ni]
theorem X3(l:List Nat)(k:Nat)(h:k<l.length)(h0:l.getD k 0≠0):O0 (l.take (k+1))=l.take (k+1):=by
 rw[Yl h];have:l[k]≠0:=by simpa[List.getD_eq_getElem?_getD,h]using h0
 exact Ev _ _ this
theorem VD(l:List Nat):O0 l=l.take (O0 l).length:=by
 unfold O0;rw[J7,List.take_eq_take_iff];omega
theorem Pv(l:List Nat):(O0 l).length<=l.length:=by unfold O0;rw[J7];omega
theorem Xj(l:List Nat)(h:C1 l):C1 (O0 l):=fun x hx=>h x (Yp hx)
theorem Gp(l:List Nat):Kl (O0 l):=by
 induction hn:l.length generalizing l with
 | zero=>
   have:l=[]:=Jt hn;subst this;intro h;exact absurd Pu h
 | succ n ih=>
   have j:l≠[]:=by intro h;rw[h]at hn;simp at hn
   rw[<-Y5 j]
   by_cases q:l.getLast j=0
   ·rw[q,Ni];exact ih _ (by simp[hn])
   rw[Ev _ _ q];intro h
   simpa using q
theorem Lc(l:List Nat)(h:Kl l):O0 l=l:=by
 by_cases j:l=[]
 ·rw[j];rfl
 rw[<-Y5 j];exact Ev _ _ (h j)
def Gc(B:Nat)(w:World)(v:Value)(l:List Nat):Prop:=
 ∃a cap,v=.slice a l.length cap/\l.length<=cap/\cap<=maxLen/\C1 l /\
  (l=[]∨∃b off,a=some ⟨b,off,none⟩/\B<=b/\b<w.heap.size/\∀i,i<l.length->w.cell? ⟨b,off+i,none⟩=some (.int .u32 (l.getD i 0:Nat)))
theorem Qz{k:IntKind}{a b:Int}(h:a=b):Ending.returned (.int k a)=.returned (.int k b):=by rw[h]
theorem V0{k:IntKind}{a b:Int}(h:a=b):Value.int k a=Value.int k b:=by rw[h]
theorem Lq(s:ByteArray)(k:Nat)(h:k<s.size):num (s.data.toList.take (k+1))=num (s.data.toList.take k)*10+(s[k].toNat - 48):=by
 rw[Gr s k h,C0]
theorem Dt(s:ByteArray)(hd:∀c∈s.data.toList,P8 c)(k:Nat)(h:k<s.size):48<=s[k].toNat/\s[k].toNat<=57:=
 hd s[k] (by show s.data[k]∈_;exact Vc _)
theorem Tc(s:ByteArray)(hd:∀c∈s.data.toList,P8 c)(h9:s.size<=9)(k:Nat)(hk:k<s.size):num (s.data.toList.take k)<100000000:=by
 have j:=ZN (s.data.toList.take k) (fun c hc=>hd c (Yp hc));have h:(s.data.toList.take k).length<=8:=by rw[J7];omega
 have q:10 ^ (s.data.toList.take k).length<=10 ^ 8:=Nat.pow_le_pow_right (by omega) h;have:(10:Nat) ^ 8=100000000:=by decide
 omega
theorem Rp(s:ByteArray)(w:World)(h9:s.size<=9)(hd:∀c∈s.data.toList,P8 c) :
 Calls prog 196 #[.string s] w fun e w'=>e=.returned (.int .u32 (num s.data.toList:Nat))/\w'=w:=by
 have j:=Hd hd;clear hd
 go_in
 go_wp2
 go_loop [3,7] (fun t i=>∃k:Nat,k<=s.size/\i=.int .i64 k/\t=.int .u32 (num (s.data.toList.take k):Nat)) (fun _ i=>s.size - (intOf i).toNat)
 case atStart=>exact⟨0,Jp _,rfl,rfl⟩
 obtain⟨k,G,rfl,rfl⟩:=hrel
 by_cases h:k<s.size
 ·have hb:=Tc s j.o h9 k h;have E:=Dt s j.o k h;have q:Hid (num (s.data.toList.take (k+1))=num (s.data.toList.take k)*10+(s[k].toNat - 48)):=Lq s k h
  go_wp2
  go_round
  case rel=>
   refine⟨k+1,by omega,by go_num,?_⟩;rw[q.o];exact V0 (by omega)
  simp[intOf];omega
 go_wp2
 go_ret
 exact⟨Qz (by rw[Yf (by rw[<-Lib.size_eq];omega)]),rfl⟩
theorem Ll(b off cap:Nat)(l:List Nat)(w:World)(hl:l.length<=cap)(hcap:cap<=maxLen)
 (hc:∀i,i<l.length->w.cell? ⟨b,off+i,none⟩=some (.int .u32 (l.getD i 0:Nat))) :
 Calls prog 214 #[.slice (some ⟨b,off,none⟩) l.length cap] w fun e w'=>
  e=.returned (.slice (some ⟨b,off,none⟩) (O0 l).length cap)/\w'=w:=by
 unfold maxLen at hcap;have J:=Hd hc;clear hc
 go_in
 go_wp2
 go_loop [0] (fun s=>∃k:Nat,k<=l.length/\s=.slice (some ⟨b,off,none⟩) k cap/\O0 (l.take k)=O0 l) (fun s=>match s with|.slice _ k _=>k|_=>0)
 case atStart=>exact⟨l.length,leR,rfl,by rw[Y1]⟩
 obtain⟨k,O,rfl,hp⟩:=hrel;have E:=Hd hp;clear hp
 cases k with
 | zero=>
   go_wp2
   go_ret
   have:O0 l=[]:=by rw[<-E.o];rfl
   exact⟨by rw[this];rfl,rfl⟩
 | succ m=>
   obtain⟨x,hx⟩:=O2 (l.getD m 0);have h:=J.o m (by omega);rw[hx]at h;have G:=Hd hx;clear hx
   by_cases j:x=0
   ·have K:((x:Int)==0)=true:=by rw[J2];omega
    have q:Hid (O0 (l.take m)=O0 l):=by rw[<-Xy l m (by omega) (by rw[G.o,j])];exact E.o
    clear j
    go_wp2
    go_round
    case rel=>exact⟨m,by omega,rfl,q.o⟩
    simp
   have K:((x:Int)==0)=false:=by rw[Jc];omega
   have q:Hid ((O0 l).length=m+1):=by
    rw[<-E.o,X3 l m (by omega) (by rw[G.o];exact j),J7];exact Yw (by omega)
   clear j
   go_wp2
   go_ret
   exact⟨by rw[q.o];rfl,rfl⟩
theorem F1(a:Option Addr)(cap:Nat)(w:World) :
 Calls prog 214 #[.slice a 0 cap] w fun e w'=>e=.returned (.slice a 0 cap)/\w'=w:=by
 go_in
 go_wp2
 refine wp_loop_rounds 1 ?_;rw[rounds_succ]
 go_wp2
 go_ret
 exact⟨rfl,rfl⟩
theorem D4(l:List Nat)(i:Nat)(h:i<(O0 l).length):(O0 l).getD i 0=l.getD i 0:=by
 rw[VD l]at h ⊢;rw[J7]at h;simp only[J6,List.getElem?_take];rw[if_pos (by omega)]
def FV(v v':Value)(l:List Nat):Prop:=∀B W,Gc B W v l->Gc B W v' (O0 l)
theorem Gc.cut{b off cap:Nat}:FV (.slice (some ⟨b,off,none⟩) l.length cap) (.slice (some ⟨b,off,none⟩) (O0 l).length cap) l:=by
 rintro B W ⟨a,J,E,hl,j,G,Y⟩;have V:=Pv l;simp only[Value.slice.injEq,true_and]at E;obtain⟨rfl,rfl⟩:=E;refine⟨_,_,rfl,by omega,j,Xj l G,?_⟩
 rcases Y with h|⟨K,q,E,O,hb,R⟩
 ·exact .inl (by rw[h];rfl)
 refine .inr ⟨K,q,E,O,hb,fun i hi=>?_⟩;rw[D4 l i hi];exact R i (by omega)
theorem Lf(B:Nat)(v:Value)(l:List Nat)(w:World)(h:Gc B w v l) :
 Calls prog 214 #[v] w fun e w'=>∃v',e=.returned v'/\FV v v' l/\w'=w:=by
 obtain⟨a,j,rfl,hl,q,J,K⟩:=h
 rcases K with rfl|⟨b,E,rfl,_,hb,G⟩
 ·refine(F1 a j w).mono ?_;rintro e w' ⟨rfl,rfl⟩;exact⟨_,rfl,fun B W h=>h,rfl⟩
 refine(Ll b E j l w hl q G).mono ?_;rintro e w' ⟨rfl,rfl⟩;exact⟨_,rfl,Gc.cut,rfl⟩
theorem Gc.bl{w':World}(h:Gc B w v l)(hb:Up w w'):Gc B w' v l:=by
 obtain⟨a,G,rfl,hl,j,J,R⟩:=h;refine⟨a,G,rfl,hl,j,J,?_⟩
 rcases R with rfl|⟨b,E,rfl,K,q,O⟩
 ·exact .inl rfl
 refine .inr ⟨b,E,rfl,K,Jn q hb.size,fun i hi=>?_⟩;rw[hb.cell (p:=⟨b,E+i,none⟩) q];exact O i hi
theorem Gc.mono{B':Nat}(h:Gc B w v l)(hb:B'<=B):Gc B' w v l:=by
 obtain⟨a,q,rfl,hl,j,G,R⟩:=h;refine⟨a,q,rfl,hl,j,G,?_⟩
 rcases R with rfl|⟨b,J,rfl,K,E,O⟩
 ·exact .inl rfl
 exact .inr ⟨b,J,rfl,Jm hb K,E,O⟩
theorem Gc.setCell(h:Gc B w v l)(p:Addr)(u:Value)(hp:p.block<B):Gc B (w.setCell p u) v l:=by
 obtain⟨a,q,rfl,hl,j,G,R⟩:=h;refine⟨a,q,rfl,hl,j,G,?_⟩
 rcases R with rfl|⟨b,J,rfl,K,E,O⟩
 ·exact .inl rfl
 refine .inr ⟨b,J,rfl,K,by simpa using E,fun i hi=>?_⟩;rw[<-O i hi];exact Zc (Jh w p u b (by omega))
theorem Hc{e:Nat}(h:w.ownsRow B e 1 v l.length (l.map (fun x=>Value.int .u32 (x:Nat))))(hok:C1 l):Gc B w v l:=by
 have E:=fun g hg=>h.cells (g:=g) hg;have G:=h.lt;obtain⟨_,h⟩:=h
 rcases h with⟨rfl,hn⟩|⟨g,q,cur,rfl,K,J,hn,j,_,_⟩
 ·exact⟨none,0,by rw[hn],by omega,by unfold maxLen;omega,hok,.inl (Jt hn)⟩
 refine⟨_,q,rfl,hn,j,hok,.inr ⟨g,0,rfl,K,(G g rfl).2,fun i hi=>?_⟩⟩;have:=E g rfl i (.int .u32 (l.getD i 0:Nat)) (by rw[Yt];simp[List.getD_eq_getElem?_getD,hi])
 by_cases i0:i=0
 ·subst i0;simpa[Addr.add]using this
 simpa[Addr.add,i0]using this
theorem Oy(w:World)(o:Obj):Up w (w.alloc o):=(Ji _ _).alloc leR o
def Um(neg:Bool)(l:List Nat):Bool:=neg&&decide (0<l.length)
theorem I9(B:Nat)(neg:Bool)(v:Value)(l:List Nat)(w:World)(h:Gc B w v l) :
 Calls prog 197 #[.bool neg,v] w fun e w'=>∃v',e=.returned (.agg #[.bool (Um neg (O0 l)),v'])/\FV v v' l/\Up w w':=by
 have J:∀o,Gc B (w.alloc o) v l:=fun o=>h.bl (Oy w o);have G:=Hd J;clear J h
 cases neg
 all_goals
  go_in
  go_wp2_with fail
  refine(Lf B v l _ (G.o _)).mono ?_;rintro e w1 ⟨v',rfl,j,rfl⟩;have O:=Hd j;obtain⟨a,q,rfl,hl,K,E,R⟩:=j _ _ (G.o (.cells #[] 0));clear R E j
  go_wp2
  refine Jl (v:=.agg #[.bool (Um _ (O0 l)),.slice a (O0 l).length q]) ?_ rfl ⟨_,rfl,fun B W hW=>O.o B W hW,Oy _ _⟩;simp[results,results197,go_sem,Um]
def N2(l:List UInt8):List UInt8:=l.dropWhile (·==48)
end Go.Proofs.YtfkagjelljnpdaaGreatDoor.Q
namespace Go.Proofs.YtfkagjelljnpdaaGreatDoor.Q
open RowKit Shelf
attribute [local go_sem] Oper.semAt_some
theorem DK(l:List Nat)(h:C1 l)(i:Nat):l.getD i 0<1000000000:=by
 rw[J6]
 by_cases j:i<l.length
 ·rw[Jg j];exact h _ (Jj _)
 rw[Zw (by omega)];simp
end Go.Proofs.YtfkagjelljnpdaaGreatDoor.Q
namespace Go.Proofs.YtfkagjelljnpdaaGreatDoor.Q
open ChangeShapes WideShapes ChangeAt RowKit Proofs.Tryz
def tens(j:Nat):Nat:=10 ^ (8 - j)
def LT(w:World):Prop:=∀j,j<9->w.cell? ⟨8,j,none⟩=some (.int .u32 (tens j:Nat))
def dg(x j:Nat):Nat:=48+x / tens j % 10
def Xu(x k:Nat):List Nat:=(List.range k).map (dg x)
abbrev Af(l:List Nat):List Value:=l.map (fun x=>Value.int .u8 (x:Nat))
theorem H8(a:List Nat)(b:Nat):Af (a++[b])=Af a++[Value.int .u8 (b:Nat)]:=by simp[Af]
theorem info_u8:(prog.info? 5).map (fun i=>(i.zero,i.size,i.bytes))=some (some (.int .u8 0),1,1):=by kernel_rfl
end Go.Proofs.YtfkagjelljnpdaaGreatDoor.Q
namespace Go.Proofs.YtfkagjelljnpdaaGreatDoor.Q
open RowKit Shelf Proofs.Tryz
attribute [local go_sem] Oper.semAt_some
def H5(l:List Nat):List Nat:=l.reverse.flatMap (fun x=>Xu x 9)
def Od(l:List Nat):List UInt8:=l.map UInt8.ofNat
def Kc(l:List UInt8):ByteArray:=⟨l.toArray⟩
def textD(l:List Nat):List UInt8:=N2 (Od (H5 l))
theorem XZ{w:World}(h:LT w):8<w.heap.size:=J3 w ⟨8,0,none⟩ (h 0 (by decide))
theorem Sp(x k:Nat):(Xu x k).length=k:=by simp[Xu]
theorem Pj(l:List Nat):(H5 l).length=9*l.length:=by
 unfold H5;rw[List.length_flatMap];simp only[Sp];rw[List.map_const',List.sum_replicate_nat];simp;omega
theorem UC(l:List Nat):∀x∈H5 l,x<256:=by
 intro x hx;unfold H5 at hx;rw[List.mem_flatMap]at hx;obtain⟨y,_,h⟩:=hx;unfold Xu at h;rw[Yu]at h;obtain⟨j,_,rfl⟩:=h;unfold dg;omega
theorem Gq(l:List UInt8):(Kc l).size=l.length:=by simp[Kc,ByteArray.size]
theorem Gn(base:Nat)(W:World)(g n cap:Nat)(ns:List Nat)(h:W.ownsRow base 5 1 (.slice (some ⟨g,0,none⟩) n cap) n (Af ns))(hlt:∀x∈ns,x<256)(hn:ns.length=n) :
 (convert 22 9 (.slice (some ⟨g,0,none⟩) n cap)).run prog W=.ok (.string (Kc (Od ns))) W:=by
 have hl:(Od ns).length=n:=by simp[Od,hn]
 have:=run_convert_bytes_back (P:=prog) W 22 9 5 ⟨g,0,none⟩ cap (Od ns) underlying22 underlying5 underlying9 (fun j hj=>by
  rw[hl]at hj;have q:j<ns.length:=by omega
  have:=h.cells (g:=g) rfl j (.int .u8 (ns[j]:Nat)) (by simp[Af,List.getElem?_eq_getElem q]);rw[this];have E:=hlt ns[j] (Jj _);simp only[Od,Yh]
  congr 2
  rw[UInt8.toNat_ofNat_of_lt' (by simpa using E)])
 rw[hl]at this;exact this
end Go.Proofs.YtfkagjelljnpdaaGreatDoor.Q
namespace Go.Proofs.YtfkagjelljnpdaaGreatDoor.Q
open ChangeShapes WideShapes ChangeAt RowKit Proofs.Tryz
variable {cap:Nat}{neg:Bool}{t:List Nat}{w:World}
theorem Gc.cells{B:Nat}{a:Option Addr}{n:Nat}{l:List Nat}(h:Gc B w (.slice a n cap) l):n=l.length/\l.length<=cap/\cap<=maxLen/\C1 l /\
 ∀i,i<l.length->∃b off,a=some ⟨b,off,none⟩/\b<w.heap.size/\w.cell? ⟨b,off+i,none⟩=some (.int .u32 (l.getD i 0:Nat)):=by
 obtain⟨O,E,G,hl,j,q,K⟩:=h;simp only[Value.slice.injEq]at G;obtain⟨rfl,rfl,rfl⟩:=G;refine⟨rfl,hl,j,q,fun i hi=>?_⟩
 rcases K with rfl|⟨b,off,rfl,_,hb,J⟩
 ·simp at hi
 exact⟨b,off,rfl,hb,J i hi⟩
def sg(neg:Bool)(n:Nat):Int:=if neg then -(n:Int)else n
def Q5(B:Nat)(w:World)(z:Value)(neg:Bool)(t:List Nat):Prop:=
 C1 t/\Kl t/\((2<t.length/\∃v,z=.agg #[.int .i64 0,.bool neg,v]/\Gc B w v t) ∨
 (t.length<=2/\z=.agg #[.int .i64 (sg neg (val t)),.bool false,.slice none 0 0]))
theorem Q5.bl{B:Nat}{w':World}{z:Value}(h:Q5 B w z neg t)(hb:Up w w'):Q5 B w' z neg t:=by
 obtain⟨q,E,j⟩:=h;refine⟨q,E,?_⟩
 rcases j with⟨j,v,rfl,G⟩|j
 ·exact .inl ⟨j,v,rfl,G.bl hb⟩
 exact .inr j
def Xz(l:List Nat)(i:Nat):Nat:=val (l.drop i)
theorem VL(l:List Nat)(i:Nat)(h:i<l.length):Xz l i=Xz l (i+1)*1000000000+l.getD i 0:=by
 unfold Xz;rw[Y3 h];simp only[val,J6,Jg h,Option.getD_some];omega
theorem IH(l:List Nat):Xz l l.length=0:=by unfold Xz;rw[List.drop_length];rfl
theorem Wp(l:List Nat)(hok:C1 l)(i:Nat)(h:l.length<=i+2):Xz l i<1000000000000000000:=by
 unfold Xz;have j:C1 (l.drop i):=fun x hx=>hok x (Zz hx);have q:(l.drop i).length<=2:=by rw[Yr];omega
 match hl:l.drop i,q with
 | [],_=>simp[val]
 | [a],_=>have:=j a (by rw[hl];simp);simp[val];omega
 | [a,b],_=>have:=j a (by rw[hl];simp);have:=j b (by rw[hl];simp);simp[val];omega
def BO(neg:Bool)(a:Option Addr)(cap:Nat)(t:List Nat):Value:=
 if 2<t.length then .agg #[.int .i64 0,.bool neg,.slice a t.length cap]else .agg #[.int .i64 (sg neg (val t)),.bool false,.slice none 0 0]
theorem UQ{a:Option Addr}(h:2<t.length):BO neg a cap t=.agg #[.int .i64 0,.bool neg,.slice a t.length cap]:=if_pos h
theorem R6{a:Option Addr}(h:¬ 2<t.length):BO neg a cap t=.agg #[.int .i64 (sg neg (val t)),.bool false,.slice none 0 0]:=if_neg h
theorem YC(neg:Bool)(b off cap:Nat)(l:List Nat)(w:World)(hl:l.length<=cap)(hcap:cap<=maxLen)(hok:C1 l)(hb:b<w.heap.size)
 (hc:∀i,i<l.length->w.cell? ⟨b,off+i,none⟩=some (.int .u32 (l.getD i 0:Nat))) :
 Calls prog 114 #[.bool neg,.slice (some ⟨b,off,none⟩) l.length cap] w fun e w'=>
  e=.returned (BO neg (some ⟨b,off,none⟩) cap (O0 l))/\Up w w':=by
 unfold maxLen at hcap;have HC:Hid (∀o,∀i,i<l.length->(w.alloc o).cell? ⟨b,off+i,none⟩=some (.int .u32 (l.getD i 0:Nat))):=fun o i hi=>by rw[World.cell?_alloc_past _ _ _ hb];exact hc i hi
 clear hc
 go_in
 go_wp2
 go_loop [5] (fun n=>∃k:Nat,k<=l.length/\n=.int .i64 k/\O0 (l.take k)=O0 l) (fun n=>(intOf n).toNat)
 case atStart=>exact⟨l.length,leR,rfl,by rw[Y1]⟩
 obtain⟨k,hk,rfl,hp⟩:=hrel;have HP:=Hd hp;clear hp
 cases k with
 | zero=>
   have V:Hid (O0 l=[]):=by rw[<-HP.o];rfl
   cases neg
   all_goals
    go_wp2
    refine wp_loop_rounds 1 ?_;rw[rounds_succ]
    go_wp2
    refine Jl (v:=.agg #[.int .i64 0,.bool false,.slice none 0 0]) ?_ rfl ⟨?_,Oy _ _⟩
    ·simp[results,results114,go_sem]
    rw[V.o,R6 (by simp)];simp[sg,val]
 | succ m=>
   obtain⟨x,hx⟩:=O2 (l.getD m 0);have h:=fun o=>HC.o o m (by omega);simp only[hx]at h;have HX:=Hd hx;clear hx
   by_cases O:x=0
   ·have hz:((x:Int)==0)=true:=by rw[J2];omega
    have V:Hid (O0 (l.take m)=O0 l):=by rw[<-Xy l m (by omega) (by rw[HX.o,O])];exact HP.o
    clear O
    go_wp2
    go_round
    case rel=>exact⟨m,by omega,V0 (by omega),V.o⟩
    simp[intOf]
   have hz:((x:Int)==0)=false:=by rw[Jc];omega
   have HT:Hid (O0 l=l.take (m+1)):=HP.o.symm.trans (X3 l m (by omega) (by rw[HX.o];exact O));have K:Hid ((O0 l).length=m+1):=by rw[HT.o,J7];exact Yw (by omega)
   clear O
   by_cases h2:2<m+1
   ·go_wp2
    refine Jl (v:=.agg #[.int .i64 0,.bool neg,.slice (some ⟨b,off,none⟩) (m+1) cap]) ?_ rfl ⟨?_,Oy _ _⟩
    ·simp[results,results114,go_sem]
    rw[UQ (by rw[K.o];exact h2),K.o]
   have E:C1 (O0 l):=Xj l hok;have Y:Hid (∀i,i<m+1->l.getD i 0=(O0 l).getD i 0):=fun i hi=>(D4 l i (by rw[K.o];exact hi)).symm;obtain⟨t,J⟩:=O2 (O0 l);rw[J]at E;have a8:=Hd J;have Z:Hid (∀i,i<m+1->l.getD i 0=t.getD i 0):=by rw[J]at Y;exact Y
   have G:Hid (t.length=m+1):=by rw[<-J];exact K.o
   clear Y J hok
   cases neg
   all_goals
    go_wp2
    go_loop [6,7] (fun v i=>∃j:Nat,j<=m+1/\i=.int .i64 (j - 1)/\v=.int .i64 (Xz t j:Nat)) (fun _ i=>(intOf i+1).toNat)
    case atStart=>exact⟨m+1,leR,V0 (by omega),by rw[<-G.o,IH];rfl⟩
    obtain⟨j,hj,rfl,rfl⟩:=hrel
    cases j with
    | zero=>
      have hv:=Wp t E 0 (by rw[G.o];omega);have HV:Hid (Xz t 0=val t):=rfl
      go_wp2
      refine Jl ?_ rfl ⟨rfl,Oy _ _⟩;rw[a8.o,R6 (by rw[G.o];exact h2),<-HV.o];simp[results,results114,go_sem,sg]
    | succ i=>
      have hv:=Wp t E i (by rw[G.o];omega);have HS:Hid (Xz t i=Xz t (i+1)*1000000000+t.getD i 0):=VL t i (by rw[G.o];omega);obtain⟨y,R⟩:=O2 (t.getD i 0);obtain⟨q,hq⟩:=O2 (Xz t (i+1));have h:=fun o=>HC.o o i (by omega);simp only[Z.o i (by omega),R]at h;have b6:y<1000000000:=by
       rw[<-R,J6,Jg (by rw[G.o];omega)];exact E _ (Jj _)
      rw[R,hq]at HS;rw[hq];rw[HS.o]at hv;clear R hq
      go_wp2
      go_round
      case rel=>exact⟨i,by omega,V0 (by omega),by rw[HS.o];exact V0 (by omega)⟩
      simp[intOf]
theorem Ty(neg:Bool)(a:Option Addr)(cap:Nat)(w:World) :
 Calls prog 114 #[.bool neg,.slice a 0 cap] w fun e w'=>e=.returned (.agg #[.int .i64 0,.bool false,.slice none 0 0])/\Up w w':=by
 cases neg
 all_goals
  go_in
  go_wp2
  refine wp_loop_rounds 1 ?_;rw[rounds_succ]
  go_wp2
  refine wp_loop_rounds 1 ?_;rw[rounds_succ]
  go_wp2
  refine Jl (v:=.agg #[.int .i64 0,.bool false,.slice none 0 0]) ?_ rfl ⟨rfl,Oy _ _⟩;simp[results,results114,go_sem]
theorem Cq(B:Nat)(neg:Bool)(v:Value)(l:List Nat)(w:World)(h:Gc B w v l) :
 Calls prog 114 #[.bool neg,v] w fun e w'=>∃z,e=.returned z/\(∀B W,Gc B W v l->Q5 B W z neg (O0 l))/\Up w w':=by
 obtain⟨a,q,rfl,hl,E,j,O⟩:=h
 rcases O with rfl|⟨b,J,rfl,_,hb,K⟩
 ·refine(Ty neg a q w).mono ?_;rintro e w' ⟨rfl,hb⟩;refine⟨_,rfl,fun B W h=>⟨j,Gp _,.inr ⟨by simp[Pu],?_⟩⟩,hb⟩;simp[Pu,sg,val]
 refine(YC neg b J q l w hl E j hb K).mono ?_;rintro e w' ⟨rfl,hb⟩;refine⟨_,rfl,fun B W h=>⟨Xj l j,Gp _,?_⟩,hb⟩
 by_cases G:2<(O0 l).length
 ·exact .inl ⟨G,_,UQ G,Gc.cut B W h⟩
 exact .inr ⟨by omega,R6 G⟩
theorem P3(t:List Nat)(h:t.length<=2)(hok:C1 t)(htr:Kl t) :
 t=[]∨(∃a,t=[a]/\0<a/\a<1000000000)∨∃a b,t=[a,b]/\a<1000000000/\0<b/\b<1000000000:=by
 match t,h with
 | [],_=>exact .inl rfl
 | [a],_=>
   have j:=hok a (by simp);have q:=htr (by simp);simp at q;exact .inr (.inl ⟨a,rfl,by omega,j⟩)
 | [a,b],_=>
   have j:=hok a (by simp);have E:=hok b (by simp);have q:=htr (by simp);simp at q;exact .inr (.inr ⟨a,b,rfl,j,by omega,E⟩)
theorem Tx(neg:Bool)(t:List Nat)(h2:t.length<=2)(hok:C1 t)(htr:Kl t):Um neg t=decide (sg neg (val t)<0):=by
 rcases P3 t h2 hok htr with rfl|⟨a,rfl,h,j⟩|⟨a,b,rfl,h,j,q⟩
 ·cases neg<;>simp[Um,sg,val]
 ·cases neg<;>simp[Um,sg,val]<;>omega
 cases neg<;>simp[Um,sg,val]<;>omega
theorem DG{x:Int}(B e a g:Nat)(ha:a<1000000000)(hx:x=a)(hg:w.heap.size=g)(hB:B<=g):Gc B (w.alloc (.cells #[.int .u32 x] e)) (.slice (some ⟨g,0,none⟩) 1 1) [a]:=by
 subst hx;subst hg;exact⟨_,1,rfl,by simp,by unfold maxLen;omega,fun x hx=>by simp at hx;omega,.inr ⟨w.heap.size,0,rfl,hB,by simp,fun i hi=>by
  match i,hi with
  | 0,_=>rw[Yd _ _ _ _ rfl];rfl⟩⟩
theorem DH{x y:Int}(B e a b g:Nat)(ha:a<1000000000)(hb:b<1000000000)(hx:x=a)(hy:y=b)(hg:w.heap.size=g)(hB:B<=g):Gc B (w.alloc (.cells #[.int .u32 x,.int .u32 y] e)) (.slice (some ⟨g,0,none⟩) 2 2) [a,b]:=by
 subst hx;subst hy;subst hg;exact⟨_,2,rfl,by simp,by unfold maxLen;omega,fun x hx=>by simp at hx;omega,.inr ⟨w.heap.size,0,rfl,hB,by simp,fun i hi=>by
  match i,hi with
  | 0,_=>rw[Yd _ _ _ _ rfl];rfl
  | 1,_=>rw[Yd _ _ _ _ rfl];rfl⟩⟩
theorem To(B:Nat)(z:Value)(neg:Bool)(t:List Nat)(w:World)(h:Q5 B w z neg t)(hB:B<=w.heap.size) :
 Calls prog 91 #[z] w fun e w'=>∃v,e=.returned v/\Gc B w' v t/\Up w w':=by
 obtain⟨q,G,h⟩:=h
 rcases h with⟨J,v,rfl,R⟩|⟨J,rfl⟩
 ·have Y:=Hd R;obtain⟨a,a1,rfl,hl,j,_,_⟩:=R;have hp:0<t.length:=by omega
  unfold maxLen at j
  go_in
  go_wp2
  go_ret
  exact⟨_,rfl,Y.o.bl (Oy _ _),Oy _ _⟩
 rcases P3 t J q G with rfl|⟨a,rfl,K,O⟩|⟨a,b,rfl,K,O,h5⟩
 ·cases neg
  all_goals
   simp only[sg,val]
   go_in
   go_wp2
   go_ret
   exact⟨_,rfl,⟨none,0,rfl,by simp,by unfold maxLen;omega,q,.inl rfl⟩,Oy _ _⟩
 ·obtain⟨x,hx⟩:∃x:Int,(a:Int)=x:=⟨_,rfl⟩;have x1:0<x:=by omega
  have x2:x<1000000000:=by omega
  have ez:(x==0)=false:=by rw[Jc];omega
  have ev:(val [a]:Int)=x:=by simp[val,hx]
  have Z:=Hd hx;unfold sg;rw[ev];clear hx ev
  cases neg
  all_goals
   simp only[if_true,if_false,Bool.false_eq_true]
   go_in
   go_wp2
   go_ret
   exact⟨_,rfl,DG B _ a _ O Z.o.symm (by simp) (by omega),(Oy _ _).alloc (by simp) _⟩
 obtain⟨x,hx⟩:∃x:Int,(a:Int)+1000000000*b=x:=⟨_,rfl⟩;have ev:(val [a,b]:Int)=x:=by simp[val,hx]
 have x1:1000000000<=x:=by omega
 have x2:x<1000000000000000000:=by omega
 have V:Hid (x % 1000000000=a):=by unfold Hid;omega
 have E:Hid (x / 1000000000=b):=by unfold Hid;omega
 have ez:(x==0)=false:=by rw[Jc];omega
 unfold sg;rw[ev];clear hx ev
 cases neg
 all_goals
  simp only[if_true,if_false,Bool.false_eq_true]
  go_in
  go_wp2
  go_ret
  exact⟨_,rfl,DH B _ a b _ K h5 V.o E.o (by simp) (by omega),(Oy _ _).alloc (by simp) _⟩
open RowKit Proofs.Tryz
theorem VF(a b:List Nat):val (a++b)=val a+1000000000 ^ a.length*val b:=by
 induction a with
 | nil=>simp[val]
 | cons x a ih=>
   simp only[Y4,val,ih,Yo,Vt];rw[Nat.mul_add,Nat.mul_comm (1000000000 ^ a.length) 1000000000,Nat.mul_assoc];omega
theorem F5(a:List Nat)(x:Nat):val (a++[x])=val a+1000000000 ^ a.length*x:=by rw[VF];simp[val]
theorem LZ(a:List Nat)(htr:Kl a)(hne:a≠[]):1000000000 ^ (a.length - 1)<=val a:=by
 have h:=htr hne;rw[<-Y5 hne];rw[F5];simp only[Jq,Yo,Zp,List.length_dropLast];have:a.length - 1+(0+1) - 1=a.length - 1:=by omega
 rw[this];have j:1000000000 ^ (a.length - 1)*1<=1000000000 ^ (a.length - 1)*a.getLast hne:=Nat.mul_le_mul_left _ (Nat.pos_of_ne_zero h);omega
theorem Ar(a:List Nat)(htr:Kl a)(hne:a≠[]):0<val a:=
 Jn (Nat.pow_pos (by decide)) (LZ a htr hne)
theorem info_u32:(prog.info? 152).map (fun i=>(i.zero,i.size,i.bytes))=some (some (.int .u32 0),1,4):=by kernel_rfl
theorem Fk(s:ByteArray)(w:World)(hs:s.size<=maxLen)(hi:Ol s=false) :
 Calls prog 159 #[.string s] w fun e w'=>e=.returned (.tuple #[.agg #[.bool false,.slice none 0 0],.bool false])/\Up w w':=by
 have h:=Hd hi;clear hi
 go_in
 go_wp2_with (go_at_call 172;refine(Cz _ _ hs).mono ?_;rintro e w' ⟨rfl,rfl⟩;rw[h.o])
 refine Jl (v:=.tuple #[.agg #[.bool false,.slice none 0 0],.bool false]) ?_ rfl ⟨rfl,Oy _ _⟩;simp[results,results159,go_sem]
theorem Qs(s:ByteArray)(h:Ol s=true):(∀c∈(dgs s).data.toList,P8 c)/\0<(dgs s).size/\(dgs s).size<=2500:=by
 unfold Ol at h;simp only[Jw,J1]at h;obtain⟨⟨⟨q,E⟩,j⟩,_⟩:=h;refine⟨fun c hc=>?_,q,E⟩;rw[Jx]at j;have:=j c hc
 simpa[E5,P8]using this
theorem YE(s:ByteArray):decide ((dgs s).size<s.size)=Ur s:=by
 cases h:Ur s with
 | true=>
   obtain⟨j,_⟩:=X9 s h;rw[Dg s h,Dj];simp;omega
 | false=>rw[Dh s h];simp
theorem Lw(d:ByteArray)(k:Nat):num (d.extract (d.size - 9*k - 9) (d.size - 9*k)).data.toList=chunk d.data.toList k:=by
 unfold chunk;rw[Lib.extract_data,<-Lib.size_eq]
 congr 1
 rw[Vh]
theorem Da(s:ByteArray)(w:World)(hs:s.size<=maxLen)(hi:Ol s=true) :
 Calls prog 173 #[.string s] w fun e w'=>∃v,e=.returned (.agg #[.bool (Um (Ur s) (O0 (Uy (dgs s).data.toList))),v]) /\
  Gc w.heap.size w' v (O0 (Uy (dgs s).data.toList))/\Up w w':=by
 obtain⟨Y,d3,d4⟩:=Qs s hi;obtain⟨d,hd⟩:=O2 (dgs s);rw[hd]at Y d3 d4 ⊢;have HD:=Hd hd;have HG:=Hd Y;obtain⟨i0,Z,b1,b2,b3⟩:=info_parts info_u32;clear hi hd Y
 go_in
 go_wp2_with (first
  | (go_at_call 171;refine(Hh _ _ hs).mono ?_;rintro e w' ⟨rfl,rfl⟩;rw[HD.o])
  | (at_make;refine wpList_make_own _ rfl _ _ 129 rfl (w.heap.size+1) 152 i0 (.int .u32 0) 1 underlying129 Z b1 b2 .i64 .i64 _ (d.size / 9+1) rfl rfl ?m1 ?m2 ?m3 ?m4 ?_))
 case m1=>omega
 case m2=>rw[b3];omega
 case m3=>unfold maxLen;omega
 case m4=>simp
 intro wm j J;obtain⟨W0,a7⟩:=O2 (w.alloc (.cells #[.bool false,.slice none 0 0] 201));have V:=Hd a7;rw[a7]at J;have b9:W0.heap.size=w.heap.size+1:=by rw[<-a7];simp
 have b6:Below (w.heap.size+1) W0 wm:=(Ji _ _).grown J (by omega) (fun k h=>by cases h);have G:=Hd b9;clear J a7 b9
 go_wp2
 go_loopw [4,5] (fun v e wr=>∃k:Nat,9*k<=d.size+8/\e=.int .i64 (d.size - 9*k) /\
  wr.ownsRow (w.heap.size+1) 152 1 v k ((List.range k).map (fun i=>Value.int .u32 (chunk d.data.toList i:Nat)))/\Below (w.heap.size+1) W0 wr)
  (fun _ e _=>(intOf e).toNat)
 case atStart=>exact⟨0,by omega,by simp,j,b6⟩
 clear j b6;obtain⟨k,hk,rfl,j,O⟩:=hrel
 by_cases e6:9*k<d.size
 ·have e2:=Nj d.data.toList k HG.o;have e5:k<=d.size:=by omega
  go_wp2_with fail
  ·rw[show d.extract ((d.size:Int) - 9*k - 9).toNat (d.size - 9*k)=d.extract (d.size - 9*k - 9) (d.size - 9*k)by rw[show((d.size:Int) - 9*k - 9).toNat=d.size - 9*k - 9 by omega]];refine(Rp _ _ ?ph9 ?phdg).mono ?_
   case ph9=>rw[Yn];omega
   case phdg=>
    intro c hc;rw[Lib.extract_data]at hc;exact HG.o c (Zz (Yp hc))
   rintro e w' ⟨rfl,rfl⟩;rw[Lw]
   go_wp2_with (at_builtin;refine wpList_append_own _ rfl _ _ 129 rfl (w.heap.size+1) 152 i0 (.int .u32 0) 1 4 underlying129 Z b1 b2 b3 rfl (by decide) _ _ _ rfl (j.alloc _) ⟨w'.heap.size,0,none⟩ 1 1 [.int .u32 (chunk d.data.toList k:Nat)] rfl rfl (cell_one_new _ _ _) ?pc2 ?pc3 ?pc4 ?pc5 ?_)
   case pc2=>intro u hu;simp at hu;subst hu;rfl
   case pc3=>unfold maxLen;omega
   case pc4=>omega
   case pc5=>have:=O.size;have:=G.o;simp;omega
   intro v' w1 K E _;have a8:Below (w.heap.size+1) W0 w1:=(O.alloc (by have:=O.size;have:=G.o;omega) _).grown E (by have:=O.size;have:=G.o;simp;omega) (fun q hq=>(j.lt q hq).1);clear E j O
   go_wp2
   go_roundw
   case rel=>exact⟨k+1,by omega,V0 (by omega),by rw[Yv,Yk];exact K,a8⟩
   simp[intOf];omega
  rw[show d.extract 0 (d.size - 9*k)=d.extract (d.size - 9*k - 9) (d.size - 9*k)by rw[show d.size - 9*k - 9=0 by omega]];refine(Rp _ _ ?qh9 ?qhdg).mono ?_
  case qh9=>rw[Yn];omega
  case qhdg=>
   intro c hc;rw[Lib.extract_data]at hc;exact HG.o c (Zz (Yp hc))
  rintro e w' ⟨rfl,rfl⟩;rw[Lw]
  go_wp2_with (at_builtin;refine wpList_append_own _ rfl _ _ 129 rfl (w.heap.size+1) 152 i0 (.int .u32 0) 1 4 underlying129 Z b1 b2 b3 rfl (by decide) _ _ _ rfl (j.alloc _) ⟨w'.heap.size,0,none⟩ 1 1 [.int .u32 (chunk d.data.toList k:Nat)] rfl rfl (cell_one_new _ _ _) ?qc2 ?qc3 ?qc4 ?qc5 ?_)
  case qc2=>intro u hu;simp at hu;subst hu;rfl
  case qc3=>unfold maxLen;omega
  case qc4=>omega
  case qc5=>have:=O.size;have:=G.o;simp;omega
  intro v' w1 K E _;have a8:Below (w.heap.size+1) W0 w1:=(O.alloc (by have:=O.size;have:=G.o;omega) _).grown E (by have:=O.size;have:=G.o;simp;omega) (fun q hq=>(j.lt q hq).1);clear E j O
  go_wp2
  go_roundw
  case rel=>exact⟨k+1,by omega,V0 (by omega),by rw[Yv,Yk];exact K,a8⟩
  simp[intOf];omega
 have b8:k=I6 d.size:=by unfold I6;omega
 have hL:Gc (w.heap.size+1) wr u4 (Uy d.data.toList):=by
  unfold Uy;rw[<-Lib.size_eq,<-b8];refine Hc (e:=152) ?_ (fun x hx=>?_)
  ·simpa[Function.comp_def]using j
  rw[Yu]at hx;obtain⟨i,_,rfl⟩:=hx;exact Nj d.data.toList i HG.o
 have HL:=Hd hL;clear hL j b8
 go_wp2_with fail
 refine(I9 _ _ _ _ _ HL.o).mono ?_;rintro e w1 ⟨v',rfl,hcut,b0⟩;have HC:Hid (Gc (w.heap.size+1) w1 v' (O0 (Uy d.data.toList))):=(hcut _ _ HL.o).bl b0;have R:Below (w.heap.size+1) W0 w1:=O.trans (b0.mono (by have:=O.size;have:=G.o;omega));have d1:w1.cell? ⟨w.heap.size,0,none⟩=some (.bool false):=by
  rw[R.cell (p:=⟨w.heap.size,0,none⟩) (Ye _),<-V.o,Yd _ _ _ _ rfl];rfl
 have d2:w1.cell? ⟨w.heap.size,1,none⟩=some (.slice none 0 0):=by
  rw[R.cell (p:=⟨w.heap.size,1,none⟩) (Ye _),<-V.o,Yd _ _ _ _ rfl];rfl
 have e3:w1.frozen? ⟨w.heap.size,0,none⟩=false:=by
  rw[R.frozen (p:=⟨w.heap.size,0,none⟩) (Ye _),<-V.o,Yy _ _ _ _ rfl]
 have e4:w1.frozen? ⟨w.heap.size,1,none⟩=false:=by
  rw[R.frozen (p:=⟨w.heap.size,1,none⟩) (Ye _),<-V.o,Yy _ _ _ _ rfl]
 have a1:Up w w1:=by
  have h0:=Oy w (.cells #[.bool false,.slice none 0 0] 201);rw[V.o]at h0;exact h0.trans (R.mono (Y8 _))
 have HB:=Hd a1;obtain⟨a',b5,d5,_⟩:=hcut _ _ HL.o;subst d5;clear hcut b0 R O a1
 go_wp2
 refine Jl (v:=.agg #[.bool (Um (decide (d.size<s.size)) (O0 (Uy d.data.toList))),.slice a' (O0 (Uy d.data.toList)).length b5]) ?_ rfl
  ⟨_,by rw[<-YE s,HD.o],((HC.o.setCell _ _ (Ye _)).setCell _ _ (Ye _)).mono (Y8 _),(HB.o.setCell leR _).setCell leR _⟩
 simp[results,results173,go_sem,d1,d2]
theorem Dz(s:ByteArray)(w:World)(hs:s.size<=maxLen)(hi:Ol s=true) :
 Calls prog 159 #[.string s] w fun e w'=>∃v,e=.returned (.tuple #[.agg #[.bool (Um (Ur s) (O0 (Uy (dgs s).data.toList))),v],.bool true]) /\
  Gc w.heap.size w' v (O0 (Uy (dgs s).data.toList))/\Up w w':=by
 have h:=Hd hi;clear hi
 go_in
 go_wp2_with (go_at_call 172;refine(Cz _ _ hs).mono ?_;rintro e w' ⟨rfl,K⟩;subst w';rw[h.o])
 have J:Hid (∀W,Below (w.alloc (.cells #[.bool false,.slice none 0 0] 201)).heap.size (w.alloc (.cells #[.bool false,.slice none 0 0] 201)) W->(W.cell? ⟨w.heap.size,0,none⟩=some (.bool false)/\W.cell? ⟨w.heap.size,1,none⟩=some (.slice none 0 0))/\(W.frozen? ⟨w.heap.size,0,none⟩=false/\W.frozen? ⟨w.heap.size,1,none⟩=false)/\Up w W):=fun W hW=>by
  have hl:w.heap.size<(w.alloc (.cells #[.bool false,.slice none 0 0] 201)).heap.size:=by simp
  refine⟨⟨?_,?_⟩,⟨?_,?_⟩,(Oy _ _).trans (hW.mono (Zj hl))⟩
  ·rw[hW.cell (p:=⟨w.heap.size,0,none⟩) hl,Yd _ _ _ _ rfl];rfl
  ·rw[hW.cell (p:=⟨w.heap.size,1,none⟩) hl,Yd _ _ _ _ rfl];rfl
  ·rw[hW.frozen (p:=⟨w.heap.size,0,none⟩) hl,Yy _ _ _ _ rfl]
  rw[hW.frozen (p:=⟨w.heap.size,1,none⟩) hl,Yy _ _ _ _ rfl]
 refine(Da s _ hs h.o).mono ?_;rintro e w1 ⟨v,rfl,q,hb⟩;obtain⟨⟨c0,c1⟩,⟨O,R⟩,j⟩:=J.o w1 hb;have G:Hid (Gc (w.heap.size+1) w1 v (O0 (Uy (dgs s).data.toList))):=q.mono (by simp);have E:=Hd j;obtain⟨p,k,rfl,_⟩:=q;clear hb j
 go_wp2
 refine Jl (v:=.tuple #[.agg #[.bool (Um (Ur s) (O0 (Uy (dgs s).data.toList))),.slice p (O0 (Uy (dgs s).data.toList)).length k],.bool true]) ?_ rfl
  ⟨_,rfl,((G.o.setCell _ _ (Ye _)).setCell _ _ (Ye _)).mono (Y8 _),(E.o.setCell leR _).setCell leR _⟩
 simp[results,results159,go_sem,c0,c1]
end Go.Proofs.YtfkagjelljnpdaaGreatDoor.Q
namespace Go.Proofs.YtfkagjelljnpdaaGreatDoor.Q
open ChangeShapes WideShapes ChangeAt RowKit
theorem IG(l:List Nat):val (O0 l)=val l:=by
 induction hn:l.length generalizing l with
 | zero=>rw[Jt hn];rfl
 | succ n ih=>
   have j:l≠[]:=by intro h;rw[h]at hn;simp at hn
   rw[<-Y5 j]
   by_cases q:l.getLast j=0
   ·rw[q,Ni,F5,ih _ (by simp[hn])];omega
   rw[Ev _ _ q]
theorem Pb(x:Nat)(l:List Nat)(h:Kl (x::l)):Kl l:=by
 intro j;have:=h (by simp)
 rwa [List.getLast_cons j]at this
theorem CP(a b:List Nat)(ha:C1 a)(hb:C1 b)(ta:Kl a)(tb:Kl b)(h:val a=val b):a=b:=by
 induction a generalizing b with
 | nil=>
   by_cases j:b=[]
   ·rw[j]
   have:=Ar b tb j;rw[<-h]at this;simp[val]at this
 | cons x a ih=>
   cases b with
   | nil=>
     have:=Ar (x::a) ta (by simp);rw[h]at this;simp[val]at this
   | cons y b=>
     have G:=ha x (by simp);have J:=hb y (by simp);simp only[val]at h;have q:x=y:=by omega
     have E:val a=val b:=by omega
     rw[q,ih b (fun z hz=>ha z (by simp[hz])) (fun z hz=>hb z (by simp[hz])) (Pb x a ta) (Pb y b tb) E]
def wl(n k:Nat):List Nat:=(List.range k).map (fun i=>n / 1000000000 ^ i % 1000000000)
theorem Ap(n k:Nat):wl n (k+1)=wl n k++[n / 1000000000 ^ k % 1000000000]:=by simp[wl,List.range_succ]
theorem Pn(n k:Nat):(wl n k).length=k:=by simp[wl]
theorem MD(n k:Nat):C1 (wl n k):=by
 intro x hx;unfold wl at hx;rw[Yu]at hx;obtain⟨i,_,rfl⟩:=hx;exact Nat.mod_lt _ (by decide)
theorem LU(n k:Nat):val (wl n k)+1000000000 ^ k*(n / 1000000000 ^ k)=n:=by
 induction k with
 | zero=>simp[wl,val]
 | succ k ih=>
   rw[Ap,F5,Pn,Vt,<-Z1];have h:=Nat.div_add_mod (n / 1000000000 ^ k) 1000000000;have j:1000000000 ^ k*(n / 1000000000 ^ k)=1000000000 ^ k*(1000000000*(n / 1000000000 ^ k / 1000000000)+n / 1000000000 ^ k % 1000000000):=by rw[h]
   rw[Nat.mul_add,<-Nat.mul_assoc]at j;omega
theorem LT.bl{w w':World}(h:LT w)(hb:Up w w'):LT w':=fun j hj=>(hb.cell (p:=⟨8,j,none⟩) (XZ h)).trans (h j hj)
end Go.Proofs.YtfkagjelljnpdaaGreatDoor.Q
