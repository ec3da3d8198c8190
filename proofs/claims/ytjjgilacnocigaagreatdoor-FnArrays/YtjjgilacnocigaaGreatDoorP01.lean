import Derived.Test.YtjjgilacnocigaaGreatDoorP00
import Derived.Test.YtjjgilacnocigaaGreatDoorRows
import Derived.WalkSpells
import Derived.ProofKit
import Derived.OpenShut
import Derived.ShutString
import Derived.Lib.Strings
import Derived.Lib.IndexBytes
import Derived.Deep.QuietTactic
import Derived.BigQuiet
import Derived.WalkSmall
import Derived.Maps.AppendAt
import Derived.OneCell
set_option maxRecDepth 100000
set_option maxHeartbeats 1000000
namespace Go.Proofs.YtjjgilacnocigaaGreatDoor.Q
open ChangeShapes WideShapes ChangeAt RowKit Proofs.Tryz
variable {B R cap:Nat}{a:Option Addr}{l:List Nat}{neg:Bool}{v:Value}{w w':World}
def Ki (s:ByteArray):Bool:=(s.extract 0 1).toList==[45]
def dgs (s:ByteArray):ByteArray:=if Ki s then s.extract 1 s.size else s
def Ey (c:UInt8):Bool:=decide (48<=c.toNat/\c.toNat<=57)
def Ow (s:ByteArray):Bool:=
 decide (0<(dgs s).size)&&decide ((dgs s).size<=2500)&&(dgs s).data.toList.all Ey&&(!decide ((dgs s).data.toList.head? = some 48)||s.toList==[48])
theorem Ma (s:ByteArray):(dgs s).size<=s.size:=by
 unfold dgs;split
 ·rw[Yj];omega
 exact O1
theorem O7 {a b:Bool}(h:a=b):Ending.returned (.bool a)=.returned (.bool b):=by rw[h]
theorem Hb (s:ByteArray)(k:Nat)(h:k<s.size):s.data.toList.take (k+1)=s.data.toList.take k++[s[k]]:=by
 rw[Jt (by simpa using h)];rfl
theorem G9 (s:ByteArray)(k:Nat)(h:k<s.size)(hp:(s.data.toList.take k).all Ey=true)(h1:48<=s[k].toNat)(h2:s[k].toNat<=57) :
 (s.data.toList.take (k+1)).all Ey=true:=by
 rw[Hb s k h,List.all_append,hp];simp[Ey,h1,h2]
theorem R8 (s:ByteArray)(k:Nat)(h:k<s.size)(h1:¬ (48<=s[k].toNat/\s[k].toNat<=57)):s.data.toList.all Ey=false:=by
 rw[Z4];intro ha;rw[Zt] at ha;have:=ha s[k] (by show s.data[k]∈_;exact Uj _);simp[Ey] at this;omega
theorem Rr (s d:ByteArray)(hd:dgs s=d)(h:d.size=0):Ow s=false:=by subst hd;simp[Ow,h]
theorem I8 (s d:ByteArray)(hd:dgs s=d)(h:2500<d.size):Ow s=false:=by
 subst hd;unfold Ow;rw[Jp (show ¬ (dgs s).size<=2500 by omega)];simp
theorem Ns (d:ByteArray)(h:0<d.size):d.data.toList.head? = some d[0]:=by
 obtain⟨⟨l⟩⟩:=d
 cases l with
 | nil=>simp[ByteArray.size] at h
 | cons a l=>rfl
theorem Qb (s d:ByteArray)(hd:dgs s=d)(h:0<d.size)(h2:d[0].toNat=48):Ow s=(s.toList==[48]):=by
 subst hd;have e:(dgs s)[0]=48:=UInt8.toNat_inj.1 (by rw[h2];rfl)
 cases j:s.toList==[48] with
 | false=>
   unfold Ow;rw[j,Ns _ h,e];simp
 | true=>
   have hl:s.toList=[48]:=by simpa using j
   rw[Je] at hl;have D:s=⟨#[48]⟩:=by
    obtain⟨⟨l⟩⟩:=s;simp at hl;rw[hl]
   subst D;simp[Ow,dgs,Ki,ByteArray.toList_eq,Ey,ByteArray.size]
theorem Bk (s d:ByteArray)(hd:dgs s=d)(h:0<d.size)(h1:d.size<=2500)(h2:¬ d[0].toNat=48):Ow s=d.data.toList.all Ey:=by
 subst hd;have e:¬ (dgs s)[0]=48:=fun e=>h2 (by rw[e];rfl);unfold Ow;rw[Ns _ h];simp[h,h1,e]
theorem Hn (s:ByteArray)(w:World)(hs:s.size<=maxLen) :
 Calls prog 127 #[.string s,.string ⟨#[45]⟩] w fun e w'=>e=.returned (.string (dgs s))/\w'=w:=by
 unfold maxLen at hs;have D:((s.extract 0 1).toList==[45])=true->dgs s=s.extract 1 s.size:=fun h=>by unfold dgs Ki;rw[if_pos h]
 have d:((s.extract 0 1).toList==[45])=false->dgs s=s:=fun h=>by unfold dgs Ki;rw[if_neg (by rw[h];decide)]
 have j:¬ 1<=(s.size:Int)->dgs s=s:=fun h=>d (by
  rw[Lib.extract_toList];have:s.data.toList=[]:=by
   have:=Lib.size_eq s;exact Jo (by omega)
  rw[this];rfl)
 have G:=Hd D;have F:=Hd d;have E:=Hd j;clear D d j
 go_in
 go_wp2
 all_goals go_ret
 ·rw[G.o ‹_›];exact⟨rfl,rfl⟩
 ·rw[F.o ‹_›];exact⟨rfl,rfl⟩
 rw[E.o (by omega)];exact⟨rfl,rfl⟩
theorem I1 (d:ByteArray)(h:0<d.size):d.toList.isEmpty=false:=by
 rw[Je];have:=Lib.size_eq d
 cases hl:d.data.toList with
 | nil=>exfalso;rw[hl] at this;simp only[Zo] at this;omega
 | cons _ _=>rfl
theorem R1 (d:ByteArray)(h:d.size=0):d.toList.isEmpty=true:=by
 rw[Je,Jo (l:=d.data.toList) (by rw[<-Lib.size_eq];exact h)];rfl
theorem Bz (s:ByteArray)(w:World)(hs:s.size<=maxLen) :
 Calls prog 82 #[.string s] w fun e w'=>e=.returned (.bool (Ow s))/\w'=w:=by
 have G:=Ma s;unfold maxLen at hs;obtain⟨d,E⟩:=O2 (dgs s);rw[E] at G;have j:=Hd E;clear E
 by_cases c0:d.size=0
 ·have e:=R1 d c0;have F:Hid (Ow s=false):=Rr s d j.o c0;clear c0
  go_in
  go_wp2_with (go_at_call 127;refine (Hn _ _ hs).mono ?_;rintro e w' ⟨rfl,rfl⟩;rw[j.o])
  go_ret
  exact⟨O7 F.o.symm,rfl⟩
 have e:=I1 d (by omega)
 by_cases c1:2500<d.size
 ·have F:Hid (Ow s=false):=I8 s d j.o c1;clear c0;have c2:decide (2500<(d.size:Int))=true:=by simp;omega
  go_in
  go_wp2_with (go_at_call 127;refine (Hn _ _ hs).mono ?_;rintro e w' ⟨rfl,rfl⟩;rw[j.o])
  go_ret
  exact⟨O7 F.o.symm,rfl⟩
 have c2:decide (2500<(d.size:Int))=false:=by simp;omega
 have c3:0<d.size:=by omega
 by_cases c4:d[0].toNat=48
 ·have F:Hid (Ow s=(s.toList==[48])):=Qb s d j.o c3 c4;clear c0;have c5:((d[0].toNat:Int)==48)=true:=by simp;omega
  go_in
  go_wp2_with (go_at_call 127;refine (Hn _ _ hs).mono ?_;rintro e w' ⟨rfl,rfl⟩;rw[j.o])
  go_ret
  exact⟨O7 F.o.symm,rfl⟩
 have F:Hid (Ow s=d.data.toList.all Ey):=Bk s d j.o c3 (by omega) c4;have c5:((d[0].toNat:Int)==48)=false:=by simp;omega
 clear c0 c4
 go_in
 go_wp2_with (go_at_call 127;refine (Hn _ _ hs).mono ?_;rintro e w' ⟨rfl,rfl⟩;rw[j.o])
 go_loop [21] (fun i=>∃ k:Nat,k<=d.size/\i=.int .i64 k/\(d.data.toList.take k).all Ey=true) (fun i=>d.size - (intOf i).toNat)
 case atStart=>exact⟨0,J7 _,rfl,rfl⟩
 obtain⟨k,J,rfl,I⟩:=hrel;have H:=Hd I;clear I
 by_cases D:k<d.size
 ·go_wp2
  ·go_ret
   exact⟨O7 (by rw[F.o,R8 d k D (by omega)]),rfl⟩
  ·go_round
   case rel=>exact⟨k+1,by omega,by go_num,G9 d k D H.o (by omega) (by omega)⟩
   simp[intOf];omega
  go_ret
  exact⟨O7 (by rw[F.o,R8 d k D (by omega)]),rfl⟩
 go_wp2
 go_ret
 exact⟨O7 (by rw[F.o];rw[<-H.o,Jf (by rw[<-Lib.size_eq];omega)]),rfl⟩
theorem I0 (s:ByteArray)(h:Ki s=true):∃ h0:0<s.size,s[0].toNat=45:=by
 unfold Ki at h;rw[Lib.extract_toList] at h;obtain⟨⟨l⟩⟩:=s
 cases l with
 | nil=>simp at h
 | cons a l=>
   simp at h;refine⟨by simp[ByteArray.size],?_⟩
   show a.toNat=45
   rw[h];rfl
theorem YB (s:ByteArray)(h:Ki s=false)(h0:0<s.size):¬ s[0].toNat=45:=by
 unfold Ki at h;rw[Lib.extract_toList] at h;obtain⟨⟨l⟩⟩:=s
 cases l with
 | nil=>simp[ByteArray.size] at h0
 | cons a l=>
   simp at h;intro e;exact h (UInt8.toNat_inj.1 (by rw[show a.toNat=45 from e];rfl))
theorem Bu (s d:ByteArray)(hd:dgs s=d)(h:0<d.size)(h1:d.size<=2500)(h2:Ki s=true->¬ d.toList=[48])(h3:d.size=1∨¬ d[0].toNat=48):Ow s=d.data.toList.all Ey:=by
 by_cases c:d[0].toNat=48
 ·rw[Qb s d hd h c];have h4:d.size=1:=h3.resolve_right (fun x=>x c);have e:d[0]=48:=UInt8.toNat_inj.1 (by rw[c];rfl);have D:d.data.toList=[48]:=by
   have j:=Ns d h;rw[Lib.size_eq] at h4;obtain⟨a,ha⟩:=List.length_eq_one_iff.1 h4;rw[ha] at j ⊢;simp at j;rw[j,e]
  cases hn:Ki s with
  | true=>exact absurd (by rw[Je];exact D) (h2 hn)
  | false=>
    have:s=d:=by rw[<-hd];unfold dgs;rw[hn];rfl
    rw[this,Je,D];rfl
 exact Bk s d hd h h1 c
theorem Sp (s d:ByteArray)(hd:dgs s=d)(h:1<d.size)(c:d[0].toNat=48):Ow s=false:=by
 rw[Qb s d hd (by omega) c,Jd];intro e;have:=Ma s;have j:s.size=1:=by rw[Lib.size_eq,<-Je,e];rfl
 rw[hd] at this;omega
theorem KD (s d:ByteArray)(hd:dgs s=d)(hn:Ki s=true)(h:(d.toList==[48])=true):Ow s=false:=by
 have e:d.toList=[48]:=by simpa using h
 rw[Je] at e;have H:d.size=1:=by rw[Lib.size_eq,e];rfl
 have D:=Ns d (by omega);rw[e] at D;simp at D;rw[Qb s d hd (by omega) (by rw[<-D];rfl),Jd];intro F;obtain⟨G,E⟩:=I0 s hn;have j:=Ns s G;rw[<-Je,F] at j;simp at j;rw[<-j] at E;exact absurd E (by decide)
theorem Xg (s:ByteArray)(h:Ki s=true):dgs s=s.extract 1 s.size:=by unfold dgs;rw[if_pos h]
theorem Xh (s:ByteArray)(h:Ki s=false):dgs s=s:=by unfold dgs;rw[h];rfl
theorem Cy (s:ByteArray):(s.extract 1 s.size).size=s.size - 1:=by rw[Yj];omega
theorem FW (s:ByteArray)(w:World)(hs:s.size<=maxLen)(hn:Ki s=false) :
 Calls prog 61 #[.string s] w fun e w'=>e=.returned (.bool (Ow s))/\w'=w:=by
 unfold maxLen at hs;have j:Hid (dgs s=s):=Xh s hn;have D:=Hd hn;clear hn
 by_cases c0:s.size=0
 ·have F:Hid (Ow s=false):=Rr s _ j.o c0;have H:s=ByteArray.empty:=by
   obtain⟨⟨l⟩⟩:=s;simp[ByteArray.size] at c0;rw[c0];rfl
  clear c0;subst H
  go_in
  go_wp2
  go_ret
  exact⟨O7 F.o.symm,rfl⟩
 have c2:0<s.size:=by omega
 have m0:((s[0].toNat:Int)==45)=false:=by
  have:=YB s D.o c2;simp;omega
 have z0:((s.size:Int)==0)=false:=by rw[Jd];omega
 by_cases c1:2500<s.size
 ·have F:Hid (Ow s=false):=I8 s _ j.o c1;have I:decide (2500<(s.size:Int))=true:=by simp;omega
  clear c0
  go_in
  go_wp2
  all_goals
   go_ret
   exact⟨O7 F.o.symm,rfl⟩
 have I:decide (2500<(s.size:Int))=false:=by simp;omega
 by_cases c3:s.size=1∨¬ s[0].toNat=48
 ·have F:Hid (Ow s=s.data.toList.all Ey):=Bu s s j.o c2 (by omega) (fun h=>by rw[D.o] at h;cases h) c3;have z2:decide (1<(s.size:Int))=false∨(decide (1<(s.size:Int))=true/\((s[0].toNat:Int)==48)=false):=by
   by_cases c4:s.size=1
   ·exact .inl (by simp;omega)
   exact .inr ⟨by simp;omega,by have:=c3.resolve_left c4;simp;omega⟩
  have z3:1<=s.size:=by omega
  clear c3 c0
  rcases z2 with z2|⟨z2,z4⟩
  all_goals
   go_in
   go_wp2
   go_loop [3] (fun i=>∃ k:Nat,k<=s.size/\i=.int .i64 k/\(s.data.toList.take k).all Ey=true) (fun i=>s.size - (intOf i).toNat)
   case atStart=>exact⟨0,J7 _,rfl,rfl⟩
   obtain⟨k,J,rfl,G⟩:=hrel;have E:=Hd G;clear G
   by_cases d:k<s.size
   ·go_wp2
    ·go_ret
     exact⟨O7 (by rw[F.o,R8 s k d (by omega)]),rfl⟩
    ·go_round
     case rel=>exact⟨k+1,by omega,by go_num,G9 s k d E.o (by omega) (by omega)⟩
     simp[intOf];omega
    go_ret
    exact⟨O7 (by rw[F.o,R8 s k d (by omega)]),rfl⟩
   go_wp2
   go_ret
   exact⟨O7 (by rw[F.o];rw[<-E.o,Jf (by rw[<-Lib.size_eq];omega)]),rfl⟩
 have F:Hid (Ow s=false):=Sp s s j.o (by omega) (by omega);have z2:decide (1<(s.size:Int))=true:=by simp;omega
 have z4:((s[0].toNat:Int)==48)=true:=by simp;omega
 clear c3
 go_in
 go_wp2
 all_goals
  go_ret
  exact⟨O7 F.o.symm,rfl⟩
theorem FT (s:ByteArray)(w:World)(hs:s.size<=maxLen)(hn:Ki s=true) :
 Calls prog 61 #[.string s] w fun e w'=>e=.returned (.bool (Ow s))/\w'=w:=by
 unfold maxLen at hs;have D:Hid (dgs s=s.extract 1 s.size):=Xg s hn;have J:=Hd hn;have j:Hid ((s.extract 1 s.size).size=s.size - 1):=Cy s;obtain⟨T,K⟩:=I0 s hn;have m0:((s[0].toNat:Int)==45)=true:=by simp;omega
 clear hn K
 by_cases c9:((s.extract 1 s.size).toList==[48])=true
 ·have F:Hid (Ow s=false):=KD s _ D.o J.o c9
  go_in
  go_wp2
  go_ret
  exact⟨O7 F.o.symm,rfl⟩
 have V:((s.extract 1 s.size).toList==[48])=false:=by simpa using c9
 have I:Hid (¬ (s.extract 1 s.size).toList=[48]):=by intro e;rw[e] at c9;exact c9 rfl
 clear c9
 by_cases c0:s.size - 1=0
 ·have F:Hid (Ow s=false):=Rr s _ D.o (by rw[j.o];exact c0);have z0:(((s.size - 1:Nat):Int)==0)=true:=by rw[Jw];omega
  go_in
  go_wp2
  go_ret
  exact⟨O7 F.o.symm,rfl⟩
 have c2:0<s.size - 1:=by omega
 have z0:(((s.size - 1:Nat):Int)==0)=false:=by rw[Jd];omega
 by_cases c1:2500<s.size - 1
 ·have F:Hid (Ow s=false):=I8 s _ D.o (by rw[j.o];exact c1);have O:decide (2500<((s.size - 1:Nat):Int))=true:=dT (by omega)
  clear c0
  go_in
  go_wp2
  go_ret
  exact⟨O7 F.o.symm,rfl⟩
 have O:decide (2500<((s.size - 1:Nat):Int))=false:=dF (by omega)
 have c5:0<(s.extract 1 s.size).size:=by rw[j.o];exact c2
 by_cases c3:(s.extract 1 s.size).size=1∨¬ (s.extract 1 s.size)[0].toNat=48
 ·have F:Hid (Ow s=(s.extract 1 s.size).data.toList.all Ey):=Bu s _ D.o c5 (by rw[j.o];omega) (fun h=>I.o) c3;have z2:decide (1<((s.size - 1:Nat):Int))=false∨(decide (1<((s.size - 1:Nat):Int))=true/\(((s.extract 1 s.size)[0].toNat:Int)==48)=false):=by
   by_cases c4:(s.extract 1 s.size).size=1
   ·exact .inl (by rw[j.o] at c4;rw[Jy];omega)
   exact .inr ⟨by rw[j.o] at c4;rw[J2];omega,by have:=c3.resolve_left c4;rw[Jd];omega⟩
  clear c3 c0
  rcases z2 with z2|⟨z2,z4⟩
  all_goals
   go_in
   go_wp2
   go_loop [3] (fun i=>∃ k:Nat,k<=s.size - 1/\i=.int .i64 k/\((s.extract 1 s.size).data.toList.take k).all Ey=true) (fun i=>s.size - 1 - (intOf i).toNat)
   case atStart=>exact⟨0,J7 _,rfl,rfl⟩
   obtain⟨k,U,rfl,H⟩:=hrel;have G:=Hd H;clear H
   by_cases E:k<s.size - 1
   ·have d:k<(s.extract 1 s.size).size:=by rw[j.o];exact E
    go_wp2
    ·go_ret
     exact⟨O7 (by rw[F.o,R8 _ k d (by omega)]),rfl⟩
    ·go_round
     case rel=>exact⟨k+1,by omega,by go_num,G9 _ k d G.o (by omega) (by omega)⟩
     simp[intOf];omega
    go_ret
    exact⟨O7 (by rw[F.o,R8 _ k d (by omega)]),rfl⟩
   go_wp2
   go_ret
   exact⟨O7 (by rw[F.o];rw[<-G.o,Jf (by rw[<-Lib.size_eq,j.o];omega)]),rfl⟩
 have F:Hid (Ow s=false):=Sp s _ D.o (by omega) (by omega);have z2:decide (1<((s.size - 1:Nat):Int))=true:=by rw[j.o] at c3 c5;rw[J2];omega
 have z4:(((s.extract 1 s.size)[0].toNat:Int)==48)=true:=by rw[Jw];omega
 clear c3
 go_in
 go_wp2
 all_goals
  go_ret
  exact⟨O7 F.o.symm,rfl⟩
theorem Qm (s:ByteArray)(w:World)(hs:s.size<=maxLen) :
 Calls prog 61 #[.string s] w fun e w'=>e=.returned (.bool (Ow s))/\w'=w:=by
 cases hn:Ki s
 ·exact FW s w hs hn
 exact FT s w hs hn
def val:List Nat->Nat
 | []=>0
 | x::l=>x+1000000000*val l
def Kx (l:List Nat):Prop:=∀ x∈l,x<1000000000
def Ov (l:List Nat):List Nat:=l.take (l.length - (l.reverse.takeWhile (·==0)).length)
def Oq (l:List Nat):Prop:=∀ h:l≠[],l.getLast h≠0
def N7 (d:List UInt8):Nat:=d.foldl (fun a c=>a*10+(c.toNat - 48)) 0
def chunk (d:List UInt8)(i:Nat):Nat:=N7 ((d.take (d.length - 9*i)).drop (d.length - 9*i - 9))
def X8 (n:Nat):Nat:=(n+8) / 9
def Eo (d:List UInt8):List Nat:=(List.range (X8 d.length)).map (chunk d)
def D5 (c:UInt8):Prop:=48<=c.toNat/\c.toNat<=57
theorem Cr (d:List UInt8)(c:UInt8):N7 (d++[c])=N7 d*10+(c.toNat - 48):=by simp[N7]
theorem EQ (d:List UInt8)(h:∀ c∈d,D5 c):N7 d<10 ^ d.length:=by
 have key:∀ (l:List UInt8) (a k:Nat),(∀ c∈l,D5 c)->a<10 ^ k->l.foldl (fun a c=>a*10+(c.toNat - 48)) a<10 ^ (k+l.length):=by
  intro l
  induction l with
  | nil=>intro a k _ h;simpa using h
  | cons c l ih=>
    intro a k j ha;have D:=j c (by simp);have:=ih (a*10+(c.toNat - 48)) (k+1) (fun x hx=>j x (by simp[hx])) (by unfold D5 at D;rw[Ju];omega);simp only[Vu,J8];rw[show k+(l.length+1)=k+1+l.length by omega];exact this
 have:=key d 0 0 h (by simp)
 simpa[N7] using this
theorem Hy (d:List UInt8)(i:Nat)(h:∀ c∈d,D5 c):chunk d i<1000000000:=by
 unfold chunk;have D:=EQ ((d.take (d.length - 9*i)).drop (d.length - 9*i - 9)) (fun c hc=>h c (Ya (Yp hc)));have j:((d.take (d.length - 9*i)).drop (d.length - 9*i - 9)).length<=9:=by simp;omega
 have h3:10 ^ ((d.take (d.length - 9*i)).drop (d.length - 9*i - 9)).length<=10 ^ 9:=J3 (by omega) j;have:(10:Nat) ^ 9=1000000000:=by decide
 omega
theorem IE (d:List UInt8)(h:∀ c∈d,D5 c):Kx (Eo d):=by
 intro x j;simp only[Eo,Z5] at j;obtain⟨i,_,rfl⟩:=j;exact Hy d i h
theorem Gw (l:List Nat):Ov (l++[0])=Ov l:=by
 unfold Ov;simp only[V8,U8,List.reverse_nil,Zv,Yf,Jq,J8,Zo];rw[List.takeWhile_cons];simp only[beq_self_eq_true,if_true,J8];rw[show l.length+(0+1) - ((List.takeWhile (fun x=>x==0) l.reverse).length+1)=l.length - (List.takeWhile (fun x=>x==0) l.reverse).length by omega];rw[Yx (by omega)]
theorem Np (l:List Nat)(x:Nat)(h:x≠0):Ov (l++[x])=l++[x]:=by
 unfold Ov;simp only[V8,U8,List.reverse_nil,Zv,Yf];rw[List.takeWhile_cons,if_neg (by simpa using h)];exact Jf (by simp)
theorem Fq:Ov []=[]:=rfl
theorem Ew (l:List Nat)(k:Nat)(h:k<l.length)(h0:l.getD k 0=0):Ov (l.take (k+1))=Ov (l.take k):=by
 rw[Jt h];have:l[k]=0:=by simpa[List.getD_eq_getElem?_getD,h] using h0
 rw[this,Gw]
theorem Nu (l:List Nat)(k:Nat)(h:k<l.length)(h0:l.getD k 0≠0):Ov (l.take (k+1))=l.take (k+1):=by
 rw[Jt h];have:l[k]≠0:=by simpa[List.getD_eq_getElem?_getD,h] using h0
 exact Np _ _ this
theorem NR (l:List Nat):Ov l=l.take (Ov l).length:=by
 unfold Ov;rw[Jm,List.take_eq_take_iff];omega
theorem Kl (l:List Nat):(Ov l).length<=l.length:=by unfold Ov;rw[Jm];omega
theorem Ed (l:List Nat)(h:Kx l):Kx (Ov l):=fun x hx=>h x (Ya hx)
theorem O8 (l:List Nat):Oq (Ov l):=by
 induction hn:l.length generalizing l with
 | zero=>
   have:l=[]:=Jo hn;subst this;intro h;exact absurd Fq h
 | succ n ih=>
   have d:l≠[]:=by intro h;rw[h] at hn;simp at hn
   rw[<-Zu d]
   by_cases j:l.getLast d=0
   ·rw[j,Gw];exact ih _ (by simp[hn])
   rw[Np _ _ j];intro h
   simpa using j
theorem P1 (l:List Nat)(h:Oq l):Ov l=l:=by
 by_cases d:l=[]
 ·rw[d];rfl
 rw[<-Zu d];exact Np _ _ (h d)
def Kn (B:Nat)(w:World)(v:Value)(l:List Nat):Prop:=
 ∃ a cap,v=.slice a l.length cap/\l.length<=cap/\cap<=maxLen/\Kx l /\
  (l=[]∨∃ b off,a=some ⟨b,off,none⟩/\B<=b/\b<w.heap.size/\∀ i,i<l.length->w.cell? ⟨b,off+i,none⟩=some (.int .u32 (l.getD i 0:Nat)))
theorem Kw {k:IntKind}{a b:Int}(h:a=b):Ending.returned (.int k a)=.returned (.int k b):=by rw[h]
theorem O5 {k:IntKind}{a b:Int}(h:a=b):Value.int k a=Value.int k b:=by rw[h]
theorem Aw (s:ByteArray)(k:Nat)(h:k<s.size):N7 (s.data.toList.take (k+1))=N7 (s.data.toList.take k)*10+(s[k].toNat - 48):=by
 rw[Hb s k h,Cr]
theorem Ms (s:ByteArray)(hd:∀ c∈s.data.toList,D5 c)(k:Nat)(h:k<s.size):48<=s[k].toNat/\s[k].toNat<=57:=
 hd s[k] (by show s.data[k]∈_;exact Uj _)
theorem ZS (s:ByteArray)(hd:∀ c∈s.data.toList,D5 c)(h9:s.size<=9)(k:Nat)(hk:k<s.size):N7 (s.data.toList.take k)<100000000:=by
 have j:=EQ (s.data.toList.take k) (fun c hc=>hd c (Ya hc));have d:(s.data.toList.take k).length<=8:=by rw[Jm];omega
 have h3:10 ^ (s.data.toList.take k).length<=10 ^ 8:=J3 (by omega) d;have:(10:Nat) ^ 8=100000000:=by decide
 omega
theorem Cd (s:ByteArray)(w:World)(h9:s.size<=9)(hd:∀ c∈s.data.toList,D5 c) :
 Calls prog 128 #[.string s] w fun e w'=>e=.returned (.int .u32 (N7 s.data.toList:Nat))/\w'=w:=by
 have j:=Hd hd;clear hd
 go_in
 go_wp2
 go_loop [3,7] (fun t i=>∃ k:Nat,k<=s.size/\i=.int .i64 k/\t=.int .u32 (N7 (s.data.toList.take k):Nat)) (fun _ i=>s.size - (intOf i).toNat)
 case atStart=>exact⟨0,J7 _,rfl,rfl⟩
 obtain⟨k,G,rfl,rfl⟩:=hrel
 by_cases d:k<s.size
 ·have E:=ZS s j.o h9 k d;have F:=Ms s j.o k d;have D:Hid (N7 (s.data.toList.take (k+1))=N7 (s.data.toList.take k)*10+(s[k].toNat - 48)):=Aw s k d
  go_wp2
  go_round
  case rel=>
   refine⟨k+1,by omega,by go_num,?_⟩;rw[D.o];exact O5 (by omega)
  simp[intOf];omega
 go_wp2
 go_ret
 exact⟨Kw (by rw[Jf (by rw[<-Lib.size_eq];omega)]),rfl⟩
theorem A8 (b off cap:Nat)(l:List Nat)(w:World)(hl:l.length<=cap)(hcap:cap<=maxLen)
 (hc:∀ i,i<l.length->w.cell? ⟨b,off+i,none⟩=some (.int .u32 (l.getD i 0:Nat))) :
 Calls prog 167 #[.slice (some ⟨b,off,none⟩) l.length cap] w fun e w'=>
  e=.returned (.slice (some ⟨b,off,none⟩) (Ov l).length cap)/\w'=w:=by
 unfold maxLen at hcap;have I:=Hd hc;clear hc
 go_in
 go_wp2
 go_loop [0] (fun s=>∃ k:Nat,k<=l.length/\s=.slice (some ⟨b,off,none⟩) k cap/\Ov (l.take k)=Ov l) (fun s=>match s with|.slice _ k _=>k|_=>0)
 case atStart=>exact⟨l.length,O1,rfl,by rw[Zi]⟩
 obtain⟨k,K,rfl,H⟩:=hrel;have E:=Hd H;clear H
 cases k with
 | zero=>
   go_wp2
   go_ret
   have:Ov l=[]:=by rw[<-E.o];rfl
   exact⟨by rw[this];rfl,rfl⟩
 | succ m=>
   obtain⟨x,F⟩:=O2 (l.getD m 0);have d:=I.o m (by omega);rw[F] at d;have G:=Hd F;clear F
   by_cases j:x=0
   ·have J:((x:Int)==0)=true:=by rw[Jw];omega
    have D:Hid (Ov (l.take m)=Ov l):=by rw[<-Ew l m (by omega) (by rw[G.o,j])];exact E.o
    clear j
    go_wp2
    go_round
    case rel=>exact⟨m,by omega,rfl,D.o⟩
    simp
   have J:((x:Int)==0)=false:=by rw[Jd];omega
   have D:Hid ((Ov l).length=m+1):=by
    rw[<-E.o,Nu l m (by omega) (by rw[G.o];exact j),Jm];exact Vd (by omega)
   clear j
   go_wp2
   go_ret
   exact⟨by rw[D.o];rfl,rfl⟩
theorem Ah (a:Option Addr)(cap:Nat)(w:World) :
 Calls prog 167 #[.slice a 0 cap] w fun e w'=>e=.returned (.slice a 0 cap)/\w'=w:=by
 go_in
 go_wp2
 refine wp_loop_rounds 1 ?_;rw[rounds_succ]
 go_wp2
 go_ret
 exact⟨rfl,rfl⟩
theorem Qd (l:List Nat)(i:Nat)(h:i<(Ov l).length):(Ov l).getD i 0=l.getD i 0:=by
 rw[NR l] at h ⊢;rw[Jm] at h;simp only[Ji,Oi];rw[if_pos (by omega)]
def AM (v v':Value)(l:List Nat):Prop:=∀ B W,Kn B W v l->Kn B W v' (Ov l)
theorem Kn.cut {b off:Nat}:AM (.slice (some ⟨b,off,none⟩) l.length cap) (.slice (some ⟨b,off,none⟩) (Ov l).length cap) l:=by
 rintro B W ⟨a,F,D,hl,d,E,O⟩;have K:=Kl l;simp only[Value.slice.injEq,true_and] at D;obtain⟨rfl,rfl⟩:=D;refine⟨_,_,rfl,by omega,d,Ed l E,?_⟩
 rcases O with h|⟨G,j,D,H,I,J⟩
 ·exact .inl (by rw[h];rfl)
 refine .inr ⟨G,j,D,H,I,fun i hi=>?_⟩;rw[Qd l i hi];exact J i (by omega)
theorem E6 (B:Nat)(v:Value)(l:List Nat)(w:World)(h:Kn B w v l) :
 Calls prog 167 #[v] w fun e w'=>∃ v',e=.returned v'/\AM v v' l/\w'=w:=by
 obtain⟨a,cap,rfl,hl,d,E,F⟩:=h
 rcases F with rfl|⟨b,j,rfl,_,G,D⟩
 ·refine (Ah a cap w).mono ?_;rintro e w' ⟨rfl,rfl⟩;exact⟨_,rfl,fun B W h=>h,rfl⟩
 refine (A8 b j cap l w hl d D).mono ?_;rintro e w' ⟨rfl,rfl⟩;exact⟨_,rfl,Kn.cut,rfl⟩
theorem Kn.bl (h:Kn B w v l)(hb:Up w w'):Kn B w' v l:=by
 obtain⟨a,cap,rfl,hl,d,E,H⟩:=h;refine⟨a,cap,rfl,hl,d,E,?_⟩
 rcases H with rfl|⟨b,D,rfl,F,j,G⟩
 ·exact .inl rfl
 refine .inr ⟨b,D,rfl,F,Js j hb.size,fun i hi=>?_⟩;rw[hb.cell (p:=⟨b,D+i,none⟩) j];exact G i hi
theorem Kn.mono {B':Nat}(h:Kn B w v l)(hb:B'<=B):Kn B' w v l:=by
 obtain⟨a,cap,rfl,hl,d,D,H⟩:=h;refine⟨a,cap,rfl,hl,d,D,?_⟩
 rcases H with rfl|⟨b,E,rfl,F,j,G⟩
 ·exact .inl rfl
 exact .inr ⟨b,E,rfl,Yt hb F,j,G⟩
theorem Kn.setCell (h:Kn B w v l)(p:Addr)(u:Value)(hp:p.block<B):Kn B (w.setCell p u) v l:=by
 obtain⟨a,cap,rfl,hl,d,D,H⟩:=h;refine⟨a,cap,rfl,hl,d,D,?_⟩
 rcases H with rfl|⟨b,E,rfl,F,j,G⟩
 ·exact .inl rfl
 refine .inr ⟨b,E,rfl,F,by simpa using j,fun i hi=>?_⟩;rw[<-G i hi];exact Zg (J1 w p u b (by omega))
theorem Xq {e:Nat}(h:w.ownsRow B e 1 v l.length (l.map (fun x=>Value.int .u32 (x:Nat))))(hok:Kx l):Kn B w v l:=by
 have j:=fun g hg=>h.cells (g:=g) hg;have D:=h.lt;obtain⟨_,h⟩:=h
 rcases h with⟨rfl,hn⟩|⟨g,cap,cur,rfl,F,E,hn,d,_,_⟩
 ·exact⟨none,0,by rw[hn],by omega,by unfold maxLen;omega,hok,.inl (Jo hn)⟩
 refine⟨_,cap,rfl,hn,d,hok,.inr ⟨g,0,rfl,F,(D g rfl).2,fun i hi=>?_⟩⟩;have:=j g rfl i (.int .u32 (l.getD i 0:Nat)) (by rw[Zh];simp[List.getD_eq_getElem?_getD,hi])
 by_cases i0:i=0
 ·subst i0;simpa[Addr.add] using this
 simpa[Addr.add,i0] using this
theorem Oo (w:World)(o:Obj):Up w (w.alloc o):=(Jj _ _).alloc O1 o
def Ko (neg:Bool)(l:List Nat):Bool:=neg&&decide (0<l.length)
theorem K4 (B:Nat)(neg:Bool)(v:Value)(l:List Nat)(w:World)(h:Kn B w v l) :
 Calls prog 129 #[.bool neg,v] w fun e w'=>∃ v',e=.returned (.agg #[.bool (Ko neg (Ov l)),v'])/\AM v v' l/\Up w w':=by
 have E:∀ o,Kn B (w.alloc o) v l:=fun o=>h.bl (Oo w o);have D:=Hd E;clear E h
 cases neg
 all_goals
  go_in
  go_wp2_with fail
  refine (E6 B v l _ (D.o _)).mono ?_;rintro e I ⟨v',rfl,d,rfl⟩;have G:=Hd d;obtain⟨a,cap,rfl,hl,F,j,H⟩:=d _ _ (D.o (.cells #[] 0));clear H j d
  go_wp2
  refine Jh (v:=.agg #[.bool (Ko _ (Ov l)),.slice a (Ov l).length cap]) ?_ rfl ⟨_,rfl,fun B W hW=>G.o B W hW,Oo _ _⟩;simp[results,results129,go_sem,Ko]
def Nj (l:List UInt8):List UInt8:=l.dropWhile (·==48)
def D7 (s:ByteArray):ByteArray:=⟨(Nj s.data.toList).toArray⟩
def LU:Value->Nat|.string s=>s.size|_=>0
theorem KZ (s:ByteArray)(h:0<s.size)(h0:s[0].toNat=48):Nj (s.extract 1 s.size).data.toList=Nj s.data.toList:=by
 have e:s[0]=48:=UInt8.toNat_inj.1 (by rw[h0];rfl);have d:=Ns s h;rw[Lib.extract_to_end]
 cases hl:s.data.toList with
 | nil=>rw[hl] at d;simp at d
 | cons a l=>
   rw[hl] at d;simp at d;rw[e] at d;subst d;simp[Nj]
theorem IS (s:ByteArray)(h:0<s.size)(h0:¬ s[0].toNat=48):Nj s.data.toList=s.data.toList:=by
 have e:¬ s[0]=48:=fun e=>h0 (by rw[e];rfl);have d:=Ns s h
 cases hl:s.data.toList with
 | nil=>rfl
 | cons a l=>
   rw[hl] at d;simp at d;rw[<-d] at e;simp[Nj,e]
theorem Sn (s:ByteArray)(h:s.size=0):Nj s.data.toList=s.data.toList:=by
 rw[Jo (l:=s.data.toList) (by rw[<-Lib.size_eq];exact h)];rfl
theorem Fr (s:ByteArray)(w:World)(_hs:s.size<=maxLen) :
 Calls prog 191 #[.string s,.int .u8 48] w fun e w'=>e=.returned (.string (D7 s))/\w'=w:=by
 unfold maxLen at _hs
 go_in
 go_wp2
 go_loop [0] (fun v=>∃ t:ByteArray,t.size<=s.size/\v=.string t/\Nj t.data.toList=Nj s.data.toList) (fun v=>LU v)
 case atStart=>exact⟨s,O1,rfl,rfl⟩
 obtain⟨t,I,rfl,G⟩:=hrel;have E:=Hd G;clear G
 by_cases H:t.size=0
 ·have j:Hid (D7 s=t):=by
   unfold Hid
   unfold D7;rw[<-E.o,Sn t H]
  have z:decide ((0:Int)<(t.size:Int))=false:=dF (by omega)
  go_wp2
  go_ret
  exact⟨by rw[j.o];rfl,rfl⟩
 have d:0<t.size:=by omega
 by_cases D:t[0].toNat=48
 ·have z:((t[0].toNat:Int)==48)=true:=by rw[Jw];omega
  have j:Hid (Nj (t.extract 1 t.size).data.toList=Nj s.data.toList):=(KZ t d D).trans E.o;have F:Hid ((t.extract 1 t.size).size=t.size - 1):=Cy t;clear D
  go_wp2
  go_round
  case rel=>exact⟨_,by rw[F.o];omega,rfl,j.o⟩
  simp only[LU];rw[F.o];omega
 have z:((t[0].toNat:Int)==48)=false:=by rw[Jd];omega
 have j:Hid (D7 s=t):=by
  unfold Hid
  unfold D7;rw[<-E.o,IS t d D]
 clear D
 go_wp2
 go_ret
 exact⟨by rw[j.o];rfl,rfl⟩
theorem Wd (s:ByteArray)(w:World)(hs:s.size<=maxLen) :
 Calls prog 220 #[.string s,.string ⟨#[48]⟩] w fun e w'=>e=.returned (.string (D7 s))/\w'=w:=by
 have j:=hs;unfold maxLen at hs
 by_cases d:s.size=0
 ·have z:=R1 s d;have D:Hid (D7 s=s):=by unfold Hid;unfold D7;rw[Sn s d]
  clear d
  go_in
  go_wp2
  go_ret
  exact⟨by rw[D.o];rfl,rfl⟩
 have z:=I1 s (by omega)
 go_in
 go_wp2_with fail
 refine (Fr _ _ j).mono ?_;rintro e w' ⟨rfl,rfl⟩
 go_wp2
 go_ret
 exact⟨rfl,rfl⟩
def Ef (a b:List Nat):Nat->Int
 | 0=>0
 | k+1=>if a.getD k 0<b.getD k 0 then -1 else if b.getD k 0<a.getD k 0 then 1 else Ef a b k
def En (a b:List Nat):Int:=if a.length<b.length then -1 else if b.length<a.length then 1 else Ef a b a.length
theorem Kn.cells {n:Nat}(h:Kn B w (.slice a n cap) l):n=l.length/\l.length<=cap/\cap<=maxLen/\Kx l /\
 ∀ i,i<l.length->∃ b off,a=some ⟨b,off,none⟩/\b<w.heap.size/\w.cell? ⟨b,off+i,none⟩=some (.int .u32 (l.getD i 0:Nat)):=by
 obtain⟨I,D,E,hl,d,j,H⟩:=h;simp only[Value.slice.injEq] at E;obtain⟨rfl,rfl,rfl⟩:=E;refine⟨rfl,hl,d,j,fun i hi=>?_⟩
 rcases H with rfl|⟨b,off,rfl,_,F,G⟩
 ·simp at hi
 exact⟨b,off,rfl,F,G i hi⟩
theorem E9 (B:Nat)(va vb:Value)(a b:List Nat)(w:World)(ha:Kn B w va a)(hb:Kn B w vb b) :
 Calls prog 140 #[va,vb] w fun e w'=>e=.returned (.int .i64 (En a b))/\Up w w':=by
 obtain⟨pa,ca,rfl,_⟩:=id ha;obtain⟨pb,cb,rfl,_⟩:=id hb;obtain⟨_,b8,T,J,j⟩:=ha.cells;obtain⟨_,b9,U,K,D⟩:=hb.cells;unfold maxLen at T U;have HA:=Hd j;have HB:=Hd D;clear j D ha hb J K
 by_cases G:a.length=b.length
 ·have z:((a.length:Int) != b.length)=false:=by rw[bne_eq_false_iff_eq];omega
  have E:Hid (En a b=Ef a b a.length):=by show En a b=_;unfold En;rw[if_neg (by omega),if_neg (by omega)]
  have HL:=Hd G;clear G
  go_in
  go_wp2
  go_loopw [5] (fun i wr=>∃ k:Nat,k<=a.length/\i=.int .i64 (k - 1)/\Ef a b a.length=Ef a b k/\Up w wr) (fun i _=>(intOf i+1).toNat)
  case atStart=>exact⟨a.length,O1,rfl,rfl,Jj _ _⟩
  obtain⟨k,hk,rfl,hp,hB⟩:=hrel;have O:=Hd hp;have d:=Hd hB;clear hp hB
  cases k with
  | zero=>
    go_wp2
    go_ret
    exact⟨Kw (by rw[E.o,O.o];rfl),d.o⟩
  | succ k=>
    obtain⟨ba,oa,rfl,V,j⟩:=HA.o k (by omega);obtain⟨bb,ob,rfl,Y,D⟩:=HB.o k (by have:=HL.o;omega);rw[<-d.o.cell (p:=⟨ba,oa+k,none⟩) V] at j;rw[<-d.o.cell (p:=⟨bb,ob+k,none⟩) Y] at D;obtain⟨x,Z⟩:=O2 (a.getD k 0);obtain⟨y,hy⟩:=O2 (b.getD k 0);have F:Hid (Ef a b (k+1)=if x<y then -1 else if y<x then 1 else Ef a b k):=by rw[<-Z,<-hy];rfl
    rw[Z] at j;rw[hy] at D;have c6:k<b.length:=by have:=HL.o;omega
    clear Z hy
    by_cases G:x<y
    ·have H:Hid (Ef a b (k+1) = -1):=F.o.trans (if_pos G);clear F
     go_wp2
     go_quiet (fail)
     go_wp2
     go_ret
     exact⟨Kw (by rw[E.o,O.o,H.o]),below_drewN d.o _⟩
    by_cases I:y<x
    ·have H:Hid (Ef a b (k+1)=1):=F.o.trans ((if_neg G).trans (if_pos I));clear F
     go_wp2
     go_quiet (fail)
     go_wp2
     go_quiet (fail)
     go_wp2
     go_ret
     exact⟨Kw (by rw[E.o,O.o,H.o]),below_drewN (below_drewN d.o _) _⟩
    have H:Hid (Ef a b (k+1)=Ef a b k):=F.o.trans ((if_neg G).trans (if_neg I));clear F
    go_wp2
    go_quiet (fail)
    go_wp2
    go_quiet (fail)
    go_wp2
    go_roundw
    case rel=>exact⟨k,by omega,O5 (by omega),O.o.trans H.o,below_drewN d.o _⟩
    simp[intOf]
 have z:((a.length:Int) != b.length)=true:=by rw[bne_iff_ne];omega
 by_cases I:a.length<b.length
 ·have E:Hid (En a b = -1):=if_pos I
  go_in
  go_wp2
  go_ret
  exact⟨Kw E.o.symm,Jj _ _⟩
 have E:Hid (En a b=1):=(if_neg I).trans (if_pos (by omega))
 go_in
 go_wp2
 go_ret
 exact⟨Kw E.o.symm,Jj _ _⟩
theorem Et (B:Nat)(va vb:Value)(a b:List Nat)(w:World)(ha:Kn B w va a)(hb:Kn B w vb b) :
 Calls prog 149 #[va,vb] w fun e w'=>e=.returned (.int .i64 (En a b))/\Up w w':=by
 obtain⟨pa,ca,rfl,_⟩:=id ha;obtain⟨pb,cb,rfl,_⟩:=id hb;obtain⟨_,b8,T,J,j⟩:=ha.cells;obtain⟨_,b9,U,K,D⟩:=hb.cells;unfold maxLen at T U;have HA:=Hd j;have HB:=Hd D;clear j D ha hb J K
 by_cases G:a.length=b.length
 ·have z:((a.length:Int) != b.length)=false:=by rw[bne_eq_false_iff_eq];omega
  have E:Hid (En a b=Ef a b a.length):=by show En a b=_;unfold En;rw[if_neg (by omega),if_neg (by omega)]
  have HL:=Hd G;clear G
  go_in
  go_wp2
  go_loopw [5] (fun i wr=>∃ k:Nat,k<=a.length/\i=.int .i64 (k - 1)/\Ef a b a.length=Ef a b k/\Up w wr) (fun i _=>(intOf i+1).toNat)
  case atStart=>exact⟨a.length,O1,rfl,rfl,Jj _ _⟩
  obtain⟨k,hk,rfl,hp,hB⟩:=hrel;have O:=Hd hp;have d:=Hd hB;clear hp hB
  cases k with
  | zero=>
    go_wp2
    go_ret
    exact⟨Kw (by rw[E.o,O.o];rfl),d.o⟩
  | succ k=>
    obtain⟨ba,oa,rfl,V,j⟩:=HA.o k (by omega);obtain⟨bb,ob,rfl,Y,D⟩:=HB.o k (by have:=HL.o;omega);rw[<-d.o.cell (p:=⟨ba,oa+k,none⟩) V] at j;rw[<-d.o.cell (p:=⟨bb,ob+k,none⟩) Y] at D;obtain⟨x,Z⟩:=O2 (a.getD k 0);obtain⟨y,hy⟩:=O2 (b.getD k 0);have F:Hid (Ef a b (k+1)=if x<y then -1 else if y<x then 1 else Ef a b k):=by rw[<-Z,<-hy];rfl
    rw[Z] at j;rw[hy] at D;have c6:k<b.length:=by have:=HL.o;omega
    clear Z hy
    by_cases G:x<y
    ·have H:Hid (Ef a b (k+1) = -1):=F.o.trans (if_pos G);clear F
     go_wp2
     go_quiet (fail)
     go_wp2
     go_ret
     exact⟨Kw (by rw[E.o,O.o,H.o]),below_drewN d.o _⟩
    by_cases I:y<x
    ·have H:Hid (Ef a b (k+1)=1):=F.o.trans ((if_neg G).trans (if_pos I));clear F
     go_wp2
     go_quiet (fail)
     go_wp2
     go_quiet (fail)
     go_wp2
     go_ret
     exact⟨Kw (by rw[E.o,O.o,H.o]),below_drewN (below_drewN d.o _) _⟩
    have H:Hid (Ef a b (k+1)=Ef a b k):=F.o.trans ((if_neg G).trans (if_neg I));clear F
    go_wp2
    go_quiet (fail)
    go_wp2
    go_quiet (fail)
    go_wp2
    go_roundw
    case rel=>exact⟨k,by omega,O5 (by omega),O.o.trans H.o,below_drewN d.o _⟩
    simp[intOf]
 have z:((a.length:Int) != b.length)=true:=by rw[bne_iff_ne];omega
 by_cases I:a.length<b.length
 ·have E:Hid (En a b = -1):=if_pos I
  go_in
  go_wp2
  go_ret
  exact⟨Kw E.o.symm,Jj _ _⟩
 have E:Hid (En a b=1):=(if_neg I).trans (if_pos (by omega))
 go_in
 go_wp2
 go_ret
 exact⟨Kw E.o.symm,Jj _ _⟩
def sg (neg:Bool)(n:Nat):Int:=if neg then -(n:Int) else n
def Ej (B:Nat)(w:World)(z:Value)(neg:Bool)(t:List Nat):Prop:=
 Kx t/\Oq t/\((2<t.length/\∃ v,z=.agg #[.int .i64 0,.bool neg,v]/\Kn B w v t) ∨
 (t.length<=2/\z=.agg #[.int .i64 (sg neg (val t)),.bool false,.slice none 0 0]))
theorem Ej.bl {z:Value}{t:List Nat}(h:Ej B w z neg t)(hb:Up w w'):Ej B w' z neg t:=by
 obtain⟨d,j,h3⟩:=h;refine⟨d,j,?_⟩
 rcases h3 with⟨h3,v,rfl,D⟩|h3
 ·exact .inl ⟨h3,v,rfl,D.bl hb⟩
 exact .inr h3
def Ea (l:List Nat)(i:Nat):Nat:=val (l.drop i)
theorem Xk (l:List Nat)(i:Nat)(h:i<l.length):Ea l i=Ea l (i+1)*1000000000+l.getD i 0:=by
 unfold Ea;rw[Yw h];simp only[val,Ji,Jl h,Option.getD_some];omega
theorem Ff (l:List Nat):Ea l l.length=0:=by unfold Ea;rw[List.drop_length];rfl
theorem Aq (l:List Nat)(hok:Kx l)(i:Nat)(h:l.length<=i+2):Ea l i<1000000000000000000:=by
 unfold Ea;have d:Kx (l.drop i):=fun x hx=>hok x (Yp hx);have j:(l.drop i).length<=2:=by rw[Jr];omega
 match hl:l.drop i,j with
 | [],_=>simp[val]
 | [a],_=>have:=d a (by rw[hl];simp);simp[val];omega
 | [a,b],_=>have:=d a (by rw[hl];simp);have:=d b (by rw[hl];simp);simp[val];omega
def JJ (neg:Bool)(a:Option Addr)(cap:Nat)(t:List Nat):Value:=
 if 2<t.length then .agg #[.int .i64 0,.bool neg,.slice a t.length cap] else .agg #[.int .i64 (sg neg (val t)),.bool false,.slice none 0 0]
theorem GQ {t:List Nat}(h:2<t.length):JJ neg a cap t=.agg #[.int .i64 0,.bool neg,.slice a t.length cap]:=if_pos h
theorem Fk {t:List Nat}(h:¬ 2<t.length):JJ neg a cap t=.agg #[.int .i64 (sg neg (val t)),.bool false,.slice none 0 0]:=if_neg h
theorem KS (neg:Bool)(b off cap:Nat)(l:List Nat)(w:World)(hl:l.length<=cap)(hcap:cap<=maxLen)(hok:Kx l)(hb:b<w.heap.size)
 (hc:∀ i,i<l.length->w.cell? ⟨b,off+i,none⟩=some (.int .u32 (l.getD i 0:Nat))) :
 Calls prog 147 #[.bool neg,.slice (some ⟨b,off,none⟩) l.length cap] w fun e w'=>
  e=.returned (JJ neg (some ⟨b,off,none⟩) cap (Ov l))/\Up w w':=by
 unfold maxLen at hcap;have HC:Hid (∀ o,∀ i,i<l.length->(w.alloc o).cell? ⟨b,off+i,none⟩=some (.int .u32 (l.getD i 0:Nat))):=fun o i hi=>by rw[Jk _ _ _ hb];exact hc i hi
 clear hc
 go_in
 go_wp2
 go_loop [5] (fun n=>∃ k:Nat,k<=l.length/\n=.int .i64 k/\Ov (l.take k)=Ov l) (fun n=>(intOf n).toNat)
 case atStart=>exact⟨l.length,O1,rfl,by rw[Zi]⟩
 obtain⟨k,hk,rfl,hp⟩:=hrel;have T:=Hd hp;clear hp
 cases k with
 | zero=>
   have J:Hid (Ov l=[]):=by rw[<-T.o];rfl
   cases neg
   all_goals
    go_wp2
    refine wp_loop_rounds 1 ?_;rw[rounds_succ]
    go_wp2
    refine Jh (v:=.agg #[.int .i64 0,.bool false,.slice none 0 0]) ?_ rfl ⟨?_,Oo _ _⟩
    ·simp[results,results147,go_sem]
    rw[J.o,Fk (by simp)];simp[sg,val]
 | succ m=>
   obtain⟨x,Z⟩:=O2 (l.getD m 0);have d:=fun o=>HC.o o m (by omega);simp only[Z] at d;have HX:=Hd Z;clear Z
   by_cases H:x=0
   ·have hz:((x:Int)==0)=true:=by rw[Jw];omega
    have J:Hid (Ov (l.take m)=Ov l):=by rw[<-Ew l m (by omega) (by rw[HX.o,H])];exact T.o
    clear H
    go_wp2
    go_round
    case rel=>exact⟨m,by omega,O5 (by omega),J.o⟩
    simp[intOf]
   have hz:((x:Int)==0)=false:=by rw[Jd];omega
   have HT:Hid (Ov l=l.take (m+1)):=T.o.symm.trans (Nu l m (by omega) (by rw[HX.o];exact H));have G:Hid ((Ov l).length=m+1):=by rw[HT.o,Jm];exact Vd (by omega)
   clear H
   by_cases h2:2<m+1
   ·go_wp2
    refine Jh (v:=.agg #[.int .i64 0,.bool neg,.slice (some ⟨b,off,none⟩) (m+1) cap]) ?_ rfl ⟨?_,Oo _ _⟩
    ·simp[results,results147,go_sem]
    rw[GQ (by rw[G.o];exact h2),G.o]
   have D:Kx (Ov l):=Ed l hok;have K:Hid (∀ i,i<m+1->l.getD i 0=(Ov l).getD i 0):=fun i hi=>(Qd l i (by rw[G.o];exact hi)).symm;obtain⟨t,F⟩:=O2 (Ov l);rw[F] at D;have V:=Hd F;have O:Hid (∀ i,i<m+1->l.getD i 0=t.getD i 0):=by rw[F] at K;exact K
   have E:Hid (t.length=m+1):=by rw[<-F];exact G.o
   clear K F hok
   cases neg
   all_goals
    go_wp2
    go_loop [6,7] (fun v i=>∃ j:Nat,j<=m+1/\i=.int .i64 (j - 1)/\v=.int .i64 (Ea t j:Nat)) (fun _ i=>(intOf i+1).toNat)
    case atStart=>exact⟨m+1,O1,O5 (by omega),by rw[<-E.o,Ff];rfl⟩
    obtain⟨j,hj,rfl,rfl⟩:=hrel
    cases j with
    | zero=>
      have hv:=Aq t D 0 (by rw[E.o];omega);have HV:Hid (Ea t 0=val t):=rfl
      go_wp2
      refine Jh ?_ rfl ⟨rfl,Oo _ _⟩;rw[V.o,Fk (by rw[E.o];exact h2),<-HV.o];simp[results,results147,go_sem,sg]
    | succ i=>
      have hv:=Aq t D i (by rw[E.o];omega);have U:Hid (Ea t i=Ea t (i+1)*1000000000+t.getD i 0):=Xk t i (by rw[E.o];omega);obtain⟨y,I⟩:=O2 (t.getD i 0);obtain⟨q,Y⟩:=O2 (Ea t (i+1));have d:=fun o=>HC.o o i (by omega);simp only[O.o i (by omega),I] at d;have b7:y<1000000000:=by
       rw[<-I,Ji,Jl (by rw[E.o];omega)];exact D _ (Yl _)
      rw[I,Y] at U;rw[Y];rw[U.o] at hv;clear I Y
      go_wp2
      go_round
      case rel=>exact⟨i,by omega,O5 (by omega),by rw[U.o];exact O5 (by omega)⟩
      simp[intOf]
theorem ZN (neg:Bool)(a:Option Addr)(cap:Nat)(w:World) :
 Calls prog 147 #[.bool neg,.slice a 0 cap] w fun e w'=>e=.returned (.agg #[.int .i64 0,.bool false,.slice none 0 0])/\Up w w':=by
 cases neg
 all_goals
  go_in
  go_wp2
  refine wp_loop_rounds 1 ?_;rw[rounds_succ]
  go_wp2
  refine wp_loop_rounds 1 ?_;rw[rounds_succ]
  go_wp2
  refine Jh (v:=.agg #[.int .i64 0,.bool false,.slice none 0 0]) ?_ rfl ⟨rfl,Oo _ _⟩;simp[results,results147,go_sem]
theorem Nt (B:Nat)(neg:Bool)(v:Value)(l:List Nat)(w:World)(h:Kn B w v l) :
 Calls prog 147 #[.bool neg,v] w fun e w'=>∃ z,e=.returned z/\(∀ B W,Kn B W v l->Ej B W z neg (Ov l))/\Up w w':=by
 obtain⟨a,cap,rfl,hl,D,d,H⟩:=h
 rcases H with rfl|⟨b,F,rfl,_,j,G⟩
 ·refine (ZN neg a cap w).mono ?_;rintro e w' ⟨rfl,j⟩;refine⟨_,rfl,fun B W h=>⟨d,O8 _,.inr ⟨by simp[Fq],?_⟩⟩,j⟩;simp[Fq,sg,val]
 refine (KS neg b F cap l w hl D d j G).mono ?_;rintro e w' ⟨rfl,j⟩;refine⟨_,rfl,fun B W h=>⟨Ed l d,O8 _,?_⟩,j⟩
 by_cases E:2<(Ov l).length
 ·exact .inl ⟨E,_,GQ E,Kn.cut B W h⟩
 exact .inr ⟨by omega,Fk E⟩
theorem Lu (t:List Nat)(h:t.length<=2)(hok:Kx t)(htr:Oq t) :
 t=[]∨(∃ a,t=[a]/\0<a/\a<1000000000)∨∃ a b,t=[a,b]/\a<1000000000/\0<b/\b<1000000000:=by
 match t,h with
 | [],_=>exact .inl rfl
 | [a],_=>
   have d:=hok a (by simp);have j:=htr (by simp);simp at j;exact .inr (.inl ⟨a,rfl,by omega,d⟩)
 | [a,b],_=>
   have d:=hok a (by simp);have h3:=hok b (by simp);have j:=htr (by simp);simp at j;exact .inr (.inr ⟨a,b,rfl,d,by omega,h3⟩)
theorem Rm (neg:Bool)(t:List Nat)(h2:t.length<=2)(hok:Kx t)(htr:Oq t):Ko neg t=decide (sg neg (val t)<0):=by
 rcases Lu t h2 hok htr with rfl|⟨a,rfl,h3,h4⟩|⟨a,b,rfl,h3,h4,h5⟩
 ·cases neg<;>simp[Ko,sg,val]
 ·cases neg<;>simp[Ko,sg,val]<;>omega
 cases neg<;>simp[Ko,sg,val]<;>omega
theorem GX {x:Int}(B e a g:Nat)(ha:a<1000000000)(hx:x=a)(hg:w.heap.size=g)(hB:B<=g):Kn B (w.alloc (.cells #[.int .u32 x] e)) (.slice (some ⟨g,0,none⟩) 1 1) [a]:=by
 subst hx;subst hg;exact⟨_,1,rfl,by simp,by unfold maxLen;omega,fun x hx=>by simp at hx;omega,.inr ⟨w.heap.size,0,rfl,hB,by simp,fun i hi=>by
  match i,hi with
  | 0,_=>rw[Jg _ _ _ _ rfl];rfl⟩⟩
theorem MS {x y:Int}(B e a b g:Nat)(ha:a<1000000000)(hb:b<1000000000)(hx:x=a)(hy:y=b)(hg:w.heap.size=g)(hB:B<=g):Kn B (w.alloc (.cells #[.int .u32 x,.int .u32 y] e)) (.slice (some ⟨g,0,none⟩) 2 2) [a,b]:=by
 subst hx;subst hy;subst hg;exact⟨_,2,rfl,by simp,by unfold maxLen;omega,fun x hx=>by simp at hx;omega,.inr ⟨w.heap.size,0,rfl,hB,by simp,fun i hi=>by
  match i,hi with
  | 0,_=>rw[Jg _ _ _ _ rfl];rfl
  | 1,_=>rw[Jg _ _ _ _ rfl];rfl⟩⟩
theorem Kc (B:Nat)(z:Value)(neg:Bool)(t:List Nat)(w:World)(h:Ej B w z neg t)(hB:B<=w.heap.size) :
 Calls prog 73 #[z] w fun e w'=>∃ v,e=.returned v/\Kn B w' v t/\Up w w':=by
 obtain⟨D,F,h⟩:=h
 rcases h with⟨G,v,rfl,H⟩|⟨G,rfl⟩
 ·have J:=Hd H;obtain⟨a,cap,rfl,hl,j,_,_⟩:=H;have V:0<t.length:=by omega
  unfold maxLen at j
  go_in
  go_wp2
  go_ret
  exact⟨_,rfl,J.o.bl (Oo _ _),Oo _ _⟩
 rcases Lu t G D F with rfl|⟨a,rfl,h3,h4⟩|⟨a,b,rfl,h3,h4,h5⟩
 ·cases neg
  all_goals
   simp only[sg,val]
   go_in
   go_wp2
   go_ret
   exact⟨_,rfl,⟨none,0,rfl,by simp,by unfold maxLen;omega,D,.inl rfl⟩,Oo _ _⟩
 ·obtain⟨x,d⟩:∃ x:Int,(a:Int)=x:=⟨_,rfl⟩;have T:0<x:=by omega
  have U:x<1000000000:=by omega
  have O:(x==0)=false:=by rw[Jd];omega
  have ev:(val [a]:Int)=x:=by simp[val,d]
  have K:=Hd d;unfold sg;rw[ev];clear d ev
  cases neg
  all_goals
   simp only[if_true,if_false,Yz]
   go_in
   go_wp2
   go_ret
   exact⟨_,rfl,GX B _ a _ h4 K.o.symm (by simp) (by omega),(Oo _ _).alloc (by simp) _⟩
 obtain⟨x,d⟩:∃ x:Int,(a:Int)+1000000000*b=x:=⟨_,rfl⟩;have ev:(val [a,b]:Int)=x:=by simp[val,d]
 have T:1000000000<=x:=by omega
 have U:x<1000000000000000000:=by omega
 have I:Hid (x % 1000000000=a):=by unfold Hid;omega
 have E:Hid (x / 1000000000=b):=by unfold Hid;omega
 have O:(x==0)=false:=by rw[Jd];omega
 unfold sg;rw[ev];clear d ev
 cases neg
 all_goals
  simp only[if_true,if_false,Yz]
  go_in
  go_wp2
  go_ret
  exact⟨_,rfl,MS B _ a b _ h3 h5 I.o E.o (by simp) (by omega),(Oo _ _).alloc (by simp) _⟩
open RowKit Proofs.Tryz
def S3 (x y:Nat):Int:=if x<y then -1 else if y<x then 1 else 0
def Nc (x y:Int):Int:=if x<y then -1 else if y<x then 1 else 0
theorem Di (a b:List Nat):val (a++b)=val a+1000000000 ^ a.length*val b:=by
 induction a with
 | nil=>simp[val]
 | cons x a ih=>
   simp only[Yf,val,ih,J8,Ju];rw[Yi,Yy (1000000000 ^ a.length) 1000000000,Y5];omega
theorem G4 (a:List Nat)(h:Kx a):val a<1000000000 ^ a.length:=by
 induction a with
 | nil=>simp[val]
 | cons x a ih=>
   have d:=h x (by simp);have j:=ih (fun y hy=>h y (by simp[hy]));simp only[val,J8,Ju];omega
theorem Xu (a:List Nat)(x:Nat):val (a++[x])=val a+1000000000 ^ a.length*x:=by rw[Di];simp[val]
theorem Xs (a:List Nat)(htr:Oq a)(hne:a≠[]):1000000000 ^ (a.length - 1)<=val a:=by
 have h:=htr hne;rw[<-Zu hne];rw[Xu];simp only[Jq,J8,Zo,List.length_dropLast];have:a.length - 1+(0+1) - 1=a.length - 1:=by omega
 rw[this];have d:1000000000 ^ (a.length - 1)*1<=1000000000 ^ (a.length - 1)*a.getLast hne:=Jz _ (Y0 h);omega
theorem Gp (a:List Nat)(htr:Oq a)(hne:a≠[]):0<val a:=
 Js (Ua (by decide)) (Xs a htr hne)
theorem QQ (P A A' x y:Nat)(hA:A<P)(hA':A'<P):S3 (A+P*x) (A'+P*y)=if x<y then -1 else if y<x then 1 else S3 A A':=by
 unfold S3
 by_cases d:x<y
 ·have:P*x+P<=P*y:=by rw[<-Nat.mul_succ];exact Jz _ d
  rw[if_pos d,if_pos (by omega)]
 rw[if_neg d]
 by_cases j:y<x
 ·have:P*y+P<=P*x:=by rw[<-Nat.mul_succ];exact Jz _ j
  rw[if_pos j,if_neg (by omega),if_pos (by omega)]
 have:x=y:=by omega
 subst this;rw[if_neg j]
 by_cases h3:A<A'
 ·rw[if_pos h3,if_pos (by omega)]
 rw[if_neg h3,if_neg (by omega)]
 by_cases h4:A'<A
 ·rw[if_pos h4,if_pos (by omega)]
 rw[if_neg h4,if_neg (by omega)]
theorem B0 (a:List Nat)(h:Kx a)(k:Nat):Kx (a.take k):=fun x hx=>h x (Ya hx)
theorem UB (a b:List Nat)(ha:Kx a)(hb:Kx b)(k:Nat)(h1:k<=a.length)(h2:k<=b.length):Ef a b k=S3 (val (a.take k)) (val (b.take k)):=by
 induction k with
 | zero=>simp[Ef,S3,val]
 | succ k ih=>
   have d:(a.take k).length=k:=by rw[Jm];omega
   have lb:(b.take k).length=k:=by rw[Jm];omega
   have j:=G4 _ (B0 a ha k);have D:=G4 _ (B0 b hb k);rw[d] at j;rw[lb] at D;have E:a.getD k 0=a[k]:=by rw[Ji,Jl (by omega)];rfl
   have F:b.getD k 0=b[k]:=by rw[Ji,Jl (by omega)];rfl
   rw[Jt (by omega),Jt (by omega),Xu,Xu,d,lb,QQ _ _ _ _ _ j D,<-ih (by omega) (by omega)];simp only[Ef,E,F]
theorem Gu (a b:List Nat)(ha:Kx a)(hb:Kx b)(ta:Oq a)(tb:Oq b):En a b=S3 (val a) (val b):=by
 have d:∀ x y:List Nat,Kx x->Oq y->x.length<y.length->val x<val y:=fun x y hx ty hl=>by
  have j:=G4 x hx;have D:=Xs y ty (by intro e;rw[e] at hl;simp at hl);have h3:1000000000 ^ x.length<=1000000000 ^ (y.length - 1):=J3 (by decide) (by omega);omega
 unfold En
 by_cases j:a.length<b.length
 ·rw[if_pos j];unfold S3;rw[if_pos (d a b ha tb j)]
 rw[if_neg j]
 by_cases D:b.length<a.length
 ·have:=d b a hb ta D;rw[if_pos D];unfold S3;rw[if_neg (by omega),if_pos this]
 rw[if_neg D,UB a b ha hb a.length O1 (by omega),Zi,show a.length=b.length by omega,Zi]
def OQ (na nb:Bool)(a b:List Nat):Int:=if na=nb then (if na then En b a else En a b) else if na then -1 else 1
theorem Ri (na nb:Bool)(a b:List Nat)(ha:Kx a)(hb:Kx b)(ta:Oq a)(tb:Oq b):OQ (Ko na a) (Ko nb b) a b=Nc (sg na (val a)) (sg nb (val b)):=by
 have d:a=[]/\val a=0∨0<a.length/\0<val a:=by
  by_cases h:a=[]
  ·exact .inl ⟨h,by rw[h];rfl⟩
  exact .inr ⟨Zz.2 h,Gp a ta h⟩
 have j:b=[]/\val b=0∨0<b.length/\0<val b:=by
  by_cases h:b=[]
  ·exact .inl ⟨h,by rw[h];rfl⟩
  exact .inr ⟨Zz.2 h,Gp b tb h⟩
 unfold OQ;rw[Gu a b ha hb ta tb,Gu b a hb ha tb ta];unfold S3 Nc Ko sg
 rcases d with⟨rfl,D⟩|⟨F,D⟩<;>rcases j with⟨rfl,E⟩|⟨lb,E⟩<;>cases na<;>cases nb<;>simp_all<;>(repeat' split)<;>omega
abbrev Gy (l:List Nat):List Value:=l.map (fun x=>Value.int .u32 (x:Nat))
def Hh (w:World)(R:Nat)(l:List Nat):Prop:=w.heap[R]? = some (.cells (Gy l).toArray 127 (0,0))
theorem Hh.lt (h:Hh w R l):R<w.heap.size:=(Yr.1 h).1
theorem Hh.cell (h:Hh w R l)(i:Nat)(hi:i<l.length):w.cell? ⟨R,i,none⟩=some (.int .u32 (l.getD i 0:Nat)):=by
 simp[World.cell?,show w.heap[R]? = _ from h,List.getElem?_eq_getElem hi,List.getD_eq_getElem?_getD]
theorem Hh.frozen (h:Hh w R l)(i:Nat):w.frozen? ⟨R,i,none⟩=false:=by
 simp[World.frozen?,show w.heap[R]? = _ from h]
theorem Hh.set (h:Hh w R l)(i x:Nat):Hh (w.setCell ⟨R,i,none⟩ (.int .u32 (x:Nat))) R (l.set i x):=by
 obtain⟨d,j⟩:=Yr.1 h
 show (w.heap.modify R _)[R]? = _
 rw[Vv (by rw[U6];exact d),Vw,j];simp[Gy,List.map_set]
theorem Hh.kept (h:Hh w R l)(hb:Up w w'):Hh w' R l:=(hb.block R h.lt).trans h
theorem Hh.drew (h:Hh w R l):Hh w.drew R l:=h
theorem Kt {base g n:Nat}(h:w.ownsRow base 127 1 (.slice (some ⟨g,0,none⟩) n n) n (Gy l)):Hh w g l:=by
 rcases h.2 with⟨e,_⟩|⟨E,cap,cur,e,_,j,_,_,D,d⟩
 ·cases e
 simp only[Value.slice.injEq,Option.some.injEq,Addr.mk.injEq,and_true,true_and] at e;obtain⟨rfl,rfl⟩:=e;rw[Z7] at D d;rw[Jf (by rw[Array.length_toList];omega)] at d;unfold Hh;rw[j,<-d]
theorem Hh.isL (h:Hh w R l)(hB:B<=R)(hok:Kx l)(hc:l.length<=cap)(hm:cap<=maxLen):Kn B w (.slice (some ⟨R,0,none⟩) l.length cap) l:=
 ⟨_,cap,rfl,hc,hm,hok,.inr ⟨R,0,rfl,hB,h.lt,fun i hi=>by rw[Y3];exact h.cell i hi⟩⟩
theorem Ee (n:Nat):(madeCells (Value.int .u32 0).cells (n*1)).toList=Gy (List.replicate n 0):=by
 rw[Z7]
 show (madeCells #[.int .u32 0] n).toList=_
 rw[toList_madeCells_one];simp[Gy]
theorem Ky (l:List Nat)(i x:Nat)(hi:i<l.length):val ((l.set i x).take (i+1))=val (l.take i)+1000000000 ^ i*x:=by
 have e:(l.set i x).take (i+1)=l.take i++[x]:=by
  rw[Jt (by simpa using hi),List.getElem_set_self]
  congr 1
  rw[List.take_set_of_le (Nat.le_refl i)]
 rw[e,Xu,Jm,Vd (by omega)]
theorem Oz (l:List Nat)(i:Nat):val (l.take (i+1))=val (l.take i)+1000000000 ^ i*l.getD i 0:=by
 by_cases d:i<l.length
 ·rw[Jt d,Xu,Jm,Vd (by omega),Ji,Jl d];rfl
 rw[Jf (by omega),Jf (by omega),Ji,Yv (by omega)];simp
theorem Kp (l:List Nat)(h:Kx l)(i x:Nat)(hx:x<1000000000):Kx (l.set i x):=fun y hy=>by
 rcases List.mem_or_eq_of_mem_set hy with d|d
 ·exact h y d
 omega
theorem info_u32:(prog.info? 127).map (fun i=>(i.zero,i.size,i.bytes))=some (some (.int .u32 0),1,4):=by kernel_rfl
theorem Ra (s:ByteArray)(w:World)(hs:s.size<=maxLen)(hi:Ow s=false) :
 Calls prog 47 #[.string s] w fun e w'=>e=.returned (.tuple #[.agg #[.bool false,.slice none 0 0],.bool false])/\Up w w':=by
 have d:=Hd hi;clear hi
 go_in
 go_wp2_with (go_at_call 82;refine (Bz _ _ hs).mono ?_;rintro e w' ⟨rfl,rfl⟩;rw[d.o])
 refine Jh (v:=.tuple #[.agg #[.bool false,.slice none 0 0],.bool false]) ?_ rfl ⟨rfl,Oo _ _⟩;simp[results,results47,go_sem]
theorem G1 (s:ByteArray)(h:Ow s=true):(∀ c∈(dgs s).data.toList,D5 c)/\0<(dgs s).size/\(dgs s).size<=2500:=by
 unfold Ow at h;simp only[Yd,Y7] at h;obtain⟨⟨⟨d,j⟩,h3⟩,_⟩:=h;refine⟨fun c hc=>?_,d,j⟩;rw[Zt] at h3;have:=h3 c hc
 simpa[Ey,D5] using this
theorem KC (s:ByteArray):decide ((dgs s).size<s.size)=Ki s:=by
 cases h:Ki s with
 | true=>
   obtain⟨d,_⟩:=I0 s h;rw[Xg s h,Cy];simp;omega
 | false=>rw[Xh s h];simp
theorem Sv (d:ByteArray)(k:Nat):N7 (d.extract (d.size - 9*k - 9) (d.size - 9*k)).data.toList=chunk d.data.toList k:=by
 unfold chunk;rw[Lib.extract_data,<-Lib.size_eq]
 congr 1
 rw[Ob]
theorem Ml (s:ByteArray)(w:World)(hs:s.size<=maxLen)(hi:Ow s=true) :
 Calls prog 83 #[.string s] w fun e w'=>∃ v,e=.returned (.agg #[.bool (Ko (Ki s) (Ov (Eo (dgs s).data.toList))),v]) /\
  Kn w.heap.size w' v (Ov (Eo (dgs s).data.toList))/\Up w w':=by
 obtain⟨K,d2,d3⟩:=G1 s hi;obtain⟨d,hd⟩:=O2 (dgs s);rw[hd] at K d2 d3 ⊢;have HD:=Hd hd;have HG:=Hd K;obtain⟨i0,O,a6,a7,a8⟩:=info_parts info_u32;clear hi hd K
 go_in
 go_wp2_with (first
  | (go_at_call 127;refine (Hn _ _ hs).mono ?_;rintro e w' ⟨rfl,rfl⟩;rw[HD.o])
  | (at_make;refine wpList_make_own _ rfl _ _ 70 rfl (w.heap.size+1) 127 i0 (.int .u32 0) 1 underlying70 O a6 a7 .i64 .i64 _ (d.size / 9+1) rfl rfl ?m1 ?m2 ?m3 ?m4 ?_))
 case m1=>omega
 case m2=>rw[a8];omega
 case m3=>unfold maxLen;omega
 case m4=>simp
 intro wm j F;obtain⟨W0,V⟩:=O2 (w.alloc (.cells #[.bool false,.slice none 0 0] 85));have J:=Hd V;rw[V] at F;have b8:W0.heap.size=w.heap.size+1:=by rw[<-V];simp
 have b5:Below (w.heap.size+1) W0 wm:=(Jj _ _).grown F (by omega) (fun k h=>by cases h);have E:=Hd b8;clear F V b8
 go_wp2
 go_loopw [4,5] (fun v e wr=>∃ k:Nat,9*k<=d.size+8/\e=.int .i64 (d.size - 9*k) /\
  wr.ownsRow (w.heap.size+1) 127 1 v k ((List.range k).map (fun i=>Value.int .u32 (chunk d.data.toList i:Nat)))/\Below (w.heap.size+1) W0 wr)
  (fun _ e _=>(intOf e).toNat)
 case atStart=>exact⟨0,by omega,by simp,j,b5⟩
 clear j b5;obtain⟨k,hk,rfl,j,H⟩:=hrel
 by_cases e6:9*k<d.size
 ·have e2:=Hy d.data.toList k HG.o;have e5:k<=d.size:=by omega
  go_wp2_with fail
  ·rw[show d.extract ((d.size:Int) - 9*k - 9).toNat (d.size - 9*k)=d.extract (d.size - 9*k - 9) (d.size - 9*k) by rw[show ((d.size:Int) - 9*k - 9).toNat=d.size - 9*k - 9 by omega]];refine (Cd _ _ ?ph9 ?phdg).mono ?_
   case ph9=>rw[Yj];omega
   case phdg=>
    intro c hc;rw[Lib.extract_data] at hc;exact HG.o c (Yp (Ya hc))
   rintro e w' ⟨rfl,rfl⟩;rw[Sv]
   go_wp2_with (at_builtin;refine wpList_append_own _ rfl _ _ 70 rfl (w.heap.size+1) 127 i0 (.int .u32 0) 1 4 underlying70 O a6 a7 a8 rfl (by decide) _ _ _ rfl (j.alloc _) ⟨w'.heap.size,0,none⟩ 1 1 [.int .u32 (chunk d.data.toList k:Nat)] rfl rfl (cell_one_new _ _ _) ?pc2 ?pc3 ?pc4 ?pc5 ?_)
   case pc2=>intro u hu;simp at hu;subst hu;rfl
   case pc3=>unfold maxLen;omega
   case pc4=>omega
   case pc5=>have:=H.size;have:=E.o;simp;omega
   intro v' U G D _;have Y:Below (w.heap.size+1) W0 U:=(H.alloc (by have:=H.size;have:=E.o;omega) _).grown D (by have:=H.size;have:=E.o;simp;omega) (fun q hq=>(j.lt q hq).1);clear D j H
   go_wp2
   go_roundw
   case rel=>exact⟨k+1,by omega,O5 (by omega),by rw[Zw,Zc];exact G,Y⟩
   simp[intOf];omega
  rw[show d.extract 0 (d.size - 9*k)=d.extract (d.size - 9*k - 9) (d.size - 9*k) by rw[show d.size - 9*k - 9=0 by omega]];refine (Cd _ _ ?qh9 ?qhdg).mono ?_
  case qh9=>rw[Yj];omega
  case qhdg=>
   intro c hc;rw[Lib.extract_data] at hc;exact HG.o c (Yp (Ya hc))
  rintro e w' ⟨rfl,rfl⟩;rw[Sv]
  go_wp2_with (at_builtin;refine wpList_append_own _ rfl _ _ 70 rfl (w.heap.size+1) 127 i0 (.int .u32 0) 1 4 underlying70 O a6 a7 a8 rfl (by decide) _ _ _ rfl (j.alloc _) ⟨w'.heap.size,0,none⟩ 1 1 [.int .u32 (chunk d.data.toList k:Nat)] rfl rfl (cell_one_new _ _ _) ?qc2 ?qc3 ?qc4 ?qc5 ?_)
  case qc2=>intro u hu;simp at hu;subst hu;rfl
  case qc3=>unfold maxLen;omega
  case qc4=>omega
  case qc5=>have:=H.size;have:=E.o;simp;omega
  intro v' U G D _;have Y:Below (w.heap.size+1) W0 U:=(H.alloc (by have:=H.size;have:=E.o;omega) _).grown D (by have:=H.size;have:=E.o;simp;omega) (fun q hq=>(j.lt q hq).1);clear D j H
  go_wp2
  go_roundw
  case rel=>exact⟨k+1,by omega,O5 (by omega),by rw[Zw,Zc];exact G,Y⟩
  simp[intOf];omega
 have b7:k=X8 d.size:=by unfold X8;omega
 have hL:Kn (w.heap.size+1) wr u4 (Eo d.data.toList):=by
  unfold Eo;rw[<-Lib.size_eq,<-b7];refine Xq (e:=127) ?_ (fun x hx=>?_)
  ·simpa[Function.comp_def] using j
  rw[Z5] at hx;obtain⟨i,_,rfl⟩:=hx;exact Hy d.data.toList i HG.o
 have HL:=Hd hL;clear hL j b7
 go_wp2_with fail
 refine (K4 _ _ _ _ _ HL.o).mono ?_;rintro e U ⟨v',rfl,hcut,Z⟩;have HC:Hid (Kn (w.heap.size+1) U v' (Ov (Eo d.data.toList))):=(hcut _ _ HL.o).bl Z;have I:Below (w.heap.size+1) W0 U:=H.trans (Z.mono (by have:=H.size;have:=E.o;omega));have c8:U.cell? ⟨w.heap.size,0,none⟩=some (.bool false):=by
  rw[I.cell (p:=⟨w.heap.size,0,none⟩) (Yh _),<-J.o,Jg _ _ _ _ rfl];rfl
 have d0:U.cell? ⟨w.heap.size,1,none⟩=some (.slice none 0 0):=by
  rw[I.cell (p:=⟨w.heap.size,1,none⟩) (Yh _),<-J.o,Jg _ _ _ _ rfl];rfl
 have e3:U.frozen? ⟨w.heap.size,0,none⟩=false:=by
  rw[I.frozen (p:=⟨w.heap.size,0,none⟩) (Yh _),<-J.o,Jv _ _ _ _ rfl]
 have e4:U.frozen? ⟨w.heap.size,1,none⟩=false:=by
  rw[I.frozen (p:=⟨w.heap.size,1,none⟩) (Yh _),<-J.o,Jv _ _ _ _ rfl]
 have T:Up w U:=by
  have h0:=Oo w (.cells #[.bool false,.slice none 0 0] 85);rw[J.o] at h0;exact h0.trans (I.mono (Ze _))
 have HB:=Hd T;obtain⟨a',b4,d4,_⟩:=hcut _ _ HL.o;subst d4;clear hcut Z I H T
 go_wp2
 refine Jh (v:=.agg #[.bool (Ko (decide (d.size<s.size)) (Ov (Eo d.data.toList))),.slice a' (Ov (Eo d.data.toList)).length b4]) ?_ rfl
  ⟨_,by rw[<-KC s,HD.o],((HC.o.setCell _ _ (Yh _)).setCell _ _ (Yh _)).mono (Ze _),(HB.o.setCell O1 _).setCell O1 _⟩
 simp[results,results83,go_sem,c8,d0]
theorem Ru (s:ByteArray)(w:World)(hs:s.size<=maxLen)(hi:Ow s=true) :
 Calls prog 47 #[.string s] w fun e w'=>∃ v,e=.returned (.tuple #[.agg #[.bool (Ko (Ki s) (Ov (Eo (dgs s).data.toList))),v],.bool true]) /\
  Kn w.heap.size w' v (Ov (Eo (dgs s).data.toList))/\Up w w':=by
 have d:=Hd hi;clear hi
 go_in
 go_wp2_with (go_at_call 82;refine (Bz _ _ hs).mono ?_;rintro e w' ⟨rfl,J⟩;subst w';rw[d.o])
 have I:Hid (∀ W,Below (w.alloc (.cells #[.bool false,.slice none 0 0] 85)).heap.size (w.alloc (.cells #[.bool false,.slice none 0 0] 85)) W->(W.cell? ⟨w.heap.size,0,none⟩=some (.bool false)/\W.cell? ⟨w.heap.size,1,none⟩=some (.slice none 0 0))/\(W.frozen? ⟨w.heap.size,0,none⟩=false/\W.frozen? ⟨w.heap.size,1,none⟩=false)/\Up w W):=fun W hW=>by
  have hl:w.heap.size<(w.alloc (.cells #[.bool false,.slice none 0 0] 85)).heap.size:=by simp
  refine⟨⟨?_,?_⟩,⟨?_,?_⟩,(Oo _ _).trans (hW.mono (Uh hl))⟩
  ·rw[hW.cell (p:=⟨w.heap.size,0,none⟩) hl,Jg _ _ _ _ rfl];rfl
  ·rw[hW.cell (p:=⟨w.heap.size,1,none⟩) hl,Jg _ _ _ _ rfl];rfl
  ·rw[hW.frozen (p:=⟨w.heap.size,0,none⟩) hl,Jv _ _ _ _ rfl]
  rw[hW.frozen (p:=⟨w.heap.size,1,none⟩) hl,Jv _ _ _ _ rfl]
 refine (Ml s _ hs d.o).mono ?_;rintro e F ⟨v,rfl,E,D⟩;obtain⟨⟨c0,c1⟩,⟨f0,f1⟩,j⟩:=I.o F D;have H:Hid (Kn (w.heap.size+1) F v (Ov (Eo (dgs s).data.toList))):=E.mono (by simp);have G:=Hd j;obtain⟨p,k,rfl,_⟩:=E;clear D j
 go_wp2
 refine Jh (v:=.tuple #[.agg #[.bool (Ko (Ki s) (Ov (Eo (dgs s).data.toList))),.slice p (Ov (Eo (dgs s).data.toList)).length k],.bool true]) ?_ rfl
  ⟨_,rfl,((H.o.setCell _ _ (Yh _)).setCell _ _ (Yh _)).mono (Ze _),(G.o.setCell O1 _).setCell O1 _⟩
 simp[results,results47,go_sem,c0,c1]
end Go.Proofs.YtjjgilacnocigaaGreatDoor.Q
