import Derived.Deep.DeepCutAuto
import Derived.Deep.CutBlock
import Derived.Test.YtfkagjelljnpdaaGreatDoorP19
set_option maxRecDepth 100000
set_option maxHeartbeats 4000000
namespace Go.Proofs.YtfkagjelljnpdaaGreatDoor
open ChangeShapes WideShapes ChangeAt RowKit Proofs.Tryz
def Uk(op:Int):Nat:=if op=1∨op=2∨op=11∨op=12∨op=24 then 0 else if op=3∨op=15∨op=23∨op=25∨op=26∨op=43∨op=44∨op=45 then 1 else if op=8∨op=47 then 3 else 2
def Xl(op:Int):Nat:=if op=1∨op=2∨op=12∨op=24 then 0 else if op=3∨op=15∨op=23∨op=25∨op=26∨op=43∨op=44∨op=45 then 1 else if op=4∨op=5∨op=10∨op=13 then 50 else if op=8∨op=47 then 3 else if op=11 then 5 else 2
def Ul(t:Tm):Bool:=decide (1<=t.op/\t.op<=47)&&decide (Uk t.op<=t.kids.length/\t.kids.length<=Xl t.op)&&decide (t.text=[]∨t.op=11∨t.op=12∨t.op=24)&&decide (t.a=0∨t.op=43∨t.op=44∨t.op=45)&&decide (t.b=0∨t.op=43)
theorem UP{o:Int}(h:1<=o/\o<=47):o=1∨o=2∨o=3∨o=4∨o=5∨o=6∨o=7∨o=8∨o=9∨o=10∨o=11∨o=12∨o=13∨o=14∨o=15∨o=16∨o=17∨o=18∨o=19∨o=20∨o=21∨o=22∨o=23∨o=24∨o=25∨o=26∨o=27∨o=28∨o=29∨o=30∨o=31∨o=32∨o=33∨o=34∨o=35∨o=36∨o=37∨o=38∨o=39∨o=40∨o=41∨o=42∨o=43∨o=44∨o=45∨o=46∨o=47:=by omega
theorem Br(o c:Int):o=c∨(o≠c/\(o==c)=false):=by
 by_cases h:o=c
 ·exact .inl h
 exact .inr ⟨h,by simp[h]⟩
theorem Tu(t:Tm)(p:Option Addr)(c:Nat)(w:World)(hl:t.kids.length<=c)(_hc:c<=maxLen) :
 Calls prog 66 #[.agg #[.int .i64 t.op,.string (Oo t.sort),.string (Oo t.text),.int .i64 t.a,.int .i64 t.b,.slice p t.kids.length c]] w fun e w'=>e=.returned (.bool (Ul t))/\Up w w':=by
 obtain⟨o,so,tx,a,b,ks⟩:=t;simp only at hl ⊢;unfold maxLen at _hc;have j:Hid (Up w (w.alloc (.cells #[.int .i64 o,.string (Oo so),.string (Oo tx),.int .i64 a,.int .i64 b,.slice p ks.length c] 38))):=Oy _ _
 by_cases ho:¬ (1<=o/\o<=47)
 ·have F:Hid (Ul ⟨o,so,tx,a,b,ks⟩=false):=by unfold Hid Ul;simp only;rw[Jd ho];rfl
  have z1:(o==1)=false:=by rw[Jc];omega
  have z2:(o==2)=false:=by rw[Jc];omega
  have c8:(o==12)=false:=by rw[Jc];omega
  have d0:(o==24)=false:=by rw[Jc];omega
  have z3:(o==3)=false:=by rw[Jc];omega
  have e2:(o==15)=false:=by rw[Jc];omega
  have e3:(o==23)=false:=by rw[Jc];omega
  have e4:(o==25)=false:=by rw[Jc];omega
  have e5:(o==26)=false:=by rw[Jc];omega
  have b0:(o==43)=false:=by rw[Jc];omega
  have d1:(o==44)=false:=by rw[Jc];omega
  have d2:(o==45)=false:=by rw[Jc];omega
  have z4:(o==4)=false:=by rw[Jc];omega
  have z5:(o==5)=false:=by rw[Jc];omega
  have e0:(o==10)=false:=by rw[Jc];omega
  have e1:(o==13)=false:=by rw[Jc];omega
  have z8:(o==8)=false:=by rw[Jc];omega
  have e6:(o==47)=false:=by rw[Jc];omega
  have c6:(o==11)=false:=by rw[Jc];omega
  by_cases h1:o<1
  ·go_in
   go_wp2
   go_ret
   exact⟨Oz F.o.symm,j.o⟩
  have h2:47<o:=by omega
  go_in
  go_wp2
  go_ret
  exact⟨Oz F.o.symm,j.o⟩
 have HO:=Hd (Decidable.not_not.1 ho);clear ho;have R:Hid (Ul ⟨o,so,tx,a,b,ks⟩=(decide (Uk o<=ks.length/\ks.length<=Xl o)&&decide (tx=[]∨o=11∨o=12∨o=24)&&decide (a=0∨o=43∨o=44∨o=45)&&decide (b=0∨o=43))):=by unfold Hid Ul;simp only;rw[Jb HO.o];rfl
 go_in
 go_upto_block 0 with fail
 go_cut [3,4] (fun s3 s4 wx=>s3=.int .i64 (Uk o:Nat)/\s4=.int .i64 (Xl o:Nat)/\wx=w.alloc (.cells #[.int .i64 o,.string (Oo so),.string (Oo tx),.int .i64 a,.int .i64 b,.slice p ks.length c] 38))
 case first=>
  rcases UP HO.o with rfl|rfl|rfl|rfl|rfl|rfl|rfl|rfl|rfl|rfl|rfl|rfl|rfl|rfl|rfl|rfl|rfl|rfl|rfl|rfl|rfl|rfl|rfl|rfl|rfl|rfl|rfl|rfl|rfl|rfl|rfl|rfl|rfl|rfl|rfl|rfl|rfl|rfl|rfl|rfl|rfl|rfl|rfl|rfl|rfl|rfl|rfl
  all_goals (go_wp2;go_meet;exact⟨rfl,rfl,rfl⟩)
 obtain⟨rfl,rfl,rfl⟩:=hcut;have V:Xl o<=50:=by unfold Xl;repeat (first|split|omega)
 have b7:Uk o<=3:=by unfold Uk;repeat (first|split|omega)
 generalize Uk o=le at R b7 ⊢;generalize Xl o=mo at R V ⊢
 by_cases l1:ks.length<le
 ·have F:Hid (Ul ⟨o,so,tx,a,b,ks⟩=false):=by unfold Hid;rw[R.o,Jd (by omega)];rfl
  go_wp2
  go_ret
  exact⟨Oz F.o.symm,j.o⟩
 have l1:le<=ks.length:=by omega
 by_cases l2:mo<ks.length
 ·have F:Hid (Ul ⟨o,so,tx,a,b,ks⟩=false):=by unfold Hid;rw[R.o,Jd (by omega)];rfl
  go_wp2
  go_ret
  exact⟨Oz F.o.symm,j.o⟩
 have l2:ks.length<=mo:=by omega
 have G:Hid (Ul ⟨o,so,tx,a,b,ks⟩=(decide (tx=[]∨o=11∨o=12∨o=24)&&decide (a=0∨o=43∨o=44∨o=45)&&decide (b=0∨o=43))):=by unfold Hid;rw[R.o,Jb (by omega)];rfl
 clear R
 go_upto_region 37 with fail
 go_cut [68] (fun s68 wx=>s68=.bool (!decide (tx=[]∨o=11∨o=12∨o=24))/\wx=w.alloc (.cells #[.int .i64 o,.string (Oo so),.string (Oo tx),.int .i64 a,.int .i64 b,.slice p ks.length c] 38))
 case first=>
  by_cases t0:tx=[]
  ·have yt:((Oo tx).toList==[])=true:=by rw[Jk,Ov];simp[t0]
   have T0:=Hd t0;clear t0
   go_wp2
   go_meet
   exact⟨by simp[T0.o],rfl⟩
  have yt:((Oo tx).toList==[])=false:=by rw[Jk,Ov];simp[t0]
  have T0:=Hd t0;clear t0
  rcases Br o 11 with rfl|⟨Y,c6⟩
  ·go_wp2
   go_meet
   exact⟨by simp,rfl⟩
  rcases Br o 12 with rfl|⟨Z,c8⟩
  ·go_wp2
   go_meet
   exact⟨by simp,rfl⟩
  rcases Br o 24 with rfl|⟨a1,d0⟩
  ·go_wp2
   go_meet
   exact⟨by simp,rfl⟩
  have b1:=Hd Y;have b2:=Hd Z;have b3:=Hd a1;clear Y Z a1
  go_wp2
  go_meet
  exact⟨by have:=b1.o;have:=b2.o;have:=b3.o;have:=T0.o;simp[*],rfl⟩
 obtain⟨rfl,rfl⟩:=hcut
 by_cases q:¬ (tx=[]∨o=11∨o=12∨o=24)
 ·rw[Jd q];have F:Hid (Ul ⟨o,so,tx,a,b,ks⟩=false):=by unfold Hid;rw[G.o,Jd q];rfl
  clear q
  go_wp2
  go_ret
  exact⟨Oz F.o.symm,j.o⟩
 have q:=Decidable.not_not.1 q;rw[Jb q];have J:Hid (Ul ⟨o,so,tx,a,b,ks⟩=(decide (a=0∨o=43∨o=44∨o=45)&&decide (b=0∨o=43))):=by unfold Hid;rw[G.o,Jb q];rfl
 clear G q
 go_upto_region 39 with fail
 go_cut [86] (fun s86 wx=>s86=.bool (!decide (a=0∨o=43∨o=44∨o=45))/\wx=w.alloc (.cells #[.int .i64 o,.string (Oo so),.string (Oo tx),.int .i64 a,.int .i64 b,.slice p ks.length c] 38))
 case first=>
  rcases Br a 0 with rfl|⟨na,za⟩
  ·go_wp2
   go_meet
   exact⟨by simp,rfl⟩
  have xa:=Un na;have NA:=Hd na;clear na
  rcases Br o 43 with rfl|⟨h,b0⟩
  ·go_wp2
   go_meet
   exact⟨by simp,rfl⟩
  rcases Br o 44 with rfl|⟨a7,d1⟩
  ·go_wp2
   go_meet
   exact⟨by simp,rfl⟩
  rcases Br o 45 with rfl|⟨a8,d2⟩
  ·go_wp2
   go_meet
   exact⟨by simp,rfl⟩
  have O:=Hd h;have b4:=Hd a7;have b5:=Hd a8;clear h a7 a8
  go_wp2
  go_meet
  exact⟨by have:=O.o;have:=b4.o;have:=b5.o;have:=NA.o;simp[*],rfl⟩
 obtain⟨rfl,rfl⟩:=hcut
 by_cases E:¬ (a=0∨o=43∨o=44∨o=45)
 ·rw[Jd E];have F:Hid (Ul ⟨o,so,tx,a,b,ks⟩=false):=by unfold Hid;rw[J.o,Jd E];rfl
  clear E
  go_wp2
  go_ret
  exact⟨Oz F.o.symm,j.o⟩
 have E:=Decidable.not_not.1 E;rw[Jb E];have K:Hid (Ul ⟨o,so,tx,a,b,ks⟩=decide (b=0∨o=43)):=by unfold Hid;rw[J.o,Jb E];rfl
 clear J E
 rcases Br b 0 with rfl|⟨nb,zb⟩
 ·go_wp2
  go_ret
  exact⟨Oz (by rw[K.o];simp),j.o⟩
 have NB:=Hd nb;clear nb
 rcases Br o 43 with rfl|⟨h,b0⟩
 ·go_wp2
  go_ret
  exact⟨Oz (by rw[K.o];simp),j.o⟩
 have O:=Hd h;clear h
 go_wp2
 go_ret
 exact⟨Oz (by have:=O.o;have:=NB.o;rw[K.o];simp[*]),j.o⟩
end Go.Proofs.YtfkagjelljnpdaaGreatDoor
namespace Go.Proofs.YtfkagjelljnpdaaGreatDoor
open ChangeShapes WideShapes ChangeAt RowKit
variable {F:List Fn}{T:List Tm}{l:List Int}{la mo so:Nat}{rd:List UInt8->SI}{t:Tm}
def BJ:Tm:=⟨0,[],[],0,0,[]⟩
def tmAt(T:List Tm)(x:Int):Tm:=(T[x.toNat]?).getD BJ
def Nr(T:List Tm)(t:Tm):List (List UInt8):=t.kids.map (fun x=>(tmAt T x).sort)
def Di(n:Nat)(t:Tm):Bool:=t.kids.all (fun x=>decide (0<=x/\x<(n:Int)))
def kS(ks:List (List UInt8))(i:Nat):List UInt8:=(ks[i]?).getD []
def Np(rd:List UInt8->SI)(ks:List (List UInt8))(i:Nat):SI:=if i<ks.length then rd (kS ks i)else SI.none
def Om(rd:List UInt8->SI)(t:Tm)(ks:List (List UInt8)):Bool:=
 if t.op=24 then decide ((rd t.sort).kind=4)&&decide (t.text.length=(rd t.sort).width)&&t.text.all Gt
 else if 38<=t.op/\t.op<=41 then decide (t.sort=Ok)&&decide (kS ks 0=kS ks 1)&&decide ((Np rd ks 0).kind=4)
 else if t.op=42 then decide ((Np rd ks 0).kind=4)&&decide ((Np rd ks 1).kind=4)&&decide ((rd t.sort).kind=4)&&decide ((rd t.sort).width=(Np rd ks 0).width+(Np rd ks 1).width)
 else if t.op=43 then decide ((Np rd ks 0).kind=4)&&decide (t.a<(Np rd ks 0).width)&&decide (t.b<=t.a)&&decide (0<=t.b)&&decide ((rd t.sort).kind=4)&&decide (((rd t.sort).width:Int)=t.a - t.b+1)
 else if t.op=44∨t.op=45 then decide ((Np rd ks 0).kind=4)&&decide ((rd t.sort).kind=4)&&decide (1<=t.a)&&decide (t.a<64)&&decide (((rd t.sort).width:Int)=(Np rd ks 0).width+t.a)
 else if t.op=46 then decide ((Np rd ks 0).kind=6)&&decide ((Np rd ks 0).index=kS ks 1)&&decide ((Np rd ks 0).elem=t.sort)
 else if t.op=47 then decide ((rd t.sort).kind=6)&&decide (kS ks 0=t.sort)&&decide ((rd t.sort).index=kS ks 1)&&decide ((rd t.sort).elem=kS ks 2)
 else decide ((rd t.sort).kind=4)&&Uw ks t.sort
def O3(s:List UInt8):Bool:=decide (s=Uu)||decide (s=Ui)
def So(F:List Fn)(t:Tm)(ks:List (List UInt8)):Bool:=match Ox F t.text with
 | none=>false
 | some i=>match F[i]? with
   | none=>false
   | some x=>decide (t.sort=x.sort)&&decide (ks=x.args)
def E4(rd:List UInt8->SI)(num:Tm->Bool)(F:List Fn)(T:List Tm)(t:Tm)(ks:List (List UInt8)):Bool:=
 if t.op=1∨t.op=2 then decide (t.sort=Ok)
 else if 3<=t.op/\t.op<=7 then decide (t.sort=Ok)&&Uw ks Ok
 else if t.op=8 then decide (kS ks 0=Ok)&&decide (kS ks 1=t.sort)&&decide (kS ks 2=t.sort)
 else if t.op=9∨t.op=10 then decide (t.sort=Ok)&&Uw ks (kS ks 0)
 else if t.op=11 then So F t ks
 else if t.op=12 then num t
 else if 13<=t.op/\t.op<=15 then O3 t.sort&&Uw ks t.sort
 else if t.op=16 then O3 t.sort&&Uw ks t.sort&&decide ((tmAt T (t.kids.headD 0)).op=12)
 else if 17<=t.op/\t.op<=20 then decide (t.sort=Ok)&&decide (kS ks 0=kS ks 1)&&O3 (kS ks 0)
 else if t.op=21∨t.op=22 then decide (t.sort=Uu)&&Uw ks Uu&&decide ((tmAt T ((t.kids[1]?).getD 0)).op=12)&&decide ((tmAt T ((t.kids[1]?).getD 0)).text≠[48])
 else if t.op=23 then decide (t.sort=Ui)&&decide (kS ks 0=Uu)
 else Om rd t ks
def Bo(rd:List UInt8->SI)(num:Tm->Bool)(F:List Fn)(T:List Tm)(t:Tm):Bool:=Ul t&&Di T.length t&&E4 rd num F T t (Nr T t)
structure Rule where
 last:Nat
 least:Nat
 most:Nat
 sort:Nat
 r0:Nat
 r1:Nat
 r2:Nat
def rules:List Rule:=[⟨2,0,0,1,0,0,0⟩,⟨3,1,1,1,12,0,0⟩,⟨5,2,50,1,12,12,12⟩,⟨7,2,2,1,12,12,0⟩,⟨8,3,3,10,1,12,12⟩,⟨9,2,2,1,10,13,0⟩,⟨10,2,50,1,10,13,13⟩,⟨11,0,5,10,14,14,14⟩,⟨12,0,0,11,0,0,0⟩,⟨13,2,50,11,12,12,12⟩,⟨14,2,2,11,12,12,0⟩,⟨15,1,1,11,12,0,0⟩,⟨16,2,2,11,15,12,0⟩,⟨20,2,2,1,11,13,0⟩,⟨22,2,2,2,12,16,0⟩,⟨23,1,1,3,2,0,0⟩,⟨24,0,0,4,0,0,0⟩,⟨26,1,1,4,12,0,0⟩,⟨37,2,2,4,12,12,0⟩,⟨41,2,2,1,4,13,0⟩,⟨42,2,2,4,4,4,0⟩,⟨43,1,1,4,4,0,0⟩,⟨45,1,1,4,4,0,0⟩,⟨46,2,2,10,17,18,0⟩,⟨47,3,3,6,12,18,19⟩]
def Kk(op:Int):Option Rule:=if op<=0 then none else rules.find? (fun r=>decide (op<=(r.last:Int)))
def Rule.role(r:Rule)(p:Nat):Nat:=if p=0 then r.r0 else if p=1 then r.r1 else r.r2
def V9(rd:List UInt8->SI)(F:List Fn)(f2:List UInt8->Option Nat)(T:List Tm)(t:Tm)(r p:Nat):Bool:=
 let k:=tmAt T ((t.kids[p]?).getD 0)
 let k0:=tmAt T ((t.kids[0]?).getD 0)
 if r=12 then decide (k.sort=t.sort)
 else if r=13 then decide (k.sort=k0.sort)
 else if r=14 then decide (some k.sort=((f2 t.text).bind (fun i=>F[i]?)).bind (fun x=>x.args[p]?))
 else if r=15 then decide (k.sort=t.sort)&&decide (k.op=12)
 else if r=16 then decide (k.sort=t.sort)&&decide (k.op=12)&&decide (k.text≠[48])
 else if r=17 then decide ((rd k.sort).elem=t.sort)
 else if r=18 then decide ((rd k0.sort).index=k.sort)
 else if r=19 then decide ((rd k0.sort).elem=k.sort)
 else Ot r (rd k.sort).kind
def O6(rd:List UInt8->SI)(num:Tm->Bool)(F:List Fn)(f2:List UInt8->Option Nat)(T:List Tm)(t:Tm):Bool:=
 let wd:=(rd t.sort).width
 let w0:=(rd (tmAt T ((t.kids[0]?).getD 0)).sort).width
 let w1:=(rd (tmAt T ((t.kids[1]?).getD 0)).sort).width
 if t.op=11 then Nx F f2 t
 else if t.op=12 then num t
 else if t.op=24 then decide (t.text.length=wd)&&t.text.all Gt
 else if t.op=42 then decide (wd=w0+w1)
 else if t.op=43 then decide (t.a<w0)&&decide (t.b<=t.a)&&decide (0<=t.b)&&decide ((wd:Int)=t.a - t.b+1)
 else if t.op=44∨t.op=45 then decide (1<=t.a)&&decide (t.a=(wd:Int) - w0)
 else true
def Nm(rd:List UInt8->SI)(num:Tm->Bool)(F:List Fn)(f2:List UInt8->Option Nat)(T:List Tm)(t:Tm):Bool:=match Kk t.op with
 | none=>false
 | some r=>decide (r.least<=t.kids.length/\t.kids.length<=r.most)&&Di T.length t&&Ot r.sort (rd t.sort).kind&&Gh t&&O6 rd num F f2 T t&&(List.range t.kids.length).all (fun p=>V9 rd F f2 T t (r.role p) p)
structure RdOk(rd:List UInt8->SI):Prop where
 b:∀s,(rd s).kind=1↔s=Ok
 i:∀s,(rd s).kind=2↔s=Uu
 r:∀s,(rd s).kind=3↔s=Ui
 w0:∀s,(rd s).kind≠4->(rd s).width=0
 w4:∀s,(rd s).kind=4->1<=(rd s).width/\(rd s).width<=64
 a0:∀s,(rd s).kind≠6->(rd s).index=[]/\(rd s).elem=[]
 a6:∀s,(rd s).kind=6->(rd (rd s).elem).kind≠0
 e:(rd []).kind=0
theorem len1(h:1<=l.length/\l.length<=1):∃a,l=[a]:=by
 match l,h with
 | [a],_=>exact⟨a,rfl⟩
theorem FL(h:2<=l.length/\l.length<=2):∃a b,l=[a,b]:=by
 match l,h with
 | [a,b],_=>exact⟨a,b,rfl⟩
theorem MZ(h:3<=l.length/\l.length<=3):∃a b c,l=[a,b,c]:=by
 match l,h with
 | [a,b,c],_=>exact⟨a,b,c,rfl⟩
theorem len0(h:0<=l.length/\l.length<=0):l=[]:=List.length_eq_zero_iff.1 (by omega)
theorem ZQ{f:Nat->Bool}:(List.range 2).all f=(f 0&&f 1):=by simp[List.range_succ]
theorem QS{f:Nat->Bool}:(List.range 3).all f=(f 0&&f 1&&f 2):=by simp[List.range_succ,Bool.and_assoc]
theorem FF(hT:∀u∈T,(rd u.sort).kind≠0){x:Int}(h:0<=x/\x<(T.length:Int)):(rd (tmAt T x).sort).kind≠0:=by
 unfold tmAt;rw[Jg (by omega)];exact hT _ (Jj _)
theorem RB{num:Tm->Bool}{f2:List UInt8->Option Nat}{r:Rule}(hr:Kk t.op=some r)(h1:r.least=Uk t.op)(h2:r.most=Xl t.op)(ho:1<=t.op/\t.op<=47)
 (hb:(Uk t.op<=t.kids.length/\t.kids.length<=Xl t.op)->Di T.length t=true->Gh t=true->(Ot r.sort (rd t.sort).kind&&O6 rd num F f2 T t&&(List.range t.kids.length).all (fun p=>V9 rd F f2 T t (r.role p) p))=E4 rd num F T t (Nr T t)):Nm rd num F f2 T t=Bo rd num F T t:=by
 unfold Nm Bo;rw[hr];simp only;have h:Ul t=(decide (r.least<=t.kids.length/\t.kids.length<=r.most)&&Gh t):=by
  unfold Ul Gh;rw[h1,h2,Jb ho];rw[J8];simp only[Jw,Vn,J1,Yz]
  grind
 rw[h]
 by_cases c1:r.least<=t.kids.length/\t.kids.length<=r.most
 ·cases c2:Di T.length t
  ·simp
  cases c3:Gh t
  ·simp
  have:=hb (by rw[<-h1,<-h2];exact c1) c2 c3;rw[<-this];simp[Bool.and_assoc]
 rw[Jd c1];simp
theorem Fh{o:Int}(h:¬ (1<=o/\o<=47)):Kk o=none:=by
 unfold Kk
 split
 ·rfl
 rw[List.find?_eq_none];intro r j;have:r.last<=47:=by
  simp only[rules,Ym,Yi,or_false]at j
  rcases j with rfl|rfl|rfl|rfl|rfl|rfl|rfl|rfl|rfl|rfl|rfl|rfl|rfl|rfl|rfl|rfl|rfl|rfl|rfl|rfl|rfl|rfl|rfl|rfl|rfl<;>decide
 simp;omega
theorem Ls{g:Int->Bool}:(List.range l.length).all (fun p=>g ((l[p]?).getD 0))=l.all g:=by
 rw[J8,Jx,Jx];constructor
 ·intro h x hx;obtain⟨j,q,rfl⟩:=Ya hx;have:=h j (by simpa using q)
  rwa [Jg q]at this
 intro h p hp;have hp:=Yg.1 hp;rw[Jg hp];exact h _ (Jj _)
theorem VJ{s:List UInt8}:Uw (Nr T t) s=t.kids.all (fun x=>decide ((tmAt T x).sort=s)):=by
 unfold Uw Nr;rw[List.all_map];rfl
theorem R5{f2:List UInt8->Option Nat}{le:Nat}:(List.range t.kids.length).all (fun p=>V9 rd F f2 T t (Rule.role ⟨la,le,mo,so,12,12,12⟩ p) p)=Uw (Nr T t) t.sort:=by
 rw[VJ,<-Ls]
 congr 1
 funext p
 simp[Rule.role,V9]
theorem YP{f2:List UInt8->Option Nat}{le:Nat}(hk:∀x∈t.kids,(rd (tmAt T x).sort).kind≠0)(hl:2<=t.kids.length):(List.range t.kids.length).all (fun p=>V9 rd F f2 T t (Rule.role ⟨la,le,mo,so,10,13,13⟩ p) p)=Uw (Nr T t) (kS (Nr T t) 0):=by
 have E:kS (Nr T t) 0=(tmAt T ((t.kids[0]?).getD 0)).sort:=by
  unfold kS Nr;rw[Yt,Jg (by omega)];rfl
 rw[VJ,<-Ls,J8,Jx,Jx,E];constructor
 ·intro h p hp;have:=h p hp
  by_cases j:p=0
  ·subst j;simp
  by_cases q:p=1
  ·subst q;simpa[Rule.role,V9]using this
  simpa[Rule.role,V9,j,q]using this
 intro h p hp;have:=h p hp
 by_cases j:p=0
 ·subst j;have:=hk _ (Jj (l:=t.kids) (n:=0) (by omega));simp[Rule.role,V9,Ot];rw[Jg (by omega)];exact this
 by_cases q:p=1
 ·subst q;simpa[Rule.role,V9]using this
 simpa[Rule.role,V9,j,q]using this
theorem QV{f2:List UInt8->Option Nat}{le:Nat}{i:Nat}{x:Fn}(hf:f2 t.text=some i)(hx:F[i]? = some x)(hl:x.args.length=t.kids.length):(List.range t.kids.length).all (fun p=>V9 rd F f2 T t (Rule.role ⟨la,le,mo,so,14,14,14⟩ p) p)=decide (Nr T t=x.args):=by
 rw[J8,Jx,Jv];have j:∀p,V9 rd F f2 T t (Rule.role ⟨la,le,mo,so,14,14,14⟩ p) p=decide (some (tmAt T ((t.kids[p]?).getD 0)).sort=x.args[p]?):=by
  intro p;simp[Rule.role,V9,hf,hx]
 constructor
 ·intro h;refine Vi (by simp[Nr,hl]) (fun p h1 h2=>?_);have:=h p (by rw[Yg,<-hl];exact h2);rw[j,Jv,Jg h2,Jg (by omega)]at this
  simpa[Nr]using this
 intro h p hp;have hp:=Yg.1 hp;rw[j,Jv,Jg (by omega)];rw[Jg (by omega)]
 congr 1
 have:(Nr T t)[p]'(by simp[Nr];exact hp)=x.args[p]'(by omega):=by simp[h]
 rw[<-this];simp[Nr]
theorem MN(hrd:RdOk rd){num:Tm->Bool}{f2:List UInt8->Option Nat}(hT:∀u∈T,(rd u.sort).kind≠0)(hF:∀f∈F,(rd f.sort).kind≠0)(hf:f2=Ox F)
 (hnum:∀t,num t=true->(rd t.sort).kind=2∨(rd t.sort).kind=3) (t:Tm):Nm rd num F f2 T t=Bo rd num F T t:=by
 by_cases K:¬ (1<=t.op/\t.op<=47)
 ·unfold Nm Bo Ul;rw[Fh K,Jd K];simp
 have K:=Decidable.not_not.1 K;have q:=hrd.b;have E:=hrd.i;have G:=hrd.r;have O:=hrd.w0;have R:=hrd.w4;have Z:=hrd.a0;have a1:=hrd.a6;obtain⟨o,so,tx,a,b,ks⟩:=t;have hn2:∀x,Di T.length ⟨o,so,tx,a,b,ks⟩=true->x∈ks->(rd (tmAt T x).sort).kind≠0:=fun x h hx=>FF hT (by simpa[Di]using Jx.1 h x hx)
 rcases UP K with h|h|h|h|h|h|h|h|h|h|h|h|h|h|h|h|h|h|h|h|h|h|h|h|h|h|h|h|h|h|h|h|h|h|h|h|h|h|h|h|h|h|h|h|h|h|h
 all_goals (simp only at h;subst h;refine RB rfl rfl rfl K ?_;intro hl hr hm;have j:=fun x=>hn2 x hr;clear hn2)
 all_goals (try (obtain rfl:=len0 hl;simp[E4,O6,V9,Ot,Om,q,E,G];done))
 all_goals (try (obtain⟨x,rfl⟩:=len1 hl;have J:=j x (by simp);rw[J8];simp[E4,O6,V9,Ot,Rule.role,Nr,Uw,kS,Np,Om,q,E,G,O3];done))
 all_goals (try (obtain⟨x,rfl⟩:=len1 hl;have J:=j x (by simp);have e1:=O so;have e2:=R so;have e3:=O (tmAt T x).sort;have e4:=R (tmAt T x).sort;rw[J8];simp[E4,O6,V9,Ot,Rule.role,Nr,Uw,kS,Np,Om,q,E,G];grind))
 all_goals (try (obtain⟨x,y,rfl⟩:=FL hl;have J:=j x (by simp);have V:=j y (by simp);rw[J8];simp[E4,O6,V9,Ot,Rule.role,Nr,Uw,kS,Np,Om,q,E,G,ZQ,O3];done))
 all_goals (try (obtain⟨x,y,rfl⟩:=FL hl;have J:=j x (by simp);have V:=j y (by simp);rw[J8];simp[E4,O6,V9,Ot,Rule.role,Nr,Uw,kS,Np,Om,q,E,G,ZQ,O3];grind))
 all_goals (try (obtain⟨x,y,rfl⟩:=FL hl;have J:=j x (by simp);have V:=j y (by simp);have e1:=Z (tmAt T x).sort;have e2:=a1 (tmAt T x).sort;have e3:=hrd.e;rw[J8];simp[E4,O6,V9,Ot,Rule.role,Nr,kS,Np,Om,E,G,ZQ];grind))
 all_goals (try (obtain⟨x,y,z,rfl⟩:=MZ hl;have J:=j x (by simp);have V:=j y (by simp);have h3:=j z (by simp);rw[J8];simp[E4,O6,V9,Ot,Rule.role,Nr,kS,Om,q,E,G,QS];done))
 all_goals (try (obtain⟨x,y,z,rfl⟩:=MZ hl;have J:=j x (by simp);have V:=j y (by simp);have h3:=j z (by simp);rw[J8];simp[E4,O6,V9,Ot,Rule.role,Nr,kS,Om,q,E,G,QS];grind))
 ·rw[R5,J8];simp[E4,O6,Ot,q];grind
 ·rw[R5,J8];simp[E4,O6,Ot,q];grind
 ·rw[YP j hl.1];simp[E4,O6,Ot,q]
 ·simp only[E4,O6];simp[So,Nx,hf]
  cases hx:Ox F tx with
  | none=>simp
  | some i=>
    simp only
    cases hy:F[i]? with
    | none=>simp
    | some x=>
      simp only
      by_cases Y:x.args.length=ks.length
      ·have:=QV (rd:=rd) (T:=T) (t:=⟨11,so,tx,a,b,ks⟩) (la:=11) (le:=0) (mo:=5) (so:=10) (f2:=Ox F) hx hy Y;simp only at this;rw[this,Jb Y];have a7:=hF x (Zb hy)
       by_cases hs:x.sort=so
       ·subst hs;simp[Ot,a7]
       have:so≠x.sort:=fun e=>hs e.symm;simp[hs,this]
      have:Nr T ⟨11,so,tx,a,b,ks⟩≠x.args:=fun e=>Y (by rw[<-e];simp[Nr]);simp[Y,this]
 ·obtain rfl:=len0 hl;have:=hnum ⟨12,so,tx,a,b,[]⟩;simp[E4,O6,Ot];rw[J8];simp
  grind
 ·rw[R5,J8];simp[E4,O6,Ot,E,G,O3]
 obtain rfl:=len0 hl;simp[E4,O6,Ot,Om,Bool.and_assoc]
end Go.Proofs.YtfkagjelljnpdaaGreatDoor
