import Derived.Test.YtdmdmgfjpomdbaaGreatDoorP20
import Derived.Deep.DeepCutAuto
import Derived.Deep.CutBlock
set_option maxRecDepth 100000
set_option maxHeartbeats 4000000
namespace Go.Proofs.YtdmdmgfjpomdbaaGreatDoor
open ChangeShapes WideShapes ChangeAt RowKit Proofs.Tryz
def Ko (op:Int):Nat:=if op=1∨op=2∨op=11∨op=12∨op=24 then 0 else if op=3∨op=15∨op=23∨op=25∨op=26∨op=43∨op=44∨op=45 then 1 else if op=8∨op=47 then 3 else 2
def Fz (op:Int):Nat:=if op=1∨op=2∨op=12∨op=24 then 0 else if op=3∨op=15∨op=23∨op=25∨op=26∨op=43∨op=44∨op=45 then 1 else if op=4∨op=5∨op=10∨op=13 then 50 else if op=8∨op=47 then 3 else if op=11 then 5 else 2
def K5 (t:Tm):Bool:=decide (1<=t.op/\t.op<=47)&&decide (Ko t.op<=t.kids.length/\t.kids.length<=Fz t.op)&&decide (t.text=[]∨t.op=11∨t.op=12∨t.op=24)&&decide (t.a=0∨t.op=43∨t.op=44∨t.op=45)&&decide (t.b=0∨t.op=43)
theorem NR {o:Int}(h:1<=o/\o<=47):o=1∨o=2∨o=3∨o=4∨o=5∨o=6∨o=7∨o=8∨o=9∨o=10∨o=11∨o=12∨o=13∨o=14∨o=15∨o=16∨o=17∨o=18∨o=19∨o=20∨o=21∨o=22∨o=23∨o=24∨o=25∨o=26∨o=27∨o=28∨o=29∨o=30∨o=31∨o=32∨o=33∨o=34∨o=35∨o=36∨o=37∨o=38∨o=39∨o=40∨o=41∨o=42∨o=43∨o=44∨o=45∨o=46∨o=47:=by omega
theorem Sa (o c:Int):o=c∨(o≠c/\(o==c)=false):=by
 by_cases h:o=c
 ·exact .inl h
 exact .inr ⟨h,by simp[h]⟩
theorem G7 (t:Tm)(p:Option Addr)(c:Nat)(w:World)(hl:t.kids.length<=c)(_hc:c<=maxLen) :
 Calls prog 70 #[.agg #[.int .i64 t.op,.string (Oo t.sort),.string (Oo t.text),.int .i64 t.a,.int .i64 t.b,.slice p t.kids.length c]] w fun e w'=>e=.returned (.bool (K5 t))/\Up w w':=by
 obtain⟨o,so,d,a,b,h⟩:=t;simp only at hl ⊢;unfold maxLen at _hc;have A:Hid (Up w (w.alloc (.cells #[.int .i64 o,.string (Oo so),.string (Oo d),.int .i64 a,.int .i64 b,.slice p h.length c] 55))):=Oz _ _
 by_cases ho:¬ (1<=o/\o<=47)
 ·have F:Hid (K5 ⟨o,so,d,a,b,h⟩=false):=by unfold Hid K5;simp only;rw[Jc ho];rfl
  have z1:(o==1)=false:=by rw[Jb];omega
  have z2:(o==2)=false:=by rw[Jb];omega
  have d2:(o==12)=false:=by rw[Jb];omega
  have d3:(o==24)=false:=by rw[Jb];omega
  have z3:(o==3)=false:=by rw[Jb];omega
  have e6:(o==15)=false:=by rw[Jb];omega
  have e7:(o==23)=false:=by rw[Jb];omega
  have e8:(o==25)=false:=by rw[Jb];omega
  have e9:(o==26)=false:=by rw[Jb];omega
  have b3:(o==43)=false:=by rw[Jb];omega
  have d4:(o==44)=false:=by rw[Jb];omega
  have d5:(o==45)=false:=by rw[Jb];omega
  have z4:(o==4)=false:=by rw[Jb];omega
  have z5:(o==5)=false:=by rw[Jb];omega
  have e4:(o==10)=false:=by rw[Jb];omega
  have e5:(o==13)=false:=by rw[Jb];omega
  have z8:(o==8)=false:=by rw[Jb];omega
  have f8:(o==47)=false:=by rw[Jb];omega
  have d1:(o==11)=false:=by rw[Jb];omega
  by_cases h1:o<1
  ·go_in
   go_wp2
   go_ret
   exact⟨Oy F.o.symm,A.o⟩
  have h2:47<o:=by omega
  go_in
  go_wp2
  go_ret
  exact⟨Oy F.o.symm,A.o⟩
 have HO:=Hd (Decidable.not_not.1 ho);clear ho;have O:Hid (K5 ⟨o,so,d,a,b,h⟩=(decide (Ko o<=h.length/\h.length<=Fz o)&&decide (d=[]∨o=11∨o=12∨o=24)&&decide (a=0∨o=43∨o=44∨o=45)&&decide (b=0∨o=43))):=by unfold Hid K5;simp only;rw[Ja HO.o];rfl
 go_in
 go_upto_block 0 with fail
 go_cut [3,4] (fun s3 s4 wx=>s3=.int .i64 (Ko o:Nat)/\s4=.int .i64 (Fz o:Nat)/\wx=w.alloc (.cells #[.int .i64 o,.string (Oo so),.string (Oo d),.int .i64 a,.int .i64 b,.slice p h.length c] 55))
 case first=>
  rcases NR HO.o with rfl|rfl|rfl|rfl|rfl|rfl|rfl|rfl|rfl|rfl|rfl|rfl|rfl|rfl|rfl|rfl|rfl|rfl|rfl|rfl|rfl|rfl|rfl|rfl|rfl|rfl|rfl|rfl|rfl|rfl|rfl|rfl|rfl|rfl|rfl|rfl|rfl|rfl|rfl|rfl|rfl|rfl|rfl|rfl|rfl|rfl|rfl
  all_goals (go_wp2;go_meet;exact⟨rfl,rfl,rfl⟩)
 obtain⟨rfl,rfl,rfl⟩:=hcut;have U:Fz o<=50:=by unfold Fz;repeat (first|split|omega)
 have c6:Ko o<=3:=by unfold Ko;repeat (first|split|omega)
 generalize Ko o=le at O c6 ⊢;generalize Fz o=mo at O U ⊢
 by_cases l1:h.length<le
 ·have F:Hid (K5 ⟨o,so,d,a,b,h⟩=false):=by unfold Hid;rw[O.o,Jc (by omega)];rfl
  go_wp2
  go_ret
  exact⟨Oy F.o.symm,A.o⟩
 have l1:le<=h.length:=by omega
 by_cases l2:mo<h.length
 ·have F:Hid (K5 ⟨o,so,d,a,b,h⟩=false):=by unfold Hid;rw[O.o,Jc (by omega)];rfl
  go_wp2
  go_ret
  exact⟨Oy F.o.symm,A.o⟩
 have l2:h.length<=mo:=by omega
 have I:Hid (K5 ⟨o,so,d,a,b,h⟩=(decide (d=[]∨o=11∨o=12∨o=24)&&decide (a=0∨o=43∨o=44∨o=45)&&decide (b=0∨o=43))):=by unfold Hid;rw[O.o,Ja (by omega)];rfl
 clear O
 go_upto_region 37 with fail
 go_cut [68] (fun s68 wx=>s68=.bool (!decide (d=[]∨o=11∨o=12∨o=24))/\wx=w.alloc (.cells #[.int .i64 o,.string (Oo so),.string (Oo d),.int .i64 a,.int .i64 b,.slice p h.length c] 55))
 case first=>
  by_cases t0:d=[]
  ·have yt:((Oo d).toList==[])=true:=by rw[Jk,Ou];simp[t0]
   have T0:=Hd t0;clear t0
   go_wp2
   go_meet
   exact⟨by simp[T0.o],rfl⟩
  have yt:((Oo d).toList==[])=false:=by rw[Jk,Ou];simp[t0]
  have T0:=Hd t0;clear t0
  rcases Sa o 11 with rfl|⟨V,d1⟩
  ·go_wp2
   go_meet
   exact⟨by simp,rfl⟩
  rcases Sa o 12 with rfl|⟨Y,d2⟩
  ·go_wp2
   go_meet
   exact⟨by simp,rfl⟩
  rcases Sa o 24 with rfl|⟨Z,d3⟩
  ·go_wp2
   go_meet
   exact⟨by simp,rfl⟩
  have b4:=Hd V;have b5:=Hd Y;have b6:=Hd Z;clear V Y Z
  go_wp2
  go_meet
  exact⟨by have:=b4.o;have:=b5.o;have:=b6.o;have:=T0.o;simp[*],rfl⟩
 obtain⟨rfl,rfl⟩:=hcut
 by_cases E:¬ (d=[]∨o=11∨o=12∨o=24)
 ·rw[Jc E];have F:Hid (K5 ⟨o,so,d,a,b,h⟩=false):=by unfold Hid;rw[I.o,Jc E];rfl
  clear E
  go_wp2
  go_ret
  exact⟨Oy F.o.symm,A.o⟩
 have E:=Decidable.not_not.1 E;rw[Ja E];have J:Hid (K5 ⟨o,so,d,a,b,h⟩=(decide (a=0∨o=43∨o=44∨o=45)&&decide (b=0∨o=43))):=by unfold Hid;rw[I.o,Ja E];rfl
 clear I E
 go_upto_region 39 with fail
 go_cut [86] (fun s86 wx=>s86=.bool (!decide (a=0∨o=43∨o=44∨o=45))/\wx=w.alloc (.cells #[.int .i64 o,.string (Oo so),.string (Oo d),.int .i64 a,.int .i64 b,.slice p h.length c] 55))
 case first=>
  rcases Sa a 0 with rfl|⟨na,za⟩
  ·go_wp2
   go_meet
   exact⟨by simp,rfl⟩
  have xa:=K3 na;have NA:=Hd na;clear na
  rcases Sa o 43 with rfl|⟨j,b3⟩
  ·go_wp2
   go_meet
   exact⟨by simp,rfl⟩
  rcases Sa o 44 with rfl|⟨a7,d4⟩
  ·go_wp2
   go_meet
   exact⟨by simp,rfl⟩
  rcases Sa o 45 with rfl|⟨a8,d5⟩
  ·go_wp2
   go_meet
   exact⟨by simp,rfl⟩
  have M:=Hd j;have b7:=Hd a7;have b8:=Hd a8;clear j a7 a8
  go_wp2
  go_meet
  exact⟨by have:=M.o;have:=b7.o;have:=b8.o;have:=NA.o;simp[*],rfl⟩
 obtain⟨rfl,rfl⟩:=hcut
 by_cases G:¬ (a=0∨o=43∨o=44∨o=45)
 ·rw[Jc G];have F:Hid (K5 ⟨o,so,d,a,b,h⟩=false):=by unfold Hid;rw[J.o,Jc G];rfl
  clear G
  go_wp2
  go_ret
  exact⟨Oy F.o.symm,A.o⟩
 have G:=Decidable.not_not.1 G;rw[Ja G];have K:Hid (K5 ⟨o,so,d,a,b,h⟩=decide (b=0∨o=43)):=by unfold Hid;rw[J.o,Ja G];rfl
 clear J G
 rcases Sa b 0 with rfl|⟨nb,zb⟩
 ·go_wp2
  go_ret
  exact⟨Oy (by rw[K.o];simp),A.o⟩
 have NB:=Hd nb;clear nb
 rcases Sa o 43 with rfl|⟨j,b3⟩
 ·go_wp2
  go_ret
  exact⟨Oy (by rw[K.o];simp),A.o⟩
 have M:=Hd j;clear j
 go_wp2
 go_ret
 exact⟨Oy (by have:=M.o;have:=NB.o;rw[K.o];simp[*]),A.o⟩
end Go.Proofs.YtdmdmgfjpomdbaaGreatDoor
