import Derived.Test.YtfkagjelljnpdaaGreatDoorP14
set_option maxRecDepth 100000
set_option maxHeartbeats 2000000
namespace Go.Proofs.YtfkagjelljnpdaaGreatDoor
open ChangeShapes WideShapes ChangeAt RowKit Proofs.Tryz
theorem Ct(c:UInt8):ZK c=true↔c.toNat≠41/\c.toNat≠124:=by
 have k:=H9 (p:=fun c=>decide (ZK c=true↔c.toNat≠41/\c.toNat≠124)) (by decide +kernel) c;exact of_decide_eq_true k
theorem Td(c:UInt8):ZU c=true↔c.toNat≠124:=by
 have k:=H9 (p:=fun c=>decide (ZU c=true↔c.toNat≠124)) (by decide +kernel) c;exact of_decide_eq_true k
theorem Cw(c:UInt8):NP c=true↔c.toNat≠32/\c.toNat≠41:=by
 have k:=H9 (p:=fun c=>decide (NP c=true↔c.toNat≠32/\c.toNat≠41)) (by decide +kernel) c;exact of_decide_eq_true k
theorem Iz(c:UInt8)(n:Nat)(hn:n<256):c=UInt8.ofNat n↔c.toNat=n:=⟨fun e=>by rw[e];simp;omega,fun h=>E3 h⟩
theorem Oc(s:ByteArray):s.data.toList.length=s.size:=(Lib.size_eq s).symm
theorem Tp{p:UInt8->Bool}{c:UInt8}(h:¬ p c=true):p c=false:=by simpa using h
theorem Cd(s:ByteArray)(i:Nat)(w:World)(hs:s.size<=maxLen)(hi:i<=maxLen) :
 Calls prog 107 #[.string s,.int .i64 (i:Nat)] w fun e w'=>e=.returned (.int .i64 (Kq s.data.toList i))/\w'=w:=by
 unfold maxLen at hs hi
 by_cases b4:s.size<=i
 ·have F:Hid (Kq s.data.toList i = -1):=ZI (by rw[Oc];omega);have z:decide ((s.size:Int)<=(i:Int))=true:=dT (by omega)
  go_in
  go_wp2
  go_ret
  exact⟨O8 F.o.symm,rfl⟩
 have b2:i<s.size:=by omega
 have hl:i<s.data.toList.length:=by rw[Oc];exact b2
 have Z:=Hd hl;clear hl
 by_cases a1:s[i].toNat=40
 ·have z0:((s[i].toNat:Int)==40)=true:=by rw[J2];omega
  have K:Hid (s.data.toList[i]'Z.o=40):=(Iz _ 40 (by decide)).2 a1;clear a1
  go_in
  go_wp2
  go_loop [5] (fun v=>∃k:Nat,i<=k/\k<=s.size/\v=.int .i64 (k:Nat)/\∀j (hj:j<s.data.toList.length),i<=j->j<k->ZK s.data.toList[j]=true) (fun v=>s.size - (intOf v).toNat)
  case atStart=>exact⟨i,leR,by omega,rfl,fun j _ h1 h2=>by omega⟩
  obtain⟨k,J,hk,rfl,hp⟩:=hrel;have V:=Hd hp;clear hp
  by_cases Y:k<s.size
  ·have q:k<s.data.toList.length:=by rw[Oc];exact Y
   have E:=Hd q;clear q
   by_cases c1:s[k].toNat=41
   ·have z1:((s[k].toNat:Int)==41)=true:=by rw[J2];omega
    have O:Hid (Kq s.data.toList i=((k+1:Nat):Int)):=by
     unfold Hid;have he:s.data.toList[k]'E.o=41:=(Iz _ 41 (by decide)).2 c1;rw[C6 Z.o K.o J E.o V.o (Tp (fun h=>(Ct _).1 h |>.1 c1)),if_pos he]
    clear c1
    go_wp2
    go_ret
    exact⟨O8 (by rw[O.o];omega),rfl⟩
   have z1:((s[k].toNat:Int)==41)=false:=by rw[Jc];omega
   by_cases c2:s[k].toNat=124
   ·have z2:((s[k].toNat:Int)==124)=true:=by rw[J2];omega
    have O:Hid (Kq s.data.toList i = -1):=by
     unfold Hid;have he:¬ s.data.toList[k]'E.o=41:=fun h=>c1 ((Iz _ 41 (by decide)).1 h);rw[C6 Z.o K.o J E.o V.o (Tp (fun h=>(Ct _).1 h |>.2 c2)),if_neg he]
    clear c1 c2
    go_wp2
    go_ret
    exact⟨O8 O.o.symm,rfl⟩
   have z2:((s[k].toNat:Int)==124)=false:=by rw[Jc];omega
   have HN:Hid (ZK (s.data.toList[k]'E.o)=true):=(Ct _).2 ⟨c1,c2⟩;clear c1 c2
   go_wp2
   go_round
   case rel=>exact⟨k+1,by omega,by omega,by go_num,fun j hj h1 h2=>by
    rcases J4.1 h2 with h|rfl
    ·exact V.o j hj h1 h
    exact HN.o⟩
   simp[intOf];omega
  have O:Hid (Kq s.data.toList i = -1):=C7 Z.o K.o (fun j hj h1=>V.o j hj h1 (by have:=Oc s;omega))
  go_wp2
  go_ret
  exact⟨O8 O.o.symm,rfl⟩
 have z0:((s[i].toNat:Int)==40)=false:=by rw[Jc];omega
 have K:Hid (s.data.toList[i]'Z.o≠40):=fun h=>a1 ((Iz _ 40 (by decide)).1 h);clear a1
 by_cases R:s[i].toNat=124
 ·have z1:((s[i].toNat:Int)==124)=true:=by rw[J2];omega
  have G:Hid (s.data.toList[i]'Z.o=124):=(Iz _ 124 (by decide)).2 R;clear R
  go_in
  go_wp2
  go_loop [6] (fun v=>∃k:Nat,i+1<=k/\k<=s.size/\v=.int .i64 (k:Nat)/\∀j (hj:j<s.data.toList.length),i+1<=j->j<k->ZU s.data.toList[j]=true) (fun v=>s.size - (intOf v).toNat)
  case atStart=>exact⟨i+1,leR,by omega,by go_num,fun j _ h1 h2=>by omega⟩
  obtain⟨k,J,hk,rfl,hp⟩:=hrel;have V:=Hd hp;clear hp
  by_cases Y:k<s.size
  ·have q:k<s.data.toList.length:=by rw[Oc];exact Y
   have E:=Hd q;clear q
   by_cases c1:s[k].toNat=124
   ·have z2:((s[k].toNat:Int)==124)=true:=by rw[J2];omega
    have O:Hid (Kq s.data.toList i=((k+1:Nat):Int)):=GO Z.o G.o J E.o V.o (Tp (fun h=>(Td _).1 h c1));clear c1
    go_wp2
    go_ret
    exact⟨O8 (by rw[O.o];omega),rfl⟩
   have z2:((s[k].toNat:Int)==124)=false:=by rw[Jc];omega
   have HN:Hid (ZU (s.data.toList[k]'E.o)=true):=(Td _).2 c1;clear c1
   go_wp2
   go_round
   case rel=>exact⟨k+1,by omega,by omega,by go_num,fun j hj h1 h2=>by
    rcases J4.1 h2 with h|rfl
    ·exact V.o j hj h1 h
    exact HN.o⟩
   simp[intOf];omega
  have O:Hid (Kq s.data.toList i = -1):=Lr Z.o G.o (fun j hj h1=>V.o j hj h1 (by have:=Oc s;omega))
  go_wp2
  go_ret
  exact⟨O8 O.o.symm,rfl⟩
 have z1:((s[i].toNat:Int)==124)=false:=by rw[Jc];omega
 have G:Hid (s.data.toList[i]'Z.o≠124):=fun h=>R ((Iz _ 124 (by decide)).1 h);clear R
 go_in
 go_wp2
 go_loop [7] (fun v=>∃k:Nat,i<=k/\k<=s.size/\v=.int .i64 (k:Nat)/\∀j (hj:j<s.data.toList.length),i<=j->j<k->NP s.data.toList[j]=true) (fun v=>s.size - (intOf v).toNat)
 case atStart=>exact⟨i,leR,by omega,rfl,fun j _ h1 h2=>by omega⟩
 obtain⟨k,J,hk,rfl,hp⟩:=hrel;have V:=Hd hp;clear hp
 by_cases Y:k<s.size
 ·have q:k<s.data.toList.length:=by rw[Oc];exact Y
  have E:=Hd q;clear q
  by_cases c1:s[k].toNat=32
  ·have z2:((s[k].toNat:Int)==32)=true:=by rw[J2];omega
   have O:Hid (Kq s.data.toList i=((k:Nat):Int)):=Qj Z.o K.o G.o J (Zj E.o) V.o (fun _=>Tp (fun h=>(Cw _).1 h |>.1 c1));have zn:((s[k].toNat:Int) != 32)=false:=by simp[bne,z2]
   have zp:(s[k].toNat:Int)=32:=by omega
   clear c1
   go_wp2
   go_ret
   exact⟨O8 O.o.symm,rfl⟩
  have z2:((s[k].toNat:Int)==32)=false:=by rw[Jc];omega
  have zp:¬ (s[k].toNat:Int)=32:=by omega
  have zn:((s[k].toNat:Int) != 32)=true:=by simp[bne,z2]
  by_cases c2:s[k].toNat=41
  ·have z3:((s[k].toNat:Int)==41)=true:=by rw[J2];omega
   have zm:((s[k].toNat:Int) != 41)=false:=by simp[bne,z3]
   have O:Hid (Kq s.data.toList i=((k:Nat):Int)):=Qj Z.o K.o G.o J (Zj E.o) V.o (fun _=>Tp (fun h=>(Cw _).1 h |>.2 c2));have HE:Hid ((s[k].toNat:Int)=41):=by unfold Hid;omega
   clear c1 c2
   go_wp2_with fail
   all_goals first|(go_ret;exact⟨O8 O.o.symm,rfl⟩)|(exfalso;rename_i h2 _;simp only[bne_iff_ne,ne_eq]at h2;exact h2.2 HE.o)
  have z3:((s[k].toNat:Int)==41)=false:=by rw[Jc];omega
  have zm:((s[k].toNat:Int) != 41)=true:=by simp[bne,z3]
  have HN:Hid (NP (s.data.toList[k]'E.o)=true):=(Cw _).2 ⟨c1,c2⟩;have HE:Hid (¬ (s[k].toNat:Int)=32/\¬ (s[k].toNat:Int)=41):=⟨by omega,by omega⟩;clear c1 c2
  go_wp2_with fail
  rotate_left
  ·exfalso;rename_i h2 _;simp only[bne_eq_false_iff_eq]at h2;rcases h2 with h2|h2;exact HE.o.1 h2;exact HE.o.2 h2
  go_round
  case rel=>exact⟨k+1,by omega,by omega,by go_num,fun j hj h1 h2=>by
   rcases J4.1 h2 with h|rfl
   ·exact V.o j hj h1 h
   exact HN.o⟩
  simp[intOf];omega
 have O:Hid (Kq s.data.toList i=((k:Nat):Int)):=Qj Z.o K.o G.o J (by rw[Oc];exact hk) V.o (fun h=>absurd h (by rw[Oc];exact Y))
 go_wp2
 go_ret
 exact⟨O8 O.o.symm,rfl⟩
end Go.Proofs.YtfkagjelljnpdaaGreatDoor
namespace Go.Proofs.YtfkagjelljnpdaaGreatDoor
open ChangeShapes WideShapes ChangeAt RowKit
variable {t:List UInt8}{w:Nat}
def Gu(x:SI):Value:=.agg #[.int .i64 x.kind,.int .i64 (x.width:Nat),.string (Oo x.index),.string (Oo x.elem)]
theorem KT:∀w:Fin 65,0<w.val->If (Le w.val)=(w.val:Int):=by decide +kernel
theorem Bu:∀w:Fin 65,0<w.val->K3 (Ex w.val)=w.val:=by decide +kernel
theorem UE:∀(r:List UInt8) (n:Nat),n<=r.foldl (fun n c=>n*10+(c.toNat - 48)) n
 | [],n=>leR
 | c::r,n=>by
   have:=UE r (n*10+(c.toNat - 48))
   simp only[Vw]
   omega
theorem XH{d:List UInt8}(h:If d=(w:Int))(h0:0<w)(h1:w<=64):d=Le w:=by
 unfold If at h
 by_cases hc:d.length=0∨6<d.length∨(1<d.length/\d.head? = some 48)
 ·rw[if_pos hc]at h;omega
 rw[if_neg hc]at h
 by_cases j:¬ d.all dg=true
 ·rw[if_neg j]at h;omega
 have hd:d.all dg=true:=Decidable.of_not_not j;rw[if_pos hd]at h;have hv:Pe d=w:=by omega
 have hall:=Jx.1 hd
 match d,hc,hall,hv with
 | [],hc,_,_=>exact absurd (Or.inl rfl) hc
 | [a],hc,hall,hv=>
   have ha:=(Ql a).1 (hall a (by simp));simp only[Pe,Vw,List.foldl_nil]at hv;unfold Le;rw[if_pos (by omega)]
   congr 1
   exact E3 (by omega)
 | [a,b],hc,hall,hv=>
   have ha:=(Ql a).1 (hall a (by simp));have hb:=(Ql b).1 (hall b (by simp));have q:a.toNat≠48:=fun e=>hc (.inr (.inr ⟨by simp,by rw[E3 e];rfl⟩));simp only[Pe,Vw,List.foldl_nil]at hv;unfold Le;rw[if_neg (by omega)];rw[E3 (c:=a) (n:=48+w / 10) (by omega),E3 (c:=b) (n:=48+w % 10) (by omega)]
 | a::b::c::r,hc,hall,hv=>
   have ha:=(Ql a).1 (hall a (by simp));have q:a.toNat≠48:=fun e=>hc (.inr (.inr ⟨by simp,by rw[E3 e];rfl⟩));simp only[Pe,Vw]at hv;have:=UE r (((0*10+(a.toNat - 48))*10+(b.toNat - 48))*10+(c.toNat - 48));omega
def Ic(t:List UInt8):Prop:=11<t.length/\t.take 10=F8/\t.getLast? = some 41
def Dy(t:List UInt8):List UInt8:=(t.drop 10).dropLast
theorem R2(h:Ic t):t=F8++Dy t++[41]:=by
 obtain⟨J,E,G⟩:=h;have j:t=F8++t.drop 10:=by rw[<-E,Y2]
 have q:(t.drop 10).getLast? = some 41:=by rw[List.getLast?_drop,if_neg (by omega)];exact G
 obtain⟨K,e⟩:=Zn.1 q;unfold Dy;rw[e,Zx,Ys,<-e];exact j
theorem KG:∀w:Fin 65,0<w.val->11<(Ex w.val).length/\(Ex w.val).take 10=F8/\(Ex w.val).getLast? = some 41:=by decide +kernel
theorem PH(h:¬ Ic t):K3 t=0:=by
 rcases Z4 (K3 t)with j|j
 ·exact j
 obtain⟨w,E,q,rfl,_⟩:=Ns j;exact absurd (KG ⟨w,q⟩ E) h
theorem CF(h:Ic t)(hd:If (Dy t)=(w:Int))(h0:0<w)(h1:w<=64):K3 t=w:=by
 have e:=R2 h;rw[XH hd h0 h1]at e;rw[e];exact Bu ⟨w,by omega⟩ h0
theorem CC(h:Ic t)(hd:¬ (1<=If (Dy t)/\If (Dy t)<=64)):K3 t=0:=by
 rcases Z4 (K3 t)with q|q
 ·exact q
 obtain⟨w,J,E,e,_⟩:=Ns q
 exfalso
 apply hd;have j:=R2 h;rw[e]at j;unfold Ex at j;have G:Le w=Dy t:=by
  have:=List.append_cancel_right j;rw[e];exact List.append_cancel_left this
 rw[<-G,KT ⟨w,E⟩ J];simp only[];omega
theorem NQ(h:t.head? = some 40):Ee t=none:=by
 obtain⟨r,rfl⟩:∃r,t=40::r:=by
  cases t with
  | nil=>simp at h
  | cons c r=>simp at h;exact⟨r,by rw[h]⟩
 have hp:Uv (40::r)=false:=by
  have:K2 40=false:=by decide
  simp[Uv,this]
 unfold Ee;rw[hp];rfl
theorem UY(h:Ic t):t.head? = some 40:=by
 rw[R2 h];rfl
theorem C8(own:List UInt8->Bool):Oi own Ok=⟨1,0,[],[]⟩/\Oi own Uu=⟨2,0,[],[]⟩/\Oi own Ui=⟨3,0,[],[]⟩:=by
 refine⟨by simp[Oi],?_,?_⟩
 ·unfold Oi;rw[if_neg (by decide),if_pos rfl]
 unfold Oi;rw[if_neg (by decide),if_neg (by decide),if_pos rfl]
theorem GY(own:List UInt8->Bool)(h:Ic t)(hd:If (Dy t)=(w:Int))(h0:0<w)(h1:w<=64):Oi own t=⟨4,w,[],[]⟩:=by
 have hh:=UY h;unfold Oi;rw[if_neg (by rintro rfl;simp[Ok]at hh),if_neg (by rintro rfl;simp[Uu]at hh),if_neg (by rintro rfl;simp[Ui]at hh),CF h hd h0 h1,if_pos h0]
theorem Ts(own:List UInt8->Bool)(h:Ic t)(hd:¬ (1<=If (Dy t)/\If (Dy t)<=64)):Oi own t=SI.none:=by
 have hh:=UY h;unfold Oi;rw[if_neg (by rintro rfl;simp[Ok]at hh),if_neg (by rintro rfl;simp[Uu]at hh),if_neg (by rintro rfl;simp[Ui]at hh),CC h hd,if_neg (by omega),NQ hh]
theorem GZ(own:List UInt8->Bool)(h1:t≠Ok)(h2:t≠Uu)(h3:t≠Ui)(h:¬ Ic t):Oi own t=match Ee t with|some n=>if Kj n&&own n then⟨5,0,[],[]⟩else SI.none|none=>SI.none:=by
 unfold Oi;rw[if_neg h1,if_neg h2,if_neg h3,PH h,if_neg (by omega)];rfl
end Go.Proofs.YtfkagjelljnpdaaGreatDoor
namespace Go.Proofs.YtfkagjelljnpdaaGreatDoor
open ChangeShapes WideShapes ChangeAt RowKit Proofs.Tryz
theorem Kt(s:ByteArray)(k:Nat):(s.extract 0 k).toList=s.data.toList.take k:=by
 rw[Jk,Zi];simp
theorem Hn(s:ByteArray)(i k:Nat):(s.extract i k).data.toList=(s.data.toList.take k).drop i:=by
 rw[Zi];simp[Array.toList_extract,List.drop_take]
theorem Hb{s:ByteArray}(h:0<s.size):s.data.toList.getLast? = some (s[s.size - 1]'(by omega)):=by
 rw[List.getLast?_eq_getElem?,Oc,Jg (by rw[Oc];omega)];rfl
theorem H6{s:ByteArray}{l:List UInt8}(h:s.data.toList=l):(s.toList==l)=true:=by rw[Jk,h];simp
theorem Nh{s:ByteArray}{l:List UInt8}(h:s.data.toList≠l):(s.toList==l)=false:=by rw[Jk,Jc];exact h
theorem Oa{a b:Value}(h:a=b):Ending.returned a=.returned b:=by rw[h]
def B6(t:List UInt8):Prop:=∀n,t≠124::(n++[124])
theorem Mt(r:List UInt8):Uv (124::r)=false:=by
 have:K2 124=false:=by decide
 simp[Uv,this]
theorem NX{t n:List UInt8}(h:t=124::(n++[124]))(own:List UInt8->Bool) :
 (match Ee t with|some n=>if Kj n&&own n then(⟨5,0,[],[]⟩:SI)else SI.none|none=>SI.none)=if Kj n&&decide (V8 2 n=t)&&own n then⟨5,0,[],[]⟩else SI.none:=by
 subst h;have q:(n++[124]).getLast? = some (124:UInt8):=Zy;have j:Ee (124::(n++[124]))=if Uv n=false then some n else none:=by
  unfold Ee;rw[Mt];simp only[q,Zx,true_and];rfl
 rw[j]
 cases hp:Uv n
 ·have:V8 2 n=124::(n++[124]):=by simp[V8,hp]
  simp[this]
 have:V8 2 n≠124::(n++[124]):=by
  have e:V8 2 n=n:=by simp[V8,hp]
  rw[e];intro h;have:=congrArg List.length h;simp at this;omega
 simp[this]
theorem Qw{t:List UInt8}(h:B6 t)(own:List UInt8->Bool) :
 (match Ee t with|some n=>if Kj n&&own n then(⟨5,0,[],[]⟩:SI)else SI.none|none=>SI.none)=if Kj t&&decide (V8 2 t=t)&&own t then⟨5,0,[],[]⟩else SI.none:=by
 cases hp:Uv t
 ·have e:V8 2 t≠t:=by
   have e:V8 2 t=124::(t++[124]):=by simp[V8,hp]
   rw[e];intro h;have:=congrArg List.length h;simp at this;omega
  have q:Ee t=none:=by
   cases hn:Ee t with
   | none=>rfl
   | some n=>
     rcases Ij hn with⟨j,_⟩|⟨_,j⟩
     ·rw[hp]at j;cases j
     exact absurd j (h n)
  rw[q];simp[e]
 have e:V8 2 t=t:=by simp[V8,hp]
 have q:Ee t=some t:=by unfold Ee;rw[if_pos hp]
 rw[q];simp[e]
theorem OU{s:ByteArray}(h:¬ 2<=s.size):B6 s.data.toList:=fun n e=>by
 have:=congrArg List.length e
 rw[Oc]at this
 simp at this
 omega
theorem OV{s:ByteArray}(h2:2<=s.size)(h:¬ (s[0]'(by omega)).toNat=124):B6 s.data.toList:=fun n e=>by
 have j:=N5 s (by omega)
 rw[e]at j
 have:=Option.some.inj j
 exact h (by rw[<-this];rfl)
theorem KE{s:ByteArray}(h2:2<=s.size)(h:¬ (s[s.size - 1]'(by omega)).toNat=124):B6 s.data.toList:=fun n e=>by
 have j:=Hb (s:=s) (by omega)
 rw[e,<-Y4,Zy]at j
 have:=Option.some.inj j
 exact h (by rw[<-this];rfl)
theorem PC{s:ByteArray}(h2:2<=s.size)(h0:(s[0]'(by omega)).toNat=124)(hl:(s[s.size - 1]'(by omega)).toNat=124):s.data.toList=124::((s.extract 1 (s.size - 1)).data.toList++[124]):=by
 have j:=N5 s (by omega);have q:=Hb (s:=s) (by omega);rw[E3 h0]at j;rw[E3 hl]at q;rw[Hn];obtain⟨E,e⟩:=Zn.1 q;have h:E.length=s.size - 1:=by
  have:=congrArg List.length e;rw[Oc]at this;simp at this;omega
 cases E with
 | nil=>simp at h;omega
 | cons c r=>
   rw[e]at j ⊢;have G:c=124:=by simpa using j
   subst G;rw[<-h,List.take_left];rfl
theorem G7(v:Value)(L:List (List UInt8))(s:ByteArray)(w:World)(h:O4 w v L)(hs:s.size<=1048576) :
 Calls prog 108 #[v,.string s] w fun e w'=>e=.returned (Gu (Oi (On L) s.data.toList))/\Up w w':=by
 have HS:=Hd h;clear h;have O:=C8 (On L)
 by_cases Z:s.data.toList=Ok
 ·have F:Hid (Oi (On L) s.data.toList=⟨1,0,[],[]⟩):=by unfold Hid;rw[Z];exact O.1
  have z:=H6 Z;unfold Ok at z;clear Z O
  go_in
  go_wp2_with fail
  refine Jl (v:=.agg #[.int .i64 1,.int .i64 0,.string ⟨#[]⟩,.string ⟨#[]⟩]) ?_ rfl ⟨Oa (by rw[F.o];rfl),Oy _ _⟩;simp[results,results108,go_sem]
 have z1:=Nh Z
 by_cases h2:s.data.toList=Uu
 ·have F:Hid (Oi (On L) s.data.toList=⟨2,0,[],[]⟩):=by unfold Hid;rw[h2];exact O.2.1
  have z:=H6 h2;unfold Uu at z;unfold Ok at z1;clear Z h2 O
  go_in
  go_wp2_with fail
  refine Jl (v:=.agg #[.int .i64 2,.int .i64 0,.string ⟨#[]⟩,.string ⟨#[]⟩]) ?_ rfl ⟨Oa (by rw[F.o];rfl),Oy _ _⟩;simp[results,results108,go_sem]
 have z2:=Nh h2
 by_cases h3:s.data.toList=Ui
 ·have F:Hid (Oi (On L) s.data.toList=⟨3,0,[],[]⟩):=by unfold Hid;rw[h3];exact O.2.2
  have z:=H6 h3;unfold Ui at z;unfold Ok at z1;unfold Uu at z2;clear Z h2 h3 O
  go_in
  go_wp2_with fail
  refine Jl (v:=.agg #[.int .i64 3,.int .i64 0,.string ⟨#[]⟩,.string ⟨#[]⟩]) ?_ rfl ⟨Oa (by rw[F.o];rfl),Oy _ _⟩;simp[results,results108,go_sem]
 have z3:=Nh h3;clear O
 by_cases hb:Ic s.data.toList
 ·have d2:11<s.size:=by have:=hb.1;rw[Oc]at this;exact this
  have y1:((s.extract 0 10).toList==[40,95,32,66,105,116,86,101,99,32])=true:=by rw[Kt];have:=hb.2.1;rw[this];rfl
  have hl:(s[s.size - 1]'(by omega)).toNat=41:=by have:=hb.2.2;rw[Hb (by omega)]at this;rw[Option.some.inj this];rfl
  unfold Ok at z1;unfold Uu at z2;unfold Ui at z3;have HM:Hid ((s.extract 10 (s.size - 1)).data.toList=Dy s.data.toList):=by
   unfold Hid Dy;rw[Hn,List.dropLast_eq_take,Yr,Oc,Vh]
   congr 1
  have HB:=Hd hb;clear Z h2 h3 hb
  go_in
  go_wp2_with fail
  refine(NV _ _ (by unfold maxLen;rw[Yn];omega)).mono ?_;rw[HM.o];rintro e w1 ⟨rfl,rfl⟩;obtain⟨D,hD⟩:=O2 (If (Dy s.data.toList));have HD:=Hd hD;rw[hD];clear hD
  by_cases hd:1<=D/\D<=64
  ·have b3:=hd.1;have b4:=hd.2;have F:Hid (Oi (On L) s.data.toList=⟨4,D.toNat,[],[]⟩):=GY _ HB.o (by rw[HD.o];omega) (by omega) (by omega);clear hd
   go_wp2_with fail
   refine Jl (v:=.agg #[.int .i64 4,.int .i64 D,.string ⟨#[]⟩,.string ⟨#[]⟩]) ?_ rfl ⟨Oa (by rw[F.o];show _=Value.agg #[.int .i64 4,.int .i64 (D.toNat:Nat),.string ⟨#[]⟩,.string ⟨#[]⟩];rw[Int.toNat_of_nonneg (by omega)]),Oy _ _⟩;simp[results,results108,go_sem]
  have F:Hid (Oi (On L) s.data.toList=SI.none):=Ts _ HB.o (by rw[HD.o];exact hd)
  by_cases b3:1<=D
  case' pos=>
   have b4:64<D:=by omega
   clear hd
  case' neg=>
   have b4:D<1:=by omega
   clear hd b3
  all_goals
   go_wp2_with fail
   refine Jl (v:=.agg #[.int .i64 0,.int .i64 0,.string ⟨#[]⟩,.string ⟨#[]⟩]) ?_ rfl ⟨Oa (by rw[F.o];rfl),Oy _ _⟩;simp[results,results108,go_sem]
 have Y:Hid (Oi (On L) s.data.toList=match Ee s.data.toList with|some n=>if Kj n&&On L n then⟨5,0,[],[]⟩else SI.none|none=>SI.none):=GZ _ Z h2 h3 hb;have a8:=Hd hb;unfold Ok at z1;unfold Uu at z2;unfold Ui at z3;clear Z h2 h3 hb
 by_cases n2:2<=s.size
 ·by_cases n0:s[0].toNat=124
  ·have x0:((s[0].toNat:Int)==124)=true:=by rw[J2];omega
   by_cases nl:(s[s.size - 1]'(by omega)).toNat=124
   ·have x1:(((s[s.size - 1]'(by omega)).toNat:Int)==124)=true:=by rw[J2];omega
    have q:Hid (Oi (On L) s.data.toList=if Kj (s.extract 1 (s.size - 1)).data.toList&&decide (V8 2 (s.extract 1 (s.size - 1)).data.toList=s.data.toList)&&On L (s.extract 1 (s.size - 1)).data.toList then⟨5,0,[],[]⟩else SI.none):=by
     unfold Hid;rw[Y.o];exact NX (PC n2 n0 nl) _
    have a1:(s.extract 1 (s.size - 1)).size<=1048576:=by rw[Yn];omega
    clear n0 nl
    go_in
    by_cases V:11<s.size
    ·by_cases hb2:(s.data.toList.take 10)=F8
     case' pos=>
      have y1:((s.extract 0 10).toList==[40,95,32,66,105,116,86,101,99,32])=true:=by rw[Kt,hb2];rfl
      have y2:(((s[s.size - 1]'(by omega)).toNat:Int)==41)=false:=by
       rw[Jc];intro e;exact a8.o ⟨by rw[Oc];exact V,hb2,by rw[Hb (by omega),E3 (c:=s[s.size - 1]'(by omega)) (n:=41) (by omega)];rfl⟩
     case' neg=>
      have y1:((s.extract 0 10).toList==[40,95,32,66,105,116,86,101,99,32])=false:=by rw[Kt,Jc];exact hb2
     all_goals
      clear hb2
      go_wp2_with fail
      refine(Ka (s.extract 1 (s.size - 1)) _ (by unfold maxLen;have:=a1;omega)).mono ?_
      cases j:Kj ((s.extract 1 (s.size - 1))).data.toList
      ·have E:Hid (Oi (On L) s.data.toList=SI.none):=by unfold Hid;rw[q.o,j];rfl
       rintro e w1 ⟨rfl,rfl⟩;clear j
       go_wp2_with fail
       refine Jl (v:=.agg #[.int .i64 0,.int .i64 0,.string ⟨#[]⟩,.string ⟨#[]⟩]) ?_ rfl ⟨Oa (by rw[E.o];rfl),Oy _ _⟩;simp[results,results108,go_sem]
      have J:=Hd j;clear j;rintro e w1 ⟨rfl,rfl⟩
      go_wp2_with fail
      refine(Kw (s.extract 1 (s.size - 1)) _ (by have:=a1;omega)).mono ?_;rintro e w1 ⟨rfl,rfl⟩
      by_cases G:V8 2 ((s.extract 1 (s.size - 1))).data.toList=s.data.toList
      ·have K:((Oo (V8 2 ((s.extract 1 (s.size - 1))).data.toList)).toList==s.toList)=true:=by rw[Jk,Jk,Ov,G];simp
       have R:=Hd G;clear G;generalize Oo (V8 2 ((s.extract 1 (s.size - 1))).data.toList)=X at K ⊢
       go_wp2_with fail
       refine(Nf v L (s.extract 1 (s.size - 1)) _ (HS.o.bl (Oy _ _))).mono ?_
       cases hh:On L ((s.extract 1 (s.size - 1))).data.toList
       ·have E:Hid (Oi (On L) s.data.toList=SI.none):=by unfold Hid;rw[q.o,hh,Y6];rfl
        rintro e w1 ⟨rfl,rfl⟩;clear hh
        go_wp2_with fail
        refine Jl (v:=.agg #[.int .i64 0,.int .i64 0,.string ⟨#[]⟩,.string ⟨#[]⟩]) ?_ rfl ⟨Oa (by rw[E.o];rfl),Oy _ _⟩;simp[results,results108,go_sem]
       have E:Hid (Oi (On L) s.data.toList=⟨5,0,[],[]⟩):=by unfold Hid;rw[q.o,J.o,Jb R.o,hh];rfl
       rintro e w1 ⟨rfl,rfl⟩;clear hh
       go_wp2_with fail
       refine Jl (v:=.agg #[.int .i64 5,.int .i64 0,.string ⟨#[]⟩,.string ⟨#[]⟩]) ?_ rfl ⟨Oa (by rw[E.o];rfl),Oy _ _⟩;simp[results,results108,go_sem]
      have K:((Oo (V8 2 ((s.extract 1 (s.size - 1))).data.toList)).toList==s.toList)=false:=by rw[Jk,Jk,Ov,Jc];exact G
      have E:Hid (Oi (On L) s.data.toList=SI.none):=by unfold Hid;rw[q.o,J.o,Jd G];rfl
      clear G;generalize Oo (V8 2 ((s.extract 1 (s.size - 1))).data.toList)=X at K ⊢
      go_wp2_with fail
      refine Jl (v:=.agg #[.int .i64 0,.int .i64 0,.string ⟨#[]⟩,.string ⟨#[]⟩]) ?_ rfl ⟨Oa (by rw[E.o];rfl),Oy _ _⟩;simp[results,results108,go_sem]
    go_wp2_with fail
    refine(Ka (s.extract 1 (s.size - 1)) _ (by unfold maxLen;have:=a1;omega)).mono ?_
    cases j:Kj ((s.extract 1 (s.size - 1))).data.toList
    ·have E:Hid (Oi (On L) s.data.toList=SI.none):=by unfold Hid;rw[q.o,j];rfl
     rintro e w1 ⟨rfl,rfl⟩;clear j
     go_wp2_with fail
     refine Jl (v:=.agg #[.int .i64 0,.int .i64 0,.string ⟨#[]⟩,.string ⟨#[]⟩]) ?_ rfl ⟨Oa (by rw[E.o];rfl),Oy _ _⟩;simp[results,results108,go_sem]
    have J:=Hd j;clear j;rintro e w1 ⟨rfl,rfl⟩
    go_wp2_with fail
    refine(Kw (s.extract 1 (s.size - 1)) _ (by have:=a1;omega)).mono ?_;rintro e w1 ⟨rfl,rfl⟩
    by_cases G:V8 2 ((s.extract 1 (s.size - 1))).data.toList=s.data.toList
    ·have K:((Oo (V8 2 ((s.extract 1 (s.size - 1))).data.toList)).toList==s.toList)=true:=by rw[Jk,Jk,Ov,G];simp
     have R:=Hd G;clear G;generalize Oo (V8 2 ((s.extract 1 (s.size - 1))).data.toList)=X at K ⊢
     go_wp2_with fail
     refine(Nf v L (s.extract 1 (s.size - 1)) _ (HS.o.bl (Oy _ _))).mono ?_
     cases hh:On L ((s.extract 1 (s.size - 1))).data.toList
     ·have E:Hid (Oi (On L) s.data.toList=SI.none):=by unfold Hid;rw[q.o,hh,Y6];rfl
      rintro e w1 ⟨rfl,rfl⟩;clear hh
      go_wp2_with fail
      refine Jl (v:=.agg #[.int .i64 0,.int .i64 0,.string ⟨#[]⟩,.string ⟨#[]⟩]) ?_ rfl ⟨Oa (by rw[E.o];rfl),Oy _ _⟩;simp[results,results108,go_sem]
     have E:Hid (Oi (On L) s.data.toList=⟨5,0,[],[]⟩):=by unfold Hid;rw[q.o,J.o,Jb R.o,hh];rfl
     rintro e w1 ⟨rfl,rfl⟩;clear hh
     go_wp2_with fail
     refine Jl (v:=.agg #[.int .i64 5,.int .i64 0,.string ⟨#[]⟩,.string ⟨#[]⟩]) ?_ rfl ⟨Oa (by rw[E.o];rfl),Oy _ _⟩;simp[results,results108,go_sem]
    have K:((Oo (V8 2 ((s.extract 1 (s.size - 1))).data.toList)).toList==s.toList)=false:=by rw[Jk,Jk,Ov,Jc];exact G
    have E:Hid (Oi (On L) s.data.toList=SI.none):=by unfold Hid;rw[q.o,J.o,Jd G];rfl
    clear G;generalize Oo (V8 2 ((s.extract 1 (s.size - 1))).data.toList)=X at K ⊢
    go_wp2_with fail
    refine Jl (v:=.agg #[.int .i64 0,.int .i64 0,.string ⟨#[]⟩,.string ⟨#[]⟩]) ?_ rfl ⟨Oa (by rw[E.o];rfl),Oy _ _⟩;simp[results,results108,go_sem]
   have x1:(((s[s.size - 1]'(by omega)).toNat:Int)==124)=false:=by rw[Jc];omega
   have q:Hid (Oi (On L) s.data.toList=if Kj s.data.toList&&decide (V8 2 s.data.toList=s.data.toList)&&On L s.data.toList then⟨5,0,[],[]⟩else SI.none):=by
    unfold Hid;rw[Y.o];exact Qw (KE n2 nl) _
   clear n0 nl
   go_in
   by_cases V:11<s.size
   ·by_cases hb2:(s.data.toList.take 10)=F8
    case' pos=>
     have y1:((s.extract 0 10).toList==[40,95,32,66,105,116,86,101,99,32])=true:=by rw[Kt,hb2];rfl
     have y2:(((s[s.size - 1]'(by omega)).toNat:Int)==41)=false:=by
      rw[Jc];intro e;exact a8.o ⟨by rw[Oc];exact V,hb2,by rw[Hb (by omega),E3 (c:=s[s.size - 1]'(by omega)) (n:=41) (by omega)];rfl⟩
    case' neg=>
     have y1:((s.extract 0 10).toList==[40,95,32,66,105,116,86,101,99,32])=false:=by rw[Kt,Jc];exact hb2
    all_goals
     clear hb2
     go_wp2_with fail
     refine(Ka s _ (by unfold maxLen;have:=hs;omega)).mono ?_
     cases j:Kj (s).data.toList
     ·have E:Hid (Oi (On L) s.data.toList=SI.none):=by unfold Hid;rw[q.o,j];rfl
      rintro e w1 ⟨rfl,rfl⟩;clear j
      go_wp2_with fail
      refine Jl (v:=.agg #[.int .i64 0,.int .i64 0,.string ⟨#[]⟩,.string ⟨#[]⟩]) ?_ rfl ⟨Oa (by rw[E.o];rfl),Oy _ _⟩;simp[results,results108,go_sem]
     have J:=Hd j;clear j;rintro e w1 ⟨rfl,rfl⟩
     go_wp2_with fail
     refine(Kw s _ (by have:=hs;omega)).mono ?_;rintro e w1 ⟨rfl,rfl⟩
     by_cases G:V8 2 (s).data.toList=s.data.toList
     ·have K:((Oo (V8 2 (s).data.toList)).toList==s.toList)=true:=by rw[Jk,Jk,Ov,G];simp
      have R:=Hd G;clear G;generalize Oo (V8 2 (s).data.toList)=X at K ⊢
      go_wp2_with fail
      refine(Nf v L s _ (HS.o.bl (Oy _ _))).mono ?_
      cases hh:On L (s).data.toList
      ·have E:Hid (Oi (On L) s.data.toList=SI.none):=by unfold Hid;rw[q.o,hh,Y6];rfl
       rintro e w1 ⟨rfl,rfl⟩;clear hh
       go_wp2_with fail
       refine Jl (v:=.agg #[.int .i64 0,.int .i64 0,.string ⟨#[]⟩,.string ⟨#[]⟩]) ?_ rfl ⟨Oa (by rw[E.o];rfl),Oy _ _⟩;simp[results,results108,go_sem]
      have E:Hid (Oi (On L) s.data.toList=⟨5,0,[],[]⟩):=by unfold Hid;rw[q.o,J.o,Jb R.o,hh];rfl
      rintro e w1 ⟨rfl,rfl⟩;clear hh
      go_wp2_with fail
      refine Jl (v:=.agg #[.int .i64 5,.int .i64 0,.string ⟨#[]⟩,.string ⟨#[]⟩]) ?_ rfl ⟨Oa (by rw[E.o];rfl),Oy _ _⟩;simp[results,results108,go_sem]
     have K:((Oo (V8 2 (s).data.toList)).toList==s.toList)=false:=by rw[Jk,Jk,Ov,Jc];exact G
     have E:Hid (Oi (On L) s.data.toList=SI.none):=by unfold Hid;rw[q.o,J.o,Jd G];rfl
     clear G;generalize Oo (V8 2 (s).data.toList)=X at K ⊢
     go_wp2_with fail
     refine Jl (v:=.agg #[.int .i64 0,.int .i64 0,.string ⟨#[]⟩,.string ⟨#[]⟩]) ?_ rfl ⟨Oa (by rw[E.o];rfl),Oy _ _⟩;simp[results,results108,go_sem]
   go_wp2_with fail
   refine(Ka s _ (by unfold maxLen;have:=hs;omega)).mono ?_
   cases j:Kj (s).data.toList
   ·have E:Hid (Oi (On L) s.data.toList=SI.none):=by unfold Hid;rw[q.o,j];rfl
    rintro e w1 ⟨rfl,rfl⟩;clear j
    go_wp2_with fail
    refine Jl (v:=.agg #[.int .i64 0,.int .i64 0,.string ⟨#[]⟩,.string ⟨#[]⟩]) ?_ rfl ⟨Oa (by rw[E.o];rfl),Oy _ _⟩;simp[results,results108,go_sem]
   have J:=Hd j;clear j;rintro e w1 ⟨rfl,rfl⟩
   go_wp2_with fail
   refine(Kw s _ (by have:=hs;omega)).mono ?_;rintro e w1 ⟨rfl,rfl⟩
   by_cases G:V8 2 (s).data.toList=s.data.toList
   ·have K:((Oo (V8 2 (s).data.toList)).toList==s.toList)=true:=by rw[Jk,Jk,Ov,G];simp
    have R:=Hd G;clear G;generalize Oo (V8 2 (s).data.toList)=X at K ⊢
    go_wp2_with fail
    refine(Nf v L s _ (HS.o.bl (Oy _ _))).mono ?_
    cases hh:On L (s).data.toList
    ·have E:Hid (Oi (On L) s.data.toList=SI.none):=by unfold Hid;rw[q.o,hh,Y6];rfl
     rintro e w1 ⟨rfl,rfl⟩;clear hh
     go_wp2_with fail
     refine Jl (v:=.agg #[.int .i64 0,.int .i64 0,.string ⟨#[]⟩,.string ⟨#[]⟩]) ?_ rfl ⟨Oa (by rw[E.o];rfl),Oy _ _⟩;simp[results,results108,go_sem]
    have E:Hid (Oi (On L) s.data.toList=⟨5,0,[],[]⟩):=by unfold Hid;rw[q.o,J.o,Jb R.o,hh];rfl
    rintro e w1 ⟨rfl,rfl⟩;clear hh
    go_wp2_with fail
    refine Jl (v:=.agg #[.int .i64 5,.int .i64 0,.string ⟨#[]⟩,.string ⟨#[]⟩]) ?_ rfl ⟨Oa (by rw[E.o];rfl),Oy _ _⟩;simp[results,results108,go_sem]
   have K:((Oo (V8 2 (s).data.toList)).toList==s.toList)=false:=by rw[Jk,Jk,Ov,Jc];exact G
   have E:Hid (Oi (On L) s.data.toList=SI.none):=by unfold Hid;rw[q.o,J.o,Jd G];rfl
   clear G;generalize Oo (V8 2 (s).data.toList)=X at K ⊢
   go_wp2_with fail
   refine Jl (v:=.agg #[.int .i64 0,.int .i64 0,.string ⟨#[]⟩,.string ⟨#[]⟩]) ?_ rfl ⟨Oa (by rw[E.o];rfl),Oy _ _⟩;simp[results,results108,go_sem]
  have x0:((s[0].toNat:Int)==124)=false:=by rw[Jc];omega
  have q:Hid (Oi (On L) s.data.toList=if Kj s.data.toList&&decide (V8 2 s.data.toList=s.data.toList)&&On L s.data.toList then⟨5,0,[],[]⟩else SI.none):=by
   unfold Hid;rw[Y.o];exact Qw (OV n2 n0) _
  clear n0
  go_in
  by_cases V:11<s.size
  ·by_cases hb2:(s.data.toList.take 10)=F8
   case' pos=>
    have y1:((s.extract 0 10).toList==[40,95,32,66,105,116,86,101,99,32])=true:=by rw[Kt,hb2];rfl
    have y2:(((s[s.size - 1]'(by omega)).toNat:Int)==41)=false:=by
     rw[Jc];intro e;exact a8.o ⟨by rw[Oc];exact V,hb2,by rw[Hb (by omega),E3 (c:=s[s.size - 1]'(by omega)) (n:=41) (by omega)];rfl⟩
   case' neg=>
    have y1:((s.extract 0 10).toList==[40,95,32,66,105,116,86,101,99,32])=false:=by rw[Kt,Jc];exact hb2
   all_goals
    clear hb2
    go_wp2_with fail
    refine(Ka s _ (by unfold maxLen;have:=hs;omega)).mono ?_
    cases j:Kj (s).data.toList
    ·have E:Hid (Oi (On L) s.data.toList=SI.none):=by unfold Hid;rw[q.o,j];rfl
     rintro e w1 ⟨rfl,rfl⟩;clear j
     go_wp2_with fail
     refine Jl (v:=.agg #[.int .i64 0,.int .i64 0,.string ⟨#[]⟩,.string ⟨#[]⟩]) ?_ rfl ⟨Oa (by rw[E.o];rfl),Oy _ _⟩;simp[results,results108,go_sem]
    have J:=Hd j;clear j;rintro e w1 ⟨rfl,rfl⟩
    go_wp2_with fail
    refine(Kw s _ (by have:=hs;omega)).mono ?_;rintro e w1 ⟨rfl,rfl⟩
    by_cases G:V8 2 (s).data.toList=s.data.toList
    ·have K:((Oo (V8 2 (s).data.toList)).toList==s.toList)=true:=by rw[Jk,Jk,Ov,G];simp
     have R:=Hd G;clear G;generalize Oo (V8 2 (s).data.toList)=X at K ⊢
     go_wp2_with fail
     refine(Nf v L s _ (HS.o.bl (Oy _ _))).mono ?_
     cases hh:On L (s).data.toList
     ·have E:Hid (Oi (On L) s.data.toList=SI.none):=by unfold Hid;rw[q.o,hh,Y6];rfl
      rintro e w1 ⟨rfl,rfl⟩;clear hh
      go_wp2_with fail
      refine Jl (v:=.agg #[.int .i64 0,.int .i64 0,.string ⟨#[]⟩,.string ⟨#[]⟩]) ?_ rfl ⟨Oa (by rw[E.o];rfl),Oy _ _⟩;simp[results,results108,go_sem]
     have E:Hid (Oi (On L) s.data.toList=⟨5,0,[],[]⟩):=by unfold Hid;rw[q.o,J.o,Jb R.o,hh];rfl
     rintro e w1 ⟨rfl,rfl⟩;clear hh
     go_wp2_with fail
     refine Jl (v:=.agg #[.int .i64 5,.int .i64 0,.string ⟨#[]⟩,.string ⟨#[]⟩]) ?_ rfl ⟨Oa (by rw[E.o];rfl),Oy _ _⟩;simp[results,results108,go_sem]
    have K:((Oo (V8 2 (s).data.toList)).toList==s.toList)=false:=by rw[Jk,Jk,Ov,Jc];exact G
    have E:Hid (Oi (On L) s.data.toList=SI.none):=by unfold Hid;rw[q.o,J.o,Jd G];rfl
    clear G;generalize Oo (V8 2 (s).data.toList)=X at K ⊢
    go_wp2_with fail
    refine Jl (v:=.agg #[.int .i64 0,.int .i64 0,.string ⟨#[]⟩,.string ⟨#[]⟩]) ?_ rfl ⟨Oa (by rw[E.o];rfl),Oy _ _⟩;simp[results,results108,go_sem]
  go_wp2_with fail
  refine(Ka s _ (by unfold maxLen;have:=hs;omega)).mono ?_
  cases j:Kj (s).data.toList
  ·have E:Hid (Oi (On L) s.data.toList=SI.none):=by unfold Hid;rw[q.o,j];rfl
   rintro e w1 ⟨rfl,rfl⟩;clear j
   go_wp2_with fail
   refine Jl (v:=.agg #[.int .i64 0,.int .i64 0,.string ⟨#[]⟩,.string ⟨#[]⟩]) ?_ rfl ⟨Oa (by rw[E.o];rfl),Oy _ _⟩;simp[results,results108,go_sem]
  have J:=Hd j;clear j;rintro e w1 ⟨rfl,rfl⟩
  go_wp2_with fail
  refine(Kw s _ (by have:=hs;omega)).mono ?_;rintro e w1 ⟨rfl,rfl⟩
  by_cases G:V8 2 (s).data.toList=s.data.toList
  ·have K:((Oo (V8 2 (s).data.toList)).toList==s.toList)=true:=by rw[Jk,Jk,Ov,G];simp
   have R:=Hd G;clear G;generalize Oo (V8 2 (s).data.toList)=X at K ⊢
   go_wp2_with fail
   refine(Nf v L s _ (HS.o.bl (Oy _ _))).mono ?_
   cases hh:On L (s).data.toList
   ·have E:Hid (Oi (On L) s.data.toList=SI.none):=by unfold Hid;rw[q.o,hh,Y6];rfl
    rintro e w1 ⟨rfl,rfl⟩;clear hh
    go_wp2_with fail
    refine Jl (v:=.agg #[.int .i64 0,.int .i64 0,.string ⟨#[]⟩,.string ⟨#[]⟩]) ?_ rfl ⟨Oa (by rw[E.o];rfl),Oy _ _⟩;simp[results,results108,go_sem]
   have E:Hid (Oi (On L) s.data.toList=⟨5,0,[],[]⟩):=by unfold Hid;rw[q.o,J.o,Jb R.o,hh];rfl
   rintro e w1 ⟨rfl,rfl⟩;clear hh
   go_wp2_with fail
   refine Jl (v:=.agg #[.int .i64 5,.int .i64 0,.string ⟨#[]⟩,.string ⟨#[]⟩]) ?_ rfl ⟨Oa (by rw[E.o];rfl),Oy _ _⟩;simp[results,results108,go_sem]
  have K:((Oo (V8 2 (s).data.toList)).toList==s.toList)=false:=by rw[Jk,Jk,Ov,Jc];exact G
  have E:Hid (Oi (On L) s.data.toList=SI.none):=by unfold Hid;rw[q.o,J.o,Jd G];rfl
  clear G;generalize Oo (V8 2 (s).data.toList)=X at K ⊢
  go_wp2_with fail
  refine Jl (v:=.agg #[.int .i64 0,.int .i64 0,.string ⟨#[]⟩,.string ⟨#[]⟩]) ?_ rfl ⟨Oa (by rw[E.o];rfl),Oy _ _⟩;simp[results,results108,go_sem]
 have q:Hid (Oi (On L) s.data.toList=if Kj s.data.toList&&decide (V8 2 s.data.toList=s.data.toList)&&On L s.data.toList then⟨5,0,[],[]⟩else SI.none):=by
  unfold Hid;rw[Y.o];exact Qw (OU n2) _
 have V:¬ 11<s.size:=by omega
 go_in
 go_wp2_with fail
 refine(Ka s _ (by unfold maxLen;have:=hs;omega)).mono ?_
 cases j:Kj (s).data.toList
 ·have E:Hid (Oi (On L) s.data.toList=SI.none):=by unfold Hid;rw[q.o,j];rfl
  rintro e w1 ⟨rfl,rfl⟩;clear j
  go_wp2_with fail
  refine Jl (v:=.agg #[.int .i64 0,.int .i64 0,.string ⟨#[]⟩,.string ⟨#[]⟩]) ?_ rfl ⟨Oa (by rw[E.o];rfl),Oy _ _⟩;simp[results,results108,go_sem]
 have J:=Hd j;clear j;rintro e w1 ⟨rfl,rfl⟩
 go_wp2_with fail
 refine(Kw s _ (by have:=hs;omega)).mono ?_;rintro e w1 ⟨rfl,rfl⟩
 by_cases G:V8 2 (s).data.toList=s.data.toList
 ·have K:((Oo (V8 2 (s).data.toList)).toList==s.toList)=true:=by rw[Jk,Jk,Ov,G];simp
  have R:=Hd G;clear G;generalize Oo (V8 2 (s).data.toList)=X at K ⊢
  go_wp2_with fail
  refine(Nf v L s _ (HS.o.bl (Oy _ _))).mono ?_
  cases hh:On L (s).data.toList
  ·have E:Hid (Oi (On L) s.data.toList=SI.none):=by unfold Hid;rw[q.o,hh,Y6];rfl
   rintro e w1 ⟨rfl,rfl⟩;clear hh
   go_wp2_with fail
   refine Jl (v:=.agg #[.int .i64 0,.int .i64 0,.string ⟨#[]⟩,.string ⟨#[]⟩]) ?_ rfl ⟨Oa (by rw[E.o];rfl),Oy _ _⟩;simp[results,results108,go_sem]
  have E:Hid (Oi (On L) s.data.toList=⟨5,0,[],[]⟩):=by unfold Hid;rw[q.o,J.o,Jb R.o,hh];rfl
  rintro e w1 ⟨rfl,rfl⟩;clear hh
  go_wp2_with fail
  refine Jl (v:=.agg #[.int .i64 5,.int .i64 0,.string ⟨#[]⟩,.string ⟨#[]⟩]) ?_ rfl ⟨Oa (by rw[E.o];rfl),Oy _ _⟩;simp[results,results108,go_sem]
 have K:((Oo (V8 2 (s).data.toList)).toList==s.toList)=false:=by rw[Jk,Jk,Ov,Jc];exact G
 have E:Hid (Oi (On L) s.data.toList=SI.none):=by unfold Hid;rw[q.o,J.o,Jd G];rfl
 clear G;generalize Oo (V8 2 (s).data.toList)=X at K ⊢
 go_wp2_with fail
 refine Jl (v:=.agg #[.int .i64 0,.int .i64 0,.string ⟨#[]⟩,.string ⟨#[]⟩]) ?_ rfl ⟨Oa (by rw[E.o];rfl),Oy _ _⟩;simp[results,results108,go_sem]
end Go.Proofs.YtfkagjelljnpdaaGreatDoor
