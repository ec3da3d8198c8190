import Derived.Test.YtdmdmgfjpomdbaaGreatDoorP00
import Derived.Test.YtdmdmgfjpomdbaaGreatDoorRows
import Derived.WalkSpells
import Derived.ProofKit
import Derived.OpenShut
import Derived.ShutString
import Derived.Lib.Strings
import Derived.Lib.IndexBytes
import Derived.Lib.IndexLaws
import Derived.Lib.Bytealg
set_option maxRecDepth 100000
set_option maxHeartbeats 1000000
namespace Go.Proofs.YtdmdmgfjpomdbaaGreatDoor
open ChangeShapes WideShapes ChangeAt RowKit
variable {i l:List UInt8}
def Ek (p:UInt8->Bool):List UInt8->Nat
 | []=>0
 | c::r=>if p c then Ek p r+1 else 0
theorem NC (p:UInt8->Bool)(l:List UInt8):Ek p l<=l.length:=by
 induction l with
 | nil=>exact leR
 | cons c r ih=>unfold Ek;split<;>simp<;>omega
theorem M3 {p:UInt8->Bool}(h:l.all p=true):Ek p l=l.length:=by
 induction l with
 | nil=>rfl
 | cons c r ih=>
   simp only[List.all_cons,J3] at h;unfold Ek;rw[if_pos h.1,ih h.2];rfl
theorem ZO {p:UInt8->Bool}(h:Ek p l=l.length):l.all p=true:=by
 induction l with
 | nil=>rfl
 | cons c r ih=>
   unfold Ek at h
   split at h
   ·rename_i hc;simp only[Yq,Nat.add_right_cancel_iff] at h;simp[hc,ih h]
   simp at h
theorem ZY {p:UInt8->Bool}:Ek p l=l.length↔l.all p=true:=⟨ZO,M3⟩
theorem Ti {p:UInt8->Bool}:∀ {l:List UInt8} {i:Nat},i<=l.length->(∀ j (h:j<l.length),j<i->p l[j]=true)->(∀ h:i<l.length,p l[i]=false)->Ek p l=i
 | [],i,hi,_,_=>by simp at hi;subst hi;rfl
 | c::r,0,_,_,h=>by
   have:=h (by simp)
   unfold Ek;rw[if_neg (by simpa using this)]
 | c::r,i+1,hi,ha,h=>by
   have d:=ha 0 (by simp) (by omega)
   simp only[Yp] at d
   unfold Ek;rw[if_pos d,Ti (l:=r) (i:=i) (by simpa using hi) (fun j hj hji=>?_) (fun hj=>?_)]
   ·have:=ha (j+1) (by simpa using hj) (by omega)
    simpa using this
   have:=h (by simpa using hj)
   simpa using this
def dg (c:UInt8):Bool:=decide (48<=c.toNat)&&decide (c.toNat<=57)
def Gs (c:UInt8):Bool:=decide (c.toNat=48)||decide (c.toNat=49)
def MV (c:UInt8):Bool:=decide (32<=c.toNat)&&decide (c.toNat<=126)
def Ib (c:UInt8):Bool:=MV c&&!decide (c.toNat=124)&&!decide (c.toNat=92)
def Hl:List UInt8:=[43,45,42,47,61,37,63,33,46,36,95,126,38,94,60,62,64]
def Nb (c:UInt8):Bool:=(decide (97<=c.toNat)&&decide (c.toNat<=122))||(decide (65<=c.toNat)&&decide (c.toNat<=90))||dg c||Hl.contains c
def AC:List UInt8->List UInt8
 | []=>[]
 | c::r=>if c=34 then 34::34::AC r else c::AC r
structure Nd where
 kind:Int
 text:ByteArray
 kids:Int
def Nd.t (n:Nd):List UInt8:=n.text.data.toList
def Kt (t:List UInt8):Bool:=!t.isEmpty&&!(t.head?.any dg)&&t.all Nb
def Kl (kind:Int)(t:List UInt8):List UInt8:=
 if kind=1 then [40]
 else if kind=2 then (if Kt t then t else 124::(t++[124]))
 else if kind=3∨kind=4 then t
 else if kind=5 then 35::98::t
 else if kind=6 then 34::(AC t++[34])
 else if kind=7 then 58::t
 else []
def Ng (l:List UInt8):Bool:=decide (0<l.length)&&decide (l.length<=60)&&l.all Ib
def Kf:List (List UInt8):=[[66,111,111,108],[73,110,116],[82,101,97,108],[66,105,116,86,101,99],[65,114,114,97,121],[95],[108,101,116],[97,115],[116,114,117,101],[102,97,108,115,101],[110,111,116],[97,110,100],[111,114],[120,111,114],[61,62],[105,116,101],[61],[100,105,115,116,105,110,99,116],[43],[45],[42],[47],[60,61],[60],[62,61],[62],[100,105,118],[109,111,100],[116,111,95,114,101,97,108],[115,101,108,101,99,116],[115,116,111,114,101],[99,111,110,99,97,116],[101,120,116,114,97,99,116],[122,101,114,111,95,101,120,116,101,110,100],[115,105,103,110,95,101,120,116,101,110,100],[114,111,116,97,116,101,95,108,101,102,116],[114,111,116,97,116,101,95,114,105,103,104,116],[114,101,112,101,97,116]]
def FZ (l:List UInt8):Bool:=decide (l.take 2=[98,118])
def Gj (l:List UInt8):Bool:=FZ l||Kf.contains l
def Ni (l:List UInt8):Bool:=Ng l&&!Gj l
structure SI where
 kind:Int
 width:Nat
 index:List UInt8
 elem:List UInt8
def SI.none:SI:=⟨0,0,[],[]⟩
def On:List UInt8:=[66,111,111,108]
def U8:List UInt8:=[73,110,116]
def Ku:List UInt8:=[82,101,97,108]
def Bl:List UInt8:=[40,95,32,66,105,116,86,101,99,32]
def Eh:List UInt8:=[40,65,114,114,97,121,32]
def Bj (w:Nat):List UInt8:=if w<10 then [UInt8.ofNat (48+w)] else [UInt8.ofNat (48+w / 10),UInt8.ofNat (48+w % 10)]
def Ge (w:Nat):List UInt8:=Bl++Bj w++[41]
def Nt (t:List UInt8):Nat:=((List.range 65).find? (fun w=>decide (0<w)&&decide (Ge w=t))).getD 0
def N2 (t:List UInt8):Option (List UInt8):=
 if Kt t then some t
 else match t with
  | 124::r=>if r.getLast? = some 124/\Kt r.dropLast=false then some r.dropLast else none
  | _=>none
def Of (own:List UInt8->Bool)(t:List UInt8):SI:=
 if t=On then ⟨1,0,[],[]⟩
 else if t=U8 then ⟨2,0,[],[]⟩
 else if t=Ku then ⟨3,0,[],[]⟩
 else if 0<Nt t then ⟨4,Nt t,[],[]⟩
 else match N2 t with
  | some n=>if Ng n&&own n then ⟨5,0,[],[]⟩ else SI.none
  | none=>SI.none
def O1 (s:SI):Bool:=decide (2<=s.kind)&&decide (s.kind<=5)
def Eg (t:List UInt8):Nat:=
 match t with
 | 124::r=>if Ek (· != 124) r<r.length then Ek (· != 124) r+2 else 1
 | 40::_=>if Ek (· != 41) t<t.length then Ek (· != 41) t+1 else 0
 | _=>if Ek (· != 32) t<t.length then Ek (· != 32) t else 0
def Ov (own:List UInt8->Bool)(t:List UInt8):SI:=
 if t.take 7=Eh then
  let both:=t.drop 7
  let i:=both.take (Eg both)
  let r:=both.drop (Eg both)
  if r.head? = some 32/\2<=r.length/\r.getLast? = some 41 then
   let e:=(r.drop 1).dropLast
   if O1 (Of own i)&&O1 (Of own e) then ⟨6,0,i,e⟩ else SI.none
  else SI.none
 else Of own t
theorem Xl {p:UInt8->Bool}(h:∀ n:Fin 256,p (UInt8.ofNat n.val)=true)(c:UInt8):p c=true:=by
 have e:UInt8.ofNat c.toNat=c:=by simp
 have:=h ⟨c.toNat,c.toNat_lt⟩
 simpa[e] using this
theorem XZ {c:UInt8}(h:Nb c=true):c≠32/\c≠41/\c≠40/\c≠124:=by
 have k:=Xl (p:=fun c=>!Nb c||(decide (c≠32)&&decide (c≠41)&&decide (c≠40)&&decide (c≠124))) (by decide +kernel) c;simp only[h,Bool.not_true,Bool.false_or,J3,Yi] at k;exact⟨k.1.1.1,k.1.1.2,k.1.2,k.2⟩
theorem Wu {c:UInt8}(h:Ib c=true):c≠124:=by
 have k:=Xl (p:=fun c=>!Ib c||decide (c≠124)) (by decide +kernel) c
 simpa[h] using k
theorem Hw {p:UInt8->Bool}:∀ {l:List UInt8} {c:UInt8} {r:List UInt8},(∀ x∈l,p x=true)->p c=false->Ek p (l++c::r)=l.length
 | [],c,r,_,hc=>by simp[Ek,hc]
 | x::l,c,r,h,hc=>by
   have d:=h x (by simp)
   have j:=Hw (l:=l) (r:=r) (fun y hy=>h y (by simp[hy])) hc
   simp[Ek,d,j]
def SX (t:List UInt8):Prop:=(t≠[]/\∀ c∈t,c≠32/\c≠41/\c≠40/\c≠124)∨(∃ n,t=124::(n++[124])/\∀ c∈n,c≠124)∨∃ m,t=40::(m++[41])/\∀ c∈m,c≠41/\c≠124
theorem SX.word {t:List UInt8}(h:t≠[])(h1:∀ c∈t,c≠32/\c≠41/\c≠40/\c≠124):SX t:=.inl ⟨h,h1⟩
theorem SX.bars {n:List UInt8}(h:∀ c∈n,c≠124):SX (124::(n++[124])):=.inr (.inl ⟨n,rfl,h⟩)
theorem SX.list {m:List UInt8}(h:∀ c∈m,c≠41/\c≠124):SX (40::(m++[41])):=.inr (.inr ⟨m,rfl,h⟩)
theorem Hv {t:List UInt8}(h:0<Nt t):∃ w,0<w/\w<65/\t=Ge w/\Nt t=w:=by
 unfold Nt at h ⊢
 cases j:(List.range 65).find? (fun w=>decide (0<w)&&decide (Ge w=t)) with
 | none=>rw[j] at h;simp at h
 | some w=>
   have d:=List.find?_some j;have h2:=List.mem_of_find?_eq_some j;simp only[J3,Yi] at d;exact⟨w,d.1,by simpa using h2,d.2.symm,rfl⟩
def midT (w:Nat):List UInt8:=Bl.drop 1++Bj w
theorem RQ:∀ w:Fin 65,Ge w.val=40::(midT w.val++[41])/\∀ c∈midT w.val,c≠41/\c≠124:=by decide +kernel
theorem Qq {t n:List UInt8}(h:N2 t=some n):(Kt t=true/\t=n)∨(Kt n=false/\t=124::(n++[124])):=by
 unfold N2 at h
 by_cases d:Kt t=true
 ·rw[if_pos d] at h;cases h;exact .inl ⟨d,rfl⟩
 rw[if_neg d] at h
 split at h
 ·rename_i r
  split at h
  ·rename_i hc;cases h;refine .inr ⟨hc.2,?_⟩;obtain⟨j,e⟩:=Z0.1 hc.1;rw[e,Vl]
  cases h
 cases h
theorem Mb {t:List UInt8}(h:Kt t=true):t≠[]/\∀ c∈t,Nb c=true:=by
 simp only[Kt,J3,V4] at h;exact⟨by rintro rfl;simp at h,Jt.1 h.2⟩
theorem Dx {own:List UInt8->Bool}{t:List UInt8}(h:O1 (Of own t)=true):SX t:=by
 unfold Of at h
 by_cases G:t=On
 ·rw[if_pos G] at h;simp[O1] at h
 rw[if_neg G] at h
 by_cases h2:t=U8
 ·subst h2;exact .word (by decide) (by decide)
 rw[if_neg h2] at h
 by_cases h3:t=Ku
 ·subst h3;exact .word (by decide) (by decide)
 rw[if_neg h3] at h
 by_cases h4:0<Nt t
 ·obtain⟨w,K,J,rfl,_⟩:=Hv h4;have:=RQ ⟨w,J⟩;rw[this.1];exact .list this.2
 rw[if_neg h4] at h
 cases hn:N2 t with
 | none=>rw[hn] at h;simp[O1,SI.none] at h
 | some n=>
   rw[hn] at h
   by_cases A:(Ng n&&own n)=true
   ·have E:∀ c∈n,Ib c=true:=by
     simp only[Ng,J3] at A;exact Jt.1 A.1.2
    rcases Qq hn with⟨I,rfl⟩|⟨I,rfl⟩
    ·obtain⟨j,d⟩:=Mb I;exact .word j (fun c hc=>XZ (d c hc))
    exact .bars (fun c hc=>Wu (E c hc))
   simp only[A] at h;simp[O1,SI.none] at h
def Es (s:List UInt8):Option Nat:=
 match s with
 | []=>none
 | 40::_=>let n:=Ek (fun c=>c != 41&&c != 124) s;if n<s.length/\s.getD n 0=41 then some (n+1) else none
 | 124::r=>let n:=Ek (· != 124) r;if n<r.length then some (n+2) else none
 | _=>some (Ek (fun c=>c != 32&&c != 41) s)
theorem OU (h:SX i)(r:List UInt8):Eg (i++32::r)=i.length:=by
 rcases h with⟨j,hc⟩|⟨n,rfl,hn⟩|⟨m,rfl,G⟩
 ·
  have d:=Hw (p:=(· != 32)) (l:=i) (c:=32) (r:=r) (fun x hx=>by simpa using (hc x hx).1) (by simp)
  cases i with
  | nil=>exact absurd rfl j
  | cons c i=>
    have A:=hc c (by simp);have E:i.length+1<i.length+(r.length+1)+1:=by omega
    unfold Eg
    split
    ·rename_i e;simp only[Yx,List.cons.injEq] at e;exact absurd e.1 A.2.2.2
    ·rename_i e;simp only[Yx,List.cons.injEq] at e;exact absurd e.1 A.2.2.1
    rw[d,if_pos (by simp)]
 ·
  have d:=Hw (p:=(· != 124)) (l:=n) (c:=124) (r:=32::r) (fun x hx=>by simpa using hn x hx) (by simp);have e:124::(n++[124])++32::r=124::(n++124::32::r):=by simp
  rw[e]
  show (if Ek (· != 124) (n++124::32::r)<(n++124::32::r).length then Ek (· != 124) (n++124::32::r)+2 else 1)=_
  rw[d,if_pos (by simp)];simp
 have d:=Hw (p:=(· != 41)) (l:=40::m) (c:=41) (r:=32::r) (fun x hx=>by
  rcases Vi.1 hx with rfl|hx
  ·decide
  simpa using (G x hx).1) (by simp)
 have e:40::(m++[41])++32::r=40::m++41::32::r:=by simp
 rw[e]
 show (if Ek (· != 41) (40::m++41::32::r)<(40::m++41::32::r).length then Ek (· != 41) (40::m++41::32::r)+1 else 0)=_
 rw[d,if_pos (by simp)];simp
theorem Ad (h:SX i){d:UInt8}(hd:d=32∨d=41)(r:List UInt8):Es (i++d::r)=some i.length:=by
 rcases h with⟨A,hc⟩|⟨n,rfl,hn⟩|⟨m,rfl,G⟩
 ·
  have j:=Hw (p:=fun c=>c != 32&&c != 41) (l:=i) (c:=d) (r:=r) (fun x hx=>by simpa using ⟨(hc x hx).1,(hc x hx).2.1⟩) (by rcases hd with rfl|rfl<;>decide)
  cases i with
  | nil=>exact absurd rfl A
  | cons c i=>
    have E:=hc c (by simp);unfold Es
    split
    ·rename_i e;cases e
    ·rename_i e;simp only[Yx,List.cons.injEq] at e;exact absurd e.1 E.2.2.1
    ·rename_i e;simp only[Yx,List.cons.injEq] at e;exact absurd e.1 E.2.2.2
    rw[j]
 ·
  have j:=Hw (p:=(· != 124)) (l:=n) (c:=124) (r:=d::r) (fun x hx=>by simpa using hn x hx) (by simp);have e:124::(n++[124])++d::r=124::(n++124::d::r):=by simp
  rw[e]
  show (if Ek (· != 124) (n++124::d::r)<(n++124::d::r).length then some (Ek (· != 124) (n++124::d::r)+2) else none)=_
  rw[j,if_pos (by simp)];simp
 have j:=Hw (p:=fun c=>c != 41&&c != 124) (l:=40::m) (c:=41) (r:=d::r) (fun x hx=>by
  rcases Vi.1 hx with rfl|hx
  ·decide
  simpa using G x hx) (by simp)
 have e:40::(m++[41])++d::r=40::m++41::d::r:=by simp
 rw[e]
 show (if Ek (fun c=>c != 41&&c != 124) (40::m++41::d::r)<(40::m++41::d::r).length/\(40::m++41::d::r).getD (Ek (fun c=>c != 41&&c != 124) (40::m++41::d::r)) 0=41 then some (Ek (fun c=>c != 41&&c != 124) (40::m++41::d::r)+1) else none)=_
 rw[j,if_pos ⟨by simp,by simp[List.getD_eq_getElem?_getD]⟩];simp
def Gz (own:List UInt8->Bool)(t:List UInt8):SI:=
 if 8<t.length/\t.take 7=Eh/\t.getLast? = some 41 then
  match Es (t.drop 7) with
  | none=>SI.none
  | some k=>
    if (t.drop (7+k)).head? = some 32 then
     match Es (t.drop (7+k+1)) with
     | none=>SI.none
     | some m=>
       if 7+k+1+m+1=t.length then
        if O1 (Of own ((t.drop 7).take k))&&O1 (Of own ((t.drop (7+k+1)).take m)) then ⟨6,0,(t.drop 7).take k,(t.drop (7+k+1)).take m⟩ else SI.none
       else SI.none
    else SI.none
 else Of own t
theorem LS {a b:Bool}(h:(a&&b)=true):a=true:=by cases a<;>simp_all
theorem LW {a b:Bool}(h:(a&&b)=true):b=true:=by cases b<;>simp_all
def CS (own:List UInt8->Bool)(t i e:List UInt8):Prop:=t=Eh++(i++32::(e++[41]))/\O1 (Of own i)=true/\O1 (Of own e)=true
theorem Sf:Eh.length=7:=rfl
theorem XB {own:List UInt8->Bool}{t e:List UInt8}(h:CS own t i e):Ov own t=⟨6,0,i,e⟩:=by
 obtain⟨rfl,d,A⟩:=h;have j:(Eh++(i++32::(e++[41]))).take 7=Eh:=by rw[Z1 (by decide)];rfl
 have h2:(Eh++(i++32::(e++[41]))).drop 7=i++32::(e++[41]):=by rw[<-Sf,List.drop_left]
 have h3:=OU (Dx d) (e++[41]);simp only[Ov,j,if_true,h2,h3,List.take_left,List.drop_left];rw[if_pos ⟨rfl,by simp,by rw[<-Yx];exact Vm⟩];have h4:List.dropLast (List.drop 1 (32::(e++[41])))=e:=by simp
 rw[h4,d,A];rfl
theorem Xh (own:List UInt8->Bool){t:List UInt8}(ht:t.take 7=Eh):Ov own t=SI.none∨∃ i e,CS own t i e/\Ov own t=⟨6,0,i,e⟩:=by
 by_cases h:((t.drop 7).drop (Eg (t.drop 7))).head? = some 32/\2<=((t.drop 7).drop (Eg (t.drop 7))).length/\((t.drop 7).drop (Eg (t.drop 7))).getLast? = some 41
 ·by_cases j:(O1 (Of own ((t.drop 7).take (Eg (t.drop 7))))&&O1 (Of own ((((t.drop 7).drop (Eg (t.drop 7))).drop 1).dropLast)))=true
  ·refine .inr ⟨_,_,⟨?_,LS j,LW j⟩,?_⟩
   ·have A:t=Eh++t.drop 7:=by rw[<-ht,Zi]
    have e2:t.drop 7=(t.drop 7).take (Eg (t.drop 7))++(t.drop 7).drop (Eg (t.drop 7)):=(Zi _ _).symm;generalize (t.drop 7).drop (Eg (t.drop 7))=r at h e2 ⊢;generalize (t.drop 7).take (Eg (t.drop 7))=i at e2 ⊢;have E:r=32::((r.drop 1).dropLast++[41]):=by
     cases r with
     | nil=>simp at h
     | cons c r=>
       simp only[List.head?_cons,Option.some.injEq] at h;obtain⟨rfl,h2,h3⟩:=h
       cases r with
       | nil=>simp at h2
       | cons d r=>
         rw[List.getLast?_cons_cons] at h3;obtain⟨G,e⟩:=Z0.1 h3;rw[List.drop_one,List.tail_cons,e,Vl]
    rw[<-E,<-e2];exact A
   unfold Ov;rw[if_pos ht];simp only[];rw[if_pos h,if_pos j]
  left
  unfold Ov;rw[if_pos ht];simp only[];rw[if_pos h,if_neg j]
 left
 unfold Ov;rw[if_pos ht];simp only[];rw[if_neg h]
theorem QG {own:List UInt8->Bool}{t e:List UInt8}(h:CS own t i e):Gz own t=⟨6,0,i,e⟩:=by
 obtain⟨rfl,d,A⟩:=h;have G:(Eh++(i++32::(e++[41]))).take 7=Eh:=by rw[Z1 (by decide)];rfl
 have h2:(Eh++(i++32::(e++[41]))).drop 7=i++32::(e++[41]):=by rw[<-Sf,List.drop_left]
 have h3:(Eh++(i++32::(e++[41]))).drop (7+i.length)=32::(e++[41]):=by rw[<-Z3,h2,List.drop_left]
 have h4:(Eh++(i++32::(e++[41]))).drop (7+i.length+1)=e++[41]:=by rw[<-Z3,h3];rfl
 have h5:=Ad (Dx d) (.inl rfl) (e++[41]);have I:=Ad (Dx A) (.inr rfl) [];have J:(Eh++(i++32::(e++[41]))).getLast? = some 41:=by
  have E:Eh++(i++32::(e++[41]))=(Eh++(i++32::e))++[41]:=by simp
  rw[E];exact Vm
 have K:(Eh++(i++32::(e++[41]))).length=7+i.length+1+e.length+1:=by simp[Sf];omega
 have M:0<i.length:=by
  rcases Dx d with⟨j,_⟩|⟨_,rfl,_⟩|⟨_,rfl,_⟩
  ·exact Zj.2 j
  ·simp
  simp
 unfold Gz;rw[if_pos ⟨by omega,G,J⟩,h2,h5];simp only[h3,h4,I,K];rw[List.take_left,List.take_left,d,A];rfl
theorem XL {own:List UInt8->Bool}{t:List UInt8}(ht:t.take 7=Eh):Of own t=SI.none:=by
 obtain⟨r,rfl⟩:∃ r,t=Eh++r:=⟨t.drop 7,by rw[<-ht,Zi]⟩;have A:¬ 0<Nt (Eh++r):=by
  intro h;obtain⟨w,E,d,h2,_⟩:=Hv h;have h3:=congrArg (List.take 2) h2;have h4:∀ w:Fin 65,(Ge w.val).take 2≠[40,65]:=by decide +kernel
  exact h4 ⟨w,d⟩ h3.symm
 have j:Kt (Eh++r)=false:=by
  have:Nb 40=false:=by decide
  simp[Kt,Eh,this]
 have hn:N2 (Eh++r)=none:=by
  unfold N2;rw[j];rfl
 unfold Of;rw[if_neg (by simp[Eh,On]),if_neg (by simp[Eh,U8]),if_neg (by simp[Eh,Ku]),if_neg A,hn]
theorem Md {s:List UInt8}{k:Nat}(h:Es s=some k):k<=s.length:=by
 unfold Es at h
 split at h
 ·cases h
 ·simp only[] at h
  split at h
  ·rename_i hc;cases h;exact hc.1
  cases h
 ·simp only[] at h
  split at h
  ·rename_i hc;cases h;simp only[Yq];omega
  cases h
 cases h;exact NC _ _
theorem ZN (own:List UInt8->Bool){t:List UInt8}(ht:t.take 7=Eh):Gz own t=SI.none∨∃ i e,CS own t i e/\Gz own t=⟨6,0,i,e⟩:=by
 by_cases hc:8<t.length/\t.take 7=Eh/\t.getLast? = some 41
 ·unfold Gz;rw[if_pos hc]
  cases K:Es (t.drop 7) with
  | none=>exact .inl rfl
  | some k=>
    simp only[]
    by_cases d:(t.drop (7+k)).head? = some 32
    ·rw[if_pos d]
     cases M:Es (t.drop (7+k+1)) with
     | none=>exact .inl rfl
     | some m=>
       simp only[]
       by_cases h2:7+k+1+m+1=t.length
       ·rw[if_pos h2]
        by_cases j:(O1 (Of own ((t.drop 7).take k))&&O1 (Of own ((t.drop (7+k+1)).take m)))=true
        ·rw[if_pos j];refine .inr ⟨_,_,⟨?_,LS j,LW j⟩,rfl⟩;have G:t=Eh++t.drop 7:=by rw[<-ht,Zi]
         have e2:t.drop 7=(t.drop 7).take k++t.drop (7+k):=by rw[<-Z3,Zi]
         have I:t.drop (7+k)=32::t.drop (7+k+1):=by
          cases h:t.drop (7+k) with
          | nil=>rw[h] at d;simp at d
          | cons c q=>
            rw[h] at d;simp only[List.head?_cons,Option.some.injEq] at d;rw[<-Z3,h,d];rfl
         have A:t.drop (7+k+1)=(t.drop (7+k+1)).take m++t.drop (7+k+1+m):=by rw[<-Z3 (i:=m),Zi]
         have J:t.drop (7+k+1+m)=[41]:=by
          have hl:(t.drop (7+k+1+m)).length=1:=by simp;omega
          have E:(t.drop (7+k+1+m)).getLast? = some 41:=by
           rw[List.getLast?_drop,if_neg (by omega)];exact hc.2.2
          cases h:t.drop (7+k+1+m) with
          | nil=>rw[h] at hl;simp at hl
          | cons c q=>
            rw[h] at hl E;have:q=[]:=Jw (by simpa using hl);subst this
            simpa using E
         rw[J] at A;rw[<-A,<-I,<-e2];exact G
        rw[if_neg j];exact .inl rfl
       rw[if_neg h2];exact .inl rfl
    rw[if_neg d];exact .inl rfl
 left
 unfold Gz;rw[if_neg hc];exact XL ht
theorem So (own:List UInt8->Bool)(t:List UInt8):Gz own t=Ov own t:=by
 by_cases j:t.take 7=Eh
 ·rcases Xh own j with d|⟨i,e,ha,d⟩
  ·rcases ZN own j with A|⟨i,e,ha,A⟩
   ·rw[d,A]
   rw[XB ha] at d;cases d
  rw[d,QG ha]
 unfold Gz Ov;rw[if_neg (fun h=>j h.2.1),if_neg j]
end Go.Proofs.YtdmdmgfjpomdbaaGreatDoor
namespace Go.Proofs.YtdmdmgfjpomdbaaGreatDoor
open ChangeShapes WideShapes ChangeAt RowKit Proofs.Tryz
variable {c:UInt8}{k:Nat}{s:ByteArray}
theorem Oy {a b:Bool}(h:a=b):Ending.returned (.bool a)=.returned (.bool b):=by rw[h]
theorem H6 (s:ByteArray)(k:Nat)(h:k<s.size):s.data.toList.take (k+1)=s.data.toList.take k++[s[k]]:=by
 rw[Ye (by simpa using h)];rfl
theorem G1 {p:UInt8->Bool}(h:k<s.size)(hp:(s.data.toList.take k).all p=true)(h1:p s[k]=true):(s.data.toList.take (k+1)).all p=true:=by
 rw[H6 s k h,List.all_append,hp];simp[h1]
theorem Xm {p:UInt8->Bool}(h:k<s.size)(h1:p s[k]=false):s.data.toList.all p=false:=by
 rw[J8];intro ha;rw[Jt] at ha;have:=ha s[k] (by show s.data[k]∈_;exact V8 _);rw[h1] at this;cases this
theorem Ff {p:UInt8->Bool}(h:¬ k<s.size)(hp:(s.data.toList.take k).all p=true):s.data.toList.all p=true:=by
 rw[<-hp,Jl (by rw[<-Lib.size_eq];omega)]
theorem Pz (c:UInt8):dg c=true↔48<=c.toNat/\c.toNat<=57:=by simp[dg]
theorem RX (c:UInt8):Gs c=true↔c.toNat=48∨c.toNat=49:=by simp[Gs]
theorem Wv (c:UInt8):Ib c=true↔((32<=c.toNat/\c.toNat<=126)/\c.toNat≠124)/\c.toNat≠92:=by simp[Ib,MV]
theorem Qi (c:UInt8)(w:World) :
 Calls prog 117 #[.int .u8 (c.toNat:Int)] w fun e w'=>e=.returned (.bool (dg c))/\w'=w:=by
 have d:Hid (dg c=true↔48<=c.toNat/\c.toNat<=57):=Pz c
 go_in
 go_wp2
 all_goals go_ret
 all_goals (refine⟨Oy ?_,rfl⟩;rw[Yd,d.o];simp<;>omega)
theorem Pk (c:UInt8)(w:World) :
 Calls prog 165 #[.int .u8 (c.toNat:Int)] w fun e w'=>e=.returned (.bool (dg c))/\w'=w:=by
 have d:Hid (dg c=true↔48<=c.toNat/\c.toNat<=57):=Pz c
 go_in
 go_wp2
 all_goals go_ret
 all_goals (refine⟨Oy ?_,rfl⟩;rw[Yd,d.o];simp<;>omega)
theorem OD (c:UInt8)(w:World) :
 Calls prog 112 #[.int .u8 (c.toNat:Int)] w fun e w'=>e=.returned (.bool (Gs c))/\w'=w:=by
 have d:Hid (Gs c=true↔c.toNat=48∨c.toNat=49):=RX c
 go_in
 go_wp2
 all_goals go_ret
 all_goals (refine⟨Oy ?_,rfl⟩;rw[Yd,d.o];simp<;>omega)
theorem Qa (c:UInt8)(w:World) :
 Calls prog 115 #[.int .u8 (c.toNat:Int)] w fun e w'=>e=.returned (.bool (Ib c))/\w'=w:=by
 have d:Hid (Ib c=true↔((32<=c.toNat/\c.toNat<=126)/\c.toNat≠124)/\c.toNat≠92):=Wv c
 go_in
 go_wp2
 all_goals go_ret
 all_goals (refine⟨Oy ?_,rfl⟩;rw[Yd,d.o];simp<;>omega)
abbrev R7:ByteArray:=⟨#[43,45,42,47,61,37,63,33,46,36,95,126,38,94,60,62,64]⟩
theorem A2 (c:UInt8):Nb c=true↔((97<=c.toNat/\c.toNat<=122)∨(65<=c.toNat/\c.toNat<=90)∨(48<=c.toNat/\c.toNat<=57))∨c∈Hl:=by
 simp[Nb,dg,or_assoc]
theorem AG {a:UInt8}(e:((a.toNat:Int)==(c.toNat:Int))=true):a=c:=by
 rw[Yf] at e;exact UInt8.toNat_inj.1 (by omega)
theorem AH {a:UInt8}(e:((a.toNat:Int)==(c.toNat:Int))=false):a≠c:=by
 rw[Jb] at e;intro h;rw[h] at e;exact e rfl
theorem Xn:R7.data.toList=Hl:=rfl
theorem PM (h:k<R7.size)(e:((R7[k].toNat:Int)==(c.toNat:Int))=true):c∈Hl:=by
 rw[<-AG e,<-Xn]
 show R7.data[k]∈_
 exact V8 _
theorem LE (h:k<R7.size)(e:((R7[k].toNat:Int)==(c.toNat:Int))=false)(hp:c∉Hl.take k):c∉Hl.take (k+1):=by
 have:=H6 R7 k h;rw[Xn] at this;rw[this,Zm,not_or];exact⟨hp,fun hc=>AH e (Zv.1 hc).symm⟩
theorem R6 (c:UInt8)(w:World) :
 Calls prog 135 #[.int .u8 (c.toNat:Int)] w fun e w'=>e=.returned (.bool (Nb c))/\w'=w:=by
 have j:Hid (Nb c=true↔((97<=c.toNat/\c.toNat<=122)∨(65<=c.toNat/\c.toNat<=90)∨(48<=c.toNat/\c.toNat<=57))∨c∈Hl):=A2 c
 go_in
 go_wp2
 all_goals first
  | (go_ret;refine⟨Oy ?_,rfl⟩;rw[Yd,j.o];simp;omega)
  | skip
 all_goals
  have M:Hid (¬((97<=c.toNat/\c.toNat<=122)∨(65<=c.toNat/\c.toNat<=90)∨(48<=c.toNat/\c.toNat<=57))):=by
   show ¬ _
   omega
  go_loop [4] (fun i=>∃ k:Nat,k<=17/\i=.int .i64 k/\c∉Hl.take k) (fun i=>17 - (intOf i).toNat)
  case atStart=>exact⟨0,Jr _,rfl,by simp⟩
  obtain⟨k,O,rfl,J⟩:=hrel;have I:=Hd J;clear J
  by_cases G:k<17
  ·have K:k<R7.size:=G
   by_cases A:((R7[k].toNat:Int)==(c.toNat:Int))=true
   ·have d:=PM K A
    go_wp2
    go_ret
    exact⟨Oy (j.o.2 (.inr d)).symm,rfl⟩
   have E:((R7[k].toNat:Int)==(c.toNat:Int))=false:=by simpa using A
   have d:Hid (c∉Hl.take (k+1)):=LE K E I.o;clear A
   go_wp2
   go_round
   case rel=>exact⟨k+1,by omega,by go_num,d.o⟩
   simp[intOf];omega
  have d:Hid (c∉Hl):=by
   unfold Hid
   have:=I.o;rw[Jl (by show 17<=k;omega)] at this;exact this
  go_wp2
  go_ret
  exact⟨Oy (by symm;rw[J8];intro h;exact (j.o.1 h).elim M.o d.o),rfl⟩
theorem H9 (s:ByteArray)(c:Int)(w:World) :
 Calls prog 167 #[.string s,.int .u8 c] w fun e w'=>e=.returned (.int .i64 (Lib.indexByte s.data.toList c.toNat.toUInt8))/\w'=w:=by
 go_in
 go_wp2
 rw[run_callFunc_extern func192 (by kernel_rfl) (by kernel_rfl) (by kernel_rfl) (e:=Extern.BytealgIndexByte.indexByte) (by kernel_rfl),Lib.run_indexByteString];simp only[Result.andThen];rw[Oper.upon_value]
 go_wp2
 go_ret
 exact⟨rfl,rfl⟩
theorem UZ (h:c∈Hl):decide (0<=Lib.indexByte Hl c)=true:=by
 rw[Ju];have j:=Lib.indexByte_ge Hl c
 by_cases h2:Lib.indexByte Hl c = -1
 ·obtain⟨k,d,e⟩:=J6 h;exact absurd (by rw[Jd d,e]) (Lib.indexByte_none h2 k)
 omega
theorem S1 (h:c∉Hl):decide (0<=Lib.indexByte Hl c)=false:=by
 rw[Jj];intro d;obtain⟨o,j⟩:=Zt d;have:=(Lib.indexByte_some j).1;exact h (Vn this)
theorem R5 (c:UInt8)(w:World) :
 Calls prog 166 #[.int .u8 (c.toNat:Int)] w fun e w'=>e=.returned (.bool (Nb c))/\w'=w:=by
 have j:Hid (Nb c=true↔((97<=c.toNat/\c.toNat<=122)∨(65<=c.toNat/\c.toNat<=90)∨(48<=c.toNat/\c.toNat<=57))∨c∈Hl):=A2 c;have E:Hid (((c.toNat:Int)).toNat.toUInt8=c):=by show _=_;simp
 by_cases d:c∈Hl
 ·have z:=UZ d;have A:=d;clear d
  go_in
  go_wp2_with (first|(go_at_call 167;refine (H9 _ _ _).mono ?_;rintro e w' ⟨rfl,rfl⟩;rw[E.o,Xn])|go_in)
  all_goals go_ret
  all_goals exact⟨Oy (j.o.2 (.inr A)).symm,rfl⟩
 have z:=S1 d;have A:=Hd d;clear d
 go_in
 go_wp2_with (first|(go_at_call 167;refine (H9 _ _ _).mono ?_;rintro e w' ⟨rfl,rfl⟩;rw[E.o,Xn])|go_in)
 all_goals go_ret
 all_goals refine⟨Oy ?_,rfl⟩
 all_goals first
  | exact (j.o.2 (.inl (by omega))).symm
  | (have hn:Nb c=false:=by (rw[J8];intro h;exact (j.o.1 h).elim (by omega) A.o)
     rw[hn];simp;omega)
  | (have hn:Nb c=false:=by (rw[J8];intro h;exact (j.o.1 h).elim (by omega) A.o)
     rw[hn])
theorem Co {p:UInt8->Bool}(h:k<s.size)(hp:(s.data.toList.take k).all p=true)(h1:p s[k]=false):Ek p s.data.toList=k:=by
 refine Ti (by rw[<-Lib.size_eq];omega) (fun j hj hji=>?_) (fun _=>h1);rw[Jt] at hp;refine hp _ ?_;rw[List.mem_take_iff_getElem];exact⟨j,by omega,rfl⟩
theorem M5 {p:UInt8->Bool}(h:¬ k<s.size)(hp:(s.data.toList.take k).all p=true):Ek p s.data.toList=s.size:=by
 rw[M3 (Ff h hp),Lib.size_eq]
theorem M7 (s:ByteArray)(w:World)(hs:s.size<=maxLen) :
 Calls prog 111 #[.func (.func 166) #[] #[],.string s] w fun e w'=>e=.returned (.int .i64 (Ek Nb s.data.toList:Nat))/\w'=w:=by
 unfold maxLen at hs
 go_in
 go_wp2
 go_loop [5] (fun i=>∃ k:Nat,k<=s.size/\i=.int .i64 k/\(s.data.toList.take k).all Nb=true) (fun i=>s.size - (intOf i).toNat)
 case atStart=>exact⟨0,Jr _,rfl,rfl⟩
 obtain⟨k,E,rfl,A⟩:=hrel;have h:=Hd A;clear A
 by_cases d:k<s.size
 ·by_cases hc:Nb s[k]=true
  ·go_wp2_with (go_at_call 166;refine (R5 _ _).mono ?_;rintro e w' ⟨rfl,rfl⟩)
   go_round
   case rel=>exact⟨k+1,by omega,by go_num,G1 d h.o hc⟩
   simp[intOf];omega
  have j:Nb s[k]=false:=by simpa using hc
  clear hc
  go_wp2_with (go_at_call 166;refine (R5 _ _).mono ?_;rintro e w' ⟨rfl,rfl⟩)
  go_ret
  exact⟨by rw[Co d h.o j];rfl,rfl⟩
 go_wp2
 go_ret
 exact⟨by rw[M5 d h.o];rfl,rfl⟩
theorem QZ (s:ByteArray)(w:World)(hs:s.size<=maxLen) :
 Calls prog 111 #[.func (.func 115) #[] #[],.string s] w fun e w'=>e=.returned (.int .i64 (Ek Ib s.data.toList:Nat))/\w'=w:=by
 unfold maxLen at hs
 go_in
 go_wp2
 go_loop [5] (fun i=>∃ k:Nat,k<=s.size/\i=.int .i64 k/\(s.data.toList.take k).all Ib=true) (fun i=>s.size - (intOf i).toNat)
 case atStart=>exact⟨0,Jr _,rfl,rfl⟩
 obtain⟨k,E,rfl,A⟩:=hrel;have h:=Hd A;clear A
 by_cases d:k<s.size
 ·by_cases hc:Ib s[k]=true
  ·go_wp2_with (go_at_call 115;refine (Qa _ _).mono ?_;rintro e w' ⟨rfl,rfl⟩)
   go_round
   case rel=>exact⟨k+1,by omega,by go_num,G1 d h.o hc⟩
   simp[intOf];omega
  have j:Ib s[k]=false:=by simpa using hc
  clear hc
  go_wp2_with (go_at_call 115;refine (Qa _ _).mono ?_;rintro e w' ⟨rfl,rfl⟩)
  go_ret
  exact⟨by rw[Co d h.o j];rfl,rfl⟩
 go_wp2
 go_ret
 exact⟨by rw[M5 d h.o];rfl,rfl⟩
theorem QV (s:ByteArray)(w:World)(hs:s.size<=maxLen) :
 Calls prog 111 #[.func (.func 112) #[] #[],.string s] w fun e w'=>e=.returned (.int .i64 (Ek Gs s.data.toList:Nat))/\w'=w:=by
 unfold maxLen at hs
 go_in
 go_wp2
 go_loop [5] (fun i=>∃ k:Nat,k<=s.size/\i=.int .i64 k/\(s.data.toList.take k).all Gs=true) (fun i=>s.size - (intOf i).toNat)
 case atStart=>exact⟨0,Jr _,rfl,rfl⟩
 obtain⟨k,E,rfl,A⟩:=hrel;have h:=Hd A;clear A
 by_cases d:k<s.size
 ·by_cases hc:Gs s[k]=true
  ·go_wp2_with (go_at_call 112;refine (OD _ _).mono ?_;rintro e w' ⟨rfl,rfl⟩)
   go_round
   case rel=>exact⟨k+1,by omega,by go_num,G1 d h.o hc⟩
   simp[intOf];omega
  have j:Gs s[k]=false:=by simpa using hc
  clear hc
  go_wp2_with (go_at_call 112;refine (OD _ _).mono ?_;rintro e w' ⟨rfl,rfl⟩)
  go_ret
  exact⟨by rw[Co d h.o j];rfl,rfl⟩
 go_wp2
 go_ret
 exact⟨by rw[M5 d h.o];rfl,rfl⟩
theorem Gf (d:ByteArray)(h:0<d.size):d.data.toList.head? = some d[0]:=by
 obtain⟨⟨l⟩⟩:=d
 cases l with
 | nil=>simp[ByteArray.size] at h
 | cons a l=>rfl
theorem Il (d:ByteArray)(h:0<d.size):d.toList.isEmpty=false:=by
 rw[Jk];have:=Lib.size_eq d
 cases hl:d.data.toList with
 | nil=>exfalso;rw[hl] at this;simp only[Zn] at this;omega
 | cons _ _=>rfl
theorem Wb {d:ByteArray}(h:d.size=0):d.data.toList=[]:=Jw (by rw[<-Lib.size_eq];exact h)
theorem Rn (d:ByteArray)(h:d.size=0):d.toList.isEmpty=true:=by
 rw[Jk,Wb h];rfl
theorem FK {d:ByteArray}(h:0<d.size):d.data.toList.isEmpty=false:=by rw[<-Jk];exact Il d h
theorem Ma (h:s.size=0):Kt s.data.toList=false:=by rw[Wb h];rfl
theorem A5 (h:0<s.size)(h1:dg s[0]=true):Kt s.data.toList=false:=by
 unfold Kt;rw[Gf s h];simp[h1]
theorem Fk (h:0<s.size)(h1:dg s[0]=false):Kt s.data.toList=s.data.toList.all Nb:=by
 unfold Kt;rw[Gf s h,FK h];simp[h1]
theorem C8 (s:ByteArray)(w:World)(hs:s.size<=maxLen) :
 Calls prog 118 #[.string s] w fun e w'=>e=.returned (.bool (Kt s.data.toList))/\w'=w:=by
 unfold maxLen at hs
 by_cases j:s.size=0
 ·have F:Hid (Kt s.data.toList=false):=Ma j;have z:((s.size:Int)==0)=true:=by rw[Yf];omega
  clear j
  go_in
  go_wp2
  go_ret
  exact⟨Oy F.o.symm,rfl⟩
 have h:0<s.size:=by omega
 have z:((s.size:Int)==0)=false:=by rw[Jb];omega
 clear j
 by_cases A:dg s[0]=true
 ·have F:Hid (Kt s.data.toList=false):=A5 h A
  go_in
  go_wp2_with (go_at_call 117;refine (Qi _ _).mono ?_;rintro e w' ⟨rfl,rfl⟩)
  go_ret
  exact⟨Oy F.o.symm,rfl⟩
 have E:dg s[0]=false:=by simpa using A
 have F:Hid (Kt s.data.toList=s.data.toList.all Nb):=Fk h E;clear A
 go_in
 go_wp2_with (go_at_call 117;refine (Qi _ _).mono ?_;rintro e w' ⟨rfl,rfl⟩)
 go_loop [3] (fun i=>∃ k:Nat,k<=s.size/\i=.int .i64 k/\(s.data.toList.take k).all Nb=true) (fun i=>s.size - (intOf i).toNat)
 case atStart=>exact⟨0,Jr _,rfl,rfl⟩
 obtain⟨k,J,rfl,h⟩:=hrel;have I:=Hd h;clear h
 by_cases d:k<s.size
 ·by_cases hc:Nb s[k]=true
  ·go_wp2_with (go_at_call 135;refine (R6 _ _).mono ?_;rintro e w' ⟨rfl,rfl⟩)
   go_round
   case rel=>exact⟨k+1,by omega,by go_num,G1 d I.o hc⟩
   simp[intOf];omega
  have G:Nb s[k]=false:=by simpa using hc
  clear hc
  go_wp2_with (go_at_call 135;refine (R6 _ _).mono ?_;rintro e w' ⟨rfl,rfl⟩)
  go_ret
  exact⟨Oy (by rw[F.o,Xm d G]),rfl⟩
 go_wp2
 go_ret
 exact⟨Oy (by rw[F.o,Ff d I.o]),rfl⟩
def Oo (l:List UInt8):ByteArray:=⟨l.toArray⟩
theorem Ou (l:List UInt8):(Oo l).data.toList=l:=by simp[Oo]
theorem Kq (s:ByteArray):Oo s.data.toList=s:=by simp[Oo]
theorem EE (s:ByteArray):(⟨#[124]⟩++s++⟨#[124]⟩:ByteArray)=Oo (124::(s.data.toList++[124])):=by
 apply ByteArray.ext;apply Array.ext';simp[Oo]
theorem Rj (h:Kt s.data.toList=false):Ending.returned (.string (⟨#[124]⟩++s++⟨#[124]⟩))=.returned (.string (Oo (Kl 2 s.data.toList))):=by
 rw[EE];simp[Kl,h]
theorem Bq (h:Kt s.data.toList=true):Ending.returned (.string s)=.returned (.string (Oo (Kl 2 s.data.toList))):=by
 have:Kl 2 s.data.toList=s.data.toList:=by simp[Kl,h]
 rw[this,Kq]
theorem S9 (s:ByteArray)(w:World)(hs:s.size<=20000) :
 Calls prog 139 #[.string s] w fun e w'=>e=.returned (.string (Oo (Kl 2 s.data.toList)))/\w'=w:=by
 have G:s.size<=maxLen:=by unfold maxLen;omega
 by_cases d:s.size=0
 ·have F:Hid (Kt s.data.toList=false):=Ma d;have z:=Rn s d;clear d
  go_in
  go_wp2
  go_ret
  exact⟨Rj F.o,rfl⟩
 have E:0<s.size:=by omega
 have z:=Il s E;clear d
 by_cases j:dg s[0]=true
 ·have F:Hid (Kt s.data.toList=false):=A5 E j
  go_in
  go_wp2_with (go_at_call 165;refine (Pk _ _).mono ?_;rintro e w' ⟨rfl,rfl⟩)
  go_ret
  exact⟨Rj F.o,rfl⟩
 have A:dg s[0]=false:=by simpa using j
 have F:Hid (Kt s.data.toList=s.data.toList.all Nb):=Fk E A;clear j
 by_cases h2:s.data.toList.all Nb=true
 ·have z2:((Ek Nb s.data.toList:Int)==(s.size:Int))=true:=by rw[M3 h2,Lib.size_eq];simp
  have h:Hid (Kt s.data.toList=true):=F.o.trans h2;clear h2
  go_in
  go_wp2_with (first|(go_at_call 165;refine (Pk _ _).mono ?_;rintro e w' ⟨rfl,rfl⟩)|(go_at_call 111;refine (M7 _ _ G).mono ?_;rintro e w' ⟨rfl,rfl⟩))
  go_ret
  exact⟨Bq h.o,rfl⟩
 have z2:((Ek Nb s.data.toList:Int)==(s.size:Int))=false:=by
  rw[Jb];intro e;exact h2 (ZY.1 (by rw[<-Lib.size_eq];omega))
 have h:Hid (Kt s.data.toList=false):=F.o.trans (by simpa using h2);clear h2
 go_in
 go_wp2_with (first|(go_at_call 165;refine (Pk _ _).mono ?_;rintro e w' ⟨rfl,rfl⟩)|(go_at_call 111;refine (M7 _ _ G).mono ?_;rintro e w' ⟨rfl,rfl⟩))
 go_ret
 exact⟨Rj h.o,rfl⟩
end Go.Proofs.YtdmdmgfjpomdbaaGreatDoor
namespace Go.Proofs.YtdmdmgfjpomdbaaGreatDoor
open ChangeShapes WideShapes ChangeAt RowKit
variable {W:World}{g:Nat}{l r:List Value}{v0 v1 v2 v3:Value}
theorem Oz (w:World)(o:Obj):Up w (w.alloc o):=(Je _ _).alloc leR o
theorem Ob {B:Nat}{a w:World}(h:Below B a w)(hB:B<=w.heap.size)(o:Obj):Below B a (w.alloc o):=h.alloc hB o
def Bx (W:World)(g:Nat)(l:List Value):Prop:=∃ ty,W.heap[g]? = some (.cells l.toArray ty (0,0))
theorem Bx.lt (h:Bx W g l):g<W.heap.size:=by
 obtain⟨t,h⟩:=h;exact (Jv.1 h).1
theorem Bx.cell (h:Bx W g l)(i:Nat):W.cell? ⟨g,i,none⟩=l[i]? := by
 obtain⟨t,h⟩:=h;simp[World.cell?,h]
theorem Bx.fz (h:Bx W g l)(i:Nat):W.frozen? ⟨g,i,none⟩=false:=by
 obtain⟨t,h⟩:=h;simp[World.frozen?,h]
theorem Bx.set (h:Bx W g l)(i:Nat)(v:Value):Bx (W.setCell ⟨g,i,none⟩ v) g (l.set i v):=by
 obtain⟨t,h⟩:=h;refine⟨t,?_⟩;obtain⟨d,j⟩:=Jv.1 h
 show (W.heap.modify g _)[g]? = _
 rw[Vv (by rw[Z9];exact d),Vw,j];simp
theorem Bx.k2 (h:Bx W g (v0::v1::r)):W.cell? ⟨g,0,none⟩=some v0/\W.cell? ⟨g,1,none⟩=some v1:=⟨h.cell 0,h.cell 1⟩
theorem Bx.k3 (h:Bx W g (v0::v1::v2::r)):W.cell? ⟨g,0,none⟩=some v0/\W.cell? ⟨g,1,none⟩=some v1/\W.cell? ⟨g,2,none⟩=some v2:=⟨h.cell 0,h.cell 1,h.cell 2⟩
theorem Bx.k4 (h:Bx W g (v0::v1::v2::v3::r)):W.cell? ⟨g,0,none⟩=some v0/\W.cell? ⟨g,1,none⟩=some v1/\W.cell? ⟨g,2,none⟩=some v2/\W.cell? ⟨g,3,none⟩=some v3:=⟨h.cell 0,h.cell 1,h.cell 2,h.cell 3⟩
theorem Bx.k5 {v4:Value}(h:Bx W g (v0::v1::v2::v3::v4::r)):W.cell? ⟨g,0,none⟩=some v0/\W.cell? ⟨g,1,none⟩=some v1/\W.cell? ⟨g,2,none⟩=some v2/\W.cell? ⟨g,3,none⟩=some v3/\W.cell? ⟨g,4,none⟩=some v4:=⟨h.cell 0,h.cell 1,h.cell 2,h.cell 3,h.cell 4⟩
theorem Bx.k6 {v4 v5:Value}(h:Bx W g (v0::v1::v2::v3::v4::v5::r)):W.cell? ⟨g,0,none⟩=some v0/\W.cell? ⟨g,1,none⟩=some v1/\W.cell? ⟨g,2,none⟩=some v2/\W.cell? ⟨g,3,none⟩=some v3/\W.cell? ⟨g,4,none⟩=some v4/\W.cell? ⟨g,5,none⟩=some v5:=⟨h.cell 0,h.cell 1,h.cell 2,h.cell 3,h.cell 4,h.cell 5⟩
theorem Bx.f2 (h:Bx W g r):W.frozen? ⟨g,0,none⟩=false/\W.frozen? ⟨g,1,none⟩=false:=⟨h.fz 0,h.fz 1⟩
theorem Bx.f3 (h:Bx W g r):W.frozen? ⟨g,0,none⟩=false/\W.frozen? ⟨g,1,none⟩=false/\W.frozen? ⟨g,2,none⟩=false:=⟨h.fz 0,h.fz 1,h.fz 2⟩
theorem Bx.f4 (h:Bx W g r):W.frozen? ⟨g,0,none⟩=false/\W.frozen? ⟨g,1,none⟩=false/\W.frozen? ⟨g,2,none⟩=false/\W.frozen? ⟨g,3,none⟩=false:=⟨h.fz 0,h.fz 1,h.fz 2,h.fz 3⟩
theorem Bx.f5 (h:Bx W g r):W.frozen? ⟨g,0,none⟩=false/\W.frozen? ⟨g,1,none⟩=false/\W.frozen? ⟨g,2,none⟩=false/\W.frozen? ⟨g,3,none⟩=false/\W.frozen? ⟨g,4,none⟩=false:=⟨h.fz 0,h.fz 1,h.fz 2,h.fz 3,h.fz 4⟩
theorem Bx.f6 (h:Bx W g r):W.frozen? ⟨g,0,none⟩=false/\W.frozen? ⟨g,1,none⟩=false/\W.frozen? ⟨g,2,none⟩=false/\W.frozen? ⟨g,3,none⟩=false/\W.frozen? ⟨g,4,none⟩=false/\W.frozen? ⟨g,5,none⟩=false:=⟨h.fz 0,h.fz 1,h.fz 2,h.fz 3,h.fz 4,h.fz 5⟩
theorem Bx.f7 (h:Bx W g r):W.frozen? ⟨g,0,none⟩=false/\W.frozen? ⟨g,1,none⟩=false/\W.frozen? ⟨g,2,none⟩=false/\W.frozen? ⟨g,3,none⟩=false/\W.frozen? ⟨g,4,none⟩=false/\W.frozen? ⟨g,5,none⟩=false/\W.frozen? ⟨g,6,none⟩=false:=⟨h.fz 0,h.fz 1,h.fz 2,h.fz 3,h.fz 4,h.fz 5,h.fz 6⟩
theorem Bx.other (h:Bx W g l)(p:Addr)(hp:p.block≠g)(v:Value):Bx (W.setCell p v) g l:=by
 obtain⟨t,h⟩:=h;exact⟨t,(Jh W p v g (fun e=>hp e.symm)).trans h⟩
theorem Bx.bl {W':World}{N:Nat}(h:Bx W g l)(hN:g<N)(hb:Below N W W'):Bx W' g l:=by
 obtain⟨t,h⟩:=h;exact⟨t,(hb.block g hN).trans h⟩
theorem Bx.alloc (h:Bx W g l)(o:Obj):Bx (W.alloc o) g l:=h.bl h.lt (Oz W o)
theorem Bx.drew (h:Bx W g l):Bx W.drew g l:=h.bl h.lt (Je _ W).drew
theorem Oi (W:World)(l:List Value)(ty:TypeId):Bx (W.alloc (.cells l.toArray ty)) W.heap.size l:=⟨ty,Vg⟩
theorem Bx.c2 (h:Bx W g (v0::v1::r)):W.cell? ⟨g,0,none⟩=some v0/\W.cell? ⟨g,1,none⟩=some v1:=⟨h.cell 0,h.cell 1⟩
theorem Bx.c3 (h:Bx W g (v0::v1::v2::r)):W.cell? ⟨g,0,none⟩=some v0/\W.cell? ⟨g,1,none⟩=some v1/\W.cell? ⟨g,2,none⟩=some v2:=⟨h.cell 0,h.cell 1,h.cell 2⟩
theorem Bx.c4 (h:Bx W g (v0::v1::v2::v3::r)):W.cell? ⟨g,0,none⟩=some v0/\W.cell? ⟨g,1,none⟩=some v1/\W.cell? ⟨g,2,none⟩=some v2/\W.cell? ⟨g,3,none⟩=some v3:=⟨h.cell 0,h.cell 1,h.cell 2,h.cell 3⟩
end Go.Proofs.YtdmdmgfjpomdbaaGreatDoor
namespace Go.Proofs.YtdmdmgfjpomdbaaGreatDoor
open ChangeShapes WideShapes ChangeAt RowKit Proofs.Tryz
theorem Dq {s:ByteArray}(h:s.size=0∨60<s.size):Ng s.data.toList=false:=by
 unfold Ng;rw[<-Lib.size_eq]
 rcases h with h|h
 ·rw[Jc (by omega)];rfl
 rw[Jc (p:=s.size<=60) (by omega)];simp
theorem ZG {s:ByteArray}(h:0<s.size)(h1:s.size<=60):Ng s.data.toList=s.data.toList.all Ib:=by
 unfold Ng;rw[<-Lib.size_eq,Ja h,Ja h1];rfl
theorem E4 (s:ByteArray)(w:World)(hs:s.size<=maxLen) :
 Calls prog 56 #[.string s] w fun e w'=>e=.returned (.bool (Ng s.data.toList))/\w'=w:=by
 unfold maxLen at hs
 by_cases I:s.size=0
 ·have F:Hid (Ng s.data.toList=false):=Dq (.inl I)
  go_in
  go_wp2
  go_ret
  exact⟨Oy F.o.symm,rfl⟩
 by_cases J:60<s.size
 ·have F:Hid (Ng s.data.toList=false):=Dq (.inr J)
  go_in
  go_wp2
  go_ret
  exact⟨Oy F.o.symm,rfl⟩
 have F:Hid (Ng s.data.toList=s.data.toList.all Ib):=ZG (by omega) (by omega)
 go_in
 go_wp2
 go_loop [3] (fun i=>∃ k:Nat,k<=s.size/\i=.int .i64 k/\(s.data.toList.take k).all Ib=true) (fun i=>s.size - (intOf i).toNat)
 case atStart=>exact⟨0,Jr _,rfl,rfl⟩
 obtain⟨k,K,rfl,E⟩:=hrel;have A:=Hd E;clear E
 by_cases d:k<s.size
 ·have j:Hid (Ib s[k]=true↔((32<=s[k].toNat/\s[k].toNat<=126)/\s[k].toNat≠124)/\s[k].toNat≠92):=Wv s[k]
  by_cases c1:s[k].toNat<32
  ·have hb:Ib s[k]=false:=by rw[J8];intro h;have:=j.o.1 h;omega
   go_wp2
   go_ret
   exact⟨Oy (by rw[F.o,Xm d hb]),rfl⟩
  by_cases c2:126<s[k].toNat
  ·have hb:Ib s[k]=false:=by rw[J8];intro h;have:=j.o.1 h;omega
   go_wp2
   go_ret
   exact⟨Oy (by rw[F.o,Xm d hb]),rfl⟩
  by_cases c3:s[k].toNat=124
  ·have hb:Ib s[k]=false:=by rw[J8];intro h;have:=j.o.1 h;omega
   have z3:((s[k].toNat:Int)==124)=true:=by rw[Yf];omega
   clear c3
   go_wp2
   go_ret
   exact⟨Oy (by rw[F.o,Xm d hb]),rfl⟩
  have z3:((s[k].toNat:Int)==124)=false:=by rw[Jb];omega
  by_cases c4:s[k].toNat=92
  ·have hb:Ib s[k]=false:=by rw[J8];intro h;have:=j.o.1 h;omega
   have z4:((s[k].toNat:Int)==92)=true:=by rw[Yf];omega
   clear c4
   go_wp2
   go_ret
   exact⟨Oy (by rw[F.o,Xm d hb]),rfl⟩
  have z4:((s[k].toNat:Int)==92)=false:=by rw[Jb];omega
  have G:Hid (Ib s[k]=true):=j.o.2 ⟨⟨⟨by omega,by omega⟩,c3⟩,c4⟩
  go_wp2
  go_round
  case rel=>exact⟨k+1,by omega,by go_num,G1 d A.o G.o⟩
  simp[intOf];omega
 go_wp2
 go_ret
 exact⟨Oy (by rw[F.o,Ff d A.o]),rfl⟩
end Go.Proofs.YtdmdmgfjpomdbaaGreatDoor
