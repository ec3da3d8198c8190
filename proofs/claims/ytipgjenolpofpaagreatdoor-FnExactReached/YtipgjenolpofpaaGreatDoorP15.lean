import Derived.Test.YtipgjenolpofpaaGreatDoorP00
import Derived.Test.YtipgjenolpofpaaGreatDoorRows
import Derived.WalkSpells
import Derived.ProofKit
import Derived.OpenShut
import Derived.ShutString
import Derived.Lib.Strings
import Derived.Lib.IndexBytes
import Derived.Lib.IndexLaws
import Derived.Lib.Bytealg
set_option maxRecDepth 100000
set_option maxHeartbeats 1000000
namespace Go.Proofs.YtipgjenolpofpaaGreatDoor
open ChangeShapes WideShapes ChangeAt RowKit
def Ks (p:UInt8->Bool):List UInt8->Nat
 | []=>0
 | c::r=>if p c then Ks p r+1 else 0
theorem UF (p:UInt8->Bool)(l:List UInt8):Ks p l<=l.length:=by
 induction l with
 | nil=>exact Of
 | cons c r ih=>unfold Ks;split<;>simp<;>omega
theorem Ft {p:UInt8->Bool}{l:List UInt8}(h:l.all p=true):Ks p l=l.length:=by
 induction l with
 | nil=>rfl
 | cons c r ih=>
   simp only[List.all_cons,J3] at h;unfold Ks;rw[if_pos h.1,ih h.2];rfl
theorem T6 {p:UInt8->Bool}{l:List UInt8}(h:Ks p l=l.length):l.all p=true:=by
 induction l with
 | nil=>rfl
 | cons c r ih=>
   unfold Ks at h
   split at h
   ·rename_i hc;simp only[Yo,Nat.add_right_cancel_iff] at h;simp[hc,ih h]
   simp at h
theorem T7 {p:UInt8->Bool}{l:List UInt8}:Ks p l=l.length↔l.all p=true:=⟨T6,Ft⟩
theorem Ag {p:UInt8->Bool}:∀ {l:List UInt8} {i:Nat},i<=l.length->(∀ j (h:j<l.length),j<i->p l[j]=true)->(∀ h:i<l.length,p l[i]=false)->Ks p l=i
 | [],i,hi,_,_=>by simp at hi;subst hi;rfl
 | c::r,0,_,_,h=>by
   have:=h (by simp)
   unfold Ks;rw[if_neg (by simpa using this)]
 | c::r,i+1,hi,ha,h=>by
   have d:=ha 0 (by simp) (by omega)
   simp only[Yn] at d
   unfold Ks;rw[if_pos d,Ag (l:=r) (i:=i) (by simpa using hi) (fun j hj hji=>?_) (fun hj=>?_)]
   ·have:=ha (j+1) (by simpa using hj) (by omega)
    simpa using this
   have:=h (by simpa using hj)
   simpa using this
def dg (c:UInt8):Bool:=decide (48<=c.toNat)&&decide (c.toNat<=57)
def Hu (c:UInt8):Bool:=decide (c.toNat=48)||decide (c.toNat=49)
def DM (c:UInt8):Bool:=decide (32<=c.toNat)&&decide (c.toNat<=126)
def Hs (c:UInt8):Bool:=DM c&&!decide (c.toNat=124)&&!decide (c.toNat=92)
def Gj:List UInt8:=[43,45,42,47,61,37,63,33,46,36,95,126,38,94,60,62,64]
def E6 (c:UInt8):Bool:=(decide (97<=c.toNat)&&decide (c.toNat<=122))||(decide (65<=c.toNat)&&decide (c.toNat<=90))||dg c||Gj.contains c
def LY:List UInt8->List UInt8
 | []=>[]
 | c::r=>if c=34 then 34::34::LY r else c::LY r
structure Nd where
 kind:Int
 text:ByteArray
 kids:Int
def Nd.t (n:Nd):List UInt8:=n.text.data.toList
def Kr (t:List UInt8):Bool:=!t.isEmpty&&!(t.head?.any dg)&&t.all E6
def Ke (kind:Int)(t:List UInt8):List UInt8:=
 if kind=1 then [40]
 else if kind=2 then (if Kr t then t else 124::(t++[124]))
 else if kind=3∨kind=4 then t
 else if kind=5 then 35::98::t
 else if kind=6 then 34::(LY t++[34])
 else if kind=7 then 58::t
 else []
def E3 (l:List UInt8):Bool:=decide (0<l.length)&&decide (l.length<=60)&&l.all Hs
def Kk:List (List UInt8):=[[66,111,111,108],[73,110,116],[82,101,97,108],[66,105,116,86,101,99],[65,114,114,97,121],[95],[108,101,116],[97,115],[116,114,117,101],[102,97,108,115,101],[110,111,116],[97,110,100],[111,114],[120,111,114],[61,62],[105,116,101],[61],[100,105,115,116,105,110,99,116],[43],[45],[42],[47],[60,61],[60],[62,61],[62],[100,105,118],[109,111,100],[116,111,95,114,101,97,108],[115,101,108,101,99,116],[115,116,111,114,101],[99,111,110,99,97,116],[101,120,116,114,97,99,116],[122,101,114,111,95,101,120,116,101,110,100],[115,105,103,110,95,101,120,116,101,110,100],[114,111,116,97,116,101,95,108,101,102,116],[114,111,116,97,116,101,95,114,105,103,104,116],[114,101,112,101,97,116]]
def RA (l:List UInt8):Bool:=decide (l.take 2=[98,118])
def Ga (l:List UInt8):Bool:=RA l||Kk.contains l
def E5 (l:List UInt8):Bool:=E3 l&&!Ga l
structure SI where
 kind:Int
 width:Nat
 index:List UInt8
 elem:List UInt8
 deriving DecidableEq
def SI.none:SI:=⟨0,0,[],[]⟩
def Oc:List UInt8:=[66,111,111,108]
def Kn:List UInt8:=[73,110,116]
def Ki:List UInt8:=[82,101,97,108]
def Lg:List UInt8:=[40,95,32,66,105,116,86,101,99,32]
def K4:List UInt8:=[40,65,114,114,97,121,32]
def Lp (w:Nat):List UInt8:=if w<10 then [UInt8.ofNat (48+w)] else [UInt8.ofNat (48+w / 10),UInt8.ofNat (48+w % 10)]
def Ni (w:Nat):List UInt8:=Lg++Lp w++[41]
def E9 (t:List UInt8):Nat:=((List.range 65).find? (fun w=>decide (0<w)&&decide (Ni w=t))).getD 0
def Ny (t:List UInt8):Option (List UInt8):=
 if Kr t then some t
 else match t with
  | 124::r=>if r.getLast? = some 124/\Kr r.dropLast=false then some r.dropLast else none
  | _=>none
def Od (own:List UInt8->Bool)(t:List UInt8):SI:=
 if t=Oc then ⟨1,0,[],[]⟩
 else if t=Kn then ⟨2,0,[],[]⟩
 else if t=Ki then ⟨3,0,[],[]⟩
 else if 0<E9 t then ⟨4,E9 t,[],[]⟩
 else match Ny t with
  | some n=>if E3 n&&own n then ⟨5,0,[],[]⟩ else SI.none
  | none=>SI.none
def O0 (s:SI):Bool:=decide (2<=s.kind)&&decide (s.kind<=5)
def K3 (t:List UInt8):Nat:=
 match t with
 | 124::r=>if Ks (· != 124) r<r.length then Ks (· != 124) r+2 else 1
 | 40::_=>if Ks (· != 41) t<t.length then Ks (· != 41) t+1 else 0
 | _=>if Ks (· != 32) t<t.length then Ks (· != 32) t else 0
def Ov (own:List UInt8->Bool)(t:List UInt8):SI:=
 if t.take 7=K4 then
  let both:=t.drop 7
  let i:=both.take (K3 both)
  let r:=both.drop (K3 both)
  if r.head? = some 32/\2<=r.length/\r.getLast? = some 41 then
   let e:=(r.drop 1).dropLast
   if O0 (Od own i)&&O0 (Od own e) then ⟨6,0,i,e⟩ else SI.none
  else SI.none
 else Od own t
theorem Ib {p:UInt8->Bool}(h:∀ n:Fin 256,p (UInt8.ofNat n.val)=true)(c:UInt8):p c=true:=by
 have e:UInt8.ofNat c.toNat=c:=by simp
 have:=h ⟨c.toNat,c.toNat_lt⟩
 simpa[e] using this
theorem ES {c:UInt8}(h:E6 c=true):c≠32/\c≠41/\c≠40/\c≠124:=by
 have k:=Ib (p:=fun c=>!E6 c||(decide (c≠32)&&decide (c≠41)&&decide (c≠40)&&decide (c≠124))) (by decide +kernel) c;simp only[h,Bool.not_true,Bool.false_or,J3,Yg] at k;exact⟨k.1.1.1,k.1.1.2,k.1.2,k.2⟩
theorem A6 {c:UInt8}(h:Hs c=true):c≠124:=by
 have k:=Ib (p:=fun c=>!Hs c||decide (c≠124)) (by decide +kernel) c
 simpa[h] using k
theorem G2 {p:UInt8->Bool}:∀ {l:List UInt8} {c:UInt8} {r:List UInt8},(∀ x∈l,p x=true)->p c=false->Ks p (l++c::r)=l.length
 | [],c,r,_,hc=>by simp[Ks,hc]
 | x::l,c,r,h,hc=>by
   have d:=h x (by simp)
   have j:=G2 (l:=l) (r:=r) (fun y hy=>h y (by simp[hy])) hc
   simp[Ks,d,j]
inductive Shape:List UInt8->Prop
 | word {t:List UInt8} (h:t≠[]) (h1:∀ c∈t,c≠32/\c≠41/\c≠40/\c≠124):Shape t
 | bars {n:List UInt8} (h:∀ c∈n,c≠124):Shape (124::(n++[124]))
 | list {m:List UInt8} (h:∀ c∈m,c≠41/\c≠124):Shape (40::(m++[41]))
theorem Gq {t:List UInt8}(h:0<E9 t):∃ w,0<w/\w<65/\t=Ni w/\E9 t=w:=by
 unfold E9 at h ⊢
 cases j:(List.range 65).find? (fun w=>decide (0<w)&&decide (Ni w=t)) with
 | none=>rw[j] at h;simp at h
 | some w=>
   have d:=List.find?_some j;have A:=List.mem_of_find?_eq_some j;simp only[J3,Yg] at d;exact⟨w,d.1,by simpa using A,d.2.symm,rfl⟩
def midT (w:Nat):List UInt8:=Lg.drop 1++Lp w
theorem IG:∀ w:Fin 65,Ni w.val=40::(midT w.val++[41])/\∀ c∈midT w.val,c≠41/\c≠124:=by decide +kernel
theorem Xh {t n:List UInt8}(h:Ny t=some n):(Kr t=true/\t=n)∨(Kr n=false/\t=124::(n++[124])):=by
 unfold Ny at h
 by_cases d:Kr t=true
 ·rw[if_pos d] at h;cases h;exact .inl ⟨d,rfl⟩
 rw[if_neg d] at h
 split at h
 ·rename_i r
  split at h
  ·rename_i hc;cases h;refine .inr ⟨hc.2,?_⟩;obtain⟨j,e⟩:=Zs.1 hc.1;rw[e,Vc]
  cases h
 cases h
theorem Ff {t:List UInt8}(h:Kr t=true):t≠[]/\∀ c∈t,E6 c=true:=by
 simp only[Kr,J3,Vs] at h;exact⟨by rintro rfl;simp at h,Ju.1 h.2⟩
theorem Pk {own:List UInt8->Bool}{t:List UInt8}(h:O0 (Od own t)=true):Shape t:=by
 unfold Od at h
 by_cases G:t=Oc
 ·rw[if_pos G] at h;simp[O0] at h
 rw[if_neg G] at h
 by_cases I:t=Kn
 ·subst I;exact .word (by decide) (by decide)
 rw[if_neg I] at h
 by_cases h3:t=Ki
 ·subst h3;exact .word (by decide) (by decide)
 rw[if_neg h3] at h
 by_cases h4:0<E9 t
 ·obtain⟨w,M,K,rfl,_⟩:=Gq h4;have:=IG ⟨w,K⟩;rw[this.1];exact .list this.2
 rw[if_neg h4] at h
 cases hn:Ny t with
 | none=>rw[hn] at h;simp[O0,SI.none] at h
 | some n=>
   rw[hn] at h
   by_cases A:(E3 n&&own n)=true
   ·have E:∀ c∈n,Hs c=true:=by
     simp only[E3,J3] at A;exact Ju.1 A.1.2
    rcases Xh hn with⟨J,rfl⟩|⟨J,rfl⟩
    ·obtain⟨j,d⟩:=Ff J;exact .word j (fun c hc=>ES (d c hc))
    exact .bars (fun c hc=>A6 (E c hc))
   simp only[A] at h;simp[O0,SI.none] at h
def Eg (s:List UInt8):Option Nat:=
 match s with
 | []=>none
 | 40::_=>let n:=Ks (fun c=>c != 41&&c != 124) s;if n<s.length/\s.getD n 0=41 then some (n+1) else none
 | 124::r=>let n:=Ks (· != 124) r;if n<r.length then some (n+2) else none
 | _=>some (Ks (fun c=>c != 32&&c != 41) s)
theorem Sa {i:List UInt8}(h:Shape i)(r:List UInt8):K3 (i++32::r)=i.length:=by
 cases h with
 | word hne hc=>
   have d:=G2 (p:=(· != 32)) (l:=i) (c:=32) (r:=r) (fun x hx=>by simpa using (hc x hx).1) (by simp)
   cases i with
   | nil=>exact absurd rfl hne
   | cons c i=>
     have j:=hc c (by simp);have A:i.length+1<i.length+(r.length+1)+1:=by omega
     unfold K3
     split
     ·rename_i e;simp only[Yu,List.cons.injEq] at e;exact absurd e.1 j.2.2.2
     ·rename_i e;simp only[Yu,List.cons.injEq] at e;exact absurd e.1 j.2.2.1
     rw[d,if_pos (by simp)]
 | @bars n hn=>
   have d:=G2 (p:=(· != 124)) (l:=n) (c:=124) (r:=32::r) (fun x hx=>by simpa using hn x hx) (by simp);have e:124::(n++[124])++32::r=124::(n++124::32::r):=by simp
   rw[e]
   show (if Ks (· != 124) (n++124::32::r)<(n++124::32::r).length then Ks (· != 124) (n++124::32::r)+2 else 1)=_
   rw[d,if_pos (by simp)];simp
 | @list m hm=>
   have d:=G2 (p:=(· != 41)) (l:=40::m) (c:=41) (r:=32::r) (fun x hx=>by
    rcases Vz.1 hx with rfl|hx
    ·decide
    simpa using (hm x hx).1) (by simp)
   have e:40::(m++[41])++32::r=40::m++41::32::r:=by simp
   rw[e]
   show (if Ks (· != 41) (40::m++41::32::r)<(40::m++41::32::r).length then Ks (· != 41) (40::m++41::32::r)+1 else 0)=_
   rw[d,if_pos (by simp)];simp
theorem Mh {i:List UInt8}(h:Shape i){d:UInt8}(hd:d=32∨d=41)(r:List UInt8):Eg (i++d::r)=some i.length:=by
 cases h with
 | word hne hc=>
   have j:=G2 (p:=fun c=>c != 32&&c != 41) (l:=i) (c:=d) (r:=r) (fun x hx=>by simpa using ⟨(hc x hx).1,(hc x hx).2.1⟩) (by rcases hd with rfl|rfl<;>decide)
   cases i with
   | nil=>exact absurd rfl hne
   | cons c i=>
     have A:=hc c (by simp);unfold Eg
     split
     ·rename_i e;cases e
     ·rename_i e;simp only[Yu,List.cons.injEq] at e;exact absurd e.1 A.2.2.1
     ·rename_i e;simp only[Yu,List.cons.injEq] at e;exact absurd e.1 A.2.2.2
     rw[j]
 | @bars n hn=>
   have j:=G2 (p:=(· != 124)) (l:=n) (c:=124) (r:=d::r) (fun x hx=>by simpa using hn x hx) (by simp);have e:124::(n++[124])++d::r=124::(n++124::d::r):=by simp
   rw[e]
   show (if Ks (· != 124) (n++124::d::r)<(n++124::d::r).length then some (Ks (· != 124) (n++124::d::r)+2) else none)=_
   rw[j,if_pos (by simp)];simp
 | @list m hm=>
   have j:=G2 (p:=fun c=>c != 41&&c != 124) (l:=40::m) (c:=41) (r:=d::r) (fun x hx=>by
    rcases Vz.1 hx with rfl|hx
    ·decide
    simpa using hm x hx) (by simp)
   have e:40::(m++[41])++d::r=40::m++41::d::r:=by simp
   rw[e]
   show (if Ks (fun c=>c != 41&&c != 124) (40::m++41::d::r)<(40::m++41::d::r).length/\(40::m++41::d::r).getD (Ks (fun c=>c != 41&&c != 124) (40::m++41::d::r)) 0=41 then some (Ks (fun c=>c != 41&&c != 124) (40::m++41::d::r)+1) else none)=_
   rw[j,if_pos ⟨by simp,by simp[List.getD_eq_getElem?_getD]⟩];simp
def Nu (own:List UInt8->Bool)(t:List UInt8):SI:=
 if 8<t.length/\t.take 7=K4/\t.getLast? = some 41 then
  match Eg (t.drop 7) with
  | none=>SI.none
  | some k=>
    if (t.drop (7+k)).head? = some 32 then
     match Eg (t.drop (7+k+1)) with
     | none=>SI.none
     | some m=>
       if 7+k+1+m+1=t.length then
        if O0 (Od own ((t.drop 7).take k))&&O0 (Od own ((t.drop (7+k+1)).take m)) then ⟨6,0,(t.drop 7).take k,(t.drop (7+k+1)).take m⟩ else SI.none
       else SI.none
    else SI.none
 else Od own t
theorem DR {a b:Bool}(h:(a&&b)=true):a=true:=by cases a<;>simp_all
theorem DP {a b:Bool}(h:(a&&b)=true):b=true:=by cases b<;>simp_all
def RP (own:List UInt8->Bool)(t i e:List UInt8):Prop:=t=K4++(i++32::(e++[41]))/\O0 (Od own i)=true/\O0 (Od own e)=true
theorem Bq:K4.length=7:=rfl
theorem NP {own:List UInt8->Bool}{t i e:List UInt8}(h:RP own t i e):Ov own t=⟨6,0,i,e⟩:=by
 obtain⟨rfl,d,E⟩:=h;have j:(K4++(i++32::(e++[41]))).take 7=K4:=by rw[Zt (by decide)];rfl
 have A:(K4++(i++32::(e++[41]))).drop 7=i++32::(e++[41]):=by rw[<-Bq,List.drop_left]
 have h3:=Sa (Pk d) (e++[41]);simp only[Ov,j,if_true,A,h3,List.take_left,List.drop_left];rw[if_pos ⟨rfl,by simp,by rw[<-Yu];exact Vd⟩];have h4:List.dropLast (List.drop 1 (32::(e++[41])))=e:=by simp
 rw[h4,d,E];rfl
theorem Ir (own:List UInt8->Bool){t:List UInt8}(ht:t.take 7=K4):Ov own t=SI.none∨∃ i e,RP own t i e/\Ov own t=⟨6,0,i,e⟩:=by
 by_cases h:((t.drop 7).drop (K3 (t.drop 7))).head? = some 32/\2<=((t.drop 7).drop (K3 (t.drop 7))).length/\((t.drop 7).drop (K3 (t.drop 7))).getLast? = some 41
 ·by_cases j:(O0 (Od own ((t.drop 7).take (K3 (t.drop 7))))&&O0 (Od own ((((t.drop 7).drop (K3 (t.drop 7))).drop 1).dropLast)))=true
  ·refine .inr ⟨_,_,⟨?_,DR j,DP j⟩,?_⟩
   ·have E:t=K4++t.drop 7:=by rw[<-ht,Ze]
    have A:t.drop 7=(t.drop 7).take (K3 (t.drop 7))++(t.drop 7).drop (K3 (t.drop 7)):=(Ze _ _).symm;generalize (t.drop 7).drop (K3 (t.drop 7))=r at h A ⊢;generalize (t.drop 7).take (K3 (t.drop 7))=i at A ⊢;have G:r=32::((r.drop 1).dropLast++[41]):=by
     cases r with
     | nil=>simp at h
     | cons c r=>
       simp only[List.head?_cons,Option.some.injEq] at h;obtain⟨rfl,I,h3⟩:=h
       cases r with
       | nil=>simp at I
       | cons d r=>
         rw[List.getLast?_cons_cons] at h3;obtain⟨J,e⟩:=Zs.1 h3;rw[List.drop_one,List.tail_cons,e,Vc]
    rw[<-G,<-A];exact E
   unfold Ov;rw[if_pos ht];simp only[];rw[if_pos h,if_pos j]
  left
  unfold Ov;rw[if_pos ht];simp only[];rw[if_pos h,if_neg j]
 left
 unfold Ov;rw[if_pos ht];simp only[];rw[if_neg h]
theorem GU {own:List UInt8->Bool}{t i e:List UInt8}(h:RP own t i e):Nu own t=⟨6,0,i,e⟩:=by
 obtain⟨rfl,d,A⟩:=h;have G:(K4++(i++32::(e++[41]))).take 7=K4:=by rw[Zt (by decide)];rfl
 have j:(K4++(i++32::(e++[41]))).drop 7=i++32::(e++[41]):=by rw[<-Bq,List.drop_left]
 have h3:(K4++(i++32::(e++[41]))).drop (7+i.length)=32::(e++[41]):=by rw[<-Zu,j,List.drop_left]
 have h4:(K4++(i++32::(e++[41]))).drop (7+i.length+1)=e++[41]:=by rw[<-Zu,h3];rfl
 have h5:=Mh (Pk d) (.inl rfl) (e++[41]);have I:=Mh (Pk A) (.inr rfl) [];have J:(K4++(i++32::(e++[41]))).getLast? = some 41:=by
  have E:K4++(i++32::(e++[41]))=(K4++(i++32::e))++[41]:=by simp
  rw[E];exact Vd
 have K:(K4++(i++32::(e++[41]))).length=7+i.length+1+e.length+1:=by simp[Bq];omega
 have M:0<i.length:=by
  cases Pk d with
  | word hne _=>exact Zf.2 hne
  | bars _=>simp
  | list _=>simp
 unfold Nu;rw[if_pos ⟨by omega,G,J⟩,j,h5];simp only[h3,h4,I,K];rw[List.take_left,List.take_left,d,A];rfl
theorem NQ {own:List UInt8->Bool}{t:List UInt8}(ht:t.take 7=K4):Od own t=SI.none:=by
 obtain⟨r,rfl⟩:∃ r,t=K4++r:=⟨t.drop 7,by rw[<-ht,Ze]⟩;have E:¬ 0<E9 (K4++r):=by
  intro h;obtain⟨w,G,d,j,_⟩:=Gq h;have h3:=congrArg (List.take 2) j;have h4:∀ w:Fin 65,(Ni w.val).take 2≠[40,65]:=by decide +kernel
  exact h4 ⟨w,d⟩ h3.symm
 have A:Kr (K4++r)=false:=by
  have:E6 40=false:=by decide
  simp[Kr,K4,this]
 have hn:Ny (K4++r)=none:=by
  unfold Ny;rw[A];rfl
 unfold Od;rw[if_neg (by simp[K4,Oc]),if_neg (by simp[K4,Kn]),if_neg (by simp[K4,Ki]),if_neg E,hn]
theorem Fq {s:List UInt8}{k:Nat}(h:Eg s=some k):k<=s.length:=by
 unfold Eg at h
 split at h
 ·cases h
 ·simp only[] at h
  split at h
  ·rename_i hc;cases h;exact hc.1
  cases h
 ·simp only[] at h
  split at h
  ·rename_i hc;cases h;simp only[Yo];omega
  cases h
 cases h;exact UF _ _
theorem Wv (own:List UInt8->Bool){t:List UInt8}(ht:t.take 7=K4):Nu own t=SI.none∨∃ i e,RP own t i e/\Nu own t=⟨6,0,i,e⟩:=by
 by_cases hc:8<t.length/\t.take 7=K4/\t.getLast? = some 41
 ·unfold Nu;rw[if_pos hc]
  cases O:Eg (t.drop 7) with
  | none=>exact .inl rfl
  | some k=>
    simp only[]
    by_cases d:(t.drop (7+k)).head? = some 32
    ·rw[if_pos d]
     cases U:Eg (t.drop (7+k+1)) with
     | none=>exact .inl rfl
     | some m=>
       simp only[]
       by_cases E:7+k+1+m+1=t.length
       ·rw[if_pos E]
        by_cases j:(O0 (Od own ((t.drop 7).take k))&&O0 (Od own ((t.drop (7+k+1)).take m)))=true
        ·rw[if_pos j];refine .inr ⟨_,_,⟨?_,DR j,DP j⟩,rfl⟩;have I:t=K4++t.drop 7:=by rw[<-ht,Ze]
         have J:t.drop 7=(t.drop 7).take k++t.drop (7+k):=by rw[<-Zu,Ze]
         have K:t.drop (7+k)=32::t.drop (7+k+1):=by
          cases h:t.drop (7+k) with
          | nil=>rw[h] at d;simp at d
          | cons c q=>
            rw[h] at d;simp only[List.head?_cons,Option.some.injEq] at d;rw[<-Zu,h,d];rfl
         have A:t.drop (7+k+1)=(t.drop (7+k+1)).take m++t.drop (7+k+1+m):=by rw[<-Zu (i:=m),Ze]
         have M:t.drop (7+k+1+m)=[41]:=by
          have hl:(t.drop (7+k+1+m)).length=1:=by simp;omega
          have G:(t.drop (7+k+1+m)).getLast? = some 41:=by
           rw[List.getLast?_drop,if_neg (by omega)];exact hc.2.2
          cases h:t.drop (7+k+1+m) with
          | nil=>rw[h] at hl;simp at hl
          | cons c q=>
            rw[h] at hl G;have:q=[]:=Jv (by simpa using hl);subst this
            simpa using G
         rw[M] at A;rw[<-A,<-K,<-J];exact I
        rw[if_neg j];exact .inl rfl
       rw[if_neg E];exact .inl rfl
    rw[if_neg d];exact .inl rfl
 left
 unfold Nu;rw[if_neg hc];exact NQ ht
theorem M3 (own:List UInt8->Bool)(t:List UInt8):Nu own t=Ov own t:=by
 by_cases j:t.take 7=K4
 ·rcases Ir own j with d|⟨i,e,ha,d⟩
  ·rcases Wv own j with A|⟨i,e,ha,A⟩
   ·rw[d,A]
   rw[NP ha] at d;cases d
  rw[d,GU ha]
 unfold Nu Ov;rw[if_neg (fun h=>j h.2.1),if_neg j]
end Go.Proofs.YtipgjenolpofpaaGreatDoor
namespace Go.Proofs.YtipgjenolpofpaaGreatDoor
open ChangeShapes WideShapes ChangeAt RowKit Proofs.Tryz
theorem Oz {a b:Bool}(h:a=b):Ending.returned (.bool a)=.returned (.bool b):=by rw[h]
theorem G3 (s:ByteArray)(k:Nat)(h:k<s.size):s.data.toList.take (k+1)=s.data.toList.take k++[s[k]]:=by
 rw[Yd (by simpa using h)];rfl
theorem N6 {p:UInt8->Bool}{s:ByteArray}{k:Nat}(h:k<s.size)(hp:(s.data.toList.take k).all p=true)(h1:p s[k]=true):(s.data.toList.take (k+1)).all p=true:=by
 rw[G3 s k h,List.all_append,hp];simp[h1]
theorem Ia {p:UInt8->Bool}{s:ByteArray}{k:Nat}(h:k<s.size)(h1:p s[k]=false):s.data.toList.all p=false:=by
 rw[J9];intro ha;rw[Ju] at ha;have:=ha s[k] (by show s.data[k]∈_;exact Vw _);rw[h1] at this;cases this
theorem Cz {p:UInt8->Bool}{s:ByteArray}{k:Nat}(h:¬ k<s.size)(hp:(s.data.toList.take k).all p=true):s.data.toList.all p=true:=by
 rw[<-hp,Jn (by rw[<-Lib.size_eq];omega)]
theorem Q7 (c:UInt8):dg c=true↔48<=c.toNat/\c.toNat<=57:=by simp[dg]
theorem IN (c:UInt8):Hu c=true↔c.toNat=48∨c.toNat=49:=by simp[Hu]
theorem A5 (c:UInt8):Hs c=true↔((32<=c.toNat/\c.toNat<=126)/\c.toNat≠124)/\c.toNat≠92:=by simp[Hs,DM]
theorem Xn (c:UInt8)(w:World) :
 Calls prog 132 #[.int .u8 (c.toNat:Int)] w fun e w'=>e=.returned (.bool (dg c))/\w'=w:=by
 have d:Hid (dg c=true↔48<=c.toNat/\c.toNat<=57):=Q7 c
 go_in
 go_wp2
 all_goals go_ret
 all_goals (refine⟨Oz ?_,rfl⟩;rw[Yb,d.o];simp<;>omega)
theorem Ro (c:UInt8)(w:World) :
 Calls prog 179 #[.int .u8 (c.toNat:Int)] w fun e w'=>e=.returned (.bool (dg c))/\w'=w:=by
 have d:Hid (dg c=true↔48<=c.toNat/\c.toNat<=57):=Q7 c
 go_in
 go_wp2
 all_goals go_ret
 all_goals (refine⟨Oz ?_,rfl⟩;rw[Yb,d.o];simp<;>omega)
theorem S5 (c:UInt8)(w:World) :
 Calls prog 120 #[.int .u8 (c.toNat:Int)] w fun e w'=>e=.returned (.bool (Hu c))/\w'=w:=by
 have d:Hid (Hu c=true↔c.toNat=48∨c.toNat=49):=IN c
 go_in
 go_wp2
 all_goals go_ret
 all_goals (refine⟨Oz ?_,rfl⟩;rw[Yb,d.o];simp<;>omega)
theorem Xf (c:UInt8)(w:World) :
 Calls prog 130 #[.int .u8 (c.toNat:Int)] w fun e w'=>e=.returned (.bool (Hs c))/\w'=w:=by
 have d:Hid (Hs c=true↔((32<=c.toNat/\c.toNat<=126)/\c.toNat≠124)/\c.toNat≠92):=A5 c
 go_in
 go_wp2
 all_goals go_ret
 all_goals (refine⟨Oz ?_,rfl⟩;rw[Yb,d.o];simp<;>omega)
abbrev Q1:ByteArray:=⟨#[43,45,42,47,61,37,63,33,46,36,95,126,38,94,60,62,64]⟩
theorem Ma (c:UInt8):E6 c=true↔((97<=c.toNat/\c.toNat<=122)∨(65<=c.toNat/\c.toNat<=90)∨(48<=c.toNat/\c.toNat<=57))∨c∈Gj:=by
 simp[E6,dg,or_assoc]
theorem FB {a c:UInt8}(e:((a.toNat:Int)==(c.toNat:Int))=true):a=c:=by
 rw[Yc] at e;exact UInt8.toNat_inj.1 (by omega)
theorem FA {a c:UInt8}(e:((a.toNat:Int)==(c.toNat:Int))=false):a≠c:=by
 rw[Jc] at e;intro h;rw[h] at e;exact e rfl
theorem Iq:Q1.data.toList=Gj:=rfl
theorem XX {k:Nat}{c:UInt8}(h:k<Q1.size)(e:((Q1[k].toNat:Int)==(c.toNat:Int))=true):c∈Gj:=by
 rw[<-FB e,<-Iq]
 show Q1.data[k]∈_
 exact Vw _
theorem PT {k:Nat}{c:UInt8}(h:k<Q1.size)(e:((Q1[k].toNat:Int)==(c.toNat:Int))=false)(hp:c∉Gj.take k):c∉Gj.take (k+1):=by
 have:=G3 Q1 k h;rw[Iq] at this;rw[this,Z6,not_or];exact⟨hp,fun hc=>FA e (List.mem_singleton.1 hc).symm⟩
theorem Q0 (c:UInt8)(w:World) :
 Calls prog 146 #[.int .u8 (c.toNat:Int)] w fun e w'=>e=.returned (.bool (E6 c))/\w'=w:=by
 have j:Hid (E6 c=true↔((97<=c.toNat/\c.toNat<=122)∨(65<=c.toNat/\c.toNat<=90)∨(48<=c.toNat/\c.toNat<=57))∨c∈Gj):=Ma c
 go_in
 go_wp2
 all_goals first
  | (go_ret;refine⟨Oz ?_,rfl⟩;rw[Yb,j.o];simp;omega)
  | skip
 all_goals
  have M:Hid (¬((97<=c.toNat/\c.toNat<=122)∨(65<=c.toNat/\c.toNat<=90)∨(48<=c.toNat/\c.toNat<=57))):=by
   show ¬ _
   omega
  go_loop [4] (fun i=>∃ k:Nat,k<=17/\i=.int .i64 k/\c∉Gj.take k) (fun i=>17 - (intOf i).toNat)
  case atStart=>exact⟨0,Jy _,rfl,by simp⟩
  obtain⟨k,O,rfl,J⟩:=hrel;have I:=Hd J;clear J
  by_cases G:k<17
  ·have K:k<Q1.size:=G
   by_cases A:((Q1[k].toNat:Int)==(c.toNat:Int))=true
   ·have d:=XX K A
    go_wp2
    go_ret
    exact⟨Oz (j.o.2 (.inr d)).symm,rfl⟩
   have E:((Q1[k].toNat:Int)==(c.toNat:Int))=false:=by simpa using A
   have d:Hid (c∉Gj.take (k+1)):=PT K E I.o;clear A
   go_wp2
   go_round
   case rel=>exact⟨k+1,by omega,by go_num,d.o⟩
   simp[intOf];omega
  have d:Hid (c∉Gj):=by
   unfold Hid
   have:=I.o;rw[Jn (by show 17<=k;omega)] at this;exact this
  go_wp2
  go_ret
  exact⟨Oz (by symm;rw[J9];intro h;exact (j.o.1 h).elim M.o d.o),rfl⟩
theorem G5 (s:ByteArray)(c:Int)(w:World) :
 Calls prog 181 #[.string s,.int .u8 c] w fun e w'=>e=.returned (.int .i64 (Lib.indexByte s.data.toList c.toNat.toUInt8))/\w'=w:=by
 go_in
 go_wp2
 rw[run_callFunc_extern func200 (by kernel_rfl) (by kernel_rfl) (by kernel_rfl) (e:=Extern.BytealgIndexByte.indexByte) (by kernel_rfl),Lib.run_indexByteString];simp only[Result.andThen];rw[Oper.upon_value]
 go_wp2
 go_ret
 exact⟨rfl,rfl⟩
theorem OA {c:UInt8}(h:c∈Gj):decide (0<=Lib.indexByte Gj c)=true:=by
 rw[Js];have A:=Lib.indexByte_ge Gj c
 by_cases d:Lib.indexByte Gj c = -1
 ·obtain⟨k,j,e⟩:=Ya h;exact absurd (by rw[Jf j,e]) (Lib.indexByte_none d k)
 omega
theorem Bt {c:UInt8}(h:c∉Gj):decide (0<=Lib.indexByte Gj c)=false:=by
 rw[Jm];intro d;obtain⟨o,j⟩:=Zn d;have:=(Lib.indexByte_some j).1;exact h (Ve this)
theorem Qj (c:UInt8)(w:World) :
 Calls prog 180 #[.int .u8 (c.toNat:Int)] w fun e w'=>e=.returned (.bool (E6 c))/\w'=w:=by
 have j:Hid (E6 c=true↔((97<=c.toNat/\c.toNat<=122)∨(65<=c.toNat/\c.toNat<=90)∨(48<=c.toNat/\c.toNat<=57))∨c∈Gj):=Ma c;have E:Hid (((c.toNat:Int)).toNat.toUInt8=c):=by show _=_;simp
 by_cases d:c∈Gj
 ·have z:=OA d;have A:=d;clear d
  go_in
  go_wp2_with (first|(go_at_call 181;refine (G5 _ _ _).mono ?_;rintro e w' ⟨rfl,rfl⟩;rw[E.o,Iq])|go_in)
  all_goals go_ret
  all_goals exact⟨Oz (j.o.2 (.inr A)).symm,rfl⟩
 have z:=Bt d;have A:=Hd d;clear d
 go_in
 go_wp2_with (first|(go_at_call 181;refine (G5 _ _ _).mono ?_;rintro e w' ⟨rfl,rfl⟩;rw[E.o,Iq])|go_in)
 all_goals go_ret
 all_goals refine⟨Oz ?_,rfl⟩
 all_goals first
  | exact (j.o.2 (.inl (by omega))).symm
  | (have hn:E6 c=false:=by (rw[J9];intro h;exact (j.o.1 h).elim (by omega) A.o)
     rw[hn];simp;omega)
  | (have hn:E6 c=false:=by (rw[J9];intro h;exact (j.o.1 h).elim (by omega) A.o)
     rw[hn])
theorem P0 {p:UInt8->Bool}{s:ByteArray}{k:Nat}(h:k<s.size)(hp:(s.data.toList.take k).all p=true)(h1:p s[k]=false):Ks p s.data.toList=k:=by
 refine Ag (by rw[<-Lib.size_eq];omega) (fun j hj hji=>?_) (fun _=>h1);rw[Ju] at hp;refine hp _ ?_;rw[List.mem_take_iff_getElem];exact⟨j,by omega,rfl⟩
theorem Fw {p:UInt8->Bool}{s:ByteArray}{k:Nat}(h:¬ k<s.size)(hp:(s.data.toList.take k).all p=true):Ks p s.data.toList=s.size:=by
 rw[Ft (Cz h hp),Lib.size_eq]
theorem Fj (s:ByteArray)(w:World)(hs:s.size<=maxLen) :
 Calls prog 119 #[.func (.func 180) #[] #[],.string s] w fun e w'=>e=.returned (.int .i64 (Ks E6 s.data.toList:Nat))/\w'=w:=by
 unfold maxLen at hs
 go_in
 go_wp2
 go_loop [5] (fun i=>∃ k:Nat,k<=s.size/\i=.int .i64 k/\(s.data.toList.take k).all E6=true) (fun i=>s.size - (intOf i).toNat)
 case atStart=>exact⟨0,Jy _,rfl,rfl⟩
 obtain⟨k,E,rfl,A⟩:=hrel;have h:=Hd A;clear A
 by_cases d:k<s.size
 ·by_cases hc:E6 s[k]=true
  ·go_wp2_with (go_at_call 180;refine (Qj _ _).mono ?_;rintro e w' ⟨rfl,rfl⟩)
   go_round
   case rel=>exact⟨k+1,by omega,by go_num,N6 d h.o hc⟩
   simp[intOf];omega
  have j:E6 s[k]=false:=by simpa using hc
  clear hc
  go_wp2_with (go_at_call 180;refine (Qj _ _).mono ?_;rintro e w' ⟨rfl,rfl⟩)
  go_ret
  exact⟨by rw[P0 d h.o j];rfl,rfl⟩
 go_wp2
 go_ret
 exact⟨by rw[Fw d h.o];rfl,rfl⟩
theorem NW (s:ByteArray)(w:World)(hs:s.size<=maxLen) :
 Calls prog 119 #[.func (.func 130) #[] #[],.string s] w fun e w'=>e=.returned (.int .i64 (Ks Hs s.data.toList:Nat))/\w'=w:=by
 unfold maxLen at hs
 go_in
 go_wp2
 go_loop [5] (fun i=>∃ k:Nat,k<=s.size/\i=.int .i64 k/\(s.data.toList.take k).all Hs=true) (fun i=>s.size - (intOf i).toNat)
 case atStart=>exact⟨0,Jy _,rfl,rfl⟩
 obtain⟨k,E,rfl,A⟩:=hrel;have h:=Hd A;clear A
 by_cases d:k<s.size
 ·by_cases hc:Hs s[k]=true
  ·go_wp2_with (go_at_call 130;refine (Xf _ _).mono ?_;rintro e w' ⟨rfl,rfl⟩)
   go_round
   case rel=>exact⟨k+1,by omega,by go_num,N6 d h.o hc⟩
   simp[intOf];omega
  have j:Hs s[k]=false:=by simpa using hc
  clear hc
  go_wp2_with (go_at_call 130;refine (Xf _ _).mono ?_;rintro e w' ⟨rfl,rfl⟩)
  go_ret
  exact⟨by rw[P0 d h.o j];rfl,rfl⟩
 go_wp2
 go_ret
 exact⟨by rw[Fw d h.o];rfl,rfl⟩
theorem NJ (s:ByteArray)(w:World)(hs:s.size<=maxLen) :
 Calls prog 119 #[.func (.func 120) #[] #[],.string s] w fun e w'=>e=.returned (.int .i64 (Ks Hu s.data.toList:Nat))/\w'=w:=by
 unfold maxLen at hs
 go_in
 go_wp2
 go_loop [5] (fun i=>∃ k:Nat,k<=s.size/\i=.int .i64 k/\(s.data.toList.take k).all Hu=true) (fun i=>s.size - (intOf i).toNat)
 case atStart=>exact⟨0,Jy _,rfl,rfl⟩
 obtain⟨k,E,rfl,A⟩:=hrel;have h:=Hd A;clear A
 by_cases d:k<s.size
 ·by_cases hc:Hu s[k]=true
  ·go_wp2_with (go_at_call 120;refine (S5 _ _).mono ?_;rintro e w' ⟨rfl,rfl⟩)
   go_round
   case rel=>exact⟨k+1,by omega,by go_num,N6 d h.o hc⟩
   simp[intOf];omega
  have j:Hu s[k]=false:=by simpa using hc
  clear hc
  go_wp2_with (go_at_call 120;refine (S5 _ _).mono ?_;rintro e w' ⟨rfl,rfl⟩)
  go_ret
  exact⟨by rw[P0 d h.o j];rfl,rfl⟩
 go_wp2
 go_ret
 exact⟨by rw[Fw d h.o];rfl,rfl⟩
theorem Nj (d:ByteArray)(h:0<d.size):d.data.toList.head? = some d[0]:=by
 obtain⟨⟨l⟩⟩:=d
 cases l with
 | nil=>simp[ByteArray.size] at h
 | cons a l=>rfl
theorem Hm (d:ByteArray)(h:0<d.size):d.toList.isEmpty=false:=by
 rw[Jl];have:=Lib.size_eq d
 cases hl:d.data.toList with
 | nil=>exfalso;rw[hl] at this;simp only[Zh] at this;omega
 | cons _ _=>rfl
theorem Si {d:ByteArray}(h:d.size=0):d.data.toList=[]:=Jv (by rw[<-Lib.size_eq];exact h)
theorem Qo (d:ByteArray)(h:d.size=0):d.toList.isEmpty=true:=by
 rw[Jl,Si h];rfl
theorem RJ {d:ByteArray}(h:0<d.size):d.data.toList.isEmpty=false:=by rw[<-Jl];exact Hm d h
theorem Fl {s:ByteArray}(h:s.size=0):Kr s.data.toList=false:=by rw[Si h];rfl
theorem Mw {s:ByteArray}(h:0<s.size)(h1:dg s[0]=true):Kr s.data.toList=false:=by
 unfold Kr;rw[Nj s h];simp[h1]
theorem Dj {s:ByteArray}(h:0<s.size)(h1:dg s[0]=false):Kr s.data.toList=s.data.toList.all E6:=by
 unfold Kr;rw[Nj s h,RJ h];simp[h1]
theorem Da (s:ByteArray)(w:World)(hs:s.size<=maxLen) :
 Calls prog 133 #[.string s] w fun e w'=>e=.returned (.bool (Kr s.data.toList))/\w'=w:=by
 unfold maxLen at hs
 by_cases j:s.size=0
 ·have F:Hid (Kr s.data.toList=false):=Fl j;have z:((s.size:Int)==0)=true:=by rw[Yc];omega
  clear j
  go_in
  go_wp2
  go_ret
  exact⟨Oz F.o.symm,rfl⟩
 have h:0<s.size:=by omega
 have z:((s.size:Int)==0)=false:=by rw[Jc];omega
 clear j
 by_cases A:dg s[0]=true
 ·have F:Hid (Kr s.data.toList=false):=Mw h A
  go_in
  go_wp2_with (go_at_call 132;refine (Xn _ _).mono ?_;rintro e w' ⟨rfl,rfl⟩)
  go_ret
  exact⟨Oz F.o.symm,rfl⟩
 have E:dg s[0]=false:=by simpa using A
 have F:Hid (Kr s.data.toList=s.data.toList.all E6):=Dj h E;clear A
 go_in
 go_wp2_with (go_at_call 132;refine (Xn _ _).mono ?_;rintro e w' ⟨rfl,rfl⟩)
 go_loop [3] (fun i=>∃ k:Nat,k<=s.size/\i=.int .i64 k/\(s.data.toList.take k).all E6=true) (fun i=>s.size - (intOf i).toNat)
 case atStart=>exact⟨0,Jy _,rfl,rfl⟩
 obtain⟨k,J,rfl,h⟩:=hrel;have I:=Hd h;clear h
 by_cases d:k<s.size
 ·by_cases hc:E6 s[k]=true
  ·go_wp2_with (go_at_call 146;refine (Q0 _ _).mono ?_;rintro e w' ⟨rfl,rfl⟩)
   go_round
   case rel=>exact⟨k+1,by omega,by go_num,N6 d I.o hc⟩
   simp[intOf];omega
  have G:E6 s[k]=false:=by simpa using hc
  clear hc
  go_wp2_with (go_at_call 146;refine (Q0 _ _).mono ?_;rintro e w' ⟨rfl,rfl⟩)
  go_ret
  exact⟨Oz (by rw[F.o,Ia d G]),rfl⟩
 go_wp2
 go_ret
 exact⟨Oz (by rw[F.o,Cz d I.o]),rfl⟩
def Oo (l:List UInt8):ByteArray:=⟨l.toArray⟩
theorem Ou (l:List UInt8):(Oo l).data.toList=l:=by simp[Oo]
theorem Ko (s:ByteArray):Oo s.data.toList=s:=by simp[Oo]
theorem VV (s:ByteArray):(⟨#[124]⟩++s++⟨#[124]⟩:ByteArray)=Oo (124::(s.data.toList++[124])):=by
 apply ByteArray.ext;apply Array.ext';simp[Oo]
theorem Qm {s:ByteArray}(h:Kr s.data.toList=false):Ending.returned (.string (⟨#[124]⟩++s++⟨#[124]⟩))=.returned (.string (Oo (Ke 2 s.data.toList))):=by
 rw[VV];simp[Ke,h]
theorem Lv {s:ByteArray}(h:Kr s.data.toList=true):Ending.returned (.string s)=.returned (.string (Oo (Ke 2 s.data.toList))):=by
 have:Ke 2 s.data.toList=s.data.toList:=by simp[Ke,h]
 rw[this,Ko]
theorem B7 (s:ByteArray)(w:World)(hs:s.size<=20000) :
 Calls prog 150 #[.string s] w fun e w'=>e=.returned (.string (Oo (Ke 2 s.data.toList)))/\w'=w:=by
 have I:s.size<=maxLen:=by unfold maxLen;omega
 by_cases h:s.size=0
 ·have F:Hid (Kr s.data.toList=false):=Fl h;have z:=Qo s h;clear h
  go_in
  go_wp2
  go_ret
  exact⟨Qm F.o,rfl⟩
 have G:0<s.size:=by omega
 have z:=Hm s G;clear h
 by_cases A:dg s[0]=true
 ·have F:Hid (Kr s.data.toList=false):=Mw G A
  go_in
  go_wp2_with (go_at_call 179;refine (Ro _ _).mono ?_;rintro e w' ⟨rfl,rfl⟩)
  go_ret
  exact⟨Qm F.o,rfl⟩
 have E:dg s[0]=false:=by simpa using A
 have F:Hid (Kr s.data.toList=s.data.toList.all E6):=Dj G E;clear A
 by_cases d:s.data.toList.all E6=true
 ·have z2:((Ks E6 s.data.toList:Int)==(s.size:Int))=true:=by rw[Ft d,Lib.size_eq];simp
  have j:Hid (Kr s.data.toList=true):=F.o.trans d;clear d
  go_in
  go_wp2_with (first|(go_at_call 179;refine (Ro _ _).mono ?_;rintro e w' ⟨rfl,rfl⟩)|(go_at_call 119;refine (Fj _ _ I).mono ?_;rintro e w' ⟨rfl,rfl⟩))
  go_ret
  exact⟨Lv j.o,rfl⟩
 have z2:((Ks E6 s.data.toList:Int)==(s.size:Int))=false:=by
  rw[Jc];intro e;exact d (T7.1 (by rw[<-Lib.size_eq];omega))
 have j:Hid (Kr s.data.toList=false):=F.o.trans (by simpa using d);clear d
 go_in
 go_wp2_with (first|(go_at_call 179;refine (Ro _ _).mono ?_;rintro e w' ⟨rfl,rfl⟩)|(go_at_call 119;refine (Fj _ _ I).mono ?_;rintro e w' ⟨rfl,rfl⟩))
 go_ret
 exact⟨Qm j.o,rfl⟩
end Go.Proofs.YtipgjenolpofpaaGreatDoor
namespace Go.Proofs.YtipgjenolpofpaaGreatDoor
open ChangeShapes WideShapes ChangeAt RowKit
theorem Oy (w:World)(o:Obj):Up w (w.alloc o):=(Jh _ _).alloc Of o
theorem Om {B:Nat}{a w:World}(h:Below B a w)(hB:B<=w.heap.size)(o:Obj):Below B a (w.alloc o):=h.alloc hB o
def Bx (W:World)(g:Nat)(l:List Value):Prop:=∃ ty,W.heap[g]? = some (.cells l.toArray ty (0,0))
theorem Bx.lt {W:World}{g:Nat}{l:List Value}(h:Bx W g l):g<W.heap.size:=by
 obtain⟨t,h⟩:=h;exact (J1.1 h).1
theorem Bx.cell {W:World}{g:Nat}{l:List Value}(h:Bx W g l)(i:Nat):W.cell? ⟨g,i,none⟩=l[i]? := by
 obtain⟨t,h⟩:=h;simp[World.cell?,h]
theorem Bx.fz {W:World}{g:Nat}{l:List Value}(h:Bx W g l)(i:Nat):W.frozen? ⟨g,i,none⟩=false:=by
 obtain⟨t,h⟩:=h;simp[World.frozen?,h]
theorem Bx.set {W:World}{g:Nat}{l:List Value}(h:Bx W g l)(i:Nat)(v:Value):Bx (W.setCell ⟨g,i,none⟩ v) g (l.set i v):=by
 obtain⟨t,h⟩:=h;refine⟨t,?_⟩;obtain⟨d,j⟩:=J1.1 h
 show (W.heap.modify g _)[g]? = _
 rw[Vk (by rw[Z1];exact d),Vl,j];simp
theorem Bx.k2 {W:World}{g:Nat}{v0 v1:Value}{r:List Value}(h:Bx W g (v0::v1::r)):W.cell? ⟨g,0,none⟩=some v0/\W.cell? ⟨g,1,none⟩=some v1:=⟨h.cell 0,h.cell 1⟩
theorem Bx.k3 {W:World}{g:Nat}{v0 v1 v2:Value}{r:List Value}(h:Bx W g (v0::v1::v2::r)):W.cell? ⟨g,0,none⟩=some v0/\W.cell? ⟨g,1,none⟩=some v1/\W.cell? ⟨g,2,none⟩=some v2:=⟨h.cell 0,h.cell 1,h.cell 2⟩
theorem Bx.k4 {W:World}{g:Nat}{v0 v1 v2 v3:Value}{r:List Value}(h:Bx W g (v0::v1::v2::v3::r)):W.cell? ⟨g,0,none⟩=some v0/\W.cell? ⟨g,1,none⟩=some v1/\W.cell? ⟨g,2,none⟩=some v2/\W.cell? ⟨g,3,none⟩=some v3:=⟨h.cell 0,h.cell 1,h.cell 2,h.cell 3⟩
theorem Bx.k5 {W:World}{g:Nat}{v0 v1 v2 v3 v4:Value}{r:List Value}(h:Bx W g (v0::v1::v2::v3::v4::r)):W.cell? ⟨g,0,none⟩=some v0/\W.cell? ⟨g,1,none⟩=some v1/\W.cell? ⟨g,2,none⟩=some v2/\W.cell? ⟨g,3,none⟩=some v3/\W.cell? ⟨g,4,none⟩=some v4:=⟨h.cell 0,h.cell 1,h.cell 2,h.cell 3,h.cell 4⟩
theorem Bx.k6 {W:World}{g:Nat}{v0 v1 v2 v3 v4 v5:Value}{r:List Value}(h:Bx W g (v0::v1::v2::v3::v4::v5::r)):W.cell? ⟨g,0,none⟩=some v0/\W.cell? ⟨g,1,none⟩=some v1/\W.cell? ⟨g,2,none⟩=some v2/\W.cell? ⟨g,3,none⟩=some v3/\W.cell? ⟨g,4,none⟩=some v4/\W.cell? ⟨g,5,none⟩=some v5:=⟨h.cell 0,h.cell 1,h.cell 2,h.cell 3,h.cell 4,h.cell 5⟩
theorem Bx.f2 {W:World}{g:Nat}{r:List Value}(h:Bx W g r):W.frozen? ⟨g,0,none⟩=false/\W.frozen? ⟨g,1,none⟩=false:=⟨h.fz 0,h.fz 1⟩
theorem Bx.f3 {W:World}{g:Nat}{r:List Value}(h:Bx W g r):W.frozen? ⟨g,0,none⟩=false/\W.frozen? ⟨g,1,none⟩=false/\W.frozen? ⟨g,2,none⟩=false:=⟨h.fz 0,h.fz 1,h.fz 2⟩
theorem Bx.f4 {W:World}{g:Nat}{r:List Value}(h:Bx W g r):W.frozen? ⟨g,0,none⟩=false/\W.frozen? ⟨g,1,none⟩=false/\W.frozen? ⟨g,2,none⟩=false/\W.frozen? ⟨g,3,none⟩=false:=⟨h.fz 0,h.fz 1,h.fz 2,h.fz 3⟩
theorem Bx.f6 {W:World}{g:Nat}{r:List Value}(h:Bx W g r):W.frozen? ⟨g,0,none⟩=false/\W.frozen? ⟨g,1,none⟩=false/\W.frozen? ⟨g,2,none⟩=false/\W.frozen? ⟨g,3,none⟩=false/\W.frozen? ⟨g,4,none⟩=false/\W.frozen? ⟨g,5,none⟩=false:=⟨h.fz 0,h.fz 1,h.fz 2,h.fz 3,h.fz 4,h.fz 5⟩
theorem Bx.f7 {W:World}{g:Nat}{r:List Value}(h:Bx W g r):W.frozen? ⟨g,0,none⟩=false/\W.frozen? ⟨g,1,none⟩=false/\W.frozen? ⟨g,2,none⟩=false/\W.frozen? ⟨g,3,none⟩=false/\W.frozen? ⟨g,4,none⟩=false/\W.frozen? ⟨g,5,none⟩=false/\W.frozen? ⟨g,6,none⟩=false:=⟨h.fz 0,h.fz 1,h.fz 2,h.fz 3,h.fz 4,h.fz 5,h.fz 6⟩
theorem Bx.other {W:World}{g:Nat}{l:List Value}(h:Bx W g l)(p:Addr)(hp:p.block≠g)(v:Value):Bx (W.setCell p v) g l:=by
 obtain⟨t,h⟩:=h;exact⟨t,(Jq W p v g (fun e=>hp e.symm)).trans h⟩
theorem Bx.bl {W W':World}{g N:Nat}{l:List Value}(h:Bx W g l)(hN:g<N)(hb:Below N W W'):Bx W' g l:=by
 obtain⟨t,h⟩:=h;exact⟨t,(hb.block g hN).trans h⟩
theorem Bx.alloc {W:World}{g:Nat}{l:List Value}(h:Bx W g l)(o:Obj):Bx (W.alloc o) g l:=h.bl h.lt (Oy W o)
theorem Bx.drew {W:World}{g:Nat}{l:List Value}(h:Bx W g l):Bx W.drew g l:=h.bl h.lt (Jh _ W).drew
theorem Oi (W:World)(l:List Value)(ty:TypeId):Bx (W.alloc (.cells l.toArray ty)) W.heap.size l:=⟨ty,Array.getElem?_push_size⟩
theorem Bx.c2 {W:World}{g:Nat}{v0 v1:Value}{r:List Value}(h:Bx W g (v0::v1::r)):W.cell? ⟨g,0,none⟩=some v0/\W.cell? ⟨g,1,none⟩=some v1:=⟨h.cell 0,h.cell 1⟩
theorem Bx.c3 {W:World}{g:Nat}{v0 v1 v2:Value}{r:List Value}(h:Bx W g (v0::v1::v2::r)):W.cell? ⟨g,0,none⟩=some v0/\W.cell? ⟨g,1,none⟩=some v1/\W.cell? ⟨g,2,none⟩=some v2:=⟨h.cell 0,h.cell 1,h.cell 2⟩
theorem Bx.c4 {W:World}{g:Nat}{v0 v1 v2 v3:Value}{r:List Value}(h:Bx W g (v0::v1::v2::v3::r)):W.cell? ⟨g,0,none⟩=some v0/\W.cell? ⟨g,1,none⟩=some v1/\W.cell? ⟨g,2,none⟩=some v2/\W.cell? ⟨g,3,none⟩=some v3:=⟨h.cell 0,h.cell 1,h.cell 2,h.cell 3⟩
end Go.Proofs.YtipgjenolpofpaaGreatDoor
namespace Go.Proofs.YtipgjenolpofpaaGreatDoor
open ChangeShapes WideShapes ChangeAt RowKit Proofs.Tryz
theorem Pe {s:ByteArray}(h:s.size=0∨60<s.size):E3 s.data.toList=false:=by
 unfold E3;rw[<-Lib.size_eq]
 rcases h with h|h
 ·rw[Jg (by omega)];rfl
 rw[Jg (p:=s.size<=60) (by omega)];simp
theorem Wu {s:ByteArray}(h:0<s.size)(h1:s.size<=60):E3 s.data.toList=s.data.toList.all Hs:=by
 unfold E3;rw[<-Lib.size_eq,Jb h,Jb h1];rfl
theorem Ej (s:ByteArray)(w:World)(hs:s.size<=maxLen) :
 Calls prog 65 #[.string s] w fun e w'=>e=.returned (.bool (E3 s.data.toList))/\w'=w:=by
 unfold maxLen at hs
 by_cases I:s.size=0
 ·have F:Hid (E3 s.data.toList=false):=Pe (.inl I)
  go_in
  go_wp2
  go_ret
  exact⟨Oz F.o.symm,rfl⟩
 by_cases J:60<s.size
 ·have F:Hid (E3 s.data.toList=false):=Pe (.inr J)
  go_in
  go_wp2
  go_ret
  exact⟨Oz F.o.symm,rfl⟩
 have F:Hid (E3 s.data.toList=s.data.toList.all Hs):=Wu (by omega) (by omega)
 go_in
 go_wp2
 go_loop [3] (fun i=>∃ k:Nat,k<=s.size/\i=.int .i64 k/\(s.data.toList.take k).all Hs=true) (fun i=>s.size - (intOf i).toNat)
 case atStart=>exact⟨0,Jy _,rfl,rfl⟩
 obtain⟨k,K,rfl,E⟩:=hrel;have A:=Hd E;clear E
 by_cases d:k<s.size
 ·have j:Hid (Hs s[k]=true↔((32<=s[k].toNat/\s[k].toNat<=126)/\s[k].toNat≠124)/\s[k].toNat≠92):=A5 s[k]
  by_cases c1:s[k].toNat<32
  ·have hb:Hs s[k]=false:=by rw[J9];intro h;have:=j.o.1 h;omega
   go_wp2
   go_ret
   exact⟨Oz (by rw[F.o,Ia d hb]),rfl⟩
  by_cases c2:126<s[k].toNat
  ·have hb:Hs s[k]=false:=by rw[J9];intro h;have:=j.o.1 h;omega
   go_wp2
   go_ret
   exact⟨Oz (by rw[F.o,Ia d hb]),rfl⟩
  by_cases c3:s[k].toNat=124
  ·have hb:Hs s[k]=false:=by rw[J9];intro h;have:=j.o.1 h;omega
   have z3:((s[k].toNat:Int)==124)=true:=by rw[Yc];omega
   clear c3
   go_wp2
   go_ret
   exact⟨Oz (by rw[F.o,Ia d hb]),rfl⟩
  have z3:((s[k].toNat:Int)==124)=false:=by rw[Jc];omega
  by_cases c4:s[k].toNat=92
  ·have hb:Hs s[k]=false:=by rw[J9];intro h;have:=j.o.1 h;omega
   have z4:((s[k].toNat:Int)==92)=true:=by rw[Yc];omega
   clear c4
   go_wp2
   go_ret
   exact⟨Oz (by rw[F.o,Ia d hb]),rfl⟩
  have z4:((s[k].toNat:Int)==92)=false:=by rw[Jc];omega
  have G:Hid (Hs s[k]=true):=j.o.2 ⟨⟨⟨by omega,by omega⟩,c3⟩,c4⟩
  go_wp2
  go_round
  case rel=>exact⟨k+1,by omega,by go_num,N6 d A.o G.o⟩
  simp[intOf];omega
 go_wp2
 go_ret
 exact⟨Oz (by rw[F.o,Cz d A.o]),rfl⟩
end Go.Proofs.YtipgjenolpofpaaGreatDoor
