import Derived.Test.YtfkagjelljnpdaaGreatDoorP00
import Derived.Test.YtfkagjelljnpdaaGreatDoorRows
import Derived.WalkSpells
import Derived.ProofKit
import Derived.OpenShut
import Derived.ShutString
import Derived.Lib.Strings
import Derived.Lib.IndexBytes
import Derived.Lib.IndexLaws
import Derived.Lib.Bytealg
set_option maxRecDepth 100000
set_option maxHeartbeats 1000000
namespace Go.Proofs.YtfkagjelljnpdaaGreatDoor
open ChangeShapes WideShapes ChangeAt RowKit
variable {i l t:List UInt8}
def Ud(p:UInt8->Bool):List UInt8->Nat
 | []=>0
 | c::r=>if p c then Ud p r+1 else 0
theorem UL(p:UInt8->Bool)(l:List UInt8):Ud p l<=l.length:=by
 induction l with
 | nil=>exact leR
 | cons c r ih=>unfold Ud;split<;>simp<;>omega
theorem Fi{p:UInt8->Bool}(h:l.all p=true):Ud p l=l.length:=by
 induction l with
 | nil=>rfl
 | cons c r ih=>
   simp only[List.all_cons,Jw]at h;unfold Ud;rw[if_pos h.1,ih h.2];rfl
theorem Wv{p:UInt8->Bool}(h:Ud p l=l.length):l.all p=true:=by
 induction l with
 | nil=>rfl
 | cons c r ih=>
   unfold Ud at h
   split at h
   ·rename_i hc;simp only[Yo,Nat.add_right_cancel_iff]at h;simp[hc,ih h]
   simp at h
theorem Wu{p:UInt8->Bool}:Ud p l=l.length↔l.all p=true:=⟨Wv,Fi⟩
theorem Ak{p:UInt8->Bool}:∀ {l:List UInt8} {i:Nat},i<=l.length->(∀j (h:j<l.length),j<i->p l[j]=true)->(∀h:i<l.length,p l[i]=false)->Ud p l=i
 | [],i,hi,_,_=>by simp at hi;subst hi;rfl
 | c::r,0,_,_,h=>by
   have:=h (by simp)
   unfold Ud;rw[if_neg (by simpa using this)]
 | c::r,i+1,hi,ha,h=>by
   have q:=ha 0 (by simp) (by omega)
   simp only[Vl]at q
   unfold Ud;rw[if_pos q,Ak (l:=r) (i:=i) (by simpa using hi) (fun j hj hji=>?_) (fun hj=>?_)]
   ·have:=ha (j+1) (by simpa using hj) (by omega)
    simpa using this
   have:=h (by simpa using hj)
   simpa using this
def dg(c:UInt8):Bool:=decide (48<=c.toNat)&&decide (c.toNat<=57)
def Gt(c:UInt8):Bool:=decide (c.toNat=48)||decide (c.toNat=49)
def FO(c:UInt8):Bool:=decide (32<=c.toNat)&&decide (c.toNat<=126)
def Hu(c:UInt8):Bool:=FO c&&!decide (c.toNat=124)&&!decide (c.toNat=92)
def Gz:List UInt8:=[43,45,42,47,61,37,63,33,46,36,95,126,38,94,60,62,64]
def K2(c:UInt8):Bool:=(decide (97<=c.toNat)&&decide (c.toNat<=122))||(decide (65<=c.toNat)&&decide (c.toNat<=90))||dg c||Gz.contains c
def MJ:List UInt8->List UInt8
 | []=>[]
 | c::r=>if c=34 then 34::34::MJ r else c::MJ r
def Uv(t:List UInt8):Bool:=!t.isEmpty&&!(t.head?.any dg)&&t.all K2
def V8(kind:Int)(t:List UInt8):List UInt8:=
 if kind=1 then [40]
 else if kind=2 then(if Uv t then t else 124::(t++[124]))
 else if kind=3∨kind=4 then t
 else if kind=5 then 35::98::t
 else if kind=6 then 34::(MJ t++[34])
 else if kind=7 then 58::t
 else []
def Kj(l:List UInt8):Bool:=decide (0<l.length)&&decide (l.length<=60)&&l.all Hu
def V7:List (List UInt8):=[[66,111,111,108],[73,110,116],[82,101,97,108],[66,105,116,86,101,99],[65,114,114,97,121],[95],[108,101,116],[97,115],[116,114,117,101],[102,97,108,115,101],[110,111,116],[97,110,100],[111,114],[120,111,114],[61,62],[105,116,101],[61],[100,105,115,116,105,110,99,116],[43],[45],[42],[47],[60,61],[60],[62,61],[62],[100,105,118],[109,111,100],[116,111,95,114,101,97,108],[115,101,108,101,99,116],[115,116,111,114,101],[99,111,110,99,97,116],[101,120,116,114,97,99,116],[122,101,114,111,95,101,120,116,101,110,100],[115,105,103,110,95,101,120,116,101,110,100],[114,111,116,97,116,101,95,108,101,102,116],[114,111,116,97,116,101,95,114,105,103,104,116],[114,101,112,101,97,116]]
def PS(l:List UInt8):Bool:=decide (l.take 2=[98,118])
def N7(l:List UInt8):Bool:=PS l||V7.contains l
def K1(l:List UInt8):Bool:=Kj l&&!N7 l
structure SI where
 kind:Int
 width:Nat
 index:List UInt8
 elem:List UInt8
def SI.none:SI:=⟨0,0,[],[]⟩
def Ok:List UInt8:=[66,111,111,108]
def Uu:List UInt8:=[73,110,116]
def Ui:List UInt8:=[82,101,97,108]
def F8:List UInt8:=[40,95,32,66,105,116,86,101,99,32]
def U0:List UInt8:=[40,65,114,114,97,121,32]
def Le(w:Nat):List UInt8:=if w<10 then [UInt8.ofNat (48+w)]else [UInt8.ofNat (48+w / 10),UInt8.ofNat (48+w % 10)]
def Ex(w:Nat):List UInt8:=F8++Le w++[41]
def K3(t:List UInt8):Nat:=((List.range 65).find? (fun w=>decide (0<w)&&decide (Ex w=t))).getD 0
def Ee(t:List UInt8):Option (List UInt8):=
 if Uv t then some t
 else match t with
  | 124::r=>if r.getLast? = some 124/\Uv r.dropLast=false then some r.dropLast else none
  | _=>none
def Oi(own:List UInt8->Bool)(t:List UInt8):SI:=
 if t=Ok then⟨1,0,[],[]⟩
 else if t=Uu then⟨2,0,[],[]⟩
 else if t=Ui then⟨3,0,[],[]⟩
 else if 0<K3 t then⟨4,K3 t,[],[]⟩
 else match Ee t with
  | some n=>if Kj n&&own n then⟨5,0,[],[]⟩else SI.none
  | none=>SI.none
def Of(s:SI):Bool:=decide (2<=s.kind)&&decide (s.kind<=5)
def Uj(t:List UInt8):Nat:=
 match t with
 | 124::r=>if Ud (· != 124) r<r.length then Ud (· != 124) r+2 else 1
 | 40::_=>if Ud (· != 41) t<t.length then Ud (· != 41) t+1 else 0
 | _=>if Ud (· != 32) t<t.length then Ud (· != 32) t else 0
def Ou(own:List UInt8->Bool)(t:List UInt8):SI:=
 if t.take 7=U0 then
  let both:=t.drop 7
  let i:=both.take (Uj both)
  let r:=both.drop (Uj both)
  if r.head? = some 32/\2<=r.length/\r.getLast? = some 41 then
   let e:=(r.drop 1).dropLast
   if Of (Oi own i)&&Of (Oi own e)then⟨6,0,i,e⟩else SI.none
  else SI.none
 else Oi own t
theorem H9{p:UInt8->Bool}(h:∀n:Fin 256,p (UInt8.ofNat n.val)=true)(c:UInt8):p c=true:=by
 have e:UInt8.ofNat c.toNat=c:=by simp
 have:=h ⟨c.toNat,c.toNat_lt⟩
 simpa[e]using this
theorem NI{c:UInt8}(h:K2 c=true):c≠32/\c≠41/\c≠40/\c≠124:=by
 have k:=H9 (p:=fun c=>!K2 c||(decide (c≠32)&&decide (c≠41)&&decide (c≠40)&&decide (c≠124))) (by decide +kernel) c;simp only[h,Bool.not_true,Bool.false_or,Jw,J1]at k;exact⟨k.1.1.1,k.1.1.2,k.1.2,k.2⟩
theorem A7{c:UInt8}(h:Hu c=true):c≠124:=by
 have k:=H9 (p:=fun c=>!Hu c||decide (c≠124)) (by decide +kernel) c
 simpa[h]using k
theorem Gi{p:UInt8->Bool}:∀ {l:List UInt8} {c:UInt8} {r:List UInt8},(∀x∈l,p x=true)->p c=false->Ud p (l++c::r)=l.length
 | [],c,r,_,hc=>by simp[Ud,hc]
 | x::l,c,r,h,hc=>by
   have hx:=h x (by simp)
   have j:=Gi (l:=l) (r:=r) (fun y hy=>h y (by simp[hy])) hc
   simp[Ud,hx,j]
def Q6(t:List UInt8):Prop:=(t≠[]/\∀c∈t,c≠32/\c≠41/\c≠40/\c≠124)∨(∃n,t=124::(n++[124])/\∀c∈n,c≠124)∨∃m,t=40::(m++[41])/\∀c∈m,c≠41/\c≠124
theorem Q6.word(h:t≠[])(h1:∀c∈t,c≠32/\c≠41/\c≠40/\c≠124):Q6 t:=.inl ⟨h,h1⟩
theorem Q6.bars{n:List UInt8}(h:∀c∈n,c≠124):Q6 (124::(n++[124])):=.inr (.inl ⟨n,rfl,h⟩)
theorem Q6.list{m:List UInt8}(h:∀c∈m,c≠41/\c≠124):Q6 (40::(m++[41])):=.inr (.inr ⟨m,rfl,h⟩)
theorem Ns(h:0<K3 t):∃w,0<w/\w<65/\t=Ex w/\K3 t=w:=by
 unfold K3 at h ⊢
 cases q:(List.range 65).find? (fun w=>decide (0<w)&&decide (Ex w=t))with
 | none=>rw[q]at h;simp at h
 | some w=>
   have j:=List.find?_some q;have E:=List.mem_of_find?_eq_some q;simp only[Jw,J1]at j;exact⟨w,j.1,by simpa using E,j.2.symm,rfl⟩
def midT(w:Nat):List UInt8:=F8.drop 1++Le w
theorem XO:∀w:Fin 65,Ex w.val=40::(midT w.val++[41])/\∀c∈midT w.val,c≠41/\c≠124:=by decide +kernel
theorem Ij{n:List UInt8}(h:Ee t=some n):(Uv t=true/\t=n)∨(Uv n=false/\t=124::(n++[124])):=by
 unfold Ee at h
 by_cases hp:Uv t=true
 ·rw[if_pos hp]at h;cases h;exact .inl ⟨hp,rfl⟩
 rw[if_neg hp]at h
 split at h
 ·rename_i r
  split at h
  ·rename_i hc;cases h;refine .inr ⟨hc.2,?_⟩;obtain⟨j,e⟩:=Zn.1 hc.1;rw[e,Zx]
  cases h
 cases h
theorem Fz(h:Uv t=true):t≠[]/\∀c∈t,K2 c=true:=by
 simp only[Uv,Jw,Z8]at h;exact⟨by rintro rfl;simp at h,Jx.1 h.2⟩
theorem Rf{own:List UInt8->Bool}(h:Of (Oi own t)=true):Q6 t:=by
 unfold Oi at h
 by_cases J:t=Ok
 ·rw[if_pos J]at h;simp[Of]at h
 rw[if_neg J]at h
 by_cases K:t=Uu
 ·subst K;exact .word (by decide) (by decide)
 rw[if_neg K]at h
 by_cases O:t=Ui
 ·subst O;exact .word (by decide) (by decide)
 rw[if_neg O]at h
 by_cases R:0<K3 t
 ·obtain⟨w,Y,V,rfl,_⟩:=Ns R;have:=XO ⟨w,V⟩;rw[this.1];exact .list this.2
 rw[if_neg R]at h
 cases hn:Ee t with
 | none=>rw[hn]at h;simp[Of,SI.none]at h
 | some n=>
   rw[hn]at h
   by_cases E:(Kj n&&own n)=true
   ·have G:∀c∈n,Hu c=true:=by
     simp only[Kj,Jw]at E;exact Jx.1 E.1.2
    rcases Ij hn with⟨hp,rfl⟩|⟨hp,rfl⟩
    ·obtain⟨q,j⟩:=Fz hp;exact .word q (fun c hc=>NI (j c hc))
    exact .bars (fun c hc=>A7 (G c hc))
   simp only[E]at h;simp[Of,SI.none]at h
def U8(s:List UInt8):Option Nat:=
 match s with
 | []=>none
 | 40::_=>let n:=Ud (fun c=>c != 41&&c != 124) s;if n<s.length/\s.getD n 0=41 then some (n+1)else none
 | 124::r=>let n:=Ud (· != 124) r;if n<r.length then some (n+2)else none
 | _=>some (Ud (fun c=>c != 32&&c != 41) s)
theorem Sf(h:Q6 i)(r:List UInt8):Uj (i++32::r)=i.length:=by
 rcases h with⟨q,G⟩|⟨n,rfl,hn⟩|⟨m,rfl,hm⟩
 ·
  have j:=Gi (p:=(· != 32)) (l:=i) (c:=32) (r:=r) (fun x hx=>by simpa using(G x hx).1) (by simp)
  cases i with
  | nil=>exact absurd rfl q
  | cons c i=>
    have E:=G c (by simp);have J:i.length+1<i.length+(r.length+1)+1:=by omega
    unfold Uj
    split
    ·rename_i e;simp only[Y4,List.cons.injEq]at e;exact absurd e.1 E.2.2.2
    ·rename_i e;simp only[Y4,List.cons.injEq]at e;exact absurd e.1 E.2.2.1
    rw[j,if_pos (by simp)]
 ·
  have j:=Gi (p:=(· != 124)) (l:=n) (c:=124) (r:=32::r) (fun x hx=>by simpa using hn x hx) (by simp);have e:124::(n++[124])++32::r=124::(n++124::32::r):=by simp
  rw[e]
  show(if Ud (· != 124) (n++124::32::r)<(n++124::32::r).length then Ud (· != 124) (n++124::32::r)+2 else 1)=_
  rw[j,if_pos (by simp)];simp
 have j:=Gi (p:=(· != 41)) (l:=40::m) (c:=41) (r:=32::r) (fun x hx=>by
  rcases Ym.1 hx with rfl|hx
  ·decide
  simpa using(hm x hx).1) (by simp)
 have e:40::(m++[41])++32::r=40::m++41::32::r:=by simp
 rw[e]
 show(if Ud (· != 41) (40::m++41::32::r)<(40::m++41::32::r).length then Ud (· != 41) (40::m++41::32::r)+1 else 0)=_
 rw[j,if_pos (by simp)];simp
theorem L5(h:Q6 i){d:UInt8}(hd:d=32∨d=41)(r:List UInt8):U8 (i++d::r)=some i.length:=by
 rcases h with⟨E,q⟩|⟨n,rfl,hn⟩|⟨m,rfl,hm⟩
 ·
  have j:=Gi (p:=fun c=>c != 32&&c != 41) (l:=i) (c:=d) (r:=r) (fun x hx=>by simpa using⟨(q x hx).1,(q x hx).2.1⟩) (by rcases hd with rfl|rfl<;>decide)
  cases i with
  | nil=>exact absurd rfl E
  | cons c i=>
    have G:=q c (by simp);unfold U8
    split
    ·rename_i e;cases e
    ·rename_i e;simp only[Y4,List.cons.injEq]at e;exact absurd e.1 G.2.2.1
    ·rename_i e;simp only[Y4,List.cons.injEq]at e;exact absurd e.1 G.2.2.2
    rw[j]
 ·
  have j:=Gi (p:=(· != 124)) (l:=n) (c:=124) (r:=d::r) (fun x hx=>by simpa using hn x hx) (by simp);have e:124::(n++[124])++d::r=124::(n++124::d::r):=by simp
  rw[e]
  show(if Ud (· != 124) (n++124::d::r)<(n++124::d::r).length then some (Ud (· != 124) (n++124::d::r)+2)else none)=_
  rw[j,if_pos (by simp)];simp
 have j:=Gi (p:=fun c=>c != 41&&c != 124) (l:=40::m) (c:=41) (r:=d::r) (fun x hx=>by
  rcases Ym.1 hx with rfl|hx
  ·decide
  simpa using hm x hx) (by simp)
 have e:40::(m++[41])++d::r=40::m++41::d::r:=by simp
 rw[e]
 show(if Ud (fun c=>c != 41&&c != 124) (40::m++41::d::r)<(40::m++41::d::r).length/\(40::m++41::d::r).getD (Ud (fun c=>c != 41&&c != 124) (40::m++41::d::r)) 0=41 then some (Ud (fun c=>c != 41&&c != 124) (40::m++41::d::r)+1)else none)=_
 rw[j,if_pos ⟨by simp,by simp[List.getD_eq_getElem?_getD]⟩];simp
def Ec(own:List UInt8->Bool)(t:List UInt8):SI:=
 if 8<t.length/\t.take 7=U0/\t.getLast? = some 41 then
  match U8 (t.drop 7)with
  | none=>SI.none
  | some k=>
    if(t.drop (7+k)).head? = some 32 then
     match U8 (t.drop (7+k+1))with
     | none=>SI.none
     | some m=>
       if 7+k+1+m+1=t.length then
        if Of (Oi own ((t.drop 7).take k))&&Of (Oi own ((t.drop (7+k+1)).take m))then⟨6,0,(t.drop 7).take k,(t.drop (7+k+1)).take m⟩else SI.none
       else SI.none
    else SI.none
 else Oi own t
theorem CB{a b:Bool}(h:(a&&b)=true):a=true:=by cases a<;>simp_all
theorem CA{a b:Bool}(h:(a&&b)=true):b=true:=by cases b<;>simp_all
def PX(own:List UInt8->Bool)(t i e:List UInt8):Prop:=t=U0++(i++32::(e++[41]))/\Of (Oi own i)=true/\Of (Oi own e)=true
theorem Bg:U0.length=7:=rfl
theorem GE{own:List UInt8->Bool}{e:List UInt8}(h:PX own t i e):Ou own t=⟨6,0,i,e⟩:=by
 obtain⟨rfl,j,K⟩:=h;have q:(U0++(i++32::(e++[41]))).take 7=U0:=by rw[Zo (by decide)];rfl
 have E:(U0++(i++32::(e++[41]))).drop 7=i++32::(e++[41]):=by rw[<-Bg,List.drop_left]
 have G:=Sf (Rf j) (e++[41]);simp only[Ou,q,if_true,E,G,List.take_left,List.drop_left];rw[if_pos ⟨rfl,by simp,by rw[<-Y4];exact Zy⟩];have J:List.dropLast (List.drop 1 (32::(e++[41])))=e:=by simp
 rw[J,j,K];rfl
theorem Ht(own:List UInt8->Bool)(ht:t.take 7=U0):Ou own t=SI.none∨∃i e,PX own t i e/\Ou own t=⟨6,0,i,e⟩:=by
 by_cases h:((t.drop 7).drop (Uj (t.drop 7))).head? = some 32/\2<=((t.drop 7).drop (Uj (t.drop 7))).length/\((t.drop 7).drop (Uj (t.drop 7))).getLast? = some 41
 ·by_cases hp:(Of (Oi own ((t.drop 7).take (Uj (t.drop 7))))&&Of (Oi own ((((t.drop 7).drop (Uj (t.drop 7))).drop 1).dropLast)))=true
  ·refine .inr ⟨_,_,⟨?_,CB hp,CA hp⟩,?_⟩
   ·have E:t=U0++t.drop 7:=by rw[<-ht,Y2]
    have j:t.drop 7=(t.drop 7).take (Uj (t.drop 7))++(t.drop 7).drop (Uj (t.drop 7)):=(Y2 _ _).symm;generalize (t.drop 7).drop (Uj (t.drop 7))=r at h j ⊢;generalize (t.drop 7).take (Uj (t.drop 7))=i at j ⊢;have G:r=32::((r.drop 1).dropLast++[41]):=by
     cases r with
     | nil=>simp at h
     | cons c r=>
       simp only[List.head?_cons,Option.some.injEq]at h;obtain⟨rfl,J,q⟩:=h
       cases r with
       | nil=>simp at J
       | cons d r=>
         rw[List.getLast?_cons_cons]at q;obtain⟨K,e⟩:=Zn.1 q;rw[List.drop_one,List.tail_cons,e,Zx]
    rw[<-G,<-j];exact E
   unfold Ou;rw[if_pos ht];simp only[];rw[if_pos h,if_pos hp]
  left
  unfold Ou;rw[if_pos ht];simp only[];rw[if_pos h,if_neg hp]
 left
 unfold Ou;rw[if_pos ht];simp only[];rw[if_neg h]
theorem GA{own:List UInt8->Bool}{e:List UInt8}(h:PX own t i e):Ec own t=⟨6,0,i,e⟩:=by
 obtain⟨rfl,j,J⟩:=h;have O:(U0++(i++32::(e++[41]))).take 7=U0:=by rw[Zo (by decide)];rfl
 have E:(U0++(i++32::(e++[41]))).drop 7=i++32::(e++[41]):=by rw[<-Bg,List.drop_left]
 have G:(U0++(i++32::(e++[41]))).drop (7+i.length)=32::(e++[41]):=by rw[<-Zr,E,List.drop_left]
 have R:(U0++(i++32::(e++[41]))).drop (7+i.length+1)=e++[41]:=by rw[<-Zr,G];rfl
 have V:=L5 (Rf j) (.inl rfl) (e++[41]);have h6:=L5 (Rf J) (.inr rfl) [];have Y:(U0++(i++32::(e++[41]))).getLast? = some 41:=by
  have K:U0++(i++32::(e++[41]))=(U0++(i++32::e))++[41]:=by simp
  rw[K];exact Zy
 have Z:(U0++(i++32::(e++[41]))).length=7+i.length+1+e.length+1:=by simp[Bg];omega
 have hz:0<i.length:=by
  rcases Rf j with⟨q,_⟩|⟨_,rfl,_⟩|⟨_,rfl,_⟩
  ·exact List.length_pos_iff.2 q
  ·simp
  simp
 unfold Ec;rw[if_pos ⟨by omega,O,Y⟩,E,V];simp only[G,R,h6,Z];rw[List.take_left,List.take_left,j,J];rfl
theorem GU{own:List UInt8->Bool}(ht:t.take 7=U0):Oi own t=SI.none:=by
 obtain⟨r,rfl⟩:∃r,t=U0++r:=⟨t.drop 7,by rw[<-ht,Y2]⟩;have J:¬ 0<K3 (U0++r):=by
  intro h;obtain⟨w,K,j,q,_⟩:=Ns h;have E:=congrArg (List.take 2) q;have G:∀w:Fin 65,(Ex w.val).take 2≠[40,65]:=by decide +kernel
  exact G ⟨w,j⟩ E.symm
 have hp:Uv (U0++r)=false:=by
  have:K2 40=false:=by decide
  simp[Uv,U0,this]
 have hn:Ee (U0++r)=none:=by
  unfold Ee;rw[hp];rfl
 unfold Oi;rw[if_neg (by simp[U0,Ok]),if_neg (by simp[U0,Uu]),if_neg (by simp[U0,Ui]),if_neg J,hn]
theorem C5{s:List UInt8}{k:Nat}(h:U8 s=some k):k<=s.length:=by
 unfold U8 at h
 split at h
 ·cases h
 ·simp only[]at h
  split at h
  ·rename_i hc;cases h;exact hc.1
  cases h
 ·simp only[]at h
  split at h
  ·rename_i hc;cases h;simp only[Yo];omega
  cases h
 cases h;exact UL _ _
theorem Wn(own:List UInt8->Bool)(ht:t.take 7=U0):Ec own t=SI.none∨∃i e,PX own t i e/\Ec own t=⟨6,0,i,e⟩:=by
 by_cases j:8<t.length/\t.take 7=U0/\t.getLast? = some 41
 ·unfold Ec;rw[if_pos j]
  cases Y:U8 (t.drop 7)with
  | none=>exact .inl rfl
  | some k=>
    simp only[]
    by_cases h:(t.drop (7+k)).head? = some 32
    ·rw[if_pos h]
     cases hm:U8 (t.drop (7+k+1))with
     | none=>exact .inl rfl
     | some m=>
       simp only[]
       by_cases G:7+k+1+m+1=t.length
       ·rw[if_pos G]
        by_cases hp:(Of (Oi own ((t.drop 7).take k))&&Of (Oi own ((t.drop (7+k+1)).take m)))=true
        ·rw[if_pos hp];refine .inr ⟨_,_,⟨?_,CB hp,CA hp⟩,rfl⟩;have K:t=U0++t.drop 7:=by rw[<-ht,Y2]
         have O:t.drop 7=(t.drop 7).take k++t.drop (7+k):=by rw[<-Zr,Y2]
         have R:t.drop (7+k)=32::t.drop (7+k+1):=by
          cases hq:t.drop (7+k)with
          | nil=>rw[hq]at h;simp at h
          | cons c q=>
            rw[hq]at h;simp only[List.head?_cons,Option.some.injEq]at h;rw[<-Zr,hq,h];rfl
         have E:t.drop (7+k+1)=(t.drop (7+k+1)).take m++t.drop (7+k+1+m):=by rw[<-Zr (i:=m),Y2]
         have V:t.drop (7+k+1+m)=[41]:=by
          have hl:(t.drop (7+k+1+m)).length=1:=by simp;omega
          have J:(t.drop (7+k+1+m)).getLast? = some 41:=by
           rw[List.getLast?_drop,if_neg (by omega)];exact j.2.2
          cases hq:t.drop (7+k+1+m)with
          | nil=>rw[hq]at hl;simp at hl
          | cons c q=>
            rw[hq]at hl J;have:q=[]:=Jt (by simpa using hl);subst this
            simpa using J
         rw[V]at E;rw[<-E,<-R,<-O];exact K
        rw[if_neg hp];exact .inl rfl
       rw[if_neg G];exact .inl rfl
    rw[if_neg h];exact .inl rfl
 left
 unfold Ec;rw[if_neg j];exact GU ht
theorem M3(own:List UInt8->Bool)(t:List UInt8):Ec own t=Ou own t:=by
 by_cases q:t.take 7=U0
 ·rcases Ht own q with j|⟨i,e,ha,j⟩
  ·rcases Wn own q with E|⟨i,e,ha,E⟩
   ·rw[j,E]
   rw[GE ha]at j;cases j
  rw[j,GA ha]
 unfold Ec Ou;rw[if_neg (fun h=>q h.2.1),if_neg q]
end Go.Proofs.YtfkagjelljnpdaaGreatDoor
namespace Go.Proofs.YtfkagjelljnpdaaGreatDoor
open ChangeShapes WideShapes ChangeAt RowKit Proofs.Tryz
variable {c:UInt8}{k:Nat}
theorem Oz{a b:Bool}(h:a=b):Ending.returned (.bool a)=.returned (.bool b):=by rw[h]
theorem Gr(s:ByteArray)(k:Nat)(h:k<s.size):s.data.toList.take (k+1)=s.data.toList.take k++[s[k]]:=by
 rw[Yl (by simpa using h)];rfl
theorem E9{p:UInt8->Bool}{s:ByteArray}(h:k<s.size)(hp:(s.data.toList.take k).all p=true)(h1:p s[k]=true):(s.data.toList.take (k+1)).all p=true:=by
 rw[Gr s k h,List.all_append,hp];simp[h1]
theorem Io{p:UInt8->Bool}{s:ByteArray}(h:k<s.size)(h1:p s[k]=false):s.data.toList.all p=false:=by
 rw[Yb];intro ha;rw[Jx]at ha;have:=ha s[k] (by show s.data[k]∈_;exact Vc _);rw[h1]at this;cases this
theorem Dn{p:UInt8->Bool}{s:ByteArray}(h:¬ k<s.size)(hp:(s.data.toList.take k).all p=true):s.data.toList.all p=true:=by
 rw[<-hp,Yf (by rw[<-Lib.size_eq];omega)]
theorem Ql(c:UInt8):dg c=true↔48<=c.toNat/\c.toNat<=57:=by simp[dg]
theorem IJ(c:UInt8):Gt c=true↔c.toNat=48∨c.toNat=49:=by simp[Gt]
theorem A6(c:UInt8):Hu c=true↔((32<=c.toNat/\c.toNat<=126)/\c.toNat≠124)/\c.toNat≠92:=by simp[Hu,FO]
theorem Iw(c:UInt8)(w:World) :
 Calls prog 146 #[.int .u8 (c.toNat:Int)] w fun e w'=>e=.returned (.bool (dg c))/\w'=w:=by
 have h:Hid (dg c=true↔48<=c.toNat/\c.toNat<=57):=Ql c
 go_in
 go_wp2
 all_goals go_ret
 all_goals (refine⟨Oz ?_,rfl⟩;rw[J8,h.o];simp<;>omega)
theorem Qa(c:UInt8)(w:World) :
 Calls prog 190 #[.int .u8 (c.toNat:Int)] w fun e w'=>e=.returned (.bool (dg c))/\w'=w:=by
 have h:Hid (dg c=true↔48<=c.toNat/\c.toNat<=57):=Ql c
 go_in
 go_wp2
 all_goals go_ret
 all_goals (refine⟨Oz ?_,rfl⟩;rw[J8,h.o];simp<;>omega)
theorem Sj(c:UInt8)(w:World) :
 Calls prog 143 #[.int .u8 (c.toNat:Int)] w fun e w'=>e=.returned (.bool (Gt c))/\w'=w:=by
 have h:Hid (Gt c=true↔c.toNat=48∨c.toNat=49):=IJ c
 go_in
 go_wp2
 all_goals go_ret
 all_goals (refine⟨Oz ?_,rfl⟩;rw[J8,h.o];simp<;>omega)
theorem I8(c:UInt8)(w:World) :
 Calls prog 152 #[.int .u8 (c.toNat:Int)] w fun e w'=>e=.returned (.bool (Hu c))/\w'=w:=by
 have h:Hid (Hu c=true↔((32<=c.toNat/\c.toNat<=126)/\c.toNat≠124)/\c.toNat≠92):=A6 c
 go_in
 go_wp2
 all_goals go_ret
 all_goals (refine⟨Oz ?_,rfl⟩;rw[J8,h.o];simp<;>omega)
abbrev Qx:ByteArray:=⟨#[43,45,42,47,61,37,63,33,46,36,95,126,38,94,60,62,64]⟩
theorem Ml(c:UInt8):K2 c=true↔((97<=c.toNat/\c.toNat<=122)∨(65<=c.toNat/\c.toNat<=90)∨(48<=c.toNat/\c.toNat<=57))∨c∈Gz:=by
 simp[K2,dg,or_assoc]
theorem MX{a:UInt8}(e:((a.toNat:Int)==(c.toNat:Int))=true):a=c:=by
 rw[J2]at e;exact UInt8.toNat_inj.1 (by omega)
theorem MQ{a:UInt8}(e:((a.toNat:Int)==(c.toNat:Int))=false):a≠c:=by
 rw[Jc]at e;intro h;rw[h]at e;exact e rfl
theorem Ha:Qx.data.toList=Gz:=rfl
theorem QN(h:k<Qx.size)(e:((Qx[k].toNat:Int)==(c.toNat:Int))=true):c∈Gz:=by
 rw[<-MX e,<-Ha]
 show Qx.data[k]∈_
 exact Vc _
theorem DL(h:k<Qx.size)(e:((Qx[k].toNat:Int)==(c.toNat:Int))=false)(hp:c∉Gz.take k):c∉Gz.take (k+1):=by
 have:=Gr Qx k h;rw[Ha]at this;rw[this,Yc,not_or];exact⟨hp,fun hc=>MQ e (J5.1 hc).symm⟩
theorem Qi(c:UInt8)(w:World) :
 Calls prog 161 #[.int .u8 (c.toNat:Int)] w fun e w'=>e=.returned (.bool (K2 c))/\w'=w:=by
 have q:Hid (K2 c=true↔((97<=c.toNat/\c.toNat<=122)∨(65<=c.toNat/\c.toNat<=90)∨(48<=c.toNat/\c.toNat<=57))∨c∈Gz):=Ml c
 go_in
 go_wp2
 all_goals first
  | (go_ret;refine⟨Oz ?_,rfl⟩;rw[J8,q.o];simp;omega)
  | skip
 all_goals
  have O:Hid (¬((97<=c.toNat/\c.toNat<=122)∨(65<=c.toNat/\c.toNat<=90)∨(48<=c.toNat/\c.toNat<=57))):=by
   show ¬ _
   omega
  go_loop [4] (fun i=>∃k:Nat,k<=17/\i=.int .i64 k/\c∉Gz.take k) (fun i=>17 - (intOf i).toNat)
  case atStart=>exact⟨0,Jp _,rfl,by simp⟩
  obtain⟨k,R,rfl,hp⟩:=hrel;have K:=Hd hp;clear hp
  by_cases J:k<17
  ·have hx:k<Qx.size:=J
   by_cases E:((Qx[k].toNat:Int)==(c.toNat:Int))=true
   ·have j:=QN hx E
    go_wp2
    go_ret
    exact⟨Oz (q.o.2 (.inr j)).symm,rfl⟩
   have G:((Qx[k].toNat:Int)==(c.toNat:Int))=false:=by simpa using E
   have j:Hid (c∉Gz.take (k+1)):=DL hx G K.o;clear E
   go_wp2
   go_round
   case rel=>exact⟨k+1,by omega,by go_num,j.o⟩
   simp[intOf];omega
  have j:Hid (c∉Gz):=by
   unfold Hid
   have:=K.o;rw[Yf (by show 17<=k;omega)]at this;exact this
  go_wp2
  go_ret
  exact⟨Oz (by symm;rw[Yb];intro h;exact(q.o.1 h).elim O.o j.o),rfl⟩
theorem Gf(s:ByteArray)(c:Int)(w:World) :
 Calls prog 192 #[.string s,.int .u8 c] w fun e w'=>e=.returned (.int .i64 (Lib.indexByte s.data.toList c.toNat.toUInt8))/\w'=w:=by
 go_in
 go_wp2
 rw[run_callFunc_extern func212 (by kernel_rfl) (by kernel_rfl) (by kernel_rfl) (e:=Extern.BytealgIndexByte.indexByte) (by kernel_rfl),Lib.run_indexByteString];simp only[Result.andThen];rw[Oper.upon_value]
 go_wp2
 go_ret
 exact⟨rfl,rfl⟩
theorem OJ(h:c∈Gz):decide (0<=Lib.indexByte Gz c)=true:=by
 rw[Jv];have E:=Lib.indexByte_ge Gz c
 by_cases j:Lib.indexByte Gz c = -1
 ·obtain⟨k,q,e⟩:=Ya h;exact absurd (by rw[Jg q,e]) (Lib.indexByte_none j k)
 omega
theorem Bf(h:c∉Gz):decide (0<=Lib.indexByte Gz c)=false:=by
 rw[J0];intro j;obtain⟨o,q⟩:=Vg j;have:=(Lib.indexByte_some q).1;exact h (Zb this)
theorem Qg(c:UInt8)(w:World) :
 Calls prog 191 #[.int .u8 (c.toNat:Int)] w fun e w'=>e=.returned (.bool (K2 c))/\w'=w:=by
 have j:Hid (K2 c=true↔((97<=c.toNat/\c.toNat<=122)∨(65<=c.toNat/\c.toNat<=90)∨(48<=c.toNat/\c.toNat<=57))∨c∈Gz):=Ml c;have E:Hid (((c.toNat:Int)).toNat.toUInt8=c):=by show _=_;simp
 by_cases hm:c∈Gz
 ·have z:=OJ hm;have q:=hm;clear hm
  go_in
  go_wp2_with (first|(go_at_call 192;refine(Gf _ _ _).mono ?_;rintro e w' ⟨rfl,rfl⟩;rw[E.o,Ha])|go_in)
  all_goals go_ret
  all_goals exact⟨Oz (j.o.2 (.inr q)).symm,rfl⟩
 have z:=Bf hm;have q:=Hd hm;clear hm
 go_in
 go_wp2_with (first|(go_at_call 192;refine(Gf _ _ _).mono ?_;rintro e w' ⟨rfl,rfl⟩;rw[E.o,Ha])|go_in)
 all_goals go_ret
 all_goals refine⟨Oz ?_,rfl⟩
 all_goals first
  | exact(j.o.2 (.inl (by omega))).symm
  | (have hn:K2 c=false:=by(rw[Yb];intro h;exact(j.o.1 h).elim (by omega) q.o)
     rw[hn];simp;omega)
  | (have hn:K2 c=false:=by(rw[Yb];intro h;exact(j.o.1 h).elim (by omega) q.o)
     rw[hn])
theorem Po{p:UInt8->Bool}{s:ByteArray}(h:k<s.size)(hp:(s.data.toList.take k).all p=true)(h1:p s[k]=false):Ud p s.data.toList=k:=by
 refine Ak (by rw[<-Lib.size_eq];omega) (fun j hj hji=>?_) (fun _=>h1);rw[Jx]at hp;refine hp _ ?_;rw[List.mem_take_iff_getElem];exact⟨j,by omega,rfl⟩
theorem Fx{p:UInt8->Bool}{s:ByteArray}(h:¬ k<s.size)(hp:(s.data.toList.take k).all p=true):Ud p s.data.toList=s.size:=by
 rw[Fi (Dn h hp),Lib.size_eq]
theorem Fq(s:ByteArray)(w:World)(hs:s.size<=maxLen) :
 Calls prog 142 #[.func (.func 191) #[] #[],.string s] w fun e w'=>e=.returned (.int .i64 (Ud K2 s.data.toList:Nat))/\w'=w:=by
 unfold maxLen at hs
 go_in
 go_wp2
 go_loop [5] (fun i=>∃k:Nat,k<=s.size/\i=.int .i64 k/\(s.data.toList.take k).all K2=true) (fun i=>s.size - (intOf i).toNat)
 case atStart=>exact⟨0,Jp _,rfl,rfl⟩
 obtain⟨k,G,rfl,hp⟩:=hrel;have j:=Hd hp;clear hp
 by_cases h:k<s.size
 ·by_cases q:K2 s[k]=true
  ·go_wp2_with (go_at_call 191;refine(Qg _ _).mono ?_;rintro e w' ⟨rfl,rfl⟩)
   go_round
   case rel=>exact⟨k+1,by omega,by go_num,E9 h j.o q⟩
   simp[intOf];omega
  have E:K2 s[k]=false:=by simpa using q
  clear q
  go_wp2_with (go_at_call 191;refine(Qg _ _).mono ?_;rintro e w' ⟨rfl,rfl⟩)
  go_ret
  exact⟨by rw[Po h j.o E];rfl,rfl⟩
 go_wp2
 go_ret
 exact⟨by rw[Fx h j.o];rfl,rfl⟩
theorem GC(s:ByteArray)(w:World)(hs:s.size<=maxLen) :
 Calls prog 142 #[.func (.func 152) #[] #[],.string s] w fun e w'=>e=.returned (.int .i64 (Ud Hu s.data.toList:Nat))/\w'=w:=by
 unfold maxLen at hs
 go_in
 go_wp2
 go_loop [5] (fun i=>∃k:Nat,k<=s.size/\i=.int .i64 k/\(s.data.toList.take k).all Hu=true) (fun i=>s.size - (intOf i).toNat)
 case atStart=>exact⟨0,Jp _,rfl,rfl⟩
 obtain⟨k,G,rfl,hp⟩:=hrel;have j:=Hd hp;clear hp
 by_cases h:k<s.size
 ·by_cases q:Hu s[k]=true
  ·go_wp2_with (go_at_call 152;refine(I8 _ _).mono ?_;rintro e w' ⟨rfl,rfl⟩)
   go_round
   case rel=>exact⟨k+1,by omega,by go_num,E9 h j.o q⟩
   simp[intOf];omega
  have E:Hu s[k]=false:=by simpa using q
  clear q
  go_wp2_with (go_at_call 152;refine(I8 _ _).mono ?_;rintro e w' ⟨rfl,rfl⟩)
  go_ret
  exact⟨by rw[Po h j.o E];rfl,rfl⟩
 go_wp2
 go_ret
 exact⟨by rw[Fx h j.o];rfl,rfl⟩
theorem GF(s:ByteArray)(w:World)(hs:s.size<=maxLen) :
 Calls prog 142 #[.func (.func 143) #[] #[],.string s] w fun e w'=>e=.returned (.int .i64 (Ud Gt s.data.toList:Nat))/\w'=w:=by
 unfold maxLen at hs
 go_in
 go_wp2
 go_loop [5] (fun i=>∃k:Nat,k<=s.size/\i=.int .i64 k/\(s.data.toList.take k).all Gt=true) (fun i=>s.size - (intOf i).toNat)
 case atStart=>exact⟨0,Jp _,rfl,rfl⟩
 obtain⟨k,G,rfl,hp⟩:=hrel;have j:=Hd hp;clear hp
 by_cases h:k<s.size
 ·by_cases q:Gt s[k]=true
  ·go_wp2_with (go_at_call 143;refine(Sj _ _).mono ?_;rintro e w' ⟨rfl,rfl⟩)
   go_round
   case rel=>exact⟨k+1,by omega,by go_num,E9 h j.o q⟩
   simp[intOf];omega
  have E:Gt s[k]=false:=by simpa using q
  clear q
  go_wp2_with (go_at_call 143;refine(Sj _ _).mono ?_;rintro e w' ⟨rfl,rfl⟩)
  go_ret
  exact⟨by rw[Po h j.o E];rfl,rfl⟩
 go_wp2
 go_ret
 exact⟨by rw[Fx h j.o];rfl,rfl⟩
theorem N5(d:ByteArray)(h:0<d.size):d.data.toList.head? = some d[0]:=by
 obtain⟨⟨l⟩⟩:=d
 cases l with
 | nil=>simp[ByteArray.size]at h
 | cons a l=>rfl
theorem Ii(d:ByteArray)(h:0<d.size):d.toList.isEmpty=false:=by
 rw[Jk];have:=Lib.size_eq d
 cases hl:d.data.toList with
 | nil=>exfalso;rw[hl]at this;simp only[Zp]at this;omega
 | cons _ _=>rfl
theorem Si{d:ByteArray}(h:d.size=0):d.data.toList=[]:=Jt (by rw[<-Lib.size_eq];exact h)
theorem Rb(d:ByteArray)(h:d.size=0):d.toList.isEmpty=true:=by
 rw[Jk,Si h];rfl
theorem DY{d:ByteArray}(h:0<d.size):d.data.toList.isEmpty=false:=by rw[<-Jk];exact Ii d h
theorem Fv{s:ByteArray}(h:s.size=0):Uv s.data.toList=false:=by rw[Si h];rfl
theorem Ms{s:ByteArray}(h:0<s.size)(h1:dg s[0]=true):Uv s.data.toList=false:=by
 unfold Uv;rw[N5 s h];simp[h1]
theorem P0{s:ByteArray}(h:0<s.size)(h1:dg s[0]=false):Uv s.data.toList=s.data.toList.all K2:=by
 unfold Uv;rw[N5 s h,DY h];simp[h1]
theorem Pt(s:ByteArray)(w:World)(hs:s.size<=maxLen) :
 Calls prog 147 #[.string s] w fun e w'=>e=.returned (.bool (Uv s.data.toList))/\w'=w:=by
 unfold maxLen at hs
 by_cases j:s.size=0
 ·have F:Hid (Uv s.data.toList=false):=Fv j;have z:((s.size:Int)==0)=true:=by rw[J2];omega
  clear j
  go_in
  go_wp2
  go_ret
  exact⟨Oz F.o.symm,rfl⟩
 have hp:0<s.size:=by omega
 have z:((s.size:Int)==0)=false:=by rw[Jc];omega
 clear j
 by_cases q:dg s[0]=true
 ·have F:Hid (Uv s.data.toList=false):=Ms hp q
  go_in
  go_wp2_with (go_at_call 146;refine(Iw _ _).mono ?_;rintro e w' ⟨rfl,rfl⟩)
  go_ret
  exact⟨Oz F.o.symm,rfl⟩
 have E:dg s[0]=false:=by simpa using q
 have F:Hid (Uv s.data.toList=s.data.toList.all K2):=P0 hp E;clear q
 go_in
 go_wp2_with (go_at_call 146;refine(Iw _ _).mono ?_;rintro e w' ⟨rfl,rfl⟩)
 go_loop [3] (fun i=>∃k:Nat,k<=s.size/\i=.int .i64 k/\(s.data.toList.take k).all K2=true) (fun i=>s.size - (intOf i).toNat)
 case atStart=>exact⟨0,Jp _,rfl,rfl⟩
 obtain⟨k,O,rfl,hp⟩:=hrel;have K:=Hd hp;clear hp
 by_cases h:k<s.size
 ·by_cases G:K2 s[k]=true
  ·go_wp2_with (go_at_call 161;refine(Qi _ _).mono ?_;rintro e w' ⟨rfl,rfl⟩)
   go_round
   case rel=>exact⟨k+1,by omega,by go_num,E9 h K.o G⟩
   simp[intOf];omega
  have J:K2 s[k]=false:=by simpa using G
  clear G
  go_wp2_with (go_at_call 161;refine(Qi _ _).mono ?_;rintro e w' ⟨rfl,rfl⟩)
  go_ret
  exact⟨Oz (by rw[F.o,Io h J]),rfl⟩
 go_wp2
 go_ret
 exact⟨Oz (by rw[F.o,Dn h K.o]),rfl⟩
def Oo(l:List UInt8):ByteArray:=⟨l.toArray⟩
theorem Ov(l:List UInt8):(Oo l).data.toList=l:=by simp[Oo]
theorem Uc(s:ByteArray):Oo s.data.toList=s:=by simp[Oo]
theorem VN(s:ByteArray):(⟨#[124]⟩++s++⟨#[124]⟩:ByteArray)=Oo (124::(s.data.toList++[124])):=by
 apply ByteArray.ext;apply Array.ext';simp[Oo]
theorem Qv{s:ByteArray}(h:Uv s.data.toList=false):Ending.returned (.string (⟨#[124]⟩++s++⟨#[124]⟩))=.returned (.string (Oo (V8 2 s.data.toList))):=by
 rw[VN];simp[V8,h]
theorem F0{s:ByteArray}(h:Uv s.data.toList=true):Ending.returned (.string s)=.returned (.string (Oo (V8 2 s.data.toList))):=by
 have:V8 2 s.data.toList=s.data.toList:=by simp[V8,h]
 rw[this,Uc]
theorem B5(s:ByteArray)(w:World)(hs:s.size<=20000) :
 Calls prog 167 #[.string s] w fun e w'=>e=.returned (.string (Oo (V8 2 s.data.toList)))/\w'=w:=by
 have hm:s.size<=maxLen:=by unfold maxLen;omega
 by_cases j:s.size=0
 ·have F:Hid (Uv s.data.toList=false):=Fv j;have z:=Rb s j;clear j
  go_in
  go_wp2
  go_ret
  exact⟨Qv F.o,rfl⟩
 have hp:0<s.size:=by omega
 have z:=Ii s hp;clear j
 by_cases E:dg s[0]=true
 ·have F:Hid (Uv s.data.toList=false):=Ms hp E
  go_in
  go_wp2_with (go_at_call 190;refine(Qa _ _).mono ?_;rintro e w' ⟨rfl,rfl⟩)
  go_ret
  exact⟨Qv F.o,rfl⟩
 have G:dg s[0]=false:=by simpa using E
 have F:Hid (Uv s.data.toList=s.data.toList.all K2):=P0 hp G;clear E
 by_cases h:s.data.toList.all K2=true
 ·have z2:((Ud K2 s.data.toList:Int)==(s.size:Int))=true:=by rw[Fi h,Lib.size_eq];simp
  have q:Hid (Uv s.data.toList=true):=F.o.trans h;clear h
  go_in
  go_wp2_with (first|(go_at_call 190;refine(Qa _ _).mono ?_;rintro e w' ⟨rfl,rfl⟩)|(go_at_call 142;refine(Fq _ _ hm).mono ?_;rintro e w' ⟨rfl,rfl⟩))
  go_ret
  exact⟨F0 q.o,rfl⟩
 have z2:((Ud K2 s.data.toList:Int)==(s.size:Int))=false:=by
  rw[Jc];intro e;exact h (Wu.1 (by rw[<-Lib.size_eq];omega))
 have q:Hid (Uv s.data.toList=false):=F.o.trans (by simpa using h);clear h
 go_in
 go_wp2_with (first|(go_at_call 190;refine(Qa _ _).mono ?_;rintro e w' ⟨rfl,rfl⟩)|(go_at_call 142;refine(Fq _ _ hm).mono ?_;rintro e w' ⟨rfl,rfl⟩))
 go_ret
 exact⟨Qv q.o,rfl⟩
end Go.Proofs.YtfkagjelljnpdaaGreatDoor
namespace Go.Proofs.YtfkagjelljnpdaaGreatDoor
open ChangeShapes WideShapes ChangeAt RowKit
variable {W:World}{g:Nat}{l:List Value}{v0 v1 v2 v3:Value}
theorem Oy(w:World)(o:Obj):Up w (w.alloc o):=(Ji _ _).alloc leR o
def Bx(W:World)(g:Nat)(l:List Value):Prop:=∃ty,W.heap[g]? = some (.cells l.toArray ty (0,0))
theorem Bx.lt(h:Bx W g l):g<W.heap.size:=by
 obtain⟨t,h⟩:=h;exact(Jo.1 h).1
theorem Bx.cell(h:Bx W g l)(i:Nat):W.cell? ⟨g,i,none⟩=l[i]? := by
 obtain⟨t,h⟩:=h;simp[World.cell?,h]
theorem Bx.fz(h:Bx W g l)(i:Nat):W.frozen? ⟨g,i,none⟩=false:=by
 obtain⟨t,h⟩:=h;simp[World.frozen?,h]
theorem Bx.set(h:Bx W g l)(i:Nat)(v:Value):Bx (W.setCell ⟨g,i,none⟩ v) g (l.set i v):=by
 obtain⟨t,h⟩:=h;refine⟨t,?_⟩;obtain⟨j,q⟩:=Jo.1 h
 show(W.heap.modify g _)[g]? = _
 rw[Zk (by rw[Zf];exact j),Zt,q];simp
theorem Bx.k2{r:List Value}(h:Bx W g (v0::v1::r)):W.cell? ⟨g,0,none⟩=some v0/\W.cell? ⟨g,1,none⟩=some v1:=⟨h.cell 0,h.cell 1⟩
theorem Bx.k3{r:List Value}(h:Bx W g (v0::v1::v2::r)):W.cell? ⟨g,0,none⟩=some v0/\W.cell? ⟨g,1,none⟩=some v1/\W.cell? ⟨g,2,none⟩=some v2:=⟨h.cell 0,h.cell 1,h.cell 2⟩
theorem Bx.k4{r:List Value}(h:Bx W g (v0::v1::v2::v3::r)):W.cell? ⟨g,0,none⟩=some v0/\W.cell? ⟨g,1,none⟩=some v1/\W.cell? ⟨g,2,none⟩=some v2/\W.cell? ⟨g,3,none⟩=some v3:=⟨h.cell 0,h.cell 1,h.cell 2,h.cell 3⟩
theorem Bx.k5{v4:Value}{r:List Value}(h:Bx W g (v0::v1::v2::v3::v4::r)):W.cell? ⟨g,0,none⟩=some v0/\W.cell? ⟨g,1,none⟩=some v1/\W.cell? ⟨g,2,none⟩=some v2/\W.cell? ⟨g,3,none⟩=some v3/\W.cell? ⟨g,4,none⟩=some v4:=⟨h.cell 0,h.cell 1,h.cell 2,h.cell 3,h.cell 4⟩
theorem Bx.k6{v4 v5:Value}{r:List Value}(h:Bx W g (v0::v1::v2::v3::v4::v5::r)):W.cell? ⟨g,0,none⟩=some v0/\W.cell? ⟨g,1,none⟩=some v1/\W.cell? ⟨g,2,none⟩=some v2/\W.cell? ⟨g,3,none⟩=some v3/\W.cell? ⟨g,4,none⟩=some v4/\W.cell? ⟨g,5,none⟩=some v5:=⟨h.cell 0,h.cell 1,h.cell 2,h.cell 3,h.cell 4,h.cell 5⟩
theorem Bx.f2{r:List Value}(h:Bx W g r):W.frozen? ⟨g,0,none⟩=false/\W.frozen? ⟨g,1,none⟩=false:=⟨h.fz 0,h.fz 1⟩
theorem Bx.f3{r:List Value}(h:Bx W g r):W.frozen? ⟨g,0,none⟩=false/\W.frozen? ⟨g,1,none⟩=false/\W.frozen? ⟨g,2,none⟩=false:=⟨h.fz 0,h.fz 1,h.fz 2⟩
theorem Bx.f4{r:List Value}(h:Bx W g r):W.frozen? ⟨g,0,none⟩=false/\W.frozen? ⟨g,1,none⟩=false/\W.frozen? ⟨g,2,none⟩=false/\W.frozen? ⟨g,3,none⟩=false:=⟨h.fz 0,h.fz 1,h.fz 2,h.fz 3⟩
theorem Bx.f6{r:List Value}(h:Bx W g r):W.frozen? ⟨g,0,none⟩=false/\W.frozen? ⟨g,1,none⟩=false/\W.frozen? ⟨g,2,none⟩=false/\W.frozen? ⟨g,3,none⟩=false/\W.frozen? ⟨g,4,none⟩=false/\W.frozen? ⟨g,5,none⟩=false:=⟨h.fz 0,h.fz 1,h.fz 2,h.fz 3,h.fz 4,h.fz 5⟩
theorem Bx.f7{r:List Value}(h:Bx W g r):W.frozen? ⟨g,0,none⟩=false/\W.frozen? ⟨g,1,none⟩=false/\W.frozen? ⟨g,2,none⟩=false/\W.frozen? ⟨g,3,none⟩=false/\W.frozen? ⟨g,4,none⟩=false/\W.frozen? ⟨g,5,none⟩=false/\W.frozen? ⟨g,6,none⟩=false:=⟨h.fz 0,h.fz 1,h.fz 2,h.fz 3,h.fz 4,h.fz 5,h.fz 6⟩
theorem Bx.other(h:Bx W g l)(p:Addr)(hp:p.block≠g)(v:Value):Bx (W.setCell p v) g l:=by
 obtain⟨t,h⟩:=h;exact⟨t,(Jh W p v g (fun e=>hp e.symm)).trans h⟩
theorem Bx.bl{W':World}{N:Nat}(h:Bx W g l)(hN:g<N)(hb:Below N W W'):Bx W' g l:=by
 obtain⟨t,h⟩:=h;exact⟨t,(hb.block g hN).trans h⟩
theorem Bx.alloc(h:Bx W g l)(o:Obj):Bx (W.alloc o) g l:=h.bl h.lt (Oy W o)
theorem Bx.drew(h:Bx W g l):Bx W.drew g l:=h.bl h.lt (Ji _ W).drew
theorem Oq(W:World)(l:List Value)(ty:TypeId):Bx (W.alloc (.cells l.toArray ty)) W.heap.size l:=⟨ty,Js⟩
theorem Bx.c2{r:List Value}(h:Bx W g (v0::v1::r)):W.cell? ⟨g,0,none⟩=some v0/\W.cell? ⟨g,1,none⟩=some v1:=⟨h.cell 0,h.cell 1⟩
theorem Bx.c3{r:List Value}(h:Bx W g (v0::v1::v2::r)):W.cell? ⟨g,0,none⟩=some v0/\W.cell? ⟨g,1,none⟩=some v1/\W.cell? ⟨g,2,none⟩=some v2:=⟨h.cell 0,h.cell 1,h.cell 2⟩
theorem Bx.c4{r:List Value}(h:Bx W g (v0::v1::v2::v3::r)):W.cell? ⟨g,0,none⟩=some v0/\W.cell? ⟨g,1,none⟩=some v1/\W.cell? ⟨g,2,none⟩=some v2/\W.cell? ⟨g,3,none⟩=some v3:=⟨h.cell 0,h.cell 1,h.cell 2,h.cell 3⟩
end Go.Proofs.YtfkagjelljnpdaaGreatDoor
namespace Go.Proofs.YtfkagjelljnpdaaGreatDoor
open ChangeShapes WideShapes ChangeAt RowKit Proofs.Tryz
variable {L:List (List UInt8)}{i k:Nat}{l:List UInt8}
theorem Rm{s:ByteArray}(h:s.size=0∨60<s.size):Kj s.data.toList=false:=by
 unfold Kj;rw[<-Lib.size_eq]
 rcases h with h|h
 ·rw[Jd (by omega)];rfl
 rw[Jd (p:=s.size<=60) (by omega)];simp
theorem Wg{s:ByteArray}(h:0<s.size)(h1:s.size<=60):Kj s.data.toList=s.data.toList.all Hu:=by
 unfold Kj;rw[<-Lib.size_eq,Jb h,Jb h1];rfl
theorem Ka(s:ByteArray)(w:World)(hs:s.size<=maxLen) :
 Calls prog 62 #[.string s] w fun e w'=>e=.returned (.bool (Kj s.data.toList))/\w'=w:=by
 unfold maxLen at hs
 by_cases J:s.size=0
 ·have F:Hid (Kj s.data.toList=false):=Rm (.inl J)
  go_in
  go_wp2
  go_ret
  exact⟨Oz F.o.symm,rfl⟩
 by_cases h6:60<s.size
 ·have F:Hid (Kj s.data.toList=false):=Rm (.inr h6)
  go_in
  go_wp2
  go_ret
  exact⟨Oz F.o.symm,rfl⟩
 have F:Hid (Kj s.data.toList=s.data.toList.all Hu):=Wg (by omega) (by omega)
 go_in
 go_wp2
 go_loop [3] (fun i=>∃k:Nat,k<=s.size/\i=.int .i64 k/\(s.data.toList.take k).all Hu=true) (fun i=>s.size - (intOf i).toNat)
 case atStart=>exact⟨0,Jp _,rfl,rfl⟩
 obtain⟨k,K,rfl,hp⟩:=hrel;have E:=Hd hp;clear hp
 by_cases j:k<s.size
 ·have q:Hid (Hu s[k]=true↔((32<=s[k].toNat/\s[k].toNat<=126)/\s[k].toNat≠124)/\s[k].toNat≠92):=A6 s[k]
  by_cases c1:s[k].toNat<32
  ·have hb:Hu s[k]=false:=by rw[Yb];intro h;have:=q.o.1 h;omega
   go_wp2
   go_ret
   exact⟨Oz (by rw[F.o,Io j hb]),rfl⟩
  by_cases c2:126<s[k].toNat
  ·have hb:Hu s[k]=false:=by rw[Yb];intro h;have:=q.o.1 h;omega
   go_wp2
   go_ret
   exact⟨Oz (by rw[F.o,Io j hb]),rfl⟩
  by_cases c3:s[k].toNat=124
  ·have hb:Hu s[k]=false:=by rw[Yb];intro h;have:=q.o.1 h;omega
   have z3:((s[k].toNat:Int)==124)=true:=by rw[J2];omega
   clear c3
   go_wp2
   go_ret
   exact⟨Oz (by rw[F.o,Io j hb]),rfl⟩
  have z3:((s[k].toNat:Int)==124)=false:=by rw[Jc];omega
  by_cases c4:s[k].toNat=92
  ·have hb:Hu s[k]=false:=by rw[Yb];intro h;have:=q.o.1 h;omega
   have z4:((s[k].toNat:Int)==92)=true:=by rw[J2];omega
   clear c4
   go_wp2
   go_ret
   exact⟨Oz (by rw[F.o,Io j hb]),rfl⟩
  have z4:((s[k].toNat:Int)==92)=false:=by rw[Jc];omega
  have G:Hid (Hu s[k]=true):=q.o.2 ⟨⟨⟨by omega,by omega⟩,c3⟩,c4⟩
  go_wp2
  go_round
  case rel=>exact⟨k+1,by omega,by go_num,E9 j E.o G.o⟩
  simp[intOf];omega
 go_wp2
 go_ret
 exact⟨Oz (by rw[F.o,Dn j E.o]),rfl⟩
def Pg:Array Value:=#[.string ⟨#[66,111,111,108]⟩,.string ⟨#[73,110,116]⟩,.string ⟨#[82,101,97,108]⟩,.string ⟨#[66,105,116,86,101,99]⟩,.string ⟨#[65,114,114,97,121]⟩,.string ⟨#[95]⟩,.string ⟨#[108,101,116]⟩,.string ⟨#[97,115]⟩,.string ⟨#[116,114,117,101]⟩,.string ⟨#[102,97,108,115,101]⟩,.string ⟨#[110,111,116]⟩,.string ⟨#[97,110,100]⟩,.string ⟨#[111,114]⟩,.string ⟨#[120,111,114]⟩,.string ⟨#[61,62]⟩,.string ⟨#[105,116,101]⟩,.string ⟨#[61]⟩,.string ⟨#[100,105,115,116,105,110,99,116]⟩,.string ⟨#[43]⟩,.string ⟨#[45]⟩,.string ⟨#[42]⟩,.string ⟨#[47]⟩,.string ⟨#[60,61]⟩,.string ⟨#[60]⟩,.string ⟨#[62,61]⟩,.string ⟨#[62]⟩,.string ⟨#[100,105,118]⟩,.string ⟨#[109,111,100]⟩,.string ⟨#[116,111,95,114,101,97,108]⟩,.string ⟨#[115,101,108,101,99,116]⟩,.string ⟨#[115,116,111,114,101]⟩,.string ⟨#[99,111,110,99,97,116]⟩,.string ⟨#[101,120,116,114,97,99,116]⟩,.string ⟨#[122,101,114,111,95,101,120,116,101,110,100]⟩,.string ⟨#[115,105,103,110,95,101,120,116,101,110,100]⟩,.string ⟨#[114,111,116,97,116,101,95,108,101,102,116]⟩,.string ⟨#[114,111,116,97,116,101,95,114,105,103,104,116]⟩,.string ⟨#[114,101,112,101,97,116]⟩]
theorem IQ:∀k:Fin 38,Pg.toList[k.val]? = some (.string (Oo V7[k.val]!)):=fun k=>by
 have:Pg=(V7.map fun x=>Value.string (Oo x)).toArray:=rfl
 rw[this]
 simp only[Yt]
 have h:V7.length=38:=rfl
 rw[Jg (by omega)]
 simp[List.getElem!_eq_getElem?_getD,List.getElem?_eq_getElem (show k.val<V7.length by omega)]
theorem Q1{X s:ByteArray}(h:X≠s):(X.toList==s.toList)=false:=by
 rw[Jc];intro e;rw[Jk,Jk]at e;exact h (by rw[<-Uc X,e,Uc])
theorem Pp{s:ByteArray}:(s.extract 0 2).toList=s.data.toList.take 2:=by
 rw[Jk,Zi];simp
theorem Su{x:List UInt8}(h:∀k:Nat,k<L.length->L[k]! ≠ x):L.contains x=false:=by
 rw[Yb];intro q;have hm:x∈L:=by simpa using q
 obtain⟨k,j,e⟩:=Ya hm;exact h k j (by simp[List.getElem!_eq_getElem?_getD,List.getElem?_eq_getElem j,e])
theorem Sv{x:List UInt8}(hk:k<L.length)(h:L[k]! = x):L.contains x=true:=by
 simp only[Vj,Jg hk,Option.getD_some]at h;have:x∈L:=by rw[<-h];exact Jj hk
 simpa using this
theorem Tk(s:ByteArray)(w:World)(hs:s.size<=maxLen) :
 Calls prog 63 #[.string s] w fun e w'=>e=.returned (.bool (N7 s.data.toList))/\Up w w':=by
 unfold maxLen at hs
 by_cases hb:PS s.data.toList=true
 ·have F:Hid (N7 s.data.toList=true):=by unfold Hid N7;rw[hb];rfl
  have h2:2<=s.size:=by
   simp only[PS,J1]at hb;have:=congrArg List.length hb;simp only[J7,Yo,Zp]at this;rw[Lib.size_eq];omega
  have z:((s.extract 0 2).toList==[98,118])=true:=by rw[Pp];simpa[PS]using hb
  clear hb
  go_in
  go_wp2
  go_ret
  exact⟨Oz F.o.symm,Ji _ _⟩
 have F:Hid (N7 s.data.toList=V7.contains s.data.toList):=by unfold Hid N7;simp[hb]
 have Y:Hid (2<=s.size->((s.extract 0 2).toList==[98,118])=false):=fun h2=>by rw[Pp];simpa[PS]using hb
 clear hb
 go_in
 by_cases h2:2<=s.size
 all_goals (try (have z:=Y.o h2))
 all_goals (go_wp2_with fail)
 all_goals (obtain⟨R,q⟩:=O2 (w.alloc (.cells Pg 9)))
 all_goals (have HB:Hid (Up w R):=(by unfold Hid;rw[<-q];exact Oy _ _))
 all_goals (have HX:Hid (Bx R w.heap.size Pg.toList):=(by unfold Hid;rw[<-q];exact Oq w Pg.toList 9))
 all_goals (unfold Pg at q;rw[q];clear q)
 all_goals (go_loop [17] (fun i=>∃k:Nat,k<=38/\i=.int .i64 k/\∀j:Nat,j<k->V7[j]! ≠ s.data.toList) (fun i=>38 - (intOf i).toNat))
 all_goals (try (case atStart=>exact⟨0,Jp _,rfl,fun j hj=>absurd hj (Jz _)⟩))
 all_goals (
  obtain⟨k,Z,rfl,hp⟩:=hrel;have O:=Hd hp;clear hp
  by_cases G:k<38
  ·have K:=HX.o.cell k;rw[IQ ⟨k,G⟩]at K
   by_cases hx:V7[k]! = s.data.toList
   ·rw[hx,Uc]at K;have J:Hid (V7.contains s.data.toList=true):=Sv G hx;clear hx
    go_wp2
    go_ret
    exact⟨Oz (by rw[F.o,J.o]),HB.o⟩
   have E:Oo V7[k]! ≠ s:=fun e=>hx (by rw[<-e,Ov]);have V:=Hd hx;generalize Oo V7[k]! = X at K E;have zz:=Q1 E;clear hx E
   go_wp2
   go_round
   case rel=>exact⟨k+1,by omega,by go_num,fun j hj=>by
    rcases J4.1 hj with h|rfl
    ·exact O.o j h
    exact V.o⟩
   simp[intOf];omega
  have J:Hid (V7.contains s.data.toList=false):=Su fun j hj=>O.o j (by have:V7.length=38:=rfl;omega)
  go_wp2
  go_ret
  exact⟨Oz (by rw[F.o,J.o]),HB.o⟩)
def O4(w:World)(v:Value)(L:List (List UInt8)):Prop:=
 ∃p c,v=.slice p L.length c/\L.length<=c/\c<=maxLen/\(L=[]∨∃b,p=some ⟨b,0,none⟩/\b<w.heap.size/\∀i (h:i<L.length),w.cell? ⟨b,i,none⟩=some (.string (Oo L[i])))
theorem O4.bl{w w':World}{v:Value}(h:O4 w v L)(hb:Up w w'):O4 w' v L:=by
 obtain⟨p,c,rfl,q,E,j⟩:=h;refine⟨p,c,rfl,q,E,?_⟩
 rcases j with j|⟨b,e,hl,G⟩
 ·exact .inl j
 exact .inr ⟨b,e,Jn hl hb.size,fun i hi=>(hb.cell (p:=⟨b,i,none⟩) hl).trans (G i hi)⟩
def On(L:List (List UInt8))(s:List UInt8):Bool:=decide (s∈L)
theorem Nf(v:Value)(L:List (List UInt8))(s:ByteArray)(w:World)(h:O4 w v L) :
 Calls prog 64 #[v,.string s] w fun e w'=>e=.returned (.bool (On L s.data.toList))/\w'=w:=by
 obtain⟨p,c,rfl,h1,h2,O⟩:=h;have Y:=Hd O;unfold maxLen at h2;clear O
 go_in
 go_wp2
 go_loop [9] (fun i=>∃k:Nat,k<=L.length/\i=.int .i64 k/\∀j (h:j<L.length),j<k->L[j]≠s.data.toList) (fun i=>L.length - (intOf i).toNat)
 case atStart=>exact⟨0,Jp _,rfl,fun j _ hj=>absurd hj (Jz _)⟩
 obtain⟨k,hk,rfl,hp⟩:=hrel;have K:=Hd hp;clear hp
 by_cases q:k<L.length
 ·rcases Y.o with Z|⟨b,rfl,hb,G⟩
  ·subst Z;simp at q
  have R:=G k q;clear G
  by_cases hx:L[k]=s.data.toList
  ·rw[hx,Uc]at R;have J:Hid (On L s.data.toList=true):=by unfold Hid On;rw[Jv,<-hx];exact Jj q
   clear hx
   go_wp2
   go_ret
   exact⟨Oz J.o.symm,rfl⟩
  have V:=Hd hx;have E:Oo L[k]≠s:=fun e=>hx (by rw[<-e,Ov]);generalize Oo L[k]=X at R E;have zz:=Q1 E;clear hx E
  go_wp2
  go_round
  case rel=>exact⟨k+1,by omega,by go_num,fun j hj hj2=>by
   rcases J4.1 hj2 with h|rfl
   ·exact K.o j hj h
   exact V.o⟩
  simp[intOf];omega
 have J:Hid (On L s.data.toList=false):=by
  unfold Hid On;rw[J0];intro hm;obtain⟨j,hj,e⟩:=Ya hm;exact K.o j hj (by omega) e
 go_wp2
 go_ret
 exact⟨Oz J.o.symm,rfl⟩
theorem Kw(s:ByteArray)(w:World)(hs:s.size<=1048576) :
 Calls prog 130 #[.string s] w fun e w'=>e=.returned (.string (Oo (V8 2 s.data.toList)))/\w'=w:=by
 have hm:s.size<=maxLen:=by unfold maxLen;omega
 cases hp:Uv s.data.toList
 ·have h:=Hd hp;clear hp
  go_in
  go_wp2_with (go_at_call 147;refine(Pt _ _ hm).mono ?_;rw[h.o];rintro e w' ⟨rfl,rfl⟩)
  go_ret
  exact⟨Qv h.o,rfl⟩
 have h:=Hd hp;clear hp
 go_in
 go_wp2_with (go_at_call 147;refine(Pt _ _ hm).mono ?_;rw[h.o];rintro e w' ⟨rfl,rfl⟩)
 go_ret
 exact⟨F0 h.o,rfl⟩
def Pe(l:List UInt8):Nat:=l.foldl (fun n c=>n*10+(c.toNat - 48)) 0
theorem IE(l:List UInt8)(c:UInt8):Pe (l++[c])=Pe l*10+(c.toNat - 48):=by simp[Pe,List.foldl_append]
theorem IN(s:ByteArray)(k:Nat)(h:k<s.size):Pe (s.data.toList.take (k+1))=Pe (s.data.toList.take k)*10+(s[k].toNat - 48):=by rw[Gr s k h,IE]
def If(l:List UInt8):Int:=if l.length=0∨6<l.length∨(1<l.length/\l.head? = some 48)then -1 else if l.all dg then(Pe l:Int)else -1
theorem Ds{s:ByteArray}(h:s.size=0∨6<s.size∨(1<s.size/\s.data.toList.head? = some 48)):If s.data.toList = -1:=by
 unfold If;rw[<-Lib.size_eq,if_pos h]
theorem DZ{s:ByteArray}(h:¬ (s.size=0∨6<s.size∨(1<s.size/\s.data.toList.head? = some 48))):If s.data.toList=if s.data.toList.all dg then(Pe s.data.toList:Int)else -1:=by
 unfold If;rw[<-Lib.size_eq,if_neg h]
theorem O8{a b:Int}(h:a=b):Ending.returned (.int .i64 a)=.returned (.int .i64 b):=by rw[h]
def Tw:Nat->Nat|0=>1|1=>10|2=>100|3=>1000|4=>10000|5=>100000|_=>1000000
theorem QA(k:Nat)(h:k<=6):Tw k<=1000000/\(k<6->Tw (k+1)=Tw k*10):=by
 have:k=0∨k=1∨k=2∨k=3∨k=4∨k=5∨k=6:=by omega
 rcases this with rfl|rfl|rfl|rfl|rfl|rfl|rfl<;>simp[Tw]
theorem NV(s:ByteArray)(w:World)(hs:s.size<=maxLen) :
 Calls prog 129 #[.string s] w fun e w'=>e=.returned (.int .i64 (If s.data.toList))/\w'=w:=by
 unfold maxLen at hs
 by_cases h0:s.size=0
 ·have F:Hid (If s.data.toList = -1):=Ds (.inl h0)
  go_in
  go_wp2
  go_ret
  exact⟨O8 F.o.symm,rfl⟩
 by_cases h6:6<s.size
 ·have F:Hid (If s.data.toList = -1):=Ds (.inr (.inl h6))
  go_in
  go_wp2
  go_ret
  exact⟨O8 F.o.symm,rfl⟩
 have hp:0<s.size:=by omega
 have Z:Hid (s.data.toList.head? = some s[0]):=N5 s hp;have O:∀c:UInt8,c.toNat=48->c=48:=fun c h=>by
  have e:UInt8.ofNat c.toNat=c:=by simp
  rw[<-e,h];rfl
 by_cases q:1<s.size/\s[0].toNat=48
 ·have F:Hid (If s.data.toList = -1):=Ds (.inr (.inr ⟨q.1,by rw[Z.o,O _ q.2]⟩));have z1:=q.1;have z2:((s[0].toNat:Int)==48)=true:=by rw[J2];have:=q.2;omega
  clear q O
  go_in
  go_wp2
  go_ret
  exact⟨O8 F.o.symm,rfl⟩
 have F:Hid (If s.data.toList=if s.data.toList.all dg then(Pe s.data.toList:Int)else -1):=DZ (by
  rintro(h|h|⟨h,h'⟩)
  ·omega
  ·omega
  rw[Z.o]at h';exact q ⟨h,by rw[Option.some.inj h'];rfl⟩)
 have HZ:Hid (1<s.size->((s[0].toNat:Int)==48)=false):=fun h=>by rw[Jc];intro e;exact q ⟨h,by omega⟩
 clear q O
 go_in
 by_cases hq:1<s.size
 all_goals (try (have z:=HZ.o hq))
 all_goals (go_wp2_with fail)
 all_goals (go_loop [3,4] (fun nv i=>∃k N:Nat,k<=s.size/\i=.int .i64 k/\nv=.int .i64 (N:Nat)/\N<Tw k/\N=Pe (s.data.toList.take k)/\(s.data.toList.take k).all dg=true) (fun _ i=>s.size - (intOf i).toNat))
 all_goals (try (case atStart=>exact⟨0,0,Jp _,rfl,rfl,by decide,rfl,rfl⟩))
 all_goals (
  obtain⟨k,N,hk,rfl,rfl,hN,hv,hd⟩:=hrel;have HV:=Hd hv;have Y:=Hd hd;clear hv hd
  by_cases j:k<s.size
  ·have E:=QA k (by omega)
   by_cases J:dg s[k]=true
   ·have b4:=(Ql s[k]).1 J;have G:=Hd J;have V:=Hd E;have b3:N<1000000:=by omega
    have R:=Hd hN;clear E hN;clear J
    go_wp2_with (go_at_call 146;refine(Iw _ _).mono ?_;rw[G.o];rintro e w' ⟨rfl,rfl⟩)
    go_round
    case rel=>exact⟨k+1,N*10+(s[k].toNat - 48),by omega,by go_num,by go_num,by have:=R.o;rw[V.o.2 (by omega)];omega,by rw[IN s k j,<-HV.o],E9 j Y.o G.o⟩
    simp[intOf];omega
   have K:dg s[k]=false:=by simpa using J
   have G:=Hd K;clear J K E
   go_wp2_with (go_at_call 146;refine(Iw _ _).mono ?_;rw[G.o];rintro e w' ⟨rfl,rfl⟩)
   go_ret
   exact⟨O8 (by rw[F.o,Io j G.o];rfl),rfl⟩
  go_wp2
  go_ret
  exact⟨O8 (by rw[F.o,Dn j Y.o,HV.o,Yf (by rw[<-Lib.size_eq];omega)];rfl),rfl⟩)
def Kq(l:List UInt8)(i:Nat):Int:=match U8 (l.drop i)with|none => -1|some k=>((i+k:Nat):Int)
theorem Xt{p:UInt8->Bool}(hik:i<=k)(hk:k<=l.length)(h:∀j (hj:j<l.length),i<=j->j<k->p l[j]=true)(h1:∀hk:k<l.length,p l[k]=false):Ud p (l.drop i)=k - i:=by
 refine Ak (by simp;omega) (fun j hj hj2=>?_) (fun hj=>?_)
 ·rw[List.getElem_drop];exact h (i+j) (by simp at hj;omega) (by omega) (by omega)
 rw[List.getElem_drop];have e:i+(k - i)=k:=by omega
 simp only[e];exact h1 (by simp at hj;omega)
theorem X6(h:i<l.length):l.drop i=l[i]::l.drop (i+1):=Y3 h
theorem ZI(h:l.length<=i):Kq l i = -1:=by
 unfold Kq;rw[Yj h];rfl
theorem E3{c:UInt8}{n:Nat}(h:c.toNat=n):c=UInt8.ofNat n:=by rw[<-h];simp
def ZK(c:UInt8):Bool:=c != 41&&c != 124
def ZU(c:UInt8):Bool:=c != 124
def NP(c:UInt8):Bool:=c != 32&&c != 41
theorem C6(h:i<l.length)(h0:l[i]=40)(hik:i<=k)(hk:k<l.length)(hall:∀j (hj:j<l.length),i<=j->j<k->ZK l[j]=true)(hs:ZK l[k]=false):Kq l i=if l[k]=41 then((k+1:Nat):Int)else -1:=by
 have G:=Xt (p:=fun c=>c != 41&&c != 124) hik (Zj hk) hall (fun _=>hs);unfold Kq;have e:=X6 h;rw[h0]at e;have E:(l.drop i).getD (k - i) 0=l[k]:=by rw[J6,List.getElem?_drop,show i+(k - i)=k by omega,Jg hk];rfl
 have:U8 (l.drop i)=if k - i<(l.drop i).length/\(l.drop i).getD (k - i) 0=41 then some (k - i+1)else none:=by rw[<-G,e];rfl
 rw[this,E];have hl:k - i<(l.drop i).length:=by simp;omega
 by_cases q:l[k]=41
 ·rw[if_pos ⟨hl,q⟩,if_pos q];simp only[];omega
 rw[if_neg (fun h=>q h.2),if_neg q]
theorem C7(h:i<l.length)(h0:l[i]=40)(hall:∀j (hj:j<l.length),i<=j->ZK l[j]=true):Kq l i = -1:=by
 have q:=Xt (p:=fun c=>c != 41&&c != 124) (Zj h) leR (fun j hj hi _=>hall j hj hi) (fun hk=>absurd hk (Nat.lt_irrefl _));unfold Kq;have e:=X6 h;rw[h0]at e;have:U8 (l.drop i)=if l.length - i<(l.drop i).length/\(l.drop i).getD (l.length - i) 0=41 then some (l.length - i+1)else none:=by rw[<-q,e];rfl
 rw[this,if_neg (by simp)]
theorem GO(h:i<l.length)(h0:l[i]=124)(hik:i+1<=k)(hk:k<l.length)(hall:∀j (hj:j<l.length),i+1<=j->j<k->ZU l[j]=true)(hs:ZU l[k]=false):Kq l i=((k+1:Nat):Int):=by
 have q:=Xt (p:=(· != 124)) hik (Zj hk) hall (fun _=>hs);unfold Kq;have e:=X6 h;rw[h0]at e;have:U8 (l.drop i)=if k - (i+1)<(l.drop (i+1)).length then some (k - (i+1)+2)else none:=by rw[<-q,e];rfl
 rw[this,if_pos (by simp;omega)];simp only[];omega
theorem Lr(h:i<l.length)(h0:l[i]=124)(hall:∀j (hj:j<l.length),i+1<=j->ZU l[j]=true):Kq l i = -1:=by
 have q:=Xt (p:=(· != 124)) (show i+1<=l.length from h) leR (fun j hj hi _=>hall j hj hi) (fun hk=>absurd hk (Nat.lt_irrefl _));unfold Kq;have e:=X6 h;rw[h0]at e;have:U8 (l.drop i)=if l.length - (i+1)<(l.drop (i+1)).length then some (l.length - (i+1)+2)else none:=by rw[<-q,e];rfl
 rw[this,if_neg (by simp)]
theorem Qj(h:i<l.length)(h0:l[i]≠40)(h1:l[i]≠124)(hik:i<=k)(hk:k<=l.length)(hall:∀j (hj:j<l.length),i<=j->j<k->NP l[j]=true)(hs:∀hk:k<l.length,NP l[k]=false):Kq l i=((k:Nat):Int):=by
 have q:=Xt (p:=fun c=>c != 32&&c != 41) hik hk hall hs;unfold Kq;have e:=X6 h;have:U8 (l.drop i)=some (k - i):=by
  rw[<-q,e];unfold U8
  split
  ·rename_i e';cases e'
  ·rename_i e';exact absurd (List.cons.inj e').1 h0
  ·rename_i e';exact absurd (List.cons.inj e').1 h1
  rfl
 rw[this];simp only[];omega
end Go.Proofs.YtfkagjelljnpdaaGreatDoor
