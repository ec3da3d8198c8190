import Derived.Test.YtipgjenolpofpaaGreatDoorP24
import Derived.Test.YtipgjenolpofpaaGreatDoorP23
import Derived.WalkSmall
import Derived.Deep.RegionHeld3
set_option maxRecDepth 100000
set_option maxHeartbeats 4000000
namespace Go.Proofs.YtipgjenolpofpaaGreatDoor
open ChangeShapes WideShapes ChangeAt RowKit
def LP:Tm:=⟨0,[],[],0,0,[]⟩
def Ky (T:List Tm)(x:Int):Tm:=(T[x.toNat]?).getD LP
def E1 (T:List Tm)(t:Tm):List (List UInt8):=t.kids.map (fun x=>(Ky T x).sort)
def Xz (n:Nat)(t:Tm):Bool:=t.kids.all (fun x=>decide (0<=x/\x<(n:Int)))
def kS (ks:List (List UInt8))(i:Nat):List UInt8:=(ks[i]?).getD []
def Kl (rd:List UInt8->SI)(ks:List (List UInt8))(i:Nat):SI:=if i<ks.length then rd (kS ks i) else SI.none
def Oj (rd:List UInt8->SI)(t:Tm)(ks:List (List UInt8)):Bool:=
 if t.op=24 then decide ((rd t.sort).kind=4)&&decide (t.text.length=(rd t.sort).width)&&t.text.all Hu
 else if 38<=t.op/\t.op<=41 then decide (t.sort=Oc)&&decide (kS ks 0=kS ks 1)&&decide ((Kl rd ks 0).kind=4)
 else if t.op=42 then decide ((Kl rd ks 0).kind=4)&&decide ((Kl rd ks 1).kind=4)&&decide ((rd t.sort).kind=4)&&decide ((rd t.sort).width=(Kl rd ks 0).width+(Kl rd ks 1).width)
 else if t.op=43 then decide ((Kl rd ks 0).kind=4)&&decide (t.a<(Kl rd ks 0).width)&&decide (t.b<=t.a)&&decide (0<=t.b)&&decide ((rd t.sort).kind=4)&&decide (((rd t.sort).width:Int)=t.a - t.b+1)
 else if t.op=44∨t.op=45 then decide ((Kl rd ks 0).kind=4)&&decide ((rd t.sort).kind=4)&&decide (1<=t.a)&&decide (t.a<64)&&decide (((rd t.sort).width:Int)=(Kl rd ks 0).width+t.a)
 else if t.op=46 then decide ((Kl rd ks 0).kind=6)&&decide ((Kl rd ks 0).index=kS ks 1)&&decide ((Kl rd ks 0).elem=t.sort)
 else if t.op=47 then decide ((rd t.sort).kind=6)&&decide (kS ks 0=t.sort)&&decide ((rd t.sort).index=kS ks 1)&&decide ((rd t.sort).elem=kS ks 2)
 else decide ((rd t.sort).kind=4)&&K1 ks t.sort
def Oa (s:List UInt8):Bool:=decide (s=Kn)||decide (s=Ki)
def So (F:List Fn)(t:Tm)(ks:List (List UInt8)):Bool:=match Oq F t.text with
 | none=>false
 | some i=>match F[i]? with
   | none=>false
   | some x=>decide (t.sort=x.sort)&&decide (ks=x.args)
def Nv (rd:List UInt8->SI)(num:Tm->Bool)(F:List Fn)(T:List Tm)(t:Tm)(ks:List (List UInt8)):Bool:=
 if t.op=1∨t.op=2 then decide (t.sort=Oc)
 else if 3<=t.op/\t.op<=7 then decide (t.sort=Oc)&&K1 ks Oc
 else if t.op=8 then decide (kS ks 0=Oc)&&decide (kS ks 1=t.sort)&&decide (kS ks 2=t.sort)
 else if t.op=9∨t.op=10 then decide (t.sort=Oc)&&K1 ks (kS ks 0)
 else if t.op=11 then So F t ks
 else if t.op=12 then num t
 else if 13<=t.op/\t.op<=15 then Oa t.sort&&K1 ks t.sort
 else if t.op=16 then Oa t.sort&&K1 ks t.sort&&decide ((Ky T (t.kids.headD 0)).op=12)
 else if 17<=t.op/\t.op<=20 then decide (t.sort=Oc)&&decide (kS ks 0=kS ks 1)&&Oa (kS ks 0)
 else if t.op=21∨t.op=22 then decide (t.sort=Kn)&&K1 ks Kn&&decide ((Ky T ((t.kids[1]?).getD 0)).op=12)&&decide ((Ky T ((t.kids[1]?).getD 0)).text≠[48])
 else if t.op=23 then decide (t.sort=Ki)&&decide (kS ks 0=Kn)
 else Oj rd t ks
def M7 (rd:List UInt8->SI)(num:Tm->Bool)(F:List Fn)(T:List Tm)(t:Tm):Bool:=Kf t&&Xz T.length t&&Nv rd num F T t (E1 T t)
structure Rule where
 last:Nat
 least:Nat
 most:Nat
 sort:Nat
 r0:Nat
 r1:Nat
 r2:Nat
def rules:List Rule:=[⟨2,0,0,1,0,0,0⟩,⟨3,1,1,1,12,0,0⟩,⟨5,2,50,1,12,12,12⟩,⟨7,2,2,1,12,12,0⟩,⟨8,3,3,10,1,12,12⟩,⟨9,2,2,1,10,13,0⟩,⟨10,2,50,1,10,13,13⟩,⟨11,0,5,10,14,14,14⟩,⟨12,0,0,11,0,0,0⟩,⟨13,2,50,11,12,12,12⟩,⟨14,2,2,11,12,12,0⟩,⟨15,1,1,11,12,0,0⟩,⟨16,2,2,11,15,12,0⟩,⟨20,2,2,1,11,13,0⟩,⟨22,2,2,2,12,16,0⟩,⟨23,1,1,3,2,0,0⟩,⟨24,0,0,4,0,0,0⟩,⟨26,1,1,4,12,0,0⟩,⟨37,2,2,4,12,12,0⟩,⟨41,2,2,1,4,13,0⟩,⟨42,2,2,4,4,4,0⟩,⟨43,1,1,4,4,0,0⟩,⟨45,1,1,4,4,0,0⟩,⟨46,2,2,10,17,18,0⟩,⟨47,3,3,6,12,18,19⟩]
def Ep (op:Int):Option Rule:=if op<=0 then none else rules.find? (fun r=>decide (op<=(r.last:Int)))
def Rule.role (r:Rule)(p:Nat):Nat:=if p=0 then r.r0 else if p=1 then r.r1 else r.r2
def Kg (rd:List UInt8->SI)(F:List Fn)(f2:List UInt8->Option Nat)(T:List Tm)(t:Tm)(r p:Nat):Bool:=
 let k:=Ky T ((t.kids[p]?).getD 0)
 let k0:=Ky T ((t.kids[0]?).getD 0)
 if r=12 then decide (k.sort=t.sort)
 else if r=13 then decide (k.sort=k0.sort)
 else if r=14 then decide (some k.sort=((f2 t.text).bind (fun i=>F[i]?)).bind (fun x=>x.args[p]?))
 else if r=15 then decide (k.sort=t.sort)&&decide (k.op=12)
 else if r=16 then decide (k.sort=t.sort)&&decide (k.op=12)&&decide (k.text≠[48])
 else if r=17 then decide ((rd k.sort).elem=t.sort)
 else if r=18 then decide ((rd k0.sort).index=k.sort)
 else if r=19 then decide ((rd k0.sort).elem=k.sort)
 else O5 r (rd k.sort).kind
def U7 (rd:List UInt8->SI)(num:Tm->Bool)(F:List Fn)(f2:List UInt8->Option Nat)(T:List Tm)(t:Tm):Bool:=
 let wd:=(rd t.sort).width
 let w0:=(rd (Ky T ((t.kids[0]?).getD 0)).sort).width
 let w1:=(rd (Ky T ((t.kids[1]?).getD 0)).sort).width
 if t.op=11 then Gz F f2 t
 else if t.op=12 then num t
 else if t.op=24 then decide (t.text.length=wd)&&t.text.all Hu
 else if t.op=42 then decide (wd=w0+w1)
 else if t.op=43 then decide (t.a<w0)&&decide (t.b<=t.a)&&decide (0<=t.b)&&decide ((wd:Int)=t.a - t.b+1)
 else if t.op=44∨t.op=45 then decide (1<=t.a)&&decide (t.a=(wd:Int) - w0)
 else true
def Gi (rd:List UInt8->SI)(num:Tm->Bool)(F:List Fn)(f2:List UInt8->Option Nat)(T:List Tm)(t:Tm):Bool:=match Ep t.op with
 | none=>false
 | some r=>decide (r.least<=t.kids.length/\t.kids.length<=r.most)&&Xz T.length t&&O5 r.sort (rd t.sort).kind&&G1 t&&U7 rd num F f2 T t&&(List.range t.kids.length).all (fun p=>Kg rd F f2 T t (r.role p) p)
structure RdOk (rd:List UInt8->SI):Prop where
 b:∀ s,(rd s).kind=1↔s=Oc
 i:∀ s,(rd s).kind=2↔s=Kn
 r:∀ s,(rd s).kind=3↔s=Ki
 w0:∀ s,(rd s).kind≠4->(rd s).width=0
 w4:∀ s,(rd s).kind=4->1<=(rd s).width/\(rd s).width<=64
 a0:∀ s,(rd s).kind≠6->(rd s).index=[]/\(rd s).elem=[]
 a6:∀ s,(rd s).kind=6->(rd (rd s).elem).kind≠0
 e:(rd []).kind=0
theorem FI {l:List Int}(h:1<=l.length/\l.length<=1):∃ a,l=[a]:=by
 match l,h with
 | [a],_=>exact⟨a,rfl⟩
theorem CI {l:List Int}(h:2<=l.length/\l.length<=2):∃ a b,l=[a,b]:=by
 match l,h with
 | [a,b],_=>exact⟨a,b,rfl⟩
theorem FX {l:List Int}(h:3<=l.length/\l.length<=3):∃ a b c,l=[a,b,c]:=by
 match l,h with
 | [a,b,c],_=>exact⟨a,b,c,rfl⟩
theorem CH {l:List Int}(h:0<=l.length/\l.length<=0):l=[]:=List.length_eq_zero_iff.1 (by omega)
theorem ZG {f:Nat->Bool}:(List.range 2).all f=(f 0&&f 1):=by simp[List.range_succ]
theorem QK {f:Nat->Bool}:(List.range 3).all f=(f 0&&f 1&&f 2):=by simp[List.range_succ,Bool.and_assoc]
theorem CG {rd:List UInt8->SI}{T:List Tm}(hT:∀ u∈T,(rd u.sort).kind≠0){x:Int}(h:0<=x/\x<(T.length:Int)):(rd (Ky T x).sort).kind≠0:=by
 unfold Ky;rw[Jf (by omega)];exact hT _ (Jw _)
theorem RY {rd:List UInt8->SI}{num:Tm->Bool}{F:List Fn}{f2:List UInt8->Option Nat}{T:List Tm}{t:Tm}{r:Rule}(hr:Ep t.op=some r)(h1:r.least=Kh t.op)(h2:r.most=Ds t.op)(ho:1<=t.op/\t.op<=47)
 (hb:(Kh t.op<=t.kids.length/\t.kids.length<=Ds t.op)->Xz T.length t=true->G1 t=true->(O5 r.sort (rd t.sort).kind&&U7 rd num F f2 T t&&(List.range t.kids.length).all (fun p=>Kg rd F f2 T t (r.role p) p))=Nv rd num F T t (E1 T t)):Gi rd num F f2 T t=M7 rd num F T t:=by
 unfold Gi M7;rw[hr];simp only;have d:Kf t=(decide (r.least<=t.kids.length/\t.kids.length<=r.most)&&G1 t):=by
  unfold Kf G1;rw[h1,h2,Jb ho];rw[Yb];simp only[J3,Uq,Yg,Za]
  grind
 rw[d]
 by_cases c1:r.least<=t.kids.length/\t.kids.length<=r.most
 ·cases c2:Xz T.length t
  ·simp
  cases c3:G1 t
  ·simp
  have:=hb (by rw[<-h1,<-h2];exact c1) c2 c3;rw[<-this];simp[Bool.and_assoc]
 rw[Jg c1];simp
theorem Fs {o:Int}(h:¬ (1<=o/\o<=47)):Ep o=none:=by
 unfold Ep
 split
 ·rfl
 rw[List.find?_eq_none];intro r d;have:r.last<=47:=by
  simp only[rules,Vz,List.not_mem_nil,or_false] at d
  rcases d with rfl|rfl|rfl|rfl|rfl|rfl|rfl|rfl|rfl|rfl|rfl|rfl|rfl|rfl|rfl|rfl|rfl|rfl|rfl|rfl|rfl|rfl|rfl|rfl|rfl<;>decide
 simp;omega
theorem Mv {l:List Int}{g:Int->Bool}:(List.range l.length).all (fun p=>g ((l[p]?).getD 0))=l.all g:=by
 rw[Yb,Ju,Ju];constructor
 ·intro h x E;obtain⟨j,A,rfl⟩:=Ya E;have:=h j (by simpa using A)
  rwa [Jf A] at this
 intro h p d;have d:=Y6.1 d;rw[Jf d];exact h _ (Jw _)
theorem UO {T:List Tm}{t:Tm}{s:List UInt8}:K1 (E1 T t) s=t.kids.all (fun x=>decide ((Ky T x).sort=s)):=by
 unfold K1 E1;rw[List.all_map];rfl
theorem Pc {rd:List UInt8->SI}{F:List Fn}{f2:List UInt8->Option Nat}{T:List Tm}{t:Tm}{la le mo so:Nat}:(List.range t.kids.length).all (fun p=>Kg rd F f2 T t (Rule.role ⟨la,le,mo,so,12,12,12⟩ p) p)=K1 (E1 T t) t.sort:=by
 rw[UO,<-Mv]
 congr 1
 funext p
 simp[Rule.role,Kg]
theorem YV {rd:List UInt8->SI}{F:List Fn}{f2:List UInt8->Option Nat}{T:List Tm}{t:Tm}{la le mo so:Nat}(hk:∀ x∈t.kids,(rd (Ky T x).sort).kind≠0)(hl:2<=t.kids.length):(List.range t.kids.length).all (fun p=>Kg rd F f2 T t (Rule.role ⟨la,le,mo,so,10,13,13⟩ p) p)=K1 (E1 T t) (kS (E1 T t) 0):=by
 have E:kS (E1 T t) 0=(Ky T ((t.kids[0]?).getD 0)).sort:=by
  unfold kS E1;rw[Y1,Jf (by omega)];rfl
 rw[UO,<-Mv,Yb,Ju,Ju,E];constructor
 ·intro h p A;have:=h p A
  by_cases d:p=0
  ·subst d;simp
  by_cases j:p=1
  ·subst j;simpa[Rule.role,Kg] using this
  simpa[Rule.role,Kg,d,j] using this
 intro h p A;have:=h p A
 by_cases d:p=0
 ·subst d;have:=hk _ (Jw (l:=t.kids) (n:=0) (by omega));simp[Rule.role,Kg,O5];rw[Jf (by omega)];exact this
 by_cases j:p=1
 ·subst j;simpa[Rule.role,Kg] using this
 simpa[Rule.role,Kg,d,j] using this
theorem XU {rd:List UInt8->SI}{F:List Fn}{f2:List UInt8->Option Nat}{T:List Tm}{t:Tm}{la le mo so:Nat}{i:Nat}{x:Fn}(hf:f2 t.text=some i)(hx:F[i]? = some x)(hl:x.args.length=t.kids.length):(List.range t.kids.length).all (fun p=>Kg rd F f2 T t (Rule.role ⟨la,le,mo,so,14,14,14⟩ p) p)=decide (E1 T t=x.args):=by
 rw[Yb,Ju,Js];have d:∀ p,Kg rd F f2 T t (Rule.role ⟨la,le,mo,so,14,14,14⟩ p) p=decide (some (Ky T ((t.kids[p]?).getD 0)).sort=x.args[p]?):=by
  intro p;simp[Rule.role,Kg,hf,hx]
 constructor
 ·intro h;refine Ul (by simp[E1,hl]) (fun p h1 h2=>?_);have:=h p (by rw[Y6,<-hl];exact h2);rw[d,Js,Jf h2,Jf (by omega)] at this
  simpa[E1] using this
 intro h p j;have j:=Y6.1 j;rw[d,Js,Jf (by omega)];rw[Jf (by omega)]
 congr 1
 have:(E1 T t)[p]'(by simp[E1];exact j)=x.args[p]'(by omega):=by simp[h]
 rw[<-this];simp[E1]
theorem FF {rd:List UInt8->SI}(hrd:RdOk rd){num:Tm->Bool}{F:List Fn}{f2:List UInt8->Option Nat}{T:List Tm}(hT:∀ u∈T,(rd u.sort).kind≠0)(hF:∀ f∈F,(rd f.sort).kind≠0)(hf:f2=Oq F)
 (hnum:∀ t,num t=true->(rd t.sort).kind=2∨(rd t.sort).kind=3) (t:Tm):Gi rd num F f2 T t=M7 rd num F T t:=by
 by_cases I:¬ (1<=t.op/\t.op<=47)
 ·unfold Gi M7 Kf;rw[Fs I,Jg I];simp
 have I:=Decidable.not_not.1 I;have j:=hrd.b;have A:=hrd.i;have E:=hrd.r;have K:=hrd.w0;have M:=hrd.w4;have Z:=hrd.a0;have a7:=hrd.a6;obtain⟨o,so,U,a,b,O⟩:=t;have J:∀ x,Xz T.length ⟨o,so,U,a,b,O⟩=true->x∈O->(rd (Ky T x).sort).kind≠0:=fun x h hx=>CG hT (by simpa[Xz] using Ju.1 h x hx)
 rcases UD I with h|h|h|h|h|h|h|h|h|h|h|h|h|h|h|h|h|h|h|h|h|h|h|h|h|h|h|h|h|h|h|h|h|h|h|h|h|h|h|h|h|h|h|h|h|h|h
 all_goals (simp only at h;subst h;refine RY rfl rfl rfl I ?_;intro hl hr hm;have d:=fun x=>J x hr;clear J)
 all_goals (try (obtain rfl:=CH hl;simp[Nv,U7,Kg,O5,Oj,j,A,E];done))
 all_goals (try (obtain⟨x,rfl⟩:=FI hl;have G:=d x (by simp);rw[Yb];simp[Nv,U7,Kg,O5,Rule.role,E1,K1,kS,Kl,Oj,j,A,E,Oa];done))
 all_goals (try (obtain⟨x,rfl⟩:=FI hl;have G:=d x (by simp);have e1:=K so;have e2:=M so;have e3:=K (Ky T x).sort;have e4:=M (Ky T x).sort;rw[Yb];simp[Nv,U7,Kg,O5,Rule.role,E1,K1,kS,Kl,Oj,j,A,E];grind))
 all_goals (try (obtain⟨x,y,rfl⟩:=CI hl;have G:=d x (by simp);have V:=d y (by simp);rw[Yb];simp[Nv,U7,Kg,O5,Rule.role,E1,K1,kS,Kl,Oj,j,A,E,ZG,Oa];done))
 all_goals (try (obtain⟨x,y,rfl⟩:=CI hl;have G:=d x (by simp);have V:=d y (by simp);rw[Yb];simp[Nv,U7,Kg,O5,Rule.role,E1,K1,kS,Kl,Oj,j,A,E,ZG,Oa];grind))
 all_goals (try (obtain⟨x,y,rfl⟩:=CI hl;have G:=d x (by simp);have V:=d y (by simp);have e1:=Z (Ky T x).sort;have e2:=a7 (Ky T x).sort;have e3:=hrd.e;rw[Yb];simp[Nv,U7,Kg,O5,Rule.role,E1,kS,Kl,Oj,A,E,ZG];grind))
 all_goals (try (obtain⟨x,y,z,rfl⟩:=FX hl;have G:=d x (by simp);have V:=d y (by simp);have h3:=d z (by simp);rw[Yb];simp[Nv,U7,Kg,O5,Rule.role,E1,kS,Oj,j,A,E,QK];done))
 all_goals (try (obtain⟨x,y,z,rfl⟩:=FX hl;have G:=d x (by simp);have V:=d y (by simp);have h3:=d z (by simp);rw[Yb];simp[Nv,U7,Kg,O5,Rule.role,E1,kS,Oj,j,A,E,QK];grind))
 ·rw[Pc,Yb];simp[Nv,U7,O5,j];grind
 ·rw[Pc,Yb];simp[Nv,U7,O5,j];grind
 ·rw[YV d hl.1];simp[Nv,U7,O5,j]
 ·simp only[Nv,U7];simp[So,Gz,hf]
  cases hx:Oq F U with
  | none=>simp
  | some i=>
    simp only
    cases hy:F[i]? with
    | none=>simp
    | some x=>
      simp only
      by_cases Y:x.args.length=O.length
      ·have:=XU (rd:=rd) (T:=T) (t:=⟨11,so,U,a,b,O⟩) (la:=11) (le:=0) (mo:=5) (so:=10) (f2:=Oq F) hx hy Y;simp only at this;rw[this,Jb Y];have a8:=hF x (Ve hy)
       by_cases hs:x.sort=so
       ·subst hs;simp[O5,a8]
       have:so≠x.sort:=fun e=>hs e.symm;simp[hs,this]
      have:E1 T ⟨11,so,U,a,b,O⟩≠x.args:=fun e=>Y (by rw[<-e];simp[E1]);simp[Y,this]
 ·obtain rfl:=CH hl;have:=hnum ⟨12,so,U,a,b,[]⟩;simp[Nv,U7,O5];rw[Yb];simp
  grind
 ·rw[Pc,Yb];simp[Nv,U7,O5,A,E,Oa]
 obtain rfl:=CH hl;simp[Nv,U7,O5,Oj,Bool.and_assoc]
theorem QZ (own:List UInt8->Bool){e:List UInt8}(h:e.take 7=K4):Od own e=SI.none:=by
 have d:e.head? = some 40:=by
  cases e with
  | nil=>cases h
  | cons c r=>simp[K4] at h;simp[h.1]
 have j:e≠Oc:=fun h2=>by subst h2;exact absurd h (by decide)
 have h2:e≠Kn:=fun h2=>by subst h2;exact absurd h (by decide)
 have h3:e≠Ki:=fun h2=>by subst h2;exact absurd h (by decide)
 have h4:¬ 0<E9 e:=fun h4=>by
  obtain⟨w,-,-,rfl,-⟩:=Gq h4;simp[Ni,Lg,K4] at h
 unfold Od;rw[if_neg j,if_neg h2,if_neg h3,if_neg h4]
 cases hn:Ny e with
 | none=>rfl
 | some n=>
   exfalso
   rcases Xh hn with⟨A,-⟩|⟨-,rfl⟩
   ·have:=(Ff A).2 40 (List.mem_of_head? d);exact absurd this (by decide)
   simp at d
theorem ND (own:List UInt8->Bool){e:List UInt8}(h:O0 (Od own e)=true):Ov own e=Od own e:=by
 unfold Ov;rw[if_neg];intro d;rw[QZ own d] at h;exact absurd h (by decide)
theorem Fa (own:List UInt8->Bool){s:List UInt8}(ht:¬ s.take 7=K4):Ov own s=Od own s:=by
 unfold Ov;rw[if_neg ht]
theorem ZH (own:List UInt8->Bool):RdOk (Ov own):=by
 have A:∀ s,(s.take 7=K4/\s≠Oc/\s≠Kn/\s≠Ki/\(Ov own s=SI.none∨∃ i e,O0 (Od own e)=true/\Ov own s=⟨6,0,i,e⟩))∨(s=Oc/\Ov own s=⟨1,0,[],[]⟩)∨(s=Kn/\Ov own s=⟨2,0,[],[]⟩)∨(s=Ki/\Ov own s=⟨3,0,[],[]⟩)∨(s≠Oc/\s≠Kn/\s≠Ki/\((∃ w,0<w/\w<65/\Ov own s=⟨4,w,[],[]⟩)∨Ov own s=⟨5,0,[],[]⟩∨Ov own s=SI.none)):=by
  intro s
  by_cases j:s.take 7=K4
  ·refine .inl ⟨j,fun h2=>by subst h2;exact absurd j (by decide),fun h2=>by subst h2;exact absurd j (by decide),fun h2=>by subst h2;exact absurd j (by decide),?_⟩
   rcases Ir own j with h|⟨i,e,ha,h⟩
   ·exact .inl h
   exact .inr ⟨i,e,ha.2.2,h⟩
  rw[Fa own j];refine .inr ?_
  by_cases d:s=Oc
  ·exact .inl ⟨d,by unfold Od;rw[if_pos d]⟩
  by_cases h2:s=Kn
  ·exact .inr (.inl ⟨h2,by unfold Od;rw[if_neg d,if_pos h2]⟩)
  by_cases h3:s=Ki
  ·exact .inr (.inr (.inl ⟨h3,by unfold Od;rw[if_neg d,if_neg h2,if_pos h3]⟩))
  refine .inr (.inr (.inr ⟨d,h2,h3,?_⟩))
  by_cases h4:0<E9 s
  ·obtain⟨w,w0,J,-,O⟩:=Gq h4;exact .inl ⟨w,w0,J,by unfold Od;rw[if_neg d,if_neg h2,if_neg h3,if_pos h4,O]⟩
  refine .inr ?_;unfold Od;rw[if_neg d,if_neg h2,if_neg h3,if_neg h4]
  cases Ny s with
  | none=>exact .inr rfl
  | some n=>
    simp only
    split
    ·exact .inl rfl
    exact .inr rfl
 have z:SI.none.kind=0/\SI.none.width=0/\SI.none.index=[]/\SI.none.elem=[]:=⟨rfl,rfl,rfl,rfl⟩;have U:Oc≠Kn/\Oc≠Ki/\Kn≠Ki:=by decide
 refine⟨fun s=>?_,fun s=>?_,fun s=>?_,fun s=>?_,fun s=>?_,fun s=>?_,fun s=>?_,?_⟩
 case' _=>
  skip
 rotate_left
 case' _=>
  skip
 rotate_left
 case' _=>
  skip
 rotate_left
 case' _=>
  skip
 rotate_left
 case' _=>
  skip
 rotate_left
 case' _=>
  skip
 rotate_left
 ·rcases A s with⟨_,E,G,I,h|⟨i,e,M,h⟩⟩|⟨rfl,h⟩|⟨rfl,h⟩|⟨rfl,h⟩|⟨E,G,I,⟨w,w0,J,h⟩|h|h⟩<;>rw[h]<;>intro K
  ·exact absurd K (by decide)
  ·simp only;rw[ND own M];have:=(Rz own e).1 M;exact this.1
  all_goals exact absurd K (by simp[SI.none])
 ·rw[Fa own (by decide)];unfold Od;rw[if_neg (by decide),if_neg (by decide),if_neg (by decide),if_neg (by decide)];rfl
 all_goals rcases A s with⟨_,E,G,I,h|⟨i,e,_,h⟩⟩|⟨rfl,h⟩|⟨rfl,h⟩|⟨rfl,h⟩|⟨E,G,I,⟨w,w0,J,h⟩|h|h⟩<;>rw[h]<;>grind
end Go.Proofs.YtipgjenolpofpaaGreatDoor
namespace Go.Proofs.YtipgjenolpofpaaGreatDoor
open ChangeShapes WideShapes ChangeAt RowKit Proofs.Tryz
structure Keep (w w':World):Prop where
 size:w.heap.size<=w'.heap.size
 cell:∀ p v,w.cell? p=some v->w'.cell? p=some v
theorem Tz {w:World}{b n:Nat}{g:List UInt8->Option SI}{p:Addr}{v:Value}(h:KM w b n g)(hc:w.cell? p=some v):p.block≠b:=by
 intro e;obtain⟨D,⟨A,j,d,G⟩,E⟩:=h;unfold World.cell? at hc;rw[e,d] at hc;cases hc
theorem Bar.keep {w w':World}{gb n:Nat}{g:List UInt8->Option SI}(hb:Bar gb w w')(h:KM w gb n g):Keep w w':=
 ⟨hb.size,fun p v hc=>by rw[hb.cell (Ye w _ hc) (Tz h hc)];exact hc⟩
theorem Below.keep {w w':World}(hb:Up w w'):Keep w w':=
 ⟨hb.size,fun p v hc=>by rw[hb.cell (Ye w _ hc)];exact hc⟩
theorem O8.keep {w w':World}{v:Value}{L:List (List UInt8)}(h:O8 w v L)(hb:Keep w w'):O8 w' v L:=by
 obtain⟨p,c,rfl,d,j,h3⟩:=h;refine⟨p,c,rfl,d,j,?_⟩
 rcases h3 with h3|⟨b,e,hl,hc⟩
 ·exact .inl h3
 exact .inr ⟨b,e,Jz hl hb.size,fun i hi=>hb.cell _ _ (hc i hi)⟩
theorem U5.keep {w w':World}{v:Value}{L:List Int}(h:U5 w v L)(hb:Keep w w'):U5 w' v L:=by
 obtain⟨p,c,rfl,d,j,h3⟩:=h;refine⟨p,c,rfl,d,j,?_⟩
 rcases h3 with h3|⟨b,e,hl,hc⟩
 ·exact .inl h3
 exact .inr ⟨b,e,Jz hl hb.size,fun i hi=>hb.cell _ _ (hc i hi)⟩
theorem Eh.keep {w w':World}{v:Value}{F:List Fn}(h:Eh w v F)(hb:Keep w w'):Eh w' v F:=by
 obtain⟨p,c,rfl,d,j,h3⟩:=h;refine⟨p,c,rfl,d,j,?_⟩
 rcases h3 with h3|⟨b,e,hl,hc⟩
 ·exact .inl h3
 refine .inr ⟨b,e,Jz hl hb.size,fun i hi=>?_⟩;obtain⟨A,⟨G,E,ha⟩,k2⟩:=hc i hi;exact⟨hb.cell _ _ A,⟨G,hb.cell _ _ E,ha.keep hb⟩,hb.cell _ _ k2⟩
theorem Km.keep {w w':World}{v:Value}{T:List Tm}(h:Km w v T)(hb:Keep w w'):Km w' v T:=by
 obtain⟨p,c,rfl,d,j,h3⟩:=h;refine⟨p,c,rfl,d,j,?_⟩
 rcases h3 with h3|⟨b,e,hl,hc⟩
 ·exact .inl h3
 refine .inr ⟨b,e,Jz hl hb.size,fun i hi=>?_⟩;obtain⟨A,E,k2,k3,k4,G,k5,ha⟩:=hc i hi;exact⟨hb.cell _ _ A,hb.cell _ _ E,hb.cell _ _ k2,hb.cell _ _ k3,hb.cell _ _ k4,G,hb.cell _ _ k5,ha.keep hb⟩
theorem EV.keep {w w':World}(h:EV w)(hb:Keep w w'):EV w':=by
 obtain⟨⟨d,c1,A⟩,j,c2,k2⟩:=h;exact⟨⟨d,hb.cell _ _ c1,A⟩,j,hb.cell _ _ c2,k2⟩
def RT (w:World):Prop:=∀ i (h:i<rules.length),w.cell? ⟨0,i*7,none⟩=some (.int .u8 (rules[i].last:Nat))/\w.cell? ⟨0,i*7+1,none⟩=some (.int .u8 (rules[i].least:Nat))/\w.cell? ⟨0,i*7+2,none⟩=some (.int .u8 (rules[i].most:Nat))/\w.cell? ⟨0,i*7+3,none⟩=some (.int .u8 (rules[i].sort:Nat))/\w.cell? ⟨0,i*7+4,none⟩=some (.int .u8 (rules[i].r0:Nat))/\w.cell? ⟨0,i*7+5,none⟩=some (.int .u8 (rules[i].r1:Nat))/\w.cell? ⟨0,i*7+6,none⟩=some (.int .u8 (rules[i].r2:Nat))
theorem RT.keep {w w':World}(h:RT w)(hb:Keep w w'):RT w':=fun i hi=>by
 obtain⟨d,j,k2,k3,k4,k5,k6⟩:=h i hi
 exact⟨hb.cell _ _ d,hb.cell _ _ j,hb.cell _ _ k2,hb.cell _ _ k3,hb.cell _ _ k4,hb.cell _ _ k5,hb.cell _ _ k6⟩
theorem G0.bar {w w':World}{b c:Nat}{f:List UInt8->Option Nat}(h:G0 w b f)(hb:Bar c w w')(hc:b≠c):G0 w' b f:=by
 obtain⟨n,D,hn,⟨E,A,j,I⟩,G⟩:=h;have d:b<w.heap.size:=(J1.1 j).1;exact⟨n,D,hn,⟨E,A,(hb.block b d hc).trans j,I⟩,G⟩
structure BK (w:World)(kb sb fb gb n:Nat)(S:List (List UInt8))(F:List Fn)(T:List Tm)(vS vF vT v5:Value)(g:List UInt8->Option SI):Prop where
 box:Bx w kb [vS,vF,vT,.map (some sb),.map (some fb),v5,.map (some gb)]
 sm:G0 w sb (Og S)
 fm:G0 w fb (Oq F)
 fr:Eh w vF F
 tr:Km w vT T
 km:KM w gb n g
 ok:VT (Og S) g
 ev:EV w
 rt:RT w
 ns:sb≠gb
 nf:fb≠gb
theorem BK.bar {w w':World}{kb sb fb gb n n':Nat}{S:List (List UInt8)}{F:List Fn}{T:List Tm}{vS vF vT v5:Value}{g g':List UInt8->Option SI}(h:BK w kb sb fb gb n S F T vS vF vT v5 g)(hb:Bar gb w w')(hk:KM w' gb n' g')(ho:VT (Og S) g'):BK w' kb sb fb gb n' S F T vS vF vT v5 g':=by
 have d:=hb.keep h.km;have j:kb≠gb:=Tz h.km (h.box.cell 0);exact⟨h.box.bar hb j,h.sm.bar hb h.ns,h.fm.bar hb h.nf,h.fr.keep d,h.tr.keep d,hk,ho,h.ev.keep d,h.rt.keep d,h.ns,h.nf⟩
theorem BK.next {w w':World}{kb sb fb gb n:Nat}{S:List (List UInt8)}{F:List Fn}{T:List Tm}{vS vF vT v5:Value}{g:List UInt8->Option SI}(h:BK w kb sb fb gb n S F T vS vF vT v5 g)(hb:Up w w'):BK w' kb sb fb gb n S F T vS vF vT v5 g:=
 h.bar (Bar.of hb) (h.km.low hb h.km.lt) h.ok
def O6 (w w':World)(kb sb fb gb n:Nat)(S:List (List UInt8))(F:List Fn)(T:List Tm)(vS vF vT v5:Value)(m:Nat):Prop:=∃ n' g',n'<=n+m/\BK w' kb sb fb gb n' S F T vS vF vT v5 g'/\Bar gb w w'
theorem O6.of {w w':World}{kb sb fb gb n:Nat}{S:List (List UInt8)}{F:List Fn}{T:List Tm}{vS vF vT v5:Value}{g:List UInt8->Option SI}(h:BK w kb sb fb gb n S F T vS vF vT v5 g)(hb:Up w w')(m:Nat):O6 w w' kb sb fb gb n S F T vS vF vT v5 m:=
 ⟨n,g,Nat.le_add_right _ _,h.next hb,Bar.of hb⟩
theorem ask_sort {w:World}{kb sb fb gb n:Nat}{S:List (List UInt8)}{F:List Fn}{T:List Tm}{vS vF vT v5:Value}{g:List UInt8->Option SI}(h:BK w kb sb fb gb n S F T vS vF vT v5 g)(s:ByteArray)(hs:s.size<=1048576)(hn:n<=1000000000) :
 Calls prog 98 #[.pointer (some ⟨kb,0,none⟩),.string s] w fun e w'=>e=.returned (N9 (Ov (Oh (Og S)) s.data.toList))/\O6 w w' kb sb fb gb n S F T vS vF vT v5 1:=by
 refine (F5 kb sb gb n (Og S) g s w hs hn h.ev h.box.c7.2.2.2.1 h.box.c7.2.2.2.2.2.2 h.sm h.sm.lt h.km h.ok).mono ?_;rintro e w' ⟨d,rfl,j,A,hb⟩;exact⟨rfl,n+1,d,Of,h.bar hb j A,hb⟩
theorem A4 {w:World}{kb sb fb gb n:Nat}{S:List (List UInt8)}{F:List Fn}{T:List Tm}{vS vF vT v5:Value}{g:List UInt8->Option SI}(h:BK w kb sb fb gb n S F T vS vF vT v5 g)(r:Int)(hr:0<=r/\r<=255)(s:ByteArray)(hs:s.size<=1048576)(hn:n<=1000000000) :
 Calls prog 100 #[.pointer (some ⟨kb,0,none⟩),.int .u8 r,.string s] w fun e w'=>e=.returned (.bool (O5 r (Ov (Oh (Og S)) s.data.toList).kind))/\O6 w w' kb sb fb gb n S F T vS vF vT v5 1:=by
 refine (Ah kb sb gb n (Og S) g r hr s w hs hn h.ev h.box.c7.2.2.2.1 h.box.c7.2.2.2.2.2.2 h.sm h.sm.lt h.km h.ok).mono ?_;rintro e w' ⟨d,rfl,j,A,hb⟩;exact⟨rfl,n+1,d,Of,h.bar hb j A,hb⟩
theorem B1 {w:World}{kb:Nat}{T:List Tm}{vT:Value}(hc:w.cell? ⟨kb,2,none⟩=some vT)(hT:Km w vT T)(t:Tm)(vk:Value)(hk:U5 w vk t.kids)(i:Nat)(hi:i<t.kids.length)(hx:0<=t.kids[i]/\t.kids[i]<(T.length:Int))(hn:T.length<=1000000)(_hl:t.kids.length<=1000000) :
 Calls prog 122 #[.pointer (some ⟨kb,0,none⟩),Ie t vk,.int .i64 (i:Nat)] w fun e w'=>∃ pa la ca,e=.returned (Ie (Ky T t.kids[i]) (.slice pa la ca))/\Up w w':=by
 obtain⟨p,c,rfl,h1,h2,h3⟩:=hT;obtain⟨q,d,rfl,k1,k2,k3⟩:=hk
 rcases h3 with h0|⟨b,rfl,hb,K⟩
 ·rw[h0] at hx;simp at hx;omega
 rcases k3 with k0|⟨M,rfl,a7,G⟩
 ·rw[k0] at hi;simp at hi
 have O:=G i hi;have hy:=K (t.kids[i].toNat) (by omega);have V:Hid (Ky T t.kids[i]=T[t.kids[i].toNat]'(by omega)):=by
  unfold Hid Ky;rw[Jf (by omega)];rfl
 generalize T[t.kids[i].toNat]'(by omega)=u at hy V;generalize t.kids[i]=x at O hy hx V ⊢;obtain⟨c0,c1,c2,c3,c4,va,c5,pa,ca,rfl,-,-,-⟩:=hy;obtain⟨y,rfl⟩:∃ y:Nat,x=(y:Int):=⟨x.toNat,by omega⟩;simp only[Int.toNat_natCast] at c0 c1 c2 c3 c4 c5;obtain⟨d4,I⟩:=hx;have a8:kb<w.heap.size:=Ye w _ hc;have i0:(0:Int)<=(i:Int):=by omega
 have i1:(i:Int)<(t.kids.length:Int):=by omega
 unfold maxLen at h2 k2;clear K G;unfold Ie
 go_in
 go_wp2_with fail
 obtain⟨Z,E⟩:=O1 ((w.alloc (.cells #[.int .i64 t.op,.string (Oo t.sort),.string (Oo t.text),.int .i64 t.a,.int .i64 t.b,.slice (some ⟨M,0,none⟩) t.kids.length d] 57)).alloc (.cells #[.int .i64 0,.string ⟨#[]⟩,.string ⟨#[]⟩,.int .i64 0,.int .i64 0,.slice none 0 0] 57));have j:Up w Z:=by rw[<-E];exact ((Jh _ _).alloc Of _).alloc (by rw[Ji];omega) _
 have I:Bx Z w.heap.size [.int .i64 t.op,.string (Oo t.sort),.string (Oo t.text),.int .i64 t.a,.int .i64 t.b,.slice (some ⟨M,0,none⟩) t.kids.length d]:=by rw[<-E];exact (Oi w _ _).alloc _
 have A:Bx Z (w.heap.size+1) [.int .i64 0,.string ⟨#[]⟩,.string ⟨#[]⟩,.int .i64 0,.int .i64 0,.slice none 0 0]:=by rw[<-E];have h:=Oi (w.alloc (.cells #[.int .i64 t.op,.string (Oo t.sort),.string (Oo t.text),.int .i64 t.a,.int .i64 t.b,.slice (some ⟨M,0,none⟩) t.kids.length d] 57)) [.int .i64 0,.string ⟨#[]⟩,.string ⟨#[]⟩,.int .i64 0,.int .i64 0,.slice none 0 0] 57;rw[Ji] at h;exact h
 rw[E];clear E;have O:=(j.cell (p:=⟨M,i,none⟩) a7).trans O;have c0:=(j.cell (p:=⟨b,y*6,none⟩) hb).trans c0;have c1:=(j.cell (p:=⟨b,y*6+1,none⟩) hb).trans c1;have c2:=(j.cell (p:=⟨b,y*6+2,none⟩) hb).trans c2;have c3:=(j.cell (p:=⟨b,y*6+3,none⟩) hb).trans c3;have c4:=(j.cell (p:=⟨b,y*6+4,none⟩) hb).trans c4;have c5:=(j.cell (p:=⟨b,y*6+5,none⟩) hb).trans c5;have hc:=(j.cell (p:=⟨kb,2,none⟩) a8).trans hc;have t5:=I.cell 5;have r0:=A.cell 0;have r1:=A.cell 1;have r2:=A.cell 2;have r3:=A.cell 3;have r4:=A.cell 4;have r5:=A.cell 5;simp only[Jo,Jr] at t5 r0 r1 r2 r3 r4 r5;obtain⟨f0,f1,f2,f3,f4,f5⟩:=A.f6;have U:=Hd j;have Y:=Hd A;clear I A j
 go_region
 have hx:=(((((Y.o.set 0 (.int .i64 u.op)).set 1 (.string (Oo u.sort))).set 2 (.string (Oo u.text))).set 3 (.int .i64 u.a)).set 4 (.int .i64 u.b)).set 5 (.slice pa u.kids.length ca);have e0:=hx.cell 0;have e1:=hx.cell 1;have e2:=hx.cell 2;have e3:=hx.cell 3;have e4:=hx.cell 4;have e5:=hx.cell 5;simp only[Je,Jd,Jo,Jr] at e0 e1 e2 e3 e4 e5;clear r0 r1 r2 r3 r4 r5 f0 f1 f2 f3 f4 f5 hx O c0 c1 c2 c3 c4 c5
 go_wp2_with fail
 have J:w.heap.size<=w.heap.size+1:=by omega
 refine Jj (v:=.agg #[.int .i64 u.op,.string (Oo u.sort),.string (Oo u.text),.int .i64 u.a,.int .i64 u.b,.slice pa u.kids.length ca]) ?_ rfl ⟨pa,u.kids.length,ca,by rw[V.o],((((((U.o.setCell (p:=⟨w.heap.size+1,0,none⟩) J _).setCell (p:=⟨w.heap.size+1,1,none⟩) J _).setCell (p:=⟨w.heap.size+1,2,none⟩) J _).setCell (p:=⟨w.heap.size+1,3,none⟩) J _).setCell (p:=⟨w.heap.size+1,4,none⟩) J _).setCell (p:=⟨w.heap.size+1,5,none⟩) J _).drew⟩;simp[results,results122,go_sem,e0,e1,e2,e3,e4,e5]
theorem OS (kb fb:Nat)(F:List Fn)(f2:List UInt8->Option Nat)(v1:Value)(t:Tm)(p:Option Addr)(cp:Nat)(w:World)(hc1:w.cell? ⟨kb,1,none⟩=some v1)(hF:Eh w v1 F)(hc4:w.cell? ⟨kb,4,none⟩=some (.map (some fb)))(hm:G0 w fb f2)(hlt:∀ s i,f2 s=some i->i<F.length)(_hn:F.length<=1000)(hs:t.text.length<=1048576)(_hkl:t.kids.length<=1000000)(hkb:kb<w.heap.size) :
 Calls prog 117 #[.pointer (some ⟨kb,0,none⟩),Ie t (.slice p t.kids.length cp)] w fun e w'=>e=.returned (.bool (Gz F f2 t))/\Up w w':=by
 unfold Ie;have V:=hm.lt;obtain⟨q,cq,rfl,b4,b5,M⟩:=hF;have Y:=Hd M;have hT:(Oo t.text).size<=1048576:=by show t.text.toArray.size<=_;simpa using hs
 have G:=hm.bl (Oy w (.cells #[.int .i64 t.op,.string (Oo t.sort),.string (Oo t.text),.int .i64 t.a,.int .i64 t.b,.slice p t.kids.length cp] 57)) V;obtain⟨c,hc,d⟩:=GV (w:=(w.alloc (.cells #[.int .i64 t.op,.string (Oo t.sort),.string (Oo t.text),.int .i64 t.a,.int .i64 t.b,.slice p t.kids.length cp] 57)).drew) (G.bl (Jh _ _).drew G.lt) (Oo t.text) hT;rw[Ou] at hc d;clear G hm M;have j:Hid (Up w (w.alloc (.cells #[.int .i64 t.op,.string (Oo t.sort),.string (Oo t.text),.int .i64 t.a,.int .i64 t.b,.slice p t.kids.length cp] 57)).drew):=(Oy w _).drew
 cases E:f2 t.text with
 | none=>
   have A:Hid (Gz F f2 t=false):=by unfold Hid Gz;rw[E]
   rw[E] at d;simp only[Option.isSome_none] at d;clear hc E
   go_in
   go_wp2
   go_region
   clear d
   go_wp2
   go_quiet (fail)
   go_wp2
   go_ret
   exact⟨Oz A.o.symm,below_drewN j.o _⟩
 | some i=>
   obtain rfl:=hc i E;have O:i<F.length:=hlt _ i E
   rcases Y.o with Z|⟨b,rfl,b3,K⟩
   ·rw[Z] at O;cases O
   obtain⟨k0,⟨va,k1,pa,ca,rfl,a8,U,-⟩,k2⟩:=K i O;have A:Hid (Gz F f2 t=(decide (F[i].args.length=t.kids.length)&&decide (F[i].sort=t.sort))):=by unfold Hid Gz;rw[E];simp only;rw[Jf O]
   rw[E] at d;simp only[Option.isSome_some] at d;clear hc hlt Y K E k0;generalize F[i]=x at *;have b6:x.args.length<=9223372036854775807:=by unfold maxLen at U;omega
   have j0:(0:Int)<=(i:Int):=by omega
   have j1:(i:Int)<(F.length:Int):=by omega
   go_in
   go_wp2
   go_region
   clear d
   by_cases J:(x.args.length:Int)=(t.kids.length:Int)
   ·have y1:((x.args.length:Int)==(t.kids.length:Int))=true:=by simp[J]
    by_cases I:x.sort=t.sort
    ·have y2:((Oo x.sort).toList==(Oo t.sort).toList)=true:=by simp[I]
     have h:Hid (Gz F f2 t=true):=by unfold Hid;rw[A.o,Jb (by omega),Jb I];rfl
     clear J I A
     go_wp2
     go_quiet (fail)
     go_wp2
     go_ret
     exact⟨Oz h.o.symm,below_drewN j.o _⟩
    have y2:((Oo x.sort).toList==(Oo t.sort).toList)=false:=by rw[Jl,Jl,Ou,Ou];simp[I]
    have h:Hid (Gz F f2 t=false):=by unfold Hid;rw[A.o,Jg I,Y0]
    clear J I A
    go_wp2
    go_quiet (fail)
    go_wp2
    go_ret
    exact⟨Oz h.o.symm,below_drewN j.o _⟩
   have y1:((x.args.length:Int)==(t.kids.length:Int))=false:=by rw[Jc];exact J
   have h:Hid (Gz F f2 t=false):=by unfold Hid;rw[A.o,Jg (by omega)];rfl
   clear J A
   go_wp2
   go_quiet (fail)
   go_wp2
   go_ret
   exact⟨Oz h.o.symm,below_drewN j.o _⟩
def Pv (r:Rule):Value:=.agg #[.int .u8 (r.last:Nat),.int .u8 (r.least:Nat),.int .u8 (r.most:Nat),.int .u8 (r.sort:Nat),.int .u8 (r.r0:Nat),.int .u8 (r.r1:Nat),.int .u8 (r.r2:Nat)]
def M0:Rule:=⟨0,0,0,0,0,0,0⟩
theorem Ip:∀ r∈rules,r.last<=47/\r.least<=50/\r.most<=50/\r.sort<=20/\r.r0<=20/\r.r1<=20/\r.r2<=20:=by decide
theorem T4 {o:Int}(h:∀ j (h:j<rules.length),(rules[j].last:Int)<o):Ep o=none:=by
 unfold Ep
 split
 ·rfl
 rw[List.find?_eq_none];intro r A;obtain⟨j,d,rfl⟩:=Ya A;have:=h j d;simp;omega
theorem ZP {o:Int}(h:o<=0):Ep o=none:=by unfold Ep;rw[if_pos h]
theorem T5 {o:Int}{k:Nat}(ho:0<o)(hk:k<rules.length)(h:∀ j (h:j<rules.length),j<k->(rules[j].last:Int)<o)(h2:o<=(rules[k].last:Int)):Ep o=some rules[k]:=by
 unfold Ep;rw[if_neg (by omega),List.find?_eq_some_iff_getElem];refine⟨by simpa using h2,k,hk,rfl,fun j hj=>?_⟩;have:=h j (by omega) hj;simp;omega
theorem Bx.set7 {W:World}{g:Nat}{a0 a1 a2 a3 a4 a5 a6:Value}(h:Bx W g [a0,a1,a2,a3,a4,a5,a6])(v0 v1 v2 v3 v4 v5 v6:Value):Bx (((((((W.setCell ⟨g,0,none⟩ v0).setCell ⟨g,1,none⟩ v1).setCell ⟨g,2,none⟩ v2).setCell ⟨g,3,none⟩ v3).setCell ⟨g,4,none⟩ v4).setCell ⟨g,5,none⟩ v5).setCell ⟨g,6,none⟩ v6) g [v0,v1,v2,v3,v4,v5,v6]:=((((((h.set 0 v0).set 1 v1).set 2 v2).set 3 v3).set 4 v4).set 5 v5).set 6 v6
theorem Cc {B:Nat}{w W:World}(h:Below B w W){g:Nat}(hg:B<=g)(v0 v1 v2 v3 v4 v5 v6:Value):Below B w (((((((W.setCell ⟨g,0,none⟩ v0).setCell ⟨g,1,none⟩ v1).setCell ⟨g,2,none⟩ v2).setCell ⟨g,3,none⟩ v3).setCell ⟨g,4,none⟩ v4).setCell ⟨g,5,none⟩ v5).setCell ⟨g,6,none⟩ v6):=
 ((((((h.setCell (p:=⟨g,0,none⟩) hg _).setCell (p:=⟨g,1,none⟩) hg _).setCell (p:=⟨g,2,none⟩) hg _).setCell (p:=⟨g,3,none⟩) hg _).setCell (p:=⟨g,4,none⟩) hg _).setCell (p:=⟨g,5,none⟩) hg _).setCell (p:=⟨g,6,none⟩) hg _
theorem ZD (o:Int)(w:World)(hrt:RT w) :
 Calls prog 99 #[.int .i64 o] w fun e w'=>e=.returned (.tuple #[Pv ((Ep o).getD M0),.bool (Ep o).isSome])/\Up w w':=by
 have M:0<w.heap.size:=Ye w _ (hrt 0 (by decide)).1;have d6:=Hd hrt;clear hrt;have V:Hid (Bx (w.alloc (.cells #[.int .u8 0,.int .u8 0,.int .u8 0,.int .u8 0,.int .u8 0,.int .u8 0,.int .u8 0] 133)) w.heap.size [.int .u8 0,.int .u8 0,.int .u8 0,.int .u8 0,.int .u8 0,.int .u8 0,.int .u8 0]):=Oi w _ _;have G:Hid (Up w (w.alloc (.cells #[.int .u8 0,.int .u8 0,.int .u8 0,.int .u8 0,.int .u8 0,.int .u8 0,.int .u8 0] 133))):=Oy _ _
 go_in
 go_wp2_with fail
 obtain⟨W1,d2⟩:=O1 (w.alloc (.cells #[.int .u8 0,.int .u8 0,.int .u8 0,.int .u8 0,.int .u8 0,.int .u8 0,.int .u8 0] 133));rw[d2] at V G ⊢;clear d2;obtain⟨a0,a1,a2,a3,a4,a5,a6⟩:=V.o.c7;obtain⟨f0,f1,f2,f3,f4,f5,f6⟩:=V.o.f7
 go_loop [4] (fun i=>∃ k:Nat,k<=25/\i=.int .i64 (k:Nat)/\∀ j (h:j<rules.length),j<k->(rules[j].last:Int)<o) (fun i=>25 - (intOf i).toNat)
 case atStart=>exact⟨0,Jy _,rfl,fun j _ h=>absurd h (J2 _)⟩
 obtain⟨k,hk,rfl,hp⟩:=hrel;have HP:=Hd hp;clear hp
 by_cases d:¬ (k<25/\0<o)
 ·have HN:Hid (Ep o=none):=by
   by_cases h0:o<=0
   ·exact ZP h0
   exact T4 (fun j hj=>HP.o j hj (by have:rules.length=25:=rfl;omega))
  have J:=Hd (V.o.set7 (.int .u8 0) (.int .u8 0) (.int .u8 0) (.int .u8 0) (.int .u8 0) (.int .u8 0) (.int .u8 0));have I:=Hd (Cc G.o Of (.int .u8 0) (.int .u8 0) (.int .u8 0) (.int .u8 0) (.int .u8 0) (.int .u8 0) (.int .u8 0))
  by_cases K:k<25
  ·have e9:o<=0:=by omega
   have i1:(k:Int)<25:=by omega
   clear d
   go_wp2_with fail
   obtain⟨e0,e1,e2,e3,e4,e5,e6⟩:=J.o.c7;refine Jj (v:=.tuple #[Pv M0,.bool false]) ?_ rfl ⟨by rw[HN.o];rfl,I.o⟩;clear a0 a1 a2 a3 a4 a5 a6 f0 f1 f2 f3 f4 f5 f6;simp[results,results99,go_sem,e0,e1,e2,e3,e4,e5,e6,Pv,M0]
  have d9:(25:Int)<=(k:Int):=by omega
  clear d K
  go_wp2_with fail
  obtain⟨e0,e1,e2,e3,e4,e5,e6⟩:=J.o.c7;refine Jj (v:=.tuple #[Pv M0,.bool false]) ?_ rfl ⟨by rw[HN.o];rfl,I.o⟩;clear a0 a1 a2 a3 a4 a5 a6 f0 f1 f2 f3 f4 f5 f6;simp[results,results99,go_sem,e0,e1,e2,e3,e4,e5,e6,Pv,M0]
 have d:=Decidable.not_not.1 d;obtain⟨K,h0⟩:=d;have O:k<rules.length:=K;obtain⟨b0,b1,b2,Y,Z,b5,b6⟩:=d6.o k O;have b0:=(G.o.cell (p:=⟨0,k*7,none⟩) M).trans b0;have b1:=(G.o.cell (p:=⟨0,k*7+1,none⟩) M).trans b1;have b2:=(G.o.cell (p:=⟨0,k*7+2,none⟩) M).trans b2;have Y:=(G.o.cell (p:=⟨0,k*7+3,none⟩) M).trans Y;have Z:=(G.o.cell (p:=⟨0,k*7+4,none⟩) M).trans Z;have b5:=(G.o.cell (p:=⟨0,k*7+5,none⟩) M).trans b5;have b6:=(G.o.cell (p:=⟨0,k*7+6,none⟩) M).trans b6;have U:=Ip _ (Jw O);have E:Hid (o<=(rules[k].last:Int)->Ep o=some rules[k]):=fun h=>T5 h0 O HP.o h;have A:Hid (¬ o<=(rules[k].last:Int)->∀ j (h:j<rules.length),j<k+1->(rules[j].last:Int)<o):=fun h j hj h2=>by
  rcases J0.1 h2 with h3|rfl
  ·exact HP.o j hj h3
  omega
 generalize rules[k]=r at b0 b1 b2 Y Z b5 b6 U E A;obtain⟨la,le,mo,so,r0,r1,r2⟩:=r;simp only at b0 b1 b2 Y Z b5 b6 U E A;obtain⟨f8,-⟩:=U;have i1:(k:Int)<25:=by omega
 have i2:(0:Int)<=(k:Int):=by omega
 have i3:(la:Int)<=255:=by omega
 have i4:(0:Int)<=(la:Int):=by omega
 by_cases d3:o<=(la:Int)
 ·have HF:=Hd (E.o d3);have J:=Hd (V.o.set7 (.int .u8 (la:Nat)) (.int .u8 (le:Nat)) (.int .u8 (mo:Nat)) (.int .u8 (so:Nat)) (.int .u8 (r0:Nat)) (.int .u8 (r1:Nat)) (.int .u8 (r2:Nat)));have I:=Hd (Cc G.o Of (.int .u8 (la:Nat)) (.int .u8 (le:Nat)) (.int .u8 (mo:Nat)) (.int .u8 (so:Nat)) (.int .u8 (r0:Nat)) (.int .u8 (r1:Nat)) (.int .u8 (r2:Nat)));obtain⟨e0,e1,e2,e3,e4,e5,e6⟩:=J.o.c7
  go_wp2_with fail
  refine Jj (v:=.tuple #[Pv ⟨la,le,mo,so,r0,r1,r2⟩,.bool true]) ?_ rfl ⟨by rw[HF.o];rfl,I.o⟩;clear a0 a1 a2 a3 a4 a5 a6 f0 f1 f2 f3 f4 f5 f6 b0 b1 b2 Y Z b5 b6;simp[results,results99,go_sem,e0,e1,e2,e3,e4,e5,e6,Pv]
 have HN:=Hd (A.o d3)
 go_wp2
 go_round
 case rel=>exact⟨k+1,by omega,by go_num,HN.o⟩
 simp[intOf];omega
end Go.Proofs.YtipgjenolpofpaaGreatDoor
namespace Go.Proofs.YtipgjenolpofpaaGreatDoor
open ChangeShapes WideShapes ChangeAt RowKit
theorem Eu (own:List UInt8->Bool)(s:List UInt8):(Ov own s).width<=64:=by
 by_cases d:s.take 7=K4
 ·rcases Ir own d with h|⟨i,e,_,h⟩<;>rw[h]<;>exact Jy _
 unfold Ov;rw[if_neg d];unfold Od
 split
 ·exact Jy _
 split
 ·exact Jy _
 split
 ·exact Jy _
 split
 ·rename_i h;obtain⟨w,_,j,_,h4⟩:=Gq h;simp only;omega
 split
 ·split
  ·exact Jy _
  exact Jy _
 exact Jy _
theorem Nf (own:List UInt8->Bool)(ks:List (List UInt8))(i:Nat):(Kl (Ov own) ks i).width<=64:=by
 unfold Kl
 split
 ·exact Eu _ _
 exact Jy _
theorem Nk (a b:List UInt8):(a=b/\((Oo a).toList==(Oo b).toList)=true)∨(a≠b/\((Oo a).toList==(Oo b).toList)=false):=by
 rw[Jl,Jl,Ou,Ou]
 by_cases h:a=b
 ·exact .inl ⟨h,by simp[h]⟩
 exact .inr ⟨h,by simp[h]⟩
theorem U8 (a b:List UInt8):(a=b/\((Oo a).toList==b)=true)∨(a≠b/\((Oo a).toList==b)=false):=by
 rw[Jl,Ou]
 by_cases h:a=b
 ·exact .inl ⟨h,by simp[h]⟩
 exact .inr ⟨h,by simp[h]⟩
theorem Em (a b:Int):(a=b/\(a==b)=true)∨(a≠b/\(a==b)=false):=by
 by_cases h:a=b
 ·exact .inl ⟨h,by simp[h]⟩
 exact .inr ⟨h,by simp[h]⟩
theorem UH (a b:Int):(a<b/\decide (a<b)=true)∨(¬ a<b/\decide (a<b)=false):=by
 by_cases h:a<b
 ·exact .inl ⟨h,by simp[h]⟩
 exact .inr ⟨h,by simp[h]⟩
theorem Dd (a b:Int):(a<=b/\decide (a<=b)=true)∨(¬ a<=b/\decide (a<=b)=false):=by
 by_cases h:a<=b
 ·exact .inl ⟨h,by simp[h]⟩
 exact .inr ⟨h,by simp[h]⟩
def Ri (X:SI):List Value:=[.int .i64 X.kind,.int .i64 (X.width:Nat),.string (Oo X.index),.string (Oo X.elem)]
structure Wd (wx:World)(N M:Nat)(bk tm:List Value)(s x y:SI)(w:World):Prop where
 bank:Bx wx N bk
 term:Bx wx (N+1) tm
 s:Bx wx M (Ri s)
 x:Bx wx (M+1) (Ri x)
 y:Bx wx (M+1+1) (Ri y)
 le:N+2<=M
 bel:Below N w wx
def Pu (W:World)(g:Nat)(X:SI):World:=(((W.setCell ⟨g,0,none⟩ (.int .i64 X.kind)).setCell ⟨g,1,none⟩ (.int .i64 (X.width:Nat))).setCell ⟨g,2,none⟩ (.string (Oo X.index))).setCell ⟨g,3,none⟩ (.string (Oo X.elem))
theorem EU {W:World}{g:Nat}{X:SI}{k:Nat}(h:k≠g):(Pu W g X).heap[k]? = W.heap[k]? := by
 unfold Pu;rw[Jq _ _ _ _ h,Jq _ _ _ _ h,Jq _ _ _ _ h,Jq _ _ _ _ h]
theorem Bx.other4 {W:World}{b g:Nat}{l:List Value}(h:Bx W b l)(hne:b≠g)(X:SI):Bx (Pu W g X) b l:=by
 obtain⟨t,h⟩:=h;exact⟨t,by rw[EU hne];exact h⟩
theorem Bx.same4 {W:World}{g:Nat}{Y:SI}(h:Bx W g (Ri Y))(X:SI):Bx (Pu W g X) g (Ri X):=(((h.set 0 (.int .i64 X.kind)).set 1 (.int .i64 (X.width:Nat))).set 2 (.string (Oo X.index))).set 3 (.string (Oo X.elem))
theorem Cd {B:Nat}{w W:World}(h:Below B w W){g:Nat}(hg:B<=g)(X:SI):Below B w (Pu W g X):=
 (((h.setCell (p:=⟨g,0,none⟩) hg _).setCell (p:=⟨g,1,none⟩) hg _).setCell (p:=⟨g,2,none⟩) hg _).setCell (p:=⟨g,3,none⟩) hg _
theorem Wd.bl {wx wy:World}{N M:Nat}{bk tm:List Value}{s x y:SI}{w:World}(h:Wd wx N M bk tm s x y w)(hb:Up wx wy):Wd wy N M bk tm s x y w:=
 ⟨h.bank.bl h.bank.lt hb,h.term.bl h.term.lt hb,h.s.bl h.s.lt hb,h.x.bl h.x.lt hb,h.y.bl h.y.lt hb,h.le,h.bel.trans (hb.mono (by have:=h.bank.lt;omega))⟩
theorem Wd.setx {wx:World}{N M:Nat}{bk tm:List Value}{s x y:SI}{w:World}(h:Wd wx N M bk tm s x y w)(X:SI):Wd (Pu wx (M+1) X) N M bk tm s X y w:=by
 have:=h.le;exact⟨h.bank.other4 (by omega) X,h.term.other4 (by omega) X,h.s.other4 (by omega) X,h.x.same4 X,h.y.other4 (by omega) X,h.le,Cd h.bel (by omega) X⟩
theorem Wd.sety {wx:World}{N M:Nat}{bk tm:List Value}{s x y:SI}{w:World}(h:Wd wx N M bk tm s x y w)(X:SI):Wd (Pu wx (M+1+1) X) N M bk tm s x X w:=by
 have:=h.le;exact⟨h.bank.other4 (by omega) X,h.term.other4 (by omega) X,h.s.other4 (by omega) X,h.x.other4 (by omega) X,h.y.same4 X,h.le,Cd h.bel (by omega) X⟩
theorem Wd.drew {wx:World}{N M:Nat}{bk tm:List Value}{s x y:SI}{w:World}(h:Wd wx N M bk tm s x y w):Wd wx.drew N M bk tm s x y w:=h.bl ⟨rfl,rfl,rfl,Of,fun _ _=>rfl⟩
end Go.Proofs.YtipgjenolpofpaaGreatDoor
namespace Go.Proofs.YtipgjenolpofpaaGreatDoor
open ChangeShapes WideShapes ChangeAt RowKit Proofs.Tryz
theorem O6.after {w w1 w':World}{kb sb fb gb n:Nat}{S:List (List UInt8)}{F:List Fn}{T:List Tm}{vS vF vT v5:Value}{m:Nat}(h:O6 w1 w' kb sb fb gb n S F T vS vF vT v5 m)(hb:Up w w1):O6 w w' kb sb fb gb n S F T vS vF vT v5 m:=by
 obtain⟨n',d,j,A,h3⟩:=h;exact⟨n',d,j,A,(Bar.of hb).trans h3⟩
theorem O6.next {w w1 w':World}{kb sb fb gb n:Nat}{S:List (List UInt8)}{F:List Fn}{T:List Tm}{vS vF vT v5:Value}{m:Nat}(h:O6 w w1 kb sb fb gb n S F T vS vF vT v5 m)(hb:Up w1 w'):O6 w w' kb sb fb gb n S F T vS vF vT v5 m:=by
 obtain⟨n',d,j,A,h3⟩:=h;exact⟨n',d,j,A.next hb,h3.trans (Bar.of hb)⟩
theorem O6.more {w w':World}{kb sb fb gb n:Nat}{S:List (List UInt8)}{F:List Fn}{T:List Tm}{vS vF vT v5:Value}{m m':Nat}(h:O6 w w' kb sb fb gb n S F T vS vF vT v5 m)(hm:m<=m'):O6 w w' kb sb fb gb n S F T vS vF vT v5 m':=by
 obtain⟨n',d,A,j,h3⟩:=h;exact⟨n',d,by omega,j,h3⟩
theorem DB (X:SI)(W:World):(Instr.field 110 (N9 X) 1).run prog W=.ok (.int .i64 (X.width:Nat)) W/\(Instr.field 110 (N9 X) 2).run prog W=.ok (.string (Oo X.index)) W/\(Instr.field 110 (N9 X) 3).run prog W=.ok (.string (Oo X.elem)) W:=by
 unfold Instr.field N9
 go_simp
 exact⟨rfl,rfl,rfl⟩
theorem OB {n:Nat}{t:Tm}(h:Xz n t=true)(i:Nat)(hi:i<t.kids.length):0<=t.kids[i]/\t.kids[i]<(n:Int):=by
 have:=Ju.1 h t.kids[i] (Jw hi)
 simpa using this
theorem F6 {T:List Tm}(hz:∀ u∈T,u.sort.length<=1048576)(x:Int):(Ky T x).sort.length<=1048576:=by
 unfold Ky
 cases h:T[x.toNat]? with
 | none=>exact Jy _
 | some u=>exact hz u (Ve h)
theorem YY {t:Tm}{i:Nat}(hi:i<t.kids.length):(t.kids[i]?).getD 0=t.kids[i]:=by rw[Jf hi];rfl
theorem B0 {w:World}{kb sb fb gb n:Nat}{S:List (List UInt8)}{F:List Fn}{T:List Tm}{vS vF vT v5:Value}{g:List UInt8->Option SI}(h:BK w kb sb fb gb n S F T vS vF vT v5 g)(t:Tm)(vk:Value)(hk:U5 w vk t.kids)(hr:Xz T.length t=true)(i:Nat)(hi:i<t.kids.length)(hT:T.length<=1000000)(hl:t.kids.length<=1000000)(hz:∀ u∈T,u.sort.length<=1048576)(hn:n<=1000000000) :
 Calls prog 121 #[.pointer (some ⟨kb,0,none⟩),Ie t vk,.int .i64 (i:Nat)] w fun e w'=>e=.returned (.int .i64 ((Ov (Oh (Og S)) (Ky T ((t.kids[i]?).getD 0)).sort).width:Nat))/\O6 w w' kb sb fb gb n S F T vS vF vT v5 1:=by
 rw[YY hi];obtain⟨G,E,rfl,U,V,A⟩:=hk;have I:=Hd h;have HI:Hid (U5 w (.slice G t.kids.length E) t.kids):=⟨G,E,rfl,U,V,A⟩;have HX:=Hd (OB hr i hi);have Z:=Hd (F6 hz t.kids[i]);clear h A hr hz;have Y:Hid (Up w (w.alloc (.cells #[.int .i64 t.op,.string (Oo t.sort),.string (Oo t.text),.int .i64 t.a,.int .i64 t.b,.slice G t.kids.length E] 57))):=Oy _ _;have HC:Hid (∀ W,Up w W->Calls prog 122 #[.pointer (some ⟨kb,0,none⟩),.agg #[.int .i64 t.op,.string (Oo t.sort),.string (Oo t.text),.int .i64 t.a,.int .i64 t.b,.slice G t.kids.length E],.int .i64 (i:Nat)] W fun e w'=>∃ pa la ca,e=.returned (Ie (Ky T t.kids[i]) (.slice pa la ca))/\Up W w'):=fun W hW=>B1 (I.o.next hW).box.c7.2.2.1 (I.o.next hW).tr t _ (HI.o.bl hW) i hi HX.o hT hl;unfold Ie
 go_in
 go_wp2_with fail
 refine (HC.o _ Y.o).mono ?_;obtain⟨u,O⟩:=O1 (Ky T t.kids[i]);have HU:=Hd O;rw[O] at Z ⊢;clear O;rintro e w2 ⟨pa,la,ca,rfl,j⟩;have d:=Y.up j;clear j;have hf:=(FM u (.slice pa la ca) w2).2.1;have M:(Oo u.sort).size<=1048576:=by show u.sort.toArray.size<=_;simpa using Z.o
 unfold Ie at hf ⊢
 go_wp2_with fail
 refine (ask_sort (I.o.next d.o) (Oo u.sort) M hn).mono ?_;rw[Ou];obtain⟨X,K⟩:=O1 (Ov (Oh (Og S)) u.sort);have J:=Hd K;rw[K];clear K;rintro e w3 ⟨rfl,ha⟩;have HA:=Hd (ha.after d.o);clear ha;have hg:=(DB X w3).1;unfold N9 at hg ⊢
 go_wp2
 go_ret
 exact⟨U9 (by rw[HU.o,J.o]),HA.o⟩
end Go.Proofs.YtipgjenolpofpaaGreatDoor
