import Derived.Test.YtdmdmgfjpomdbaaGreatDoorP24
import Derived.Test.YtdmdmgfjpomdbaaGreatDoorP23
import Derived.WalkSmall
import Derived.Deep.RegionHeld3
set_option maxRecDepth 100000
set_option maxHeartbeats 4000000
namespace Go.Proofs.YtdmdmgfjpomdbaaGreatDoor
open ChangeShapes WideShapes ChangeAt RowKit
variable {F:List Fn}{T:List Tm}{l:List Int}{la le mo so:Nat}{rd:List UInt8->SI}
def SU:Tm:=⟨0,[],[],0,0,[]⟩
def Ke (T:List Tm)(x:Int):Tm:=(T[x.toNat]?).getD SU
def Nu (T:List Tm)(t:Tm):List (List UInt8):=t.kids.map (fun x=>(Ke T x).sort)
def Xp (n:Nat)(t:Tm):Bool:=t.kids.all (fun x=>decide (0<=x/\x<(n:Int)))
def kS (ks:List (List UInt8))(i:Nat):List UInt8:=(ks[i]?).getD []
def Kc (rd:List UInt8->SI)(ks:List (List UInt8))(i:Nat):SI:=if i<ks.length then rd (kS ks i) else SI.none
def Oh (rd:List UInt8->SI)(t:Tm)(ks:List (List UInt8)):Bool:=
 if t.op=24 then decide ((rd t.sort).kind=4)&&decide (t.text.length=(rd t.sort).width)&&t.text.all Gs
 else if 38<=t.op/\t.op<=41 then decide (t.sort=On)&&decide (kS ks 0=kS ks 1)&&decide ((Kc rd ks 0).kind=4)
 else if t.op=42 then decide ((Kc rd ks 0).kind=4)&&decide ((Kc rd ks 1).kind=4)&&decide ((rd t.sort).kind=4)&&decide ((rd t.sort).width=(Kc rd ks 0).width+(Kc rd ks 1).width)
 else if t.op=43 then decide ((Kc rd ks 0).kind=4)&&decide (t.a<(Kc rd ks 0).width)&&decide (t.b<=t.a)&&decide (0<=t.b)&&decide ((rd t.sort).kind=4)&&decide (((rd t.sort).width:Int)=t.a - t.b+1)
 else if t.op=44∨t.op=45 then decide ((Kc rd ks 0).kind=4)&&decide ((rd t.sort).kind=4)&&decide (1<=t.a)&&decide (t.a<64)&&decide (((rd t.sort).width:Int)=(Kc rd ks 0).width+t.a)
 else if t.op=46 then decide ((Kc rd ks 0).kind=6)&&decide ((Kc rd ks 0).index=kS ks 1)&&decide ((Kc rd ks 0).elem=t.sort)
 else if t.op=47 then decide ((rd t.sort).kind=6)&&decide (kS ks 0=t.sort)&&decide ((rd t.sort).index=kS ks 1)&&decide ((rd t.sort).elem=kS ks 2)
 else decide ((rd t.sort).kind=4)&&Kk ks t.sort
def Ox (s:List UInt8):Bool:=decide (s=U8)||decide (s=Ku)
def Cs (F:List Fn)(t:Tm)(ks:List (List UInt8)):Bool:=match Od F t.text with
 | none=>false
 | some i=>match F[i]? with
   | none=>false
   | some x=>decide (t.sort=x.sort)&&decide (ks=x.args)
def Na (rd:List UInt8->SI)(num:Tm->Bool)(F:List Fn)(T:List Tm)(t:Tm)(ks:List (List UInt8)):Bool:=
 if t.op=1∨t.op=2 then decide (t.sort=On)
 else if 3<=t.op/\t.op<=7 then decide (t.sort=On)&&Kk ks On
 else if t.op=8 then decide (kS ks 0=On)&&decide (kS ks 1=t.sort)&&decide (kS ks 2=t.sort)
 else if t.op=9∨t.op=10 then decide (t.sort=On)&&Kk ks (kS ks 0)
 else if t.op=11 then Cs F t ks
 else if t.op=12 then num t
 else if 13<=t.op/\t.op<=15 then Ox t.sort&&Kk ks t.sort
 else if t.op=16 then Ox t.sort&&Kk ks t.sort&&decide ((Ke T (t.kids.headD 0)).op=12)
 else if 17<=t.op/\t.op<=20 then decide (t.sort=On)&&decide (kS ks 0=kS ks 1)&&Ox (kS ks 0)
 else if t.op=21∨t.op=22 then decide (t.sort=U8)&&Kk ks U8&&decide ((Ke T ((t.kids[1]?).getD 0)).op=12)&&decide ((Ke T ((t.kids[1]?).getD 0)).text≠[48])
 else if t.op=23 then decide (t.sort=Ku)&&decide (kS ks 0=U8)
 else Oh rd t ks
def Sv (rd:List UInt8->SI)(num:Tm->Bool)(F:List Fn)(T:List Tm)(t:Tm):Bool:=K5 t&&Xp T.length t&&Na rd num F T t (Nu T t)
structure Rule where
 last:Nat
 least:Nat
 most:Nat
 sort:Nat
 r0:Nat
 r1:Nat
 r2:Nat
def rules:List Rule:=[⟨2,0,0,1,0,0,0⟩,⟨3,1,1,1,12,0,0⟩,⟨5,2,50,1,12,12,12⟩,⟨7,2,2,1,12,12,0⟩,⟨8,3,3,10,1,12,12⟩,⟨9,2,2,1,10,13,0⟩,⟨10,2,50,1,10,13,13⟩,⟨11,0,5,10,14,14,14⟩,⟨12,0,0,11,0,0,0⟩,⟨13,2,50,11,12,12,12⟩,⟨14,2,2,11,12,12,0⟩,⟨15,1,1,11,12,0,0⟩,⟨16,2,2,11,15,12,0⟩,⟨20,2,2,1,11,13,0⟩,⟨22,2,2,2,12,16,0⟩,⟨23,1,1,3,2,0,0⟩,⟨24,0,0,4,0,0,0⟩,⟨26,1,1,4,12,0,0⟩,⟨37,2,2,4,12,12,0⟩,⟨41,2,2,1,4,13,0⟩,⟨42,2,2,4,4,4,0⟩,⟨43,1,1,4,4,0,0⟩,⟨45,1,1,4,4,0,0⟩,⟨46,2,2,10,17,18,0⟩,⟨47,3,3,6,12,18,19⟩]
def E5 (op:Int):Option Rule:=if op<=0 then none else rules.find? (fun r=>decide (op<=(r.last:Int)))
def Rule.role (r:Rule)(p:Nat):Nat:=if p=0 then r.r0 else if p=1 then r.r1 else r.r2
def Km (rd:List UInt8->SI)(F:List Fn)(f2:List UInt8->Option Nat)(T:List Tm)(t:Tm)(r p:Nat):Bool:=
 let k:=Ke T ((t.kids[p]?).getD 0)
 let k0:=Ke T ((t.kids[0]?).getD 0)
 if r=12 then decide (k.sort=t.sort)
 else if r=13 then decide (k.sort=k0.sort)
 else if r=14 then decide (some k.sort=((f2 t.text).bind (fun i=>F[i]?)).bind (fun x=>x.args[p]?))
 else if r=15 then decide (k.sort=t.sort)&&decide (k.op=12)
 else if r=16 then decide (k.sort=t.sort)&&decide (k.op=12)&&decide (k.text≠[48])
 else if r=17 then decide ((rd k.sort).elem=t.sort)
 else if r=18 then decide ((rd k0.sort).index=k.sort)
 else if r=19 then decide ((rd k0.sort).elem=k.sort)
 else O7 r (rd k.sort).kind
def asked (rd:List UInt8->SI)(num:Tm->Bool)(F:List Fn)(f2:List UInt8->Option Nat)(T:List Tm)(t:Tm):Bool:=
 let wd:=(rd t.sort).width
 let w0:=(rd (Ke T ((t.kids[0]?).getD 0)).sort).width
 let w1:=(rd (Ke T ((t.kids[1]?).getD 0)).sort).width
 if t.op=11 then G4 F f2 t
 else if t.op=12 then num t
 else if t.op=24 then decide (t.text.length=wd)&&t.text.all Gs
 else if t.op=42 then decide (wd=w0+w1)
 else if t.op=43 then decide (t.a<w0)&&decide (t.b<=t.a)&&decide (0<=t.b)&&decide ((wd:Int)=t.a - t.b+1)
 else if t.op=44∨t.op=45 then decide (1<=t.a)&&decide (t.a=(wd:Int) - w0)
 else true
def Hy (rd:List UInt8->SI)(num:Tm->Bool)(F:List Fn)(f2:List UInt8->Option Nat)(T:List Tm)(t:Tm):Bool:=match E5 t.op with
 | none=>false
 | some r=>decide (r.least<=t.kids.length/\t.kids.length<=r.most)&&Xp T.length t&&O7 r.sort (rd t.sort).kind&&Ht t&&asked rd num F f2 T t&&(List.range t.kids.length).all (fun p=>Km rd F f2 T t (r.role p) p)
structure RdOk (rd:List UInt8->SI):Prop where
 b:∀ s,(rd s).kind=1↔s=On
 i:∀ s,(rd s).kind=2↔s=U8
 r:∀ s,(rd s).kind=3↔s=Ku
 w0:∀ s,(rd s).kind≠4->(rd s).width=0
 w4:∀ s,(rd s).kind=4->1<=(rd s).width/\(rd s).width<=64
 a0:∀ s,(rd s).kind≠6->(rd s).index=[]/\(rd s).elem=[]
 a6:∀ s,(rd s).kind=6->(rd (rd s).elem).kind≠0
 e:(rd []).kind=0
theorem BJ (h:1<=l.length/\l.length<=1):∃ a,l=[a]:=by
 match l,h with
 | [a],_=>exact⟨a,rfl⟩
theorem MM (h:2<=l.length/\l.length<=2):∃ a b,l=[a,b]:=by
 match l,h with
 | [a,b],_=>exact⟨a,b,rfl⟩
theorem AO (h:3<=l.length/\l.length<=3):∃ a b c,l=[a,b,c]:=by
 match l,h with
 | [a,b,c],_=>exact⟨a,b,c,rfl⟩
theorem ML (h:0<=l.length/\l.length<=0):l=[]:=List.length_eq_zero_iff.1 (by omega)
theorem KN {f:Nat->Bool}:(List.range 2).all f=(f 0&&f 1):=by simp[List.range_succ]
theorem DR {f:Nat->Bool}:(List.range 3).all f=(f 0&&f 1&&f 2):=by simp[List.range_succ,Bool.and_assoc]
theorem MF (hT:∀ u∈T,(rd u.sort).kind≠0){x:Int}(h:0<=x/\x<(T.length:Int)):(rd (Ke T x).sort).kind≠0:=by
 unfold Ke;rw[Jd (by omega)];exact hT _ (Jo _)
theorem CH {num:Tm->Bool}{f2:List UInt8->Option Nat}{t:Tm}{r:Rule}(hr:E5 t.op=some r)(h1:r.least=Ko t.op)(h2:r.most=Fz t.op)(ho:1<=t.op/\t.op<=47)
 (hb:(Ko t.op<=t.kids.length/\t.kids.length<=Fz t.op)->Xp T.length t=true->Ht t=true->(O7 r.sort (rd t.sort).kind&&asked rd num F f2 T t&&(List.range t.kids.length).all (fun p=>Km rd F f2 T t (r.role p) p))=Na rd num F T t (Nu T t)):Hy rd num F f2 T t=Sv rd num F T t:=by
 unfold Hy Sv;rw[hr];simp only;have d:K5 t=(decide (r.least<=t.kids.length/\t.kids.length<=r.most)&&Ht t):=by
  unfold K5 Ht;rw[h1,h2,Ja ho];rw[Yd];simp only[J3,Uu,Yi,Zd]
  grind
 rw[d]
 by_cases c1:r.least<=t.kids.length/\t.kids.length<=r.most
 ·cases c2:Xp T.length t
  ·simp
  cases c3:Ht t
  ·simp
  have:=hb (by rw[<-h1,<-h2];exact c1) c2 c3;rw[<-this];simp[Bool.and_assoc]
 rw[Jc c1];simp
theorem Mj {o:Int}(h:¬ (1<=o/\o<=47)):E5 o=none:=by
 unfold E5
 split
 ·rfl
 rw[List.find?_eq_none];intro r d;have:r.last<=47:=by
  simp only[rules,Vi,List.not_mem_nil,or_false] at d
  rcases d with rfl|rfl|rfl|rfl|rfl|rfl|rfl|rfl|rfl|rfl|rfl|rfl|rfl|rfl|rfl|rfl|rfl|rfl|rfl|rfl|rfl|rfl|rfl|rfl|rfl<;>decide
 simp;omega
theorem An {g:Int->Bool}:(List.range l.length).all (fun p=>g ((l[p]?).getD 0))=l.all g:=by
 rw[Yd,Jt,Jt];constructor
 ·intro h x E;obtain⟨j,A,rfl⟩:=J6 E;have:=h j (by simpa using A)
  rwa [Jd A] at this
 intro h p d;have d:=Y5.1 d;rw[Jd d];exact h _ (Jo _)
theorem NO {t:Tm}{s:List UInt8}:Kk (Nu T t) s=t.kids.all (fun x=>decide ((Ke T x).sort=s)):=by
 unfold Kk Nu;rw[List.all_map];rfl
theorem Dt {f2:List UInt8->Option Nat}{t:Tm}:(List.range t.kids.length).all (fun p=>Km rd F f2 T t (Rule.role ⟨la,le,mo,so,12,12,12⟩ p) p)=Kk (Nu T t) t.sort:=by
 rw[NO,<-An]
 congr 1
 funext p
 simp[Rule.role,Km]
theorem UI {f2:List UInt8->Option Nat}{t:Tm}(hk:∀ x∈t.kids,(rd (Ke T x).sort).kind≠0)(hl:2<=t.kids.length):(List.range t.kids.length).all (fun p=>Km rd F f2 T t (Rule.role ⟨la,le,mo,so,10,13,13⟩ p) p)=Kk (Nu T t) (kS (Nu T t) 0):=by
 have E:kS (Nu T t) 0=(Ke T ((t.kids[0]?).getD 0)).sort:=by
  unfold kS Nu;rw[Y6,Jd (by omega)];rfl
 rw[NO,<-An,Yd,Jt,Jt,E];constructor
 ·intro h p A;have:=h p A
  by_cases d:p=0
  ·subst d;simp
  by_cases j:p=1
  ·subst j;simpa[Rule.role,Km] using this
  simpa[Rule.role,Km,d,j] using this
 intro h p A;have:=h p A
 by_cases d:p=0
 ·subst d;have:=hk _ (Jo (l:=t.kids) (n:=0) (by omega));simp[Rule.role,Km,O7];rw[Jd (by omega)];exact this
 by_cases j:p=1
 ·subst j;simpa[Rule.role,Km] using this
 simpa[Rule.role,Km,d,j] using this
theorem PX {f2:List UInt8->Option Nat}{t:Tm}{i:Nat}{x:Fn}(hf:f2 t.text=some i)(hx:F[i]? = some x)(hl:x.args.length=t.kids.length):(List.range t.kids.length).all (fun p=>Km rd F f2 T t (Rule.role ⟨la,le,mo,so,14,14,14⟩ p) p)=decide (Nu T t=x.args):=by
 rw[Yd,Jt,Ju];have d:∀ p,Km rd F f2 T t (Rule.role ⟨la,le,mo,so,14,14,14⟩ p) p=decide (some (Ke T ((t.kids[p]?).getD 0)).sort=x.args[p]?):=by
  intro p;simp[Rule.role,Km,hf,hx]
 constructor
 ·intro h;refine Ue (by simp[Nu,hl]) (fun p h1 h2=>?_);have:=h p (by rw[Y5,<-hl];exact h2);rw[d,Ju,Jd h2,Jd (by omega)] at this
  simpa[Nu] using this
 intro h p j;have j:=Y5.1 j;rw[d,Ju,Jd (by omega)];rw[Jd (by omega)]
 congr 1
 have:(Nu T t)[p]'(by simp[Nu];exact j)=x.args[p]'(by omega):=by simp[h]
 rw[<-this];simp[Nu]
theorem AK (hrd:RdOk rd){num:Tm->Bool}{f2:List UInt8->Option Nat}(hT:∀ u∈T,(rd u.sort).kind≠0)(hF:∀ f∈F,(rd f.sort).kind≠0)(hf:f2=Od F)
 (hnum:∀ t,num t=true->(rd t.sort).kind=2∨(rd t.sort).kind=3) (t:Tm):Hy rd num F f2 T t=Sv rd num F T t:=by
 by_cases I:¬ (1<=t.op/\t.op<=47)
 ·unfold Hy Sv K5;rw[Mj I,Jc I];simp
 have I:=Decidable.not_not.1 I;have j:=hrd.b;have A:=hrd.i;have E:=hrd.r;have J:=hrd.w0;have K:=hrd.w4;have V:=hrd.a0;have Y:=hrd.a6;obtain⟨o,so,O,a,b,M⟩:=t;have hn2:∀ x,Xp T.length ⟨o,so,O,a,b,M⟩=true->x∈M->(rd (Ke T x).sort).kind≠0:=fun x h hx=>MF hT (by simpa[Xp] using Jt.1 h x hx)
 rcases NR I with h|h|h|h|h|h|h|h|h|h|h|h|h|h|h|h|h|h|h|h|h|h|h|h|h|h|h|h|h|h|h|h|h|h|h|h|h|h|h|h|h|h|h|h|h|h|h
 all_goals (simp only at h;subst h;refine CH rfl rfl rfl I ?_;intro hl hr hm;have d:=fun x=>hn2 x hr;clear hn2)
 all_goals (try (obtain rfl:=ML hl;simp[Na,asked,Km,O7,Oh,j,A,E];done))
 all_goals (try (obtain⟨x,rfl⟩:=BJ hl;have G:=d x (by simp);rw[Yd];simp[Na,asked,Km,O7,Rule.role,Nu,Kk,kS,Kc,Oh,j,A,E,Ox];done))
 all_goals (try (obtain⟨x,rfl⟩:=BJ hl;have G:=d x (by simp);have e1:=J so;have e2:=K so;have e3:=J (Ke T x).sort;have e4:=K (Ke T x).sort;rw[Yd];simp[Na,asked,Km,O7,Rule.role,Nu,Kk,kS,Kc,Oh,j,A,E];grind))
 all_goals (try (obtain⟨x,y,rfl⟩:=MM hl;have G:=d x (by simp);have h2:=d y (by simp);rw[Yd];simp[Na,asked,Km,O7,Rule.role,Nu,Kk,kS,Kc,Oh,j,A,E,KN,Ox];done))
 all_goals (try (obtain⟨x,y,rfl⟩:=MM hl;have G:=d x (by simp);have h2:=d y (by simp);rw[Yd];simp[Na,asked,Km,O7,Rule.role,Nu,Kk,kS,Kc,Oh,j,A,E,KN,Ox];grind))
 all_goals (try (obtain⟨x,y,rfl⟩:=MM hl;have G:=d x (by simp);have h2:=d y (by simp);have e1:=V (Ke T x).sort;have e2:=Y (Ke T x).sort;have e3:=hrd.e;rw[Yd];simp[Na,asked,Km,O7,Rule.role,Nu,kS,Kc,Oh,A,E,KN];grind))
 all_goals (try (obtain⟨x,y,z,rfl⟩:=AO hl;have G:=d x (by simp);have h2:=d y (by simp);have h3:=d z (by simp);rw[Yd];simp[Na,asked,Km,O7,Rule.role,Nu,kS,Oh,j,A,E,DR];done))
 all_goals (try (obtain⟨x,y,z,rfl⟩:=AO hl;have G:=d x (by simp);have h2:=d y (by simp);have h3:=d z (by simp);rw[Yd];simp[Na,asked,Km,O7,Rule.role,Nu,kS,Oh,j,A,E,DR];grind))
 ·rw[Dt,Yd];simp[Na,asked,O7,j];grind
 ·rw[Dt,Yd];simp[Na,asked,O7,j];grind
 ·rw[UI d hl.1];simp[Na,asked,O7,j]
 ·simp only[Na,asked];simp[Cs,G4,hf]
  cases hx:Od F O with
  | none=>simp
  | some i=>
    simp only
    cases hy:F[i]? with
    | none=>simp
    | some x=>
      simp only
      by_cases U:x.args.length=M.length
      ·have:=PX (rd:=rd) (T:=T) (t:=⟨11,so,O,a,b,M⟩) (la:=11) (le:=0) (mo:=5) (so:=10) (f2:=Od F) hx hy U;simp only at this;rw[this,Ja U];have Z:=hF x (Vn hy)
       by_cases hs:x.sort=so
       ·subst hs;simp[O7,Z]
       have:so≠x.sort:=fun e=>hs e.symm;simp[hs,this]
      have:Nu T ⟨11,so,O,a,b,M⟩≠x.args:=fun e=>U (by rw[<-e];simp[Nu]);simp[U,this]
 ·obtain rfl:=ML hl;have:=hnum ⟨12,so,O,a,b,[]⟩;simp[Na,asked,O7];rw[Yd];simp
  grind
 ·rw[Dt,Yd];simp[Na,asked,O7,A,E,Ox]
 obtain rfl:=ML hl;simp[Na,asked,O7,Oh,Bool.and_assoc]
theorem DI (own:List UInt8->Bool){e:List UInt8}(h:e.take 7=Eh):Of own e=SI.none:=by
 have d:e.head? = some 40:=by
  cases e with
  | nil=>cases h
  | cons c r=>simp[Eh] at h;simp[h.1]
 have j:e≠On:=fun h2=>by subst h2;exact absurd h (by decide)
 have h2:e≠U8:=fun h2=>by subst h2;exact absurd h (by decide)
 have h3:e≠Ku:=fun h2=>by subst h2;exact absurd h (by decide)
 have h4:¬ 0<Nt e:=fun h4=>by
  obtain⟨w,-,-,rfl,-⟩:=Hv h4;simp[Ge,Bl,Eh] at h
 unfold Of;rw[if_neg j,if_neg h2,if_neg h3,if_neg h4]
 cases hn:N2 e with
 | none=>rfl
 | some n=>
   exfalso
   rcases Qq hn with⟨A,-⟩|⟨-,rfl⟩
   ·have:=(Mb A).2 40 (List.mem_of_head? d);exact absurd this (by decide)
   simp at d
theorem XA (own:List UInt8->Bool){e:List UInt8}(h:O1 (Of own e)=true):Ov own e=Of own e:=by
 unfold Ov;rw[if_neg];intro h2;rw[DI own h2] at h;exact absurd h (by decide)
theorem Mw (own:List UInt8->Bool){s:List UInt8}(ht:¬ s.take 7=Eh):Ov own s=Of own s:=by
 unfold Ov;rw[if_neg ht]
theorem KG (own:List UInt8->Bool):RdOk (Ov own):=by
 have A:∀ s,(s.take 7=Eh/\s≠On/\s≠U8/\s≠Ku/\(Ov own s=SI.none∨∃ i e,O1 (Of own e)=true/\Ov own s=⟨6,0,i,e⟩))∨(s=On/\Ov own s=⟨1,0,[],[]⟩)∨(s=U8/\Ov own s=⟨2,0,[],[]⟩)∨(s=Ku/\Ov own s=⟨3,0,[],[]⟩)∨(s≠On/\s≠U8/\s≠Ku/\((∃ w,0<w/\w<65/\Ov own s=⟨4,w,[],[]⟩)∨Ov own s=⟨5,0,[],[]⟩∨Ov own s=SI.none)):=by
  intro s
  by_cases j:s.take 7=Eh
  ·refine .inl ⟨j,fun h2=>by subst h2;exact absurd j (by decide),fun h2=>by subst h2;exact absurd j (by decide),fun h2=>by subst h2;exact absurd j (by decide),?_⟩
   rcases Xh own j with h|⟨i,e,ha,h⟩
   ·exact .inl h
   exact .inr ⟨i,e,ha.2.2,h⟩
  rw[Mw own j];refine .inr ?_
  by_cases d:s=On
  ·exact .inl ⟨d,by unfold Of;rw[if_pos d]⟩
  by_cases h2:s=U8
  ·exact .inr (.inl ⟨h2,by unfold Of;rw[if_neg d,if_pos h2]⟩)
  by_cases h3:s=Ku
  ·exact .inr (.inr (.inl ⟨h3,by unfold Of;rw[if_neg d,if_neg h2,if_pos h3]⟩))
  refine .inr (.inr (.inr ⟨d,h2,h3,?_⟩))
  by_cases h4:0<Nt s
  ·obtain⟨w,w0,J,-,O⟩:=Hv h4;exact .inl ⟨w,w0,J,by unfold Of;rw[if_neg d,if_neg h2,if_neg h3,if_pos h4,O]⟩
  refine .inr ?_;unfold Of;rw[if_neg d,if_neg h2,if_neg h3,if_neg h4]
  cases N2 s with
  | none=>exact .inr rfl
  | some n=>
    simp only
    split
    ·exact .inl rfl
    exact .inr rfl
 have z:SI.none.kind=0/\SI.none.width=0/\SI.none.index=[]/\SI.none.elem=[]:=⟨rfl,rfl,rfl,rfl⟩;have U:On≠U8/\On≠Ku/\U8≠Ku:=by decide
 refine⟨fun s=>?_,fun s=>?_,fun s=>?_,fun s=>?_,fun s=>?_,fun s=>?_,fun s=>?_,?_⟩
 case' _=>
  skip
 rotate_left
 case' _=>
  skip
 rotate_left
 case' _=>
  skip
 rotate_left
 case' _=>
  skip
 rotate_left
 case' _=>
  skip
 rotate_left
 case' _=>
  skip
 rotate_left
 ·rcases A s with⟨_,E,G,I,h|⟨i,e,M,h⟩⟩|⟨rfl,h⟩|⟨rfl,h⟩|⟨rfl,h⟩|⟨E,G,I,⟨w,w0,J,h⟩|h|h⟩<;>rw[h]<;>intro K
  ·exact absurd K (by decide)
  ·simp only;rw[XA own M];have:=(Pn own e).1 M;exact this.1
  all_goals exact absurd K (by simp[SI.none])
 ·rw[Mw own (by decide)];unfold Of;rw[if_neg (by decide),if_neg (by decide),if_neg (by decide),if_neg (by decide)];rfl
 all_goals rcases A s with⟨_,E,G,I,h|⟨i,e,_,h⟩⟩|⟨rfl,h⟩|⟨rfl,h⟩|⟨rfl,h⟩|⟨E,G,I,⟨w,w0,J,h⟩|h|h⟩<;>rw[h]<;>grind
end Go.Proofs.YtdmdmgfjpomdbaaGreatDoor
namespace Go.Proofs.YtdmdmgfjpomdbaaGreatDoor
open ChangeShapes WideShapes ChangeAt RowKit Proofs.Tryz
variable {F:List Fn}{S:List (List UInt8)}{T:List Tm}{fb gb kb n sb:Nat}{g:List UInt8->Option SI}{v v5 vF vS vT:Value}{w w':World}
structure Keep (w w':World):Prop where
 size:w.heap.size<=w'.heap.size
 cell:∀ p v,w.cell? p=some v->w'.cell? p=some v
theorem OS {b:Nat}{p:Addr}(h:KM w b n g)(hc:w.cell? p=some v):p.block≠b:=by
 intro e;obtain⟨D,⟨A,j,d,G⟩,E⟩:=h;unfold World.cell? at hc;rw[e,d] at hc;cases hc
theorem Bar.keep (hb:Bar gb w w')(h:KM w gb n g):Keep w w':=
 ⟨hb.size,fun p v hc=>by rw[hb.cell (J5 w _ hc) (OS h hc)];exact hc⟩
theorem Below.keep (hb:Up w w'):Keep w w':=
 ⟨hb.size,fun p v hc=>by rw[hb.cell (J5 w _ hc)];exact hc⟩
theorem O3.keep {L:List (List UInt8)}(h:O3 w v L)(hb:Keep w w'):O3 w' v L:=by
 obtain⟨p,c,rfl,d,h2,h3⟩:=h;refine⟨p,c,rfl,d,h2,?_⟩
 rcases h3 with h3|⟨b,e,hl,hc⟩
 ·exact .inl h3
 exact .inr ⟨b,e,Jq hl hb.size,fun i hi=>hb.cell _ _ (hc i hi)⟩
theorem Kg.keep {L:List Int}(h:Kg w v L)(hb:Keep w w'):Kg w' v L:=by
 obtain⟨p,c,rfl,d,h2,h3⟩:=h;refine⟨p,c,rfl,d,h2,?_⟩
 rcases h3 with h3|⟨b,e,hl,hc⟩
 ·exact .inl h3
 exact .inr ⟨b,e,Jq hl hb.size,fun i hi=>hb.cell _ _ (hc i hi)⟩
theorem E9.keep (h:E9 w v F)(hb:Keep w w'):E9 w' v F:=by
 obtain⟨p,c,rfl,d,h2,h3⟩:=h;refine⟨p,c,rfl,d,h2,?_⟩
 rcases h3 with h3|⟨b,e,hl,hc⟩
 ·exact .inl h3
 refine .inr ⟨b,e,Jq hl hb.size,fun i hi=>?_⟩;obtain⟨j,⟨va,A,ha⟩,k2⟩:=hc i hi;exact⟨hb.cell _ _ j,⟨va,hb.cell _ _ A,ha.keep hb⟩,hb.cell _ _ k2⟩
theorem K9.keep (h:K9 w v T)(hb:Keep w w'):K9 w' v T:=by
 obtain⟨p,c,rfl,d,h2,h3⟩:=h;refine⟨p,c,rfl,d,h2,?_⟩
 rcases h3 with h3|⟨b,e,hl,hc⟩
 ·exact .inl h3
 refine .inr ⟨b,e,Jq hl hb.size,fun i hi=>?_⟩;obtain⟨j,A,k2,k3,k4,va,k5,ha⟩:=hc i hi;exact⟨hb.cell _ _ j,hb.cell _ _ A,hb.cell _ _ k2,hb.cell _ _ k3,hb.cell _ _ k4,va,hb.cell _ _ k5,ha.keep hb⟩
theorem EV.keep (h:EV w)(hb:Keep w w'):EV w':=by
 obtain⟨⟨d,c1,j⟩,e2,c2,k2⟩:=h;exact⟨⟨d,hb.cell _ _ c1,j⟩,e2,hb.cell _ _ c2,k2⟩
def RT (w:World):Prop:=∀ i (h:i<rules.length),w.cell? ⟨0,i*7,none⟩=some (.int .u8 (rules[i].last:Nat))/\w.cell? ⟨0,i*7+1,none⟩=some (.int .u8 (rules[i].least:Nat))/\w.cell? ⟨0,i*7+2,none⟩=some (.int .u8 (rules[i].most:Nat))/\w.cell? ⟨0,i*7+3,none⟩=some (.int .u8 (rules[i].sort:Nat))/\w.cell? ⟨0,i*7+4,none⟩=some (.int .u8 (rules[i].r0:Nat))/\w.cell? ⟨0,i*7+5,none⟩=some (.int .u8 (rules[i].r1:Nat))/\w.cell? ⟨0,i*7+6,none⟩=some (.int .u8 (rules[i].r2:Nat))
theorem RT.keep (h:RT w)(hb:Keep w w'):RT w':=fun i hi=>by
 obtain⟨d,j,k2,k3,k4,k5,k6⟩:=h i hi
 exact⟨hb.cell _ _ d,hb.cell _ _ j,hb.cell _ _ k2,hb.cell _ _ k3,hb.cell _ _ k4,hb.cell _ _ k5,hb.cell _ _ k6⟩
theorem Hm.bar {b c:Nat}{f:List UInt8->Option Nat}(h:Hm w b f)(hb:Bar c w w')(hc:b≠c):Hm w' b f:=by
 obtain⟨n,D,hn,⟨E,A,j,I⟩,G⟩:=h;have d:b<w.heap.size:=(Jv.1 j).1;exact⟨n,D,hn,⟨E,A,(hb.block b d hc).trans j,I⟩,G⟩
structure BK (w:World)(kb sb fb gb n:Nat)(S:List (List UInt8))(F:List Fn)(T:List Tm)(vS vF vT v5:Value)(g:List UInt8->Option SI):Prop where
 box:Bx w kb [vS,vF,vT,.map (some sb),.map (some fb),v5,.map (some gb)]
 sm:Hm w sb (Oq S)
 fm:Hm w fb (Od F)
 fr:E9 w vF F
 tr:K9 w vT T
 km:KM w gb n g
 ok:ZM (Oq S) g
 ev:EV w
 rt:RT w
 ns:sb≠gb
 nf:fb≠gb
theorem BK.bar {n':Nat}{g':List UInt8->Option SI}(h:BK w kb sb fb gb n S F T vS vF vT v5 g)(hb:Bar gb w w')(hk:KM w' gb n' g')(ho:ZM (Oq S) g'):BK w' kb sb fb gb n' S F T vS vF vT v5 g':=by
 have d:=hb.keep h.km;have j:kb≠gb:=OS h.km (h.box.cell 0);exact⟨h.box.bar hb j,h.sm.bar hb h.ns,h.fm.bar hb h.nf,h.fr.keep d,h.tr.keep d,hk,ho,h.ev.keep d,h.rt.keep d,h.ns,h.nf⟩
theorem BK.next (h:BK w kb sb fb gb n S F T vS vF vT v5 g)(hb:Up w w'):BK w' kb sb fb gb n S F T vS vF vT v5 g:=
 h.bar (Bar.of hb) (h.km.low hb h.km.lt) h.ok
def O8 (w w':World)(kb sb fb gb n:Nat)(S:List (List UInt8))(F:List Fn)(T:List Tm)(vS vF vT v5:Value)(m:Nat):Prop:=∃ n' g',n'<=n+m/\BK w' kb sb fb gb n' S F T vS vF vT v5 g'/\Bar gb w w'
theorem O8.of (h:BK w kb sb fb gb n S F T vS vF vT v5 g)(hb:Up w w')(m:Nat):O8 w w' kb sb fb gb n S F T vS vF vT v5 m:=
 ⟨n,g,Nat.le_add_right _ _,h.next hb,Bar.of hb⟩
theorem ask_sort (h:BK w kb sb fb gb n S F T vS vF vT v5 g)(s:ByteArray)(hs:s.size<=1048576)(hn:n<=1000000000) :
 Calls prog 84 #[.pointer (some ⟨kb,0,none⟩),.string s] w fun e w'=>e=.returned (Gw (Ov (Oc (Oq S)) s.data.toList))/\O8 w w' kb sb fb gb n S F T vS vF vT v5 1:=by
 refine (Bu kb sb gb n (Oq S) g s w hs hn h.ev h.box.c7.2.2.2.1 h.box.c7.2.2.2.2.2.2 h.sm h.sm.lt h.km h.ok).mono ?_;rintro e w' ⟨d,rfl,j,A,hb⟩;exact⟨rfl,n+1,d,leR,h.bar hb j A,hb⟩
theorem Wy (h:BK w kb sb fb gb n S F T vS vF vT v5 g)(r:Int)(hr:0<=r/\r<=255)(s:ByteArray)(hs:s.size<=1048576)(hn:n<=1000000000) :
 Calls prog 91 #[.pointer (some ⟨kb,0,none⟩),.int .u8 r,.string s] w fun e w'=>e=.returned (.bool (O7 r (Ov (Oc (Oq S)) s.data.toList).kind))/\O8 w w' kb sb fb gb n S F T vS vF vT v5 1:=by
 refine (Tx kb sb gb n (Oq S) g r hr s w hs hn h.ev h.box.c7.2.2.2.1 h.box.c7.2.2.2.2.2.2 h.sm h.sm.lt h.km h.ok).mono ?_;rintro e w' ⟨d,rfl,j,A,hb⟩;exact⟨rfl,n+1,d,leR,h.bar hb j A,hb⟩
theorem S5 (hc:w.cell? ⟨kb,2,none⟩=some vT)(hT:K9 w vT T)(t:Tm)(vk:Value)(hk:Kg w vk t.kids)(i:Nat)(hi:i<t.kids.length)(hx:0<=t.kids[i]/\t.kids[i]<(T.length:Int))(hn:T.length<=1000000)(_hl:t.kids.length<=1000000) :
 Calls prog 114 #[.pointer (some ⟨kb,0,none⟩),Xz t vk,.int .i64 (i:Nat)] w fun e w'=>∃ pa la ca,e=.returned (Xz (Ke T t.kids[i]) (.slice pa la ca))/\Up w w':=by
 obtain⟨p,c,rfl,h1,h2,h3⟩:=hT;obtain⟨q,d,rfl,k1,k2,k3⟩:=hk
 rcases h3 with h0|⟨b,rfl,hb,J⟩
 ·rw[h0] at hx;simp at hx;omega
 rcases k3 with k0|⟨K,rfl,Z,E⟩
 ·rw[k0] at hi;simp at hi
 have M:=E i hi;have hy:=J (t.kids[i].toNat) (by omega);have U:Hid (Ke T t.kids[i]=T[t.kids[i].toNat]'(by omega)):=by
  unfold Hid Ke;rw[Jd (by omega)];rfl
 generalize T[t.kids[i].toNat]'(by omega)=u at hy U;generalize t.kids[i]=x at M hy hx U ⊢;obtain⟨c0,c1,c2,c3,c4,va,c5,pa,ca,rfl,-,-,-⟩:=hy;obtain⟨y,rfl⟩:∃ y:Nat,x=(y:Int):=⟨x.toNat,by omega⟩;simp only[Int.toNat_natCast] at c0 c1 c2 c3 c4 c5;obtain⟨d0,G⟩:=hx;have a7:kb<w.heap.size:=J5 w _ hc;have i0:(0:Int)<=(i:Int):=by omega
 have i1:(i:Int)<(t.kids.length:Int):=by omega
 unfold maxLen at h2 k2;clear J E;unfold Xz
 go_in
 go_wp2_with fail
 obtain⟨Y,A⟩:=Oa ((w.alloc (.cells #[.int .i64 t.op,.string (Oo t.sort),.string (Oo t.text),.int .i64 t.a,.int .i64 t.b,.slice (some ⟨K,0,none⟩) t.kids.length d] 55)).alloc (.cells #[.int .i64 0,.string ⟨#[]⟩,.string ⟨#[]⟩,.int .i64 0,.int .i64 0,.slice none 0 0] 55));have hb2:Up w Y:=by rw[<-A];exact ((Je _ _).alloc leR _).alloc (by rw[Jf];omega) _
 have G:Bx Y w.heap.size [.int .i64 t.op,.string (Oo t.sort),.string (Oo t.text),.int .i64 t.a,.int .i64 t.b,.slice (some ⟨K,0,none⟩) t.kids.length d]:=by rw[<-A];exact (Oi w _ _).alloc _
 have j:Bx Y (w.heap.size+1) [.int .i64 0,.string ⟨#[]⟩,.string ⟨#[]⟩,.int .i64 0,.int .i64 0,.slice none 0 0]:=by rw[<-A];have h:=Oi (w.alloc (.cells #[.int .i64 t.op,.string (Oo t.sort),.string (Oo t.text),.int .i64 t.a,.int .i64 t.b,.slice (some ⟨K,0,none⟩) t.kids.length d] 55)) [.int .i64 0,.string ⟨#[]⟩,.string ⟨#[]⟩,.int .i64 0,.int .i64 0,.slice none 0 0] 55;rw[Jf] at h;exact h
 rw[A];clear A;have M:=(hb2.cell (p:=⟨K,i,none⟩) Z).trans M;have c0:=(hb2.cell (p:=⟨b,y*6,none⟩) hb).trans c0;have c1:=(hb2.cell (p:=⟨b,y*6+1,none⟩) hb).trans c1;have c2:=(hb2.cell (p:=⟨b,y*6+2,none⟩) hb).trans c2;have c3:=(hb2.cell (p:=⟨b,y*6+3,none⟩) hb).trans c3;have c4:=(hb2.cell (p:=⟨b,y*6+4,none⟩) hb).trans c4;have c5:=(hb2.cell (p:=⟨b,y*6+5,none⟩) hb).trans c5;have hc:=(hb2.cell (p:=⟨kb,2,none⟩) a7).trans hc;have t5:=G.cell 5;have r0:=j.cell 0;have r1:=j.cell 1;have r2:=j.cell 2;have r3:=j.cell 3;have r4:=j.cell 4;have r5:=j.cell 5;simp only[Jm,Js] at t5 r0 r1 r2 r3 r4 r5;obtain⟨f0,f1,f2,f3,f4,f5⟩:=j.f6;have O:=Hd hb2;have V:=Hd j;clear G j hb2
 go_region
 have hx:=(((((V.o.set 0 (.int .i64 u.op)).set 1 (.string (Oo u.sort))).set 2 (.string (Oo u.text))).set 3 (.int .i64 u.a)).set 4 (.int .i64 u.b)).set 5 (.slice pa u.kids.length ca);have e0:=hx.cell 0;have e1:=hx.cell 1;have e2:=hx.cell 2;have e3:=hx.cell 3;have e4:=hx.cell 4;have e5:=hx.cell 5;simp only[J0,Jz,Jm,Js] at e0 e1 e2 e3 e4 e5;clear r0 r1 r2 r3 r4 r5 f0 f1 f2 f3 f4 f5 hx M c0 c1 c2 c3 c4 c5
 go_wp2_with fail
 have I:w.heap.size<=w.heap.size+1:=by omega
 refine Jg (v:=.agg #[.int .i64 u.op,.string (Oo u.sort),.string (Oo u.text),.int .i64 u.a,.int .i64 u.b,.slice pa u.kids.length ca]) ?_ rfl ⟨pa,u.kids.length,ca,by rw[U.o],((((((O.o.setCell (p:=⟨w.heap.size+1,0,none⟩) I _).setCell (p:=⟨w.heap.size+1,1,none⟩) I _).setCell (p:=⟨w.heap.size+1,2,none⟩) I _).setCell (p:=⟨w.heap.size+1,3,none⟩) I _).setCell (p:=⟨w.heap.size+1,4,none⟩) I _).setCell (p:=⟨w.heap.size+1,5,none⟩) I _).drew⟩;simp[results,results114,go_sem,e0,e1,e2,e3,e4,e5]
theorem UV (kb fb:Nat)(F:List Fn)(f2:List UInt8->Option Nat)(v1:Value)(t:Tm)(p:Option Addr)(cp:Nat)(w:World)(hc1:w.cell? ⟨kb,1,none⟩=some v1)(hF:E9 w v1 F)(hc4:w.cell? ⟨kb,4,none⟩=some (.map (some fb)))(hm:Hm w fb f2)(hlt:∀ s i,f2 s=some i->i<F.length)(_hn:F.length<=1000)(hs:t.text.length<=1048576)(_hkl:t.kids.length<=1000000)(hkb:kb<w.heap.size) :
 Calls prog 109 #[.pointer (some ⟨kb,0,none⟩),Xz t (.slice p t.kids.length cp)] w fun e w'=>e=.returned (.bool (G4 F f2 t))/\Up w w':=by
 unfold Xz;have U:=hm.lt;obtain⟨q,cq,rfl,b3,b4,K⟩:=hF;have V:=Hd K;have Z:(Oo t.text).size<=1048576:=by show t.text.toArray.size<=_;simpa using hs
 have G:=hm.bl (Oz w (.cells #[.int .i64 t.op,.string (Oo t.sort),.string (Oo t.text),.int .i64 t.a,.int .i64 t.b,.slice p t.kids.length cp] 55)) U;obtain⟨c,hc,d⟩:=QN (w:=(w.alloc (.cells #[.int .i64 t.op,.string (Oo t.sort),.string (Oo t.text),.int .i64 t.a,.int .i64 t.b,.slice p t.kids.length cp] 55)).drew) (G.bl (Je _ _).drew G.lt) (Oo t.text) Z;rw[Ou] at hc d;clear G hm K;have j:Hid (Up w (w.alloc (.cells #[.int .i64 t.op,.string (Oo t.sort),.string (Oo t.text),.int .i64 t.a,.int .i64 t.b,.slice p t.kids.length cp] 55)).drew):=(Oz w _).drew
 cases E:f2 t.text with
 | none=>
   have A:Hid (G4 F f2 t=false):=by unfold Hid G4;rw[E]
   rw[E] at d;simp only[Option.isSome_none] at d;clear hc E
   go_in
   go_wp2
   go_region
   clear d
   go_wp2
   go_quiet (fail)
   go_wp2
   go_ret
   exact⟨Oy A.o.symm,below_drewN j.o _⟩
 | some i=>
   obtain rfl:=hc i E;have M:i<F.length:=hlt _ i E
   rcases V.o with Y|⟨b,rfl,a8,J⟩
   ·rw[Y] at M;cases M
   obtain⟨k0,⟨va,k1,pa,ca,rfl,a7,O,-⟩,k2⟩:=J i M;have A:Hid (G4 F f2 t=(decide (F[i].args.length=t.kids.length)&&decide (F[i].sort=t.sort))):=by unfold Hid G4;rw[E];simp only;rw[Jd M]
   rw[E] at d;simp only[Option.isSome_some] at d;clear hc hlt V J E k0;generalize F[i]=x at *;have b5:x.args.length<=9223372036854775807:=by unfold maxLen at O;omega
   have j0:(0:Int)<=(i:Int):=by omega
   have j1:(i:Int)<(F.length:Int):=by omega
   go_in
   go_wp2
   go_region
   clear d
   by_cases I:(x.args.length:Int)=(t.kids.length:Int)
   ·have y1:((x.args.length:Int)==(t.kids.length:Int))=true:=by simp[I]
    by_cases e2:x.sort=t.sort
    ·have y2:((Oo x.sort).toList==(Oo t.sort).toList)=true:=by simp[e2]
     have h:Hid (G4 F f2 t=true):=by unfold Hid;rw[A.o,Ja (by omega),Ja e2];rfl
     clear I e2 A
     go_wp2
     go_quiet (fail)
     go_wp2
     go_ret
     exact⟨Oy h.o.symm,below_drewN j.o _⟩
    have y2:((Oo x.sort).toList==(Oo t.sort).toList)=false:=by rw[Jk,Jk,Ou,Ou];simp[e2]
    have h:Hid (G4 F f2 t=false):=by unfold Hid;rw[A.o,Jc e2,Y1]
    clear I e2 A
    go_wp2
    go_quiet (fail)
    go_wp2
    go_ret
    exact⟨Oy h.o.symm,below_drewN j.o _⟩
   have y1:((x.args.length:Int)==(t.kids.length:Int))=false:=by rw[Jb];exact I
   have h:Hid (G4 F f2 t=false):=by unfold Hid;rw[A.o,Jc (by omega)];rfl
   clear I A
   go_wp2
   go_quiet (fail)
   go_wp2
   go_ret
   exact⟨Oy h.o.symm,below_drewN j.o _⟩
def Dh (r:Rule):Value:=.agg #[.int .u8 (r.last:Nat),.int .u8 (r.least:Nat),.int .u8 (r.most:Nat),.int .u8 (r.sort:Nat),.int .u8 (r.r0:Nat),.int .u8 (r.r1:Nat),.int .u8 (r.r2:Nat)]
def A8:Rule:=⟨0,0,0,0,0,0,0⟩
theorem Xi:∀ r∈rules,r.last<=47/\r.least<=50/\r.most<=50/\r.sort<=20/\r.r0<=20/\r.r1<=20/\r.r2<=20:=by decide
theorem YW {o:Int}(h:∀ j (h:j<rules.length),(rules[j].last:Int)<o):E5 o=none:=by
 unfold E5
 split
 ·rfl
 rw[List.find?_eq_none];intro r A;obtain⟨j,d,rfl⟩:=J6 A;have:=h j d;simp;omega
theorem KR {o:Int}(h:o<=0):E5 o=none:=by unfold E5;rw[if_pos h]
theorem YJ {o:Int}{k:Nat}(ho:0<o)(hk:k<rules.length)(h:∀ j (h:j<rules.length),j<k->(rules[j].last:Int)<o)(h2:o<=(rules[k].last:Int)):E5 o=some rules[k]:=by
 unfold E5;rw[if_neg (by omega),List.find?_eq_some_iff_getElem];refine⟨by simpa using h2,k,hk,rfl,fun j hj=>?_⟩;have:=h j (by omega) hj;simp;omega
theorem Bx.set7 {W:World}{g:Nat}{a0 a1 a2 a3 a4 a5 a6:Value}(h:Bx W g [a0,a1,a2,a3,a4,a5,a6])(v0 v1 v2 v3 v4 v5 v6:Value):Bx (((((((W.setCell ⟨g,0,none⟩ v0).setCell ⟨g,1,none⟩ v1).setCell ⟨g,2,none⟩ v2).setCell ⟨g,3,none⟩ v3).setCell ⟨g,4,none⟩ v4).setCell ⟨g,5,none⟩ v5).setCell ⟨g,6,none⟩ v6) g [v0,v1,v2,v3,v4,v5,v6]:=((((((h.set 0 v0).set 1 v1).set 2 v2).set 3 v3).set 4 v4).set 5 v5).set 6 v6
theorem F7 {B:Nat}{W:World}(h:Below B w W){g:Nat}(hg:B<=g)(v0 v1 v2 v3 v4 v5 v6:Value):Below B w (((((((W.setCell ⟨g,0,none⟩ v0).setCell ⟨g,1,none⟩ v1).setCell ⟨g,2,none⟩ v2).setCell ⟨g,3,none⟩ v3).setCell ⟨g,4,none⟩ v4).setCell ⟨g,5,none⟩ v5).setCell ⟨g,6,none⟩ v6):=
 ((((((h.setCell (p:=⟨g,0,none⟩) hg _).setCell (p:=⟨g,1,none⟩) hg _).setCell (p:=⟨g,2,none⟩) hg _).setCell (p:=⟨g,3,none⟩) hg _).setCell (p:=⟨g,4,none⟩) hg _).setCell (p:=⟨g,5,none⟩) hg _).setCell (p:=⟨g,6,none⟩) hg _
theorem KP (o:Int)(w:World)(hrt:RT w) :
 Calls prog 90 #[.int .i64 o] w fun e w'=>e=.returned (.tuple #[Dh ((E5 o).getD A8),.bool (E5 o).isSome])/\Up w w':=by
 have M:0<w.heap.size:=J5 w _ (hrt 0 (by decide)).1;have d5:=Hd hrt;clear hrt;have V:Hid (Bx (w.alloc (.cells #[.int .u8 0,.int .u8 0,.int .u8 0,.int .u8 0,.int .u8 0,.int .u8 0,.int .u8 0] 125)) w.heap.size [.int .u8 0,.int .u8 0,.int .u8 0,.int .u8 0,.int .u8 0,.int .u8 0,.int .u8 0]):=Oi w _ _;have G:Hid (Up w (w.alloc (.cells #[.int .u8 0,.int .u8 0,.int .u8 0,.int .u8 0,.int .u8 0,.int .u8 0,.int .u8 0] 125))):=Oz _ _
 go_in
 go_wp2_with fail
 obtain⟨W1,d1⟩:=Oa (w.alloc (.cells #[.int .u8 0,.int .u8 0,.int .u8 0,.int .u8 0,.int .u8 0,.int .u8 0,.int .u8 0] 125));rw[d1] at V G ⊢;clear d1;obtain⟨a0,a1,a2,a3,a4,a5,a6⟩:=V.o.c7;obtain⟨f0,f1,f2,f3,f4,f5,f6⟩:=V.o.f7
 go_loop [4] (fun i=>∃ k:Nat,k<=25/\i=.int .i64 (k:Nat)/\∀ j (h:j<rules.length),j<k->(rules[j].last:Int)<o) (fun i=>25 - (intOf i).toNat)
 case atStart=>exact⟨0,Jr _,rfl,fun j _ h=>absurd h (J2 _)⟩
 obtain⟨k,hk,rfl,hp⟩:=hrel;have HP:=Hd hp;clear hp
 by_cases d:¬ (k<25/\0<o)
 ·have HN:Hid (E5 o=none):=by
   by_cases h0:o<=0
   ·exact KR h0
   exact YW (fun j hj=>HP.o j hj (by have:rules.length=25:=rfl;omega))
  have J:=Hd (V.o.set7 (.int .u8 0) (.int .u8 0) (.int .u8 0) (.int .u8 0) (.int .u8 0) (.int .u8 0) (.int .u8 0));have I:=Hd (F7 G.o leR (.int .u8 0) (.int .u8 0) (.int .u8 0) (.int .u8 0) (.int .u8 0) (.int .u8 0) (.int .u8 0))
  by_cases K:k<25
  ·have e7:o<=0:=by omega
   have i1:(k:Int)<25:=by omega
   clear d
   go_wp2_with fail
   obtain⟨e0,e1,e2,e3,e4,e5,e6⟩:=J.o.c7;refine Jg (v:=.tuple #[Dh A8,.bool false]) ?_ rfl ⟨by rw[HN.o];rfl,I.o⟩;clear a0 a1 a2 a3 a4 a5 a6 f0 f1 f2 f3 f4 f5 f6;simp[results,results90,go_sem,e0,e1,e2,e3,e4,e5,e6,Dh,A8]
  have d7:(25:Int)<=(k:Int):=by omega
  clear d K
  go_wp2_with fail
  obtain⟨e0,e1,e2,e3,e4,e5,e6⟩:=J.o.c7;refine Jg (v:=.tuple #[Dh A8,.bool false]) ?_ rfl ⟨by rw[HN.o];rfl,I.o⟩;clear a0 a1 a2 a3 a4 a5 a6 f0 f1 f2 f3 f4 f5 f6;simp[results,results90,go_sem,e0,e1,e2,e3,e4,e5,e6,Dh,A8]
 have d:=Decidable.not_not.1 d;obtain⟨K,h0⟩:=d;have O:k<rules.length:=K;obtain⟨b0,b1,b2,Y,Z,b5,b6⟩:=d5.o k O;have b0:=(G.o.cell (p:=⟨0,k*7,none⟩) M).trans b0;have b1:=(G.o.cell (p:=⟨0,k*7+1,none⟩) M).trans b1;have b2:=(G.o.cell (p:=⟨0,k*7+2,none⟩) M).trans b2;have Y:=(G.o.cell (p:=⟨0,k*7+3,none⟩) M).trans Y;have Z:=(G.o.cell (p:=⟨0,k*7+4,none⟩) M).trans Z;have b5:=(G.o.cell (p:=⟨0,k*7+5,none⟩) M).trans b5;have b6:=(G.o.cell (p:=⟨0,k*7+6,none⟩) M).trans b6;have U:=Xi _ (Jo O);have E:Hid (o<=(rules[k].last:Int)->E5 o=some rules[k]):=fun h=>YJ h0 O HP.o h;have A:Hid (¬ o<=(rules[k].last:Int)->∀ j (h:j<rules.length),j<k+1->(rules[j].last:Int)<o):=fun h j hj h2=>by
  rcases J1.1 h2 with h3|rfl
  ·exact HP.o j hj h3
  omega
 generalize rules[k]=r at b0 b1 b2 Y Z b5 b6 U E A;obtain⟨la,le,mo,so,r0,r1,r2⟩:=r;simp only at b0 b1 b2 Y Z b5 b6 U E A;obtain⟨e8,-⟩:=U;have i1:(k:Int)<25:=by omega
 have i2:(0:Int)<=(k:Int):=by omega
 have i3:(la:Int)<=255:=by omega
 have i4:(0:Int)<=(la:Int):=by omega
 by_cases d2:o<=(la:Int)
 ·have HF:=Hd (E.o d2);have J:=Hd (V.o.set7 (.int .u8 (la:Nat)) (.int .u8 (le:Nat)) (.int .u8 (mo:Nat)) (.int .u8 (so:Nat)) (.int .u8 (r0:Nat)) (.int .u8 (r1:Nat)) (.int .u8 (r2:Nat)));have I:=Hd (F7 G.o leR (.int .u8 (la:Nat)) (.int .u8 (le:Nat)) (.int .u8 (mo:Nat)) (.int .u8 (so:Nat)) (.int .u8 (r0:Nat)) (.int .u8 (r1:Nat)) (.int .u8 (r2:Nat)));obtain⟨e0,e1,e2,e3,e4,e5,e6⟩:=J.o.c7
  go_wp2_with fail
  refine Jg (v:=.tuple #[Dh ⟨la,le,mo,so,r0,r1,r2⟩,.bool true]) ?_ rfl ⟨by rw[HF.o];rfl,I.o⟩;clear a0 a1 a2 a3 a4 a5 a6 f0 f1 f2 f3 f4 f5 f6 b0 b1 b2 Y Z b5 b6;simp[results,results90,go_sem,e0,e1,e2,e3,e4,e5,e6,Dh]
 have HN:=Hd (A.o d2)
 go_wp2
 go_round
 case rel=>exact⟨k+1,by omega,by go_num,HN.o⟩
 simp[intOf];omega
end Go.Proofs.YtdmdmgfjpomdbaaGreatDoor
namespace Go.Proofs.YtdmdmgfjpomdbaaGreatDoor
open ChangeShapes WideShapes ChangeAt RowKit
variable {M N g:Nat}{W w wx:World}{s y:SI}{tm:List Value}
theorem En (own:List UInt8->Bool)(s:List UInt8):(Ov own s).width<=64:=by
 by_cases d:s.take 7=Eh
 ·rcases Xh own d with h|⟨i,e,_,h⟩<;>rw[h]<;>exact Jr _
 unfold Ov;rw[if_neg d];unfold Of
 split
 ·exact Jr _
 split
 ·exact Jr _
 split
 ·exact Jr _
 split
 ·rename_i h;obtain⟨w,_,h2,_,h4⟩:=Hv h;simp only;omega
 split
 ·split
  ·exact Jr _
  exact Jr _
 exact Jr _
theorem Nf (own:List UInt8->Bool)(ks:List (List UInt8))(i:Nat):(Kc (Ov own) ks i).width<=64:=by
 unfold Kc
 split
 ·exact En _ _
 exact Jr _
theorem Ev (a b:List UInt8):(a=b/\((Oo a).toList==(Oo b).toList)=true)∨(a≠b/\((Oo a).toList==(Oo b).toList)=false):=by
 rw[Jk,Jk,Ou,Ou]
 by_cases h:a=b
 ·exact .inl ⟨h,by simp[h]⟩
 exact .inr ⟨h,by simp[h]⟩
theorem Oj (a b:List UInt8):(a=b/\((Oo a).toList==b)=true)∨(a≠b/\((Oo a).toList==b)=false):=by
 rw[Jk,Ou]
 by_cases h:a=b
 ·exact .inl ⟨h,by simp[h]⟩
 exact .inr ⟨h,by simp[h]⟩
theorem Kr (a b:Int):(a=b/\(a==b)=true)∨(a≠b/\(a==b)=false):=by
 by_cases h:a=b
 ·exact .inl ⟨h,by simp[h]⟩
 exact .inr ⟨h,by simp[h]⟩
theorem Ld (a b:Int):(a<b/\decide (a<b)=true)∨(¬ a<b/\decide (a<b)=false):=by
 by_cases h:a<b
 ·exact .inl ⟨h,by simp[h]⟩
 exact .inr ⟨h,by simp[h]⟩
theorem Qb (a b:Int):(a<=b/\decide (a<=b)=true)∨(¬ a<=b/\decide (a<=b)=false):=by
 by_cases h:a<=b
 ·exact .inl ⟨h,by simp[h]⟩
 exact .inr ⟨h,by simp[h]⟩
def Qw (X:SI):List Value:=[.int .i64 X.kind,.int .i64 (X.width:Nat),.string (Oo X.index),.string (Oo X.elem)]
structure Wd (wx:World)(N M:Nat)(bk tm:List Value)(s x y:SI)(w:World):Prop where
 bank:Bx wx N bk
 term:Bx wx (N+1) tm
 s:Bx wx M (Qw s)
 x:Bx wx (M+1) (Qw x)
 y:Bx wx (M+1+1) (Qw y)
 le:N+2<=M
 bel:Below N w wx
def Di (W:World)(g:Nat)(X:SI):World:=(((W.setCell ⟨g,0,none⟩ (.int .i64 X.kind)).setCell ⟨g,1,none⟩ (.int .i64 (X.width:Nat))).setCell ⟨g,2,none⟩ (.string (Oo X.index))).setCell ⟨g,3,none⟩ (.string (Oo X.elem))
theorem IH {X:SI}{k:Nat}(h:k≠g):(Di W g X).heap[k]? = W.heap[k]? := by
 unfold Di;rw[Jh _ _ _ _ h,Jh _ _ _ _ h,Jh _ _ _ _ h,Jh _ _ _ _ h]
theorem Bx.other4 {b:Nat}{l:List Value}(h:Bx W b l)(hne:b≠g)(X:SI):Bx (Di W g X) b l:=by
 obtain⟨t,h⟩:=h;exact⟨t,by rw[IH hne];exact h⟩
theorem Bx.same4 {Y:SI}(h:Bx W g (Qw Y))(X:SI):Bx (Di W g X) g (Qw X):=(((h.set 0 (.int .i64 X.kind)).set 1 (.int .i64 (X.width:Nat))).set 2 (.string (Oo X.index))).set 3 (.string (Oo X.elem))
theorem F6 {B:Nat}(h:Below B w W)(hg:B<=g)(X:SI):Below B w (Di W g X):=
 (((h.setCell (p:=⟨g,0,none⟩) hg _).setCell (p:=⟨g,1,none⟩) hg _).setCell (p:=⟨g,2,none⟩) hg _).setCell (p:=⟨g,3,none⟩) hg _
theorem Wd.bl {wy:World}{bk:List Value}{x:SI}(h:Wd wx N M bk tm s x y w)(hb:Up wx wy):Wd wy N M bk tm s x y w:=
 ⟨h.bank.bl h.bank.lt hb,h.term.bl h.term.lt hb,h.s.bl h.s.lt hb,h.x.bl h.x.lt hb,h.y.bl h.y.lt hb,h.le,h.bel.trans (hb.mono (by have:=h.bank.lt;omega))⟩
theorem Wd.setx {bk:List Value}{x:SI}(h:Wd wx N M bk tm s x y w)(X:SI):Wd (Di wx (M+1) X) N M bk tm s X y w:=by
 have:=h.le;exact⟨h.bank.other4 (by omega) X,h.term.other4 (by omega) X,h.s.other4 (by omega) X,h.x.same4 X,h.y.other4 (by omega) X,h.le,F6 h.bel (by omega) X⟩
theorem Wd.sety {bk:List Value}{x:SI}(h:Wd wx N M bk tm s x y w)(X:SI):Wd (Di wx (M+1+1) X) N M bk tm s x X w:=by
 have:=h.le;exact⟨h.bank.other4 (by omega) X,h.term.other4 (by omega) X,h.s.other4 (by omega) X,h.x.other4 (by omega) X,h.y.same4 X,h.le,F6 h.bel (by omega) X⟩
theorem Wd.drew {bk:List Value}{x:SI}(h:Wd wx N M bk tm s x y w):Wd wx.drew N M bk tm s x y w:=h.bl ⟨rfl,rfl,rfl,leR,fun _ _=>rfl⟩
end Go.Proofs.YtdmdmgfjpomdbaaGreatDoor
namespace Go.Proofs.YtdmdmgfjpomdbaaGreatDoor
open ChangeShapes WideShapes ChangeAt RowKit Proofs.Tryz
variable {F:List Fn}{S:List (List UInt8)}{T:List Tm}{fb gb kb m n sb:Nat}{v5 vF vS vT:Value}{w w':World}
theorem O8.after {w1:World}(h:O8 w1 w' kb sb fb gb n S F T vS vF vT v5 m)(hb:Up w w1):O8 w w' kb sb fb gb n S F T vS vF vT v5 m:=by
 obtain⟨n',d,j,h2,h3⟩:=h;exact⟨n',d,j,h2,(Bar.of hb).trans h3⟩
theorem O8.next {w1:World}(h:O8 w w1 kb sb fb gb n S F T vS vF vT v5 m)(hb:Up w1 w'):O8 w w' kb sb fb gb n S F T vS vF vT v5 m:=by
 obtain⟨n',d,j,h2,h3⟩:=h;exact⟨n',d,j,h2.next hb,h3.trans (Bar.of hb)⟩
theorem O8.more {m':Nat}(h:O8 w w' kb sb fb gb n S F T vS vF vT v5 m)(hm:m<=m'):O8 w w' kb sb fb gb n S F T vS vF vT v5 m':=by
 obtain⟨n',d,j,h2,h3⟩:=h;exact⟨n',d,by omega,h2,h3⟩
theorem MU (X:SI)(W:World):(Instr.field 101 (Gw X) 1).run prog W=.ok (.int .i64 (X.width:Nat)) W/\(Instr.field 101 (Gw X) 2).run prog W=.ok (.string (Oo X.index)) W/\(Instr.field 101 (Gw X) 3).run prog W=.ok (.string (Oo X.elem)) W:=by
 unfold Instr.field Gw
 go_simp
 exact⟨rfl,rfl,rfl⟩
theorem UY {t:Tm}(h:Xp n t=true)(i:Nat)(hi:i<t.kids.length):0<=t.kids[i]/\t.kids[i]<(n:Int):=by
 have:=Jt.1 h t.kids[i] (Jo hi)
 simpa using this
theorem Bk (hz:∀ u∈T,u.sort.length<=1048576)(x:Int):(Ke T x).sort.length<=1048576:=by
 unfold Ke
 cases h:T[x.toNat]? with
 | none=>exact Jr _
 | some u=>exact hz u (Vn h)
theorem UG {t:Tm}{i:Nat}(hi:i<t.kids.length):(t.kids[i]?).getD 0=t.kids[i]:=by rw[Jd hi];rfl
theorem S4 {g:List UInt8->Option SI}(h:BK w kb sb fb gb n S F T vS vF vT v5 g)(t:Tm)(vk:Value)(hk:Kg w vk t.kids)(hr:Xp T.length t=true)(i:Nat)(hi:i<t.kids.length)(hT:T.length<=1000000)(hl:t.kids.length<=1000000)(hz:∀ u∈T,u.sort.length<=1048576)(hn:n<=1000000000) :
 Calls prog 113 #[.pointer (some ⟨kb,0,none⟩),Xz t vk,.int .i64 (i:Nat)] w fun e w'=>e=.returned (.int .i64 ((Ov (Oc (Oq S)) (Ke T ((t.kids[i]?).getD 0)).sort).width:Nat))/\O8 w w' kb sb fb gb n S F T vS vF vT v5 1:=by
 rw[UG hi];obtain⟨E,A,rfl,O,U,j⟩:=hk;have G:=Hd h;have HI:Hid (Kg w (.slice E t.kids.length A) t.kids):=⟨E,A,rfl,O,U,j⟩;have HX:=Hd (UY hr i hi);have Y:=Hd (Bk hz t.kids[i]);clear h j hr hz;have V:Hid (Up w (w.alloc (.cells #[.int .i64 t.op,.string (Oo t.sort),.string (Oo t.text),.int .i64 t.a,.int .i64 t.b,.slice E t.kids.length A] 55))):=Oz _ _;have HC:Hid (∀ W,Up w W->Calls prog 114 #[.pointer (some ⟨kb,0,none⟩),.agg #[.int .i64 t.op,.string (Oo t.sort),.string (Oo t.text),.int .i64 t.a,.int .i64 t.b,.slice E t.kids.length A],.int .i64 (i:Nat)] W fun e w'=>∃ pa la ca,e=.returned (Xz (Ke T t.kids[i]) (.slice pa la ca))/\Up W w'):=fun W hW=>S5 (G.o.next hW).box.c7.2.2.1 (G.o.next hW).tr t _ (HI.o.bl hW) i hi HX.o hT hl;unfold Xz
 go_in
 go_wp2_with fail
 refine (HC.o _ V.o).mono ?_;obtain⟨u,M⟩:=Oa (Ke T t.kids[i]);have HU:=Hd M;rw[M] at Y ⊢;clear M;rintro e w2 ⟨pa,la,ca,rfl,hb2⟩;have d:=V.up hb2;clear hb2;have hf:=(AN u (.slice pa la ca) w2).2.1;have K:(Oo u.sort).size<=1048576:=by show u.sort.toArray.size<=_;simpa using Y.o
 unfold Xz at hf ⊢
 go_wp2_with fail
 refine (ask_sort (G.o.next d.o) (Oo u.sort) K hn).mono ?_;rw[Ou];obtain⟨X,J⟩:=Oa (Ov (Oc (Oq S)) u.sort);have I:=Hd J;rw[J];clear J;rintro e w3 ⟨rfl,ha⟩;have Z:=Hd (ha.after d.o);clear ha;have hg:=(MU X w3).1;unfold Gw at hg ⊢
 go_wp2
 go_ret
 exact⟨Kx (by rw[HU.o,I.o]),Z.o⟩
end Go.Proofs.YtdmdmgfjpomdbaaGreatDoor
