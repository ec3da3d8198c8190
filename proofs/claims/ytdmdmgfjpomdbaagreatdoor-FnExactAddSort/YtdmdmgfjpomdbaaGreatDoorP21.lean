import Derived.Test.YtdmdmgfjpomdbaaGreatDoorP20
import Derived.Deep.RegionLaw
import Derived.Deep.AppendLies
set_option maxRecDepth 100000
set_option maxHeartbeats 4000000
namespace Go.Proofs.YtdmdmgfjpomdbaaGreatDoor
open ChangeShapes WideShapes ChangeAt RowKit Proofs.Tryz
variable {u:Tm}
theorem X6 {a b:List UInt8}(h:Oo a=Oo b):a=b:=by rw[<-Ou a,h,Ou]
theorem MK {t:Tm}:t=u↔t.op=u.op/\t.sort=u.sort/\t.text=u.text/\t.a=u.a/\t.b=u.b/\t.kids=u.kids:=by
 cases t;cases u;simp
def SG (t u:Tm):Bool:=decide (t.op=u.op/\t.sort=u.sort/\t.text=u.text/\t.a=u.a/\t.b=u.b/\t.kids=u.kids)
theorem SN {t:Tm}:SG t u=true↔t=u:=by unfold SG;rw[Ju,MK]
theorem SH {t:Tm}:SG t u=false↔t≠u:=by rw[<-Bool.not_eq_true,SN]
theorem Mk (v1 v2:Value)(t u:Tm)(w:World)(h1:Kg w v1 t.kids)(h2:Kg w v2 u.kids) :
 Calls prog 74 #[.agg #[.int .i64 t.op,.string (Oo t.sort),.string (Oo t.text),.int .i64 t.a,.int .i64 t.b,v1],.agg #[.int .i64 u.op,.string (Oo u.sort),.string (Oo u.text),.int .i64 u.a,.int .i64 u.b,v2]] w fun e w'=>e=.returned (.bool (SG t u))/\Up w w':=by
 have I:=Hd h1;have J:=Hd h2;have E:=Hd (MK (t:=t) (u:=u));clear h1 h2;have d:Hid (Up w ((w.alloc (.cells #[.int .i64 t.op,.string (Oo t.sort),.string (Oo t.text),.int .i64 t.a,.int .i64 t.b,v1] 55)).alloc (.cells #[.int .i64 u.op,.string (Oo u.sort),.string (Oo u.text),.int .i64 u.a,.int .i64 u.b,v2] 55))):=((Je _ _).alloc leR _).alloc (by rw[Jf];omega) _
 by_cases j:t.op=u.op
 ·have M:(t.op==u.op)=true:=by rw[Yf];exact j
  by_cases A:t.sort=u.sort
  ·have O:((Oo t.sort).toList==(Oo u.sort).toList)=true:=by rw[A];simp
   by_cases k2:t.text=u.text
   ·have U:((Oo t.text).toList==(Oo u.text).toList)=true:=by rw[k2];simp
    by_cases k3:t.a=u.a
    ·have V:(t.a==u.a)=true:=by rw[Yf];exact k3
     by_cases k4:t.b=u.b
     ·have Y:(t.b==u.b)=true:=by rw[Yf];exact k4
      have K:=Hd (And.intro j (And.intro A (And.intro k2 (And.intro k3 k4))));clear j A k2 k3 k4
      go_in
      go_wp2_with fail
      refine (UB v1 v2 t.kids u.kids _ (I.o.bl d.o) (J.o.bl d.o)).mono ?_;have F:Hid (SG t u=decide (t.kids=u.kids)):=by
       unfold Hid;rw[Yd,SN,Ju,E.o];have:=K.o;exact⟨fun h=>h.2.2.2.2.2,fun h=>⟨this.1,this.2.1,this.2.2.1,this.2.2.2.1,this.2.2.2.2,h⟩⟩
      generalize decide (t.kids=u.kids)=B at F ⊢;rintro e w2 ⟨rfl,hb2⟩;have G:=d.up hb2;clear hb2
      go_wp2
      go_ret
      exact⟨Oy F.o.symm,G.o⟩
     have Y:(t.b==u.b)=false:=by rw[Jb];exact k4
     have F:Hid (SG t u=false):=by unfold Hid;rw[SH,Ne,E.o];exact fun h=>k4 h.2.2.2.2.1
     clear j A k2 k3 k4
     go_in
     go_wp2
     go_ret
     exact⟨Oy F.o.symm,d.o⟩
    have V:(t.a==u.a)=false:=by rw[Jb];exact k3
    have F:Hid (SG t u=false):=by unfold Hid;rw[SH,Ne,E.o];exact fun h=>k3 h.2.2.2.1
    clear j A k2 k3
    go_in
    go_wp2
    go_ret
    exact⟨Oy F.o.symm,d.o⟩
   have U:((Oo t.text).toList==(Oo u.text).toList)=false:=Ck (fun e=>k2 (X6 e));have F:Hid (SG t u=false):=by unfold Hid;rw[SH,Ne,E.o];exact fun h=>k2 h.2.2.1
   clear j A k2
   go_in
   go_wp2
   go_ret
   exact⟨Oy F.o.symm,d.o⟩
  have O:((Oo t.sort).toList==(Oo u.sort).toList)=false:=Ck (fun e=>A (X6 e));have F:Hid (SG t u=false):=by unfold Hid;rw[SH,Ne,E.o];exact fun h=>A h.2.1
  clear j A
  go_in
  go_wp2
  go_ret
  exact⟨Oy F.o.symm,d.o⟩
 have M:(t.op==u.op)=false:=by rw[Jb];exact j
 have F:Hid (SG t u=false):=by unfold Hid;rw[SH,Ne,E.o];exact fun h=>j h.1
 clear j
 go_in
 go_wp2
 go_ret
 exact⟨Oy F.o.symm,d.o⟩
def G9 (T:List Tm)(t:Tm):Int:=match T.findIdx? (fun u=>SG u t) with|none => -1|some i=>(i:Int)
theorem KA {T:List Tm}{t:Tm}(h:∀ j (hj:j<T.length),T[j]≠t):G9 T t = -1:=by
 unfold G9;rw[List.findIdx?_eq_none_iff.2];intro x d;obtain⟨j,hj,rfl⟩:=J6 d;exact SH.2 (h j hj)
theorem KT {T:List Tm}{t:Tm}{k:Nat}(hk:k<T.length)(h:T[k]=t)(hb:∀ j (hj:j<T.length),j<k->T[j]≠t):G9 T t=(k:Int):=by
 unfold G9;have:T.findIdx? (fun u=>SG u t)=some k:=Zk.2 ⟨hk,SN.2 h,fun j hj e=>hb j (by omega) hj (SN.1 e)⟩;rw[this]
theorem UA (v vk:Value)(T:List Tm)(t:Tm)(w:World)(h:K9 w v T)(hk:Kg w vk t.kids) :
 Calls prog 50 #[v,.agg #[.int .i64 t.op,.string (Oo t.sort),.string (Oo t.text),.int .i64 t.a,.int .i64 t.b,vk]] w fun e w'=>e=.returned (.int .i64 (G9 T t))/\Up w w':=by
 obtain⟨p,c,rfl,h1,h2,h3⟩:=h;have HT:=Hd h3;have HK:=Hd hk;unfold maxLen at h2;clear h3 hk
 go_in
 go_wp2_with fail
 obtain⟨W1,E⟩:=Oa (w.alloc (.cells #[.int .i64 t.op,.string (Oo t.sort),.string (Oo t.text),.int .i64 t.a,.int .i64 t.b,vk] 55));have c8:Hid (Up w W1):=by unfold Hid;rw[<-E];exact Oz _ _
 have Z:Hid (W1.heap.size=w.heap.size+1):=by unfold Hid;rw[<-E];simp
 have d2:Hid (Bx W1 w.heap.size [.int .i64 t.op,.string (Oo t.sort),.string (Oo t.text),.int .i64 t.a,.int .i64 t.b,vk]):=by unfold Hid;rw[<-E];exact Oi w _ _
 rw[E];clear E
 go_loopw [8] (fun i wr=>∃ k:Nat,k<=T.length/\i=.int .i64 (k:Nat)/\(∀ j (h:j<T.length),j<k->T[j]≠t)/\Below (w.heap.size+1) W1 wr) (fun i _=>T.length - (intOf i).toNat)
 case atStart=>exact⟨0,Jr _,rfl,fun j _ h=>absurd h (J2 _),Je _ _⟩
 obtain⟨k,hk,rfl,hp,J⟩:=hrel;have HP:=Hd hp;have I:=Hd J;have d:Hid (Up w wr):=c8.o.trans (J.mono (by omega));have b7:=d2.o.bl (N:=w.heap.size+1) (by omega) J;obtain⟨b0,b1,b2,b3,b4,b5⟩:=b7.k6;clear hp J b7
 by_cases K:k<T.length
 ·rcases HT.o with h0|⟨b,rfl,hb,a8⟩
  ·rw[h0] at K;simp at K
  obtain⟨k0,k1,k2,k3,k4,va,k5,b6⟩:=a8 k K;have c0:=(d.o.cell (p:=⟨b,k*6,none⟩) hb).trans k0;have c1:=(d.o.cell (p:=⟨b,k*6+1,none⟩) hb).trans k1;have c2:=(d.o.cell (p:=⟨b,k*6+2,none⟩) hb).trans k2;have c3:=(d.o.cell (p:=⟨b,k*6+3,none⟩) hb).trans k3;have c4:=(d.o.cell (p:=⟨b,k*6+4,none⟩) hb).trans k4;have c5:=(d.o.cell (p:=⟨b,k*6+5,none⟩) hb).trans k5;have V:=Hd (b6.bl d.o);clear a8 k0 k1 k2 k3 k4 k5 b6;have HU:Hid (∃ u:Tm,T[k]=u):=⟨_,rfl⟩;obtain⟨u,hu⟩:=HU.o;have U:=Hd hu;rw[hu] at c0 c1 c2 c3 c4 V;clear hu HU;have i0:(0:Int)<=(k:Int):=by omega
  have i1:(k:Int)<(T.length:Int):=by omega
  have A:Hid (Up wr wr.drew):=⟨rfl,rfl,rfl,leR,fun _ _=>rfl⟩;have a7:Hid (Kg wr vk t.kids):=HK.o.bl d.o
  by_cases ko:u.op=t.op
  ·have x0:(u.op==t.op)=true:=by rw[Yf];exact ko
   clear ko
   cases Y:SG u t
   ·have HN:Hid (T[k]≠t):=by unfold Hid;rw[U.o];exact SH.1 Y
    have O:=Hd Y;clear Y
    go_wp2
    go_region_with (go_at_call 74;refine (Mk va vk u t _ (V.o.bl A.o) (a7.o.bl A.o)).mono ?_;rw[O.o];rintro e w3 ⟨rfl,G⟩;have M:=Hd G;clear G)
    all_goals (go_wp2_with fail)
    all_goals go_roundw
    all_goals (try (case rel=>exact⟨k+1,by omega,by go_num,fun j hj h2=>by
     rcases J1.1 h2 with h|rfl
     ·exact HP.o j hj h
     exact HN.o,I.o.trans ((A.o.trans M.o).mono (by have:=I.o.size;have:=Z.o;omega))⟩))
    all_goals (try (case measure=>simp[intOf];omega))
   have HR:Hid (G9 T t=(k:Int)):=KT K (by rw[U.o];exact SN.1 Y) HP.o;have O:=Hd Y;clear Y
   go_wp2
   go_region_with (go_at_call 74;refine (Mk va vk u t _ (V.o.bl A.o) (a7.o.bl A.o)).mono ?_;rw[O.o];rintro e w3 ⟨rfl,G⟩;have M:=Hd G;clear G)
   all_goals (go_wp2_with fail)
   all_goals go_ret
   all_goals exact⟨Kx HR.o.symm,d.o.trans ((A.o.trans M.o).mono d.o.size)⟩
  have x0:(u.op==t.op)=false:=by rw[Jb];exact ko
  have HN:Hid (T[k]≠t):=by unfold Hid;rw[U.o];rintro rfl;exact ko rfl
  clear ko
  go_wp2_with fail
  first|go_region|fail "no way"
  all_goals (go_wp2_with fail)
  all_goals go_roundw
  all_goals (try (case rel=>exact⟨k+1,by omega,by go_num,fun j hj h2=>by
   rcases J1.1 h2 with h|rfl
   ·exact HP.o j hj h
   exact HN.o,I.o.trans (A.o.mono (by have:=I.o.size;have:=Z.o;omega))⟩))
  all_goals (try (case measure=>simp[intOf];omega))
 have HR:Hid (G9 T t = -1):=KA fun j hj=>HP.o j hj (by omega);have z:decide ((k:Int)<(T.length:Int))=false:=dF (by omega)
 go_wp2
 go_ret
 exact⟨Kx HR.o.symm,d.o⟩
end Go.Proofs.YtdmdmgfjpomdbaaGreatDoor
namespace Go.Proofs.YtdmdmgfjpomdbaaGreatDoor
open ChangeShapes WideShapes ChangeAt RowKit
def Oq (L:List (List UInt8))(n:List UInt8):Option Nat:=L.findIdx? (fun x=>decide (x=n))
theorem idxF_some (L:List (List UInt8))(n:List UInt8):(Oq L n).isSome=Ok L n:=by
 unfold Oq Ok;rw[Yd,Ju,List.findIdx?_isSome];simp
theorem YD {L:List (List UInt8)}(h:∀ n∈L,Ni n=true):Oc (Oq L)=Ok L:=by
 funext n
 unfold Oc;rw[idxF_some];unfold Ok
 by_cases hn:n∈L
 ·have:=h n hn;simp only[Ni,J3,V4] at this;simp[hn,this.2]
 simp[hn]
end Go.Proofs.YtdmdmgfjpomdbaaGreatDoor
namespace Go.Proofs.YtdmdmgfjpomdbaaGreatDoor
open ChangeShapes WideShapes ChangeAt RowKit Proofs.Tryz
variable {W w:World}{b base n:Nat}{e:TypeId}{f:List UInt8->Option Nat}{v:Value}{xs:List Value}
def strsC (L:List (List UInt8)):List Value:=L.map (fun x=>.string (Oo x))
theorem Ed {size:Nat}(h:w.ownsRow base e size v n xs):∃ a c,v=.slice a n c:=by
 rcases h.2 with⟨rfl,rfl⟩|⟨g,cap,_,rfl,_⟩
 ·exact⟨_,_,rfl⟩
 exact⟨_,_,rfl⟩
theorem own_other' {W':World}{sz:Nat}(h:W.ownsRow base e sz v n xs)(hk:∀ g,v.ownBlock=some g->W'.heap[g]? = W.heap[g]?):W'.ownsRow base e sz v n xs:=by
 refine⟨h.1,?_⟩
 rcases h.2 with j|⟨g,cap,d,rfl,A,h2,h3⟩
 ·exact .inl j
 exact .inr ⟨g,cap,d,rfl,A,(hk g rfl).trans h2,h3⟩
theorem Kp {sz:Nat}(h:W.ownsRow base e sz v n xs):∀ g,v.ownBlock=some g->∃ c fz,W.heap[g]? = some (.cells c e fz):=by
 intro g j
 rcases h.2 with⟨rfl,_⟩|⟨A,cap,d,rfl,_,h3,_⟩
 ·cases j
 cases j;exact⟨d,_,h3⟩
theorem EA (h:n<=1000000):(Lit.int .i64 (n:Int)).wf=true:=by
 have d:IntKind.i64.min = -9223372036854775808:=rfl;have h2:IntKind.i64.max=9223372036854775807:=rfl;simp only[Lit.wf,d,h2,J3,Yi];omega
theorem IP:(prog.info? 9).map (fun i=>(i.zero,i.size,i.bytes))=some (some (.string ⟨#[]⟩),1,16):=by kernel_rfl
theorem Q8:∃ i:TypeInfo,prog.info? 9=some i/\i.zero=some (.string ⟨#[]⟩)/\i.size=1/\i.bytes=16:=info_parts IP
theorem N4 {ops:Array Oper}{rest:List Oper}{o:Oper}{a:Act}{Q:Exit->Act->World->Prop}{W:World}{t:ByteArray}{base n:Nat}{v:Value}{xs:List Value}(hgd:o.guard=none)(s y:Operand)
 (ho:o.op=.call { callee:=.builtin .append,args:=#[s,y],argTypes:=#[22,22] }) (hs:a.eval s=v) (hown:W.ownsRow base 9 1 v n xs)
 (H:Nat) (hx:a.eval y=.slice (some ⟨H,0,none⟩) 1 1) (hH:W.heap.size=H) (hn:n<=1000000000) (hbase:base<=W.heap.size)
 (h:∀ g cap W',W'.ownsRow base 9 1 (.slice (some ⟨g,0,none⟩) (n+1) cap) (n+1) (xs++[.string t])->(W.alloc (.cells #[.string t] 9)).grownBy W' v.ownBlock->(v.ownBlock=some g∨g=W.heap.size+1)->wpList prog ops Q rest (a.put o.dst (.slice (some ⟨g,0,none⟩) (n+1) cap)) W') :
 wpList prog ops Q (o::rest) a (W.alloc (.cells #[.string t] 9)):=by
 subst hH;obtain⟨i0,d,j,A,E⟩:=Q8;refine wpList_append_lies _ hgd s y 22 ho base 9 i0 (.string ⟨#[]⟩) 1 16 underlying22 d j A E rfl (by decide) v n xs hs (hown.alloc _) ⟨W.heap.size,0,none⟩ 1 1 [.string t] hx rfl
  (World.news_of_block (cs:=#[.string t]) (t:=9) (fr:=(0,0)) (heap_alloc_new W _)) (by simp[Value.oneCell']) (by decide) (by unfold maxLen;omega) (by omega) (by simp;omega) _ rfl ?_
 intro g cap W' G h2 h3 _;refine h g cap W' G h2 ?_
 rcases h3 with h3|h3
 ·exact .inl h3
 refine .inr ?_;rw[h3];simp
theorem Bx.c7 {g:Nat}{v0 v1 v2 v3 v4 v5 v6:Value}(h:Bx W g [v0,v1,v2,v3,v4,v5,v6]):W.cell? ⟨g,0,none⟩=some v0/\W.cell? ⟨g,1,none⟩=some v1/\W.cell? ⟨g,2,none⟩=some v2/\W.cell? ⟨g,3,none⟩=some v3/\W.cell? ⟨g,4,none⟩=some v4/\W.cell? ⟨g,5,none⟩=some v5/\W.cell? ⟨g,6,none⟩=some v6:=⟨h.cell 0,h.cell 1,h.cell 2,h.cell 3,h.cell 4,h.cell 5,h.cell 6⟩
theorem Hm.lt (h:Hm w b f):b<w.heap.size:=by
 obtain⟨n,D,_,⟨A,j,d,_⟩,_⟩:=h;exact (Jv.1 d).1
theorem NF {g:Nat}{l:List Value}(h:Hm w b f)(hx:Bx w g l):b≠g:=by
 rintro rfl;obtain⟨n,D,_,⟨A,j,d,_⟩,_⟩:=h;obtain⟨t,hx⟩:=hx;rw[d] at hx;cases hx
def Ef (w:World)(b n:Nat)(f:List UInt8->Option Nat):Prop:=
 ∃ D:DataW Unit,w.ownsMap prog 9 (plainElem prog 3) b n D/\∀ s,Maps.has D (.string s)=(f s).isSome/\∀ i,f s=some i->D.atKey (.string s) (.lit (.int .i64 0))=.lit (.int .i64 (i:Nat))
theorem Ef.to (h:Ef w b n f)(hn:n<=1000):Hm w b f:=by
 obtain⟨D,d,h2⟩:=h;exact⟨n,D,by omega,d,h2⟩
theorem Ef.low {w':World}{N:Nat}(h:Ef w b n f)(hb:Below N w w')(hN:b<N):Ef w' b n f:=by
 obtain⟨D,⟨j,d,G,E⟩,A⟩:=h;exact⟨D,⟨j,d,(hb.block b hN).trans G,E⟩,A⟩
theorem II {L:List (List UInt8)}{s:List UInt8}(h:Oq L s=none)(t:List UInt8):Oq (L++[s]) t=if t=s then some L.length else Oq L t:=by
 unfold Oq at h ⊢;rw[List.findIdx?_append]
 by_cases d:t=s
 ·subst d;rw[h,if_pos rfl];simp[List.findIdx?_cons]
 rw[if_neg d];have:s≠t:=fun e=>d e.symm
 cases j:List.findIdx? (fun x=>decide (x=t)) L with
 | none=>simp[List.findIdx?_cons,this]
 | some i=>simp
theorem Ef.put {L:List (List UInt8)}{D:DataW Unit}(hD:∀ s,Maps.has D (.string s)=(Oq L s).isSome/\∀ i,Oq L s=some i->D.atKey (.string s) (.lit (.int .i64 0))=.lit (.int .i64 (i:Nat)))(hm:Maps.IsMap D){s:List UInt8}(hs:Oq L s=none)(hown:w.ownsMap prog 9 (plainElem prog 3) b n (D.put (.string s) (.lit (.int .i64 (L.length:Nat))))):Ef w b n (Oq (L++[s])):=by
 refine⟨_,hown,fun t=>?_⟩;rw[II hs]
 by_cases h:t=s
 ·subst h;rw[if_pos rfl];refine⟨Maps.has_put_same hm Qg _,fun i hi=>?_⟩;cases hi;exact Maps.atKey_put_same hm Qg _ _
 rw[if_neg h];have d:(Lit.string t)≠Lit.string s:=fun e=>h (by cases e;rfl);rw[Maps.has_put_other d,Maps.atKey_put_other d];exact hD t
structure AddedS (base kb sb fb n:Nat)(L M:List (List UInt8))(v0 vT v5 v6:Value)(q:Option Addr)(m d:Nat)(w w':World):Prop where
 row:∃ v1,Bx w' kb [v1,.slice q m d,vT,.map (some sb),.map (some fb),v5,v6]/\w'.ownsRow base 9 1 v1 M.length (strsC M)/\v1.ownBlock≠some kb
 names:Ef w' sb (n+1) (Oq M)
 os:w'.os=w.os
 tape:w'.tape=w.tape
 output:w'.output=w.output
 size:w.heap.size<=w'.heap.size
 block:∀ k,k<w.heap.size->k≠kb->k≠sb->v0.ownBlock≠some k->w'.heap[k]? = w.heap[k]?
theorem ZT (base kb sb fb n:Nat)(L:List (List UInt8))(f2:List UInt8->Option Nat)(v0 vT v5 v6:Value)(q:Option Addr)(m d:Nat)(s:ByteArray)(w:World)
 (hx:Bx w kb [v0,.slice q m d,vT,.map (some sb),.map (some fb),v5,v6]) (hown:w.ownsRow base 9 1 v0 L.length (strsC L)) (hS:Ef w sb n (Oq L)) (hnn:n<=1000) (hF:Hm w fb f2) (hs:s.size<=1048576) (hb:base<=w.heap.size)
 (hrk:v0.ownBlock≠some kb) (hf:Ee (Oq L) f2 s.data.toList=false) (hm:L.length+m<300) :
 Calls prog 38 #[.pointer (some ⟨kb,0,none⟩),.string s] w fun e w'=>e=.returned (.tuple #[.int .i64 (L.length:Nat),.int .i64 0])/\AddedS base kb sb fb n L (L++[s.data.toList]) v0 vT v5 v6 q m d w w':=by
 obtain⟨p0,c0,rfl⟩:=Ed hown;have HX:=Hd hx;have b3:=Hd hown;have e9:=Hd hS;have HS:=Hd (hS.to hnn);have HF:=Hd hF;have e6:Hid (Oq L s.data.toList=none):=by
  unfold Hid;simp only[Ee,Bool.or_eq_false_iff] at hf
  cases h:Oq L s.data.toList with
  | none=>rfl
  | some i=>rw[h] at hf;simp at hf
 have g4:kb<w.heap.size:=hx.lt;have d4:=Hd (hS.to hnn).lt;have h6:=Hd hF.lt;have e4:Hid (Hg (Oq L) f2 s.data.toList=0):=by unfold Hid Hg;rw[hf];rfl
 clear hx hown hS hF hf
 go_in
 go_wp2_with fail
 refine (Gv kb sb fb (Oq L) f2 s _ HX.o.c7.2.2.2.1 HX.o.c7.2.2.2.2.1 HS.o HF.o hs).mono ?_;rw[e4.o];rintro e w1 ⟨rfl,rfl⟩
 go_wp2_with fail
 refine (Xd kb p0 q L.length c0 m d _ HX.o.c7.1 HX.o.c7.2.1 (by omega) (by omega)).mono ?_;rw[Jc (by omega)];rintro e w2 ⟨rfl,hb2⟩;have Z:=Hd (HX.o.bl g4 hb2);have M:=Hd (own_other' b3.o (fun g hg=>hb2.block g (b3.o.lt g hg).2));have d3:=Hd (HS.o.bl hb2 d4.o);have d0:=Hd hb2;clear hb2;have a0:=Z.o.cell 0;have a3:=Z.o.cell 3;simp only[Jm,Js] at a0 a3
 go_wp2_with fail
 refine (N5 s _ hs).mono ?_;rintro e w3 ⟨rfl,O⟩;have b9:=Hd (Z.o.bl Z.o.lt O);have G:=Hd (own_other' M.o (fun g hg=>O.block g (M.o.lt g hg).2));have e8:=Hd (d3.o.bl O d3.o.lt);have j:=Hd (d0.o.trans (O.mono d0.o.size));clear O a0 a3;obtain⟨a0,a1,a2,a3,a4,a5,a6⟩:=b9.o.c7;obtain⟨D,Y,hD⟩:=(e9.o.low (j.o) d4.o);have b7:=Hd Y;have e3:=Hd hD;clear Y hD
 go_wp2_with (at_mapUpdate;refine wpList_mapUpdate_own _ rfl _ _ _ 75 rfl 9 3 Xc underlying75 (plainElem prog 3) sb n D rfl b7.o (by unfold maxLen;omega) _ _ _ rfl rfl (Gl s (by unfold maxLen;omega)) (.lit (.int .i64 (L.length:Nat))) [] (plainElem_int underlying3 ?wf) ?_)
 case wf=>exact EA (by omega)
 intro w4 U I;have e0:sb≠kb:=NF e8.o b9.o;have b6:(Value.slice p0 L.length c0).ownBlock≠some sb:=fun e=>by
  obtain⟨cs,fz,hk⟩:=Kp G.o sb e;obtain⟨es,cl,A,_⟩:=b7.o;rw[hk] at A
  cases A
 have a7:=Hd (Ly b9.o I (Ne.symm e0));have b8:=Hd (own_other' G.o (fun g hg=>I.block g (G.o.lt g hg).2 (fun e=>b6 (hg.trans e))));have d1:=Hd U;have E:=Hd I;clear U I a0 a1 a2 a3 a4 a5 a6;obtain⟨a0,a1,a2,a3,a4,a5,a6⟩:=a7.o.c7;have r0:=a7.o.fz 0
 go_wp2_with (at_builtin;refine N4 (t:=s) (n:=L.length) (base:=base) (xs:=strsC L) rfl _ _ rfl rfl ?own _ rfl ?hH ?hn ?hb ?_)
 case own=>exact b8.o
 case hH=>rfl
 case hn=>omega
 case hb=>exact Yc (Yc hb j.o.size) E.o.size
 intro g5 c5 w5 V J b4;have g9:kb<w4.heap.size:=a7.o.lt;have d9:sb<w4.heap.size:=by
  obtain⟨es,cl,A,_⟩:=d1.o;exact (Jv.1 A).1
 have a8:Bx w5 kb [.slice p0 L.length c0,.slice q m d,vT,.map (some sb),.map (some fb),v5,v6]:=by
  obtain⟨ty,h⟩:=a7.o.alloc (.cells #[.string s] 9);exact⟨ty,(J.block kb (by simp;omega) (fun e=>hrk e.symm)).trans h⟩
 have d8:Ef w5 sb (n+1) (Oq (L++[s.data.toList])):=by
  obtain⟨es,cl,A,c6⟩:=d1.o;exact Ef.put e3.o b7.o.isMap e6.o ⟨es,cl,(J.block sb (by simp;omega) (fun e=>b6 e.symm)).trans (((Oz w4 _).block sb d9).trans A),c6⟩
 have b5:(Value.slice (some ⟨g5,0,none⟩) (L.length+1) c5).ownBlock≠some kb:=fun e=>by
  have e':g5=kb:=Option.some.inj e
  rcases b4 with h|h
  ·rw[e'] at h;exact hrk h
  omega
 obtain⟨y0,y1,y2,y3,y4,y5,y6⟩:=a8.c7;have z0:=a8.fz 0;have f8:=Hd a8;have e5:=Hd d8;have e7:=Hd V;have d2:=Hd b5;have K:=Hd J;clear a8 d8 V J b4 b5 a0 a1 a2 a3 a4 a5 a6 r0
 go_wp2_with fail
 refine Jg (v:=.tuple #[.int .i64 (L.length:Nat),.int .i64 0]) ?_ rfl ⟨rfl,?_⟩
 ·simp[results,results38,go_sem]
 have hL:(L++[s.data.toList]).length=L.length+1:=by simp
 have hC:strsC (L++[s.data.toList])=strsC L++[.string s]:=by simp[strsC,Kq]
 have c8:∀ k,k≠kb->(w5.setCell ⟨kb,0,none⟩ (.slice (some ⟨g5,0,none⟩) (L.length+1) c5)).heap[k]? = w5.heap[k]? := fun k hk=>Jh w5 ⟨kb,0,none⟩ _ k hk;refine⟨⟨_,f8.o.set 0 _,?_,d2.o⟩,?_,?_,?_,?_,?_,?_⟩
 ·rw[hL,hC];exact own_other' e7.o (fun g hg=>c8 g (fun e=>d2.o (by rw[hg,e])))
 ·obtain⟨D',⟨es,cl,A,c6⟩,g0⟩:=e5.o;exact⟨D',⟨es,cl,(c8 sb e0).trans A,c6⟩,g0⟩
 ·exact K.o.os.trans (E.o.os.trans j.o.os)
 ·exact K.o.tape.trans (E.o.tape.trans j.o.tape)
 ·exact K.o.output.trans (E.o.output.trans j.o.output)
 ·have h5:=K.o.size;have h4:=E.o.size;have h3:=j.o.size;simp only[World.setCell,Z9];simp at h5;omega
 intro k hk g1 g2 g3;have h4:=E.o.size;have h3:=j.o.size;rw[c8 k g1,K.o.block k (by simp;omega) (fun e=>g3 e.symm),(Oz w4 _).block k (by omega),E.o.block k (by omega) (fun e=>g2 (Option.some.inj e)),j.o.block k hk]
end Go.Proofs.YtdmdmgfjpomdbaaGreatDoor
