import Derived.Test.YtipgjenolpofpaaGreatDoorP20
import Derived.Deep.RegionLaw
import Derived.Deep.AppendLies
set_option maxRecDepth 100000
set_option maxHeartbeats 4000000
namespace Go.Proofs.YtipgjenolpofpaaGreatDoor
open ChangeShapes WideShapes ChangeAt RowKit Proofs.Tryz
theorem I4 {a b:List UInt8}(h:Oo a=Oo b):a=b:=by rw[<-Ou a,h,Ou]
theorem DA {t u:Tm}:t=u↔t.op=u.op/\t.sort=u.sort/\t.text=u.text/\t.a=u.a/\t.b=u.b/\t.kids=u.kids:=by
 cases t;cases u;simp
theorem Fv (v1 v2:Value)(t u:Tm)(w:World)(h1:U5 w v1 t.kids)(h2:U5 w v2 u.kids) :
 Calls prog 73 #[.agg #[.int .i64 t.op,.string (Oo t.sort),.string (Oo t.text),.int .i64 t.a,.int .i64 t.b,v1],.agg #[.int .i64 u.op,.string (Oo u.sort),.string (Oo u.text),.int .i64 u.a,.int .i64 u.b,v2]] w fun e w'=>e=.returned (.bool (decide (t=u)))/\Up w w':=by
 have J:=Hd h1;have K:=Hd h2;have E:=Hd (DA (t:=t) (u:=u));clear h1 h2;have d:Hid (Up w ((w.alloc (.cells #[.int .i64 t.op,.string (Oo t.sort),.string (Oo t.text),.int .i64 t.a,.int .i64 t.b,v1] 57)).alloc (.cells #[.int .i64 u.op,.string (Oo u.sort),.string (Oo u.text),.int .i64 u.a,.int .i64 u.b,v2] 57))):=((Jh _ _).alloc Of _).alloc (by rw[Ji];omega) _
 by_cases j:t.op=u.op
 ·have O:(t.op==u.op)=true:=by rw[Yc];exact j
  by_cases A:t.sort=u.sort
  ·have U:((Oo t.sort).toList==(Oo u.sort).toList)=true:=by rw[A];simp
   by_cases k2:t.text=u.text
   ·have V:((Oo t.text).toList==(Oo u.text).toList)=true:=by rw[k2];simp
    by_cases k3:t.a=u.a
    ·have Y:(t.a==u.a)=true:=by rw[Yc];exact k3
     by_cases k4:t.b=u.b
     ·have Z:(t.b==u.b)=true:=by rw[Yc];exact k4
      have M:=Hd (And.intro j (And.intro A (And.intro k2 (And.intro k3 k4))));clear j A k2 k3 k4
      go_in
      go_wp2_with fail
      refine (YR v1 v2 t.kids u.kids _ (J.o.bl d.o) (K.o.bl d.o)).mono ?_;have F:Hid (decide (t=u)=decide (t.kids=u.kids)):=by
       unfold Hid;rw[Yb,Js,Js,E.o];have:=M.o;exact⟨fun h=>h.2.2.2.2.2,fun h=>⟨this.1,this.2.1,this.2.2.1,this.2.2.2.1,this.2.2.2.2,h⟩⟩
      generalize decide (t.kids=u.kids)=B at F ⊢;rintro e w2 ⟨rfl,G⟩;have I:=d.up G;clear G
      go_wp2
      go_ret
      exact⟨Oz F.o.symm,I.o⟩
     have Z:(t.b==u.b)=false:=by rw[Jc];exact k4
     have F:Hid (decide (t=u)=false):=by unfold Hid;rw[Jm,E.o];exact fun h=>k4 h.2.2.2.2.1
     clear j A k2 k3 k4
     go_in
     go_wp2
     go_ret
     exact⟨Oz F.o.symm,d.o⟩
    have Y:(t.a==u.a)=false:=by rw[Jc];exact k3
    have F:Hid (decide (t=u)=false):=by unfold Hid;rw[Jm,E.o];exact fun h=>k3 h.2.2.2.1
    clear j A k2 k3
    go_in
    go_wp2
    go_ret
    exact⟨Oz F.o.symm,d.o⟩
   have V:((Oo t.text).toList==(Oo u.text).toList)=false:=P6 (fun e=>k2 (I4 e));have F:Hid (decide (t=u)=false):=by unfold Hid;rw[Jm,E.o];exact fun h=>k2 h.2.2.1
   clear j A k2
   go_in
   go_wp2
   go_ret
   exact⟨Oz F.o.symm,d.o⟩
  have U:((Oo t.sort).toList==(Oo u.sort).toList)=false:=P6 (fun e=>A (I4 e));have F:Hid (decide (t=u)=false):=by unfold Hid;rw[Jm,E.o];exact fun h=>A h.2.1
  clear j A
  go_in
  go_wp2
  go_ret
  exact⟨Oz F.o.symm,d.o⟩
 have O:(t.op==u.op)=false:=by rw[Jc];exact j
 have F:Hid (decide (t=u)=false):=by unfold Hid;rw[Jm,E.o];exact fun h=>j h.1
 clear j
 go_in
 go_wp2
 go_ret
 exact⟨Oz F.o.symm,d.o⟩
def Gg (T:List Tm)(t:Tm):Int:=match T.findIdx? (fun u=>decide (u=t)) with|none => -1|some i=>(i:Int)
theorem ZB {T:List Tm}{t:Tm}(h:∀ j (hj:j<T.length),T[j]≠t):Gg T t = -1:=by
 unfold Gg;rw[List.findIdx?_eq_none_iff.2];intro x d;obtain⟨j,hj,rfl⟩:=Ya d
 simpa using h j hj
theorem ZA {T:List Tm}{t:Tm}{k:Nat}(hk:k<T.length)(h:T[k]=t)(hb:∀ j (hj:j<T.length),j<k->T[j]≠t):Gg T t=(k:Int):=by
 unfold Gg;rw[Zk.2 ⟨hk,by simpa using h,fun j hj=>by simpa using hb j (by omega) hj⟩]
theorem YP (v vk:Value)(T:List Tm)(t:Tm)(w:World)(h:Km w v T)(hk:U5 w vk t.kids) :
 Calls prog 42 #[v,.agg #[.int .i64 t.op,.string (Oo t.sort),.string (Oo t.text),.int .i64 t.a,.int .i64 t.b,vk]] w fun e w'=>e=.returned (.int .i64 (Gg T t))/\Up w w':=by
 obtain⟨p,c,rfl,h1,h2,h3⟩:=h;have HT:=Hd h3;have HK:=Hd hk;unfold maxLen at h2;clear h3 hk
 go_in
 go_wp2_with fail
 obtain⟨W1,E⟩:=O1 (w.alloc (.cells #[.int .i64 t.op,.string (Oo t.sort),.string (Oo t.text),.int .i64 t.a,.int .i64 t.b,vk] 57));have c8:Hid (Up w W1):=by unfold Hid;rw[<-E];exact Oy _ _
 have Z:Hid (W1.heap.size=w.heap.size+1):=by unfold Hid;rw[<-E];simp
 have d2:Hid (Bx W1 w.heap.size [.int .i64 t.op,.string (Oo t.sort),.string (Oo t.text),.int .i64 t.a,.int .i64 t.b,vk]):=by unfold Hid;rw[<-E];exact Oi w _ _
 rw[E];clear E
 go_loopw [8] (fun i wr=>∃ k:Nat,k<=T.length/\i=.int .i64 (k:Nat)/\(∀ j (h:j<T.length),j<k->T[j]≠t)/\Below (w.heap.size+1) W1 wr) (fun i _=>T.length - (intOf i).toNat)
 case atStart=>exact⟨0,Jy _,rfl,fun j _ h=>absurd h (J2 _),Jh _ _⟩
 obtain⟨k,hk,rfl,hp,J⟩:=hrel;have HP:=Hd hp;have I:=Hd J;have d:Hid (Up w wr):=c8.o.trans (J.mono (by omega));have b7:=d2.o.bl (N:=w.heap.size+1) (by omega) J;obtain⟨b0,b1,b2,b3,b4,b5⟩:=b7.k6;clear hp J b7
 by_cases K:k<T.length
 ·rcases HT.o with h0|⟨b,rfl,hb,a8⟩
  ·rw[h0] at K;simp at K
  obtain⟨k0,k1,k2,k3,k4,va,k5,b6⟩:=a8 k K;have c0:=(d.o.cell (p:=⟨b,k*6,none⟩) hb).trans k0;have c1:=(d.o.cell (p:=⟨b,k*6+1,none⟩) hb).trans k1;have c2:=(d.o.cell (p:=⟨b,k*6+2,none⟩) hb).trans k2;have c3:=(d.o.cell (p:=⟨b,k*6+3,none⟩) hb).trans k3;have c4:=(d.o.cell (p:=⟨b,k*6+4,none⟩) hb).trans k4;have c5:=(d.o.cell (p:=⟨b,k*6+5,none⟩) hb).trans k5;have V:=Hd (b6.bl d.o);clear a8 k0 k1 k2 k3 k4 k5 b6;have HU:Hid (∃ u:Tm,T[k]=u):=⟨_,rfl⟩;obtain⟨u,hu⟩:=HU.o;have U:=Hd hu;rw[hu] at c0 c1 c2 c3 c4 V;clear hu HU;have i0:(0:Int)<=(k:Int):=by omega
  have i1:(k:Int)<(T.length:Int):=by omega
  have A:Hid (Up wr wr.drew):=⟨rfl,rfl,rfl,Of,fun _ _=>rfl⟩;have a7:Hid (U5 wr vk t.kids):=HK.o.bl d.o
  by_cases ko:u.op=t.op
  ·have x0:(u.op==t.op)=true:=by rw[Yc];exact ko
   clear ko
   cases Y:decide (u=t)
   ·have HN:Hid (T[k]≠t):=by unfold Hid;rw[U.o];exact of_decide_eq_false Y
    have O:=Hd Y;clear Y
    go_wp2
    go_region_with (go_at_call 73;refine (Fv va vk u t _ (V.o.bl A.o) (a7.o.bl A.o)).mono ?_;rw[O.o];rintro e w3 ⟨rfl,G⟩;have M:=Hd G;clear G)
    all_goals (go_wp2_with fail)
    all_goals go_roundw
    all_goals (try (case rel=>exact⟨k+1,by omega,by go_num,fun j hj h2=>by
     rcases J0.1 h2 with h|rfl
     ·exact HP.o j hj h
     exact HN.o,I.o.trans ((A.o.trans M.o).mono (by have:=I.o.size;have:=Z.o;omega))⟩))
    all_goals (try (case measure=>simp[intOf];omega))
   have HR:Hid (Gg T t=(k:Int)):=ZA K (by rw[U.o];exact of_decide_eq_true Y) HP.o;have O:=Hd Y;clear Y
   go_wp2
   go_region_with (go_at_call 73;refine (Fv va vk u t _ (V.o.bl A.o) (a7.o.bl A.o)).mono ?_;rw[O.o];rintro e w3 ⟨rfl,G⟩;have M:=Hd G;clear G)
   all_goals (go_wp2_with fail)
   all_goals go_ret
   all_goals exact⟨U9 HR.o.symm,d.o.trans ((A.o.trans M.o).mono d.o.size)⟩
  have x0:(u.op==t.op)=false:=by rw[Jc];exact ko
  have HN:Hid (T[k]≠t):=by unfold Hid;rw[U.o];rintro rfl;exact ko rfl
  clear ko
  go_wp2_with fail
  first|go_region|fail "no way"
  all_goals (go_wp2_with fail)
  all_goals go_roundw
  all_goals (try (case rel=>exact⟨k+1,by omega,by go_num,fun j hj h2=>by
   rcases J0.1 h2 with h|rfl
   ·exact HP.o j hj h
   exact HN.o,I.o.trans (A.o.mono (by have:=I.o.size;have:=Z.o;omega))⟩))
  all_goals (try (case measure=>simp[intOf];omega))
 have HR:Hid (Gg T t = -1):=ZB fun j hj=>HP.o j hj (by omega);have z:decide ((k:Int)<(T.length:Int))=false:=dF (by omega)
 go_wp2
 go_ret
 exact⟨U9 HR.o.symm,d.o⟩
end Go.Proofs.YtipgjenolpofpaaGreatDoor
namespace Go.Proofs.YtipgjenolpofpaaGreatDoor
open ChangeShapes WideShapes ChangeAt RowKit
def Og (L:List (List UInt8))(n:List UInt8):Option Nat:=L.findIdx? (fun x=>decide (x=n))
theorem idxF_some (L:List (List UInt8))(n:List UInt8):(Og L n).isSome=On L n:=by
 unfold Og On;rw[Yb,Js,List.findIdx?_isSome];simp
theorem QO {L:List (List UInt8)}(h:∀ n∈L,E5 n=true):Oh (Og L)=On L:=by
 funext n
 unfold Oh;rw[idxF_some];unfold On
 by_cases hn:n∈L
 ·have:=h n hn;simp only[E5,J3,Vs] at this;simp[hn,this.2]
 simp[hn]
end Go.Proofs.YtipgjenolpofpaaGreatDoor
namespace Go.Proofs.YtipgjenolpofpaaGreatDoor
open ChangeShapes WideShapes ChangeAt RowKit Proofs.Tryz
def U3 (L:List (List UInt8)):List Value:=L.map (fun x=>.string (Oo x))
theorem En {w:World}{base:Nat}{e:TypeId}{size:Nat}{v:Value}{n:Nat}{xs:List Value}(h:w.ownsRow base e size v n xs):∃ a c,v=.slice a n c:=by
 rcases h.2 with⟨rfl,rfl⟩|⟨g,cap,_,rfl,_⟩
 ·exact⟨_,_,rfl⟩
 exact⟨_,_,rfl⟩
theorem Ox {W W':World}{base:Nat}{e:TypeId}{sz:Nat}{v:Value}{n:Nat}{xs:List Value}(h:W.ownsRow base e sz v n xs)(hk:∀ g,v.ownBlock=some g->W'.heap[g]? = W.heap[g]?):W'.ownsRow base e sz v n xs:=by
 refine⟨h.1,?_⟩
 rcases h.2 with j|⟨g,cap,d,rfl,A,E,h3⟩
 ·exact .inl j
 exact .inr ⟨g,cap,d,rfl,A,(hk g rfl).trans E,h3⟩
theorem Kt {W:World}{base:Nat}{v:Value}{n sz:Nat}{xs:List Value}{e:TypeId}(h:W.ownsRow base e sz v n xs):∀ g,v.ownBlock=some g->∃ c fz,W.heap[g]? = some (.cells c e fz):=by
 intro g j
 rcases h.2 with⟨rfl,_⟩|⟨A,cap,d,rfl,_,h3,_⟩
 ·cases j
 cases j;exact⟨d,_,h3⟩
theorem VB {n:Nat}(h:n<=1000000):(Lit.int .i64 (n:Int)).wf=true:=by
 have d:IntKind.i64.min = -9223372036854775808:=rfl;have j:IntKind.i64.max=9223372036854775807:=rfl;simp only[Lit.wf,d,j,J3,Yg];omega
theorem EH:(prog.info? 9).map (fun i=>(i.zero,i.size,i.bytes))=some (some (.string ⟨#[]⟩),1,16):=by kernel_rfl
theorem R1:∃ i:TypeInfo,prog.info? 9=some i/\i.zero=some (.string ⟨#[]⟩)/\i.size=1/\i.bytes=16:=info_parts EH
theorem Ns {ops:Array Oper}{rest:List Oper}{o:Oper}{a:Act}{Q:Exit->Act->World->Prop}{W:World}{t:ByteArray}{base n:Nat}{v:Value}{xs:List Value}(hgd:o.guard=none)(s y:Operand)
 (ho:o.op=.call { callee:=.builtin .append,args:=#[s,y],argTypes:=#[22,22] }) (hs:a.eval s=v) (hown:W.ownsRow base 9 1 v n xs)
 (H:Nat) (hx:a.eval y=.slice (some ⟨H,0,none⟩) 1 1) (hH:W.heap.size=H) (hn:n<=1000000000) (hbase:base<=W.heap.size)
 (h:∀ g cap W',W'.ownsRow base 9 1 (.slice (some ⟨g,0,none⟩) (n+1) cap) (n+1) (xs++[.string t])->(W.alloc (.cells #[.string t] 9)).grownBy W' v.ownBlock->(v.ownBlock=some g∨g=W.heap.size+1)->wpList prog ops Q rest (a.put o.dst (.slice (some ⟨g,0,none⟩) (n+1) cap)) W') :
 wpList prog ops Q (o::rest) a (W.alloc (.cells #[.string t] 9)):=by
 subst hH;obtain⟨i0,d,j,A,E⟩:=R1;refine wpList_append_lies _ hgd s y 22 ho base 9 i0 (.string ⟨#[]⟩) 1 16 underlying22 d j A E rfl (by decide) v n xs hs (hown.alloc _) ⟨W.heap.size,0,none⟩ 1 1 [.string t] hx rfl
  (World.news_of_block (cs:=#[.string t]) (t:=9) (fr:=(0,0)) (heap_alloc_new W _)) (by simp[Value.oneCell']) (by decide) (by unfold maxLen;omega) (by omega) (by simp;omega) _ rfl ?_
 intro g cap W' G I h3 _;refine h g cap W' G I ?_
 rcases h3 with h3|h3
 ·exact .inl h3
 refine .inr ?_;rw[h3];simp
theorem Bx.c7 {W:World}{g:Nat}{v0 v1 v2 v3 v4 v5 v6:Value}(h:Bx W g [v0,v1,v2,v3,v4,v5,v6]):W.cell? ⟨g,0,none⟩=some v0/\W.cell? ⟨g,1,none⟩=some v1/\W.cell? ⟨g,2,none⟩=some v2/\W.cell? ⟨g,3,none⟩=some v3/\W.cell? ⟨g,4,none⟩=some v4/\W.cell? ⟨g,5,none⟩=some v5/\W.cell? ⟨g,6,none⟩=some v6:=⟨h.cell 0,h.cell 1,h.cell 2,h.cell 3,h.cell 4,h.cell 5,h.cell 6⟩
theorem G0.lt {w:World}{b:Nat}{f:List UInt8->Option Nat}(h:G0 w b f):b<w.heap.size:=by
 obtain⟨n,D,_,⟨A,j,d,_⟩,_⟩:=h;exact (J1.1 d).1
theorem UL {w:World}{b g:Nat}{f:List UInt8->Option Nat}{l:List Value}(h:G0 w b f)(hx:Bx w g l):b≠g:=by
 rintro rfl;obtain⟨n,D,_,⟨A,j,d,_⟩,_⟩:=h;obtain⟨t,hx⟩:=hx;rw[d] at hx;cases hx
def Ey (w:World)(b n:Nat)(f:List UInt8->Option Nat):Prop:=
 ∃ D:DataW Unit,w.ownsMap prog 9 (plainElem prog 3) b n D/\∀ s,Maps.has D (.string s)=(f s).isSome/\∀ i,f s=some i->D.atKey (.string s) (.lit (.int .i64 0))=.lit (.int .i64 (i:Nat))
theorem Ey.to {w:World}{b n:Nat}{f:List UInt8->Option Nat}(h:Ey w b n f)(hn:n<=1000):G0 w b f:=by
 obtain⟨D,d,j⟩:=h;exact⟨n,D,by omega,d,j⟩
theorem Ey.low {w w':World}{b n N:Nat}{f:List UInt8->Option Nat}(h:Ey w b n f)(hb:Below N w w')(hN:b<N):Ey w' b n f:=by
 obtain⟨D,⟨j,d,G,E⟩,A⟩:=h;exact⟨D,⟨j,d,(hb.block b hN).trans G,E⟩,A⟩
theorem EK {L:List (List UInt8)}{s:List UInt8}(h:Og L s=none)(t:List UInt8):Og (L++[s]) t=if t=s then some L.length else Og L t:=by
 unfold Og at h ⊢;rw[List.findIdx?_append]
 by_cases d:t=s
 ·subst d;rw[h,if_pos rfl];simp[List.findIdx?_cons]
 rw[if_neg d];have:s≠t:=fun e=>d e.symm
 cases j:List.findIdx? (fun x=>decide (x=t)) L with
 | none=>simp[List.findIdx?_cons,this]
 | some i=>simp
theorem Ey.put {w:World}{b n:Nat}{L:List (List UInt8)}{D:DataW Unit}(hD:∀ s,Maps.has D (.string s)=(Og L s).isSome/\∀ i,Og L s=some i->D.atKey (.string s) (.lit (.int .i64 0))=.lit (.int .i64 (i:Nat)))(hm:Maps.IsMap D){s:List UInt8}(hs:Og L s=none)(hown:w.ownsMap prog 9 (plainElem prog 3) b n (D.put (.string s) (.lit (.int .i64 (L.length:Nat))))):Ey w b n (Og (L++[s])):=by
 refine⟨_,hown,fun t=>?_⟩;rw[EK hs]
 by_cases h:t=s
 ·subst h;rw[if_pos rfl];refine⟨Maps.has_put_same hm Xk _,fun i hi=>?_⟩;cases hi;exact Maps.atKey_put_same hm Xk _ _
 rw[if_neg h];have d:(Lit.string t)≠Lit.string s:=fun e=>h (by cases e;rfl);rw[Maps.has_put_other d,Maps.atKey_put_other d];exact hD t
structure AddedS (base kb sb fb n:Nat)(L M:List (List UInt8))(v0 vT v5 v6:Value)(q:Option Addr)(m d:Nat)(w w':World):Prop where
 row:∃ v1,Bx w' kb [v1,.slice q m d,vT,.map (some sb),.map (some fb),v5,v6]/\w'.ownsRow base 9 1 v1 M.length (U3 M)/\v1.ownBlock≠some kb
 names:Ey w' sb (n+1) (Og M)
 os:w'.os=w.os
 tape:w'.tape=w.tape
 output:w'.output=w.output
 size:w.heap.size<=w'.heap.size
 block:∀ k,k<w.heap.size->k≠kb->k≠sb->v0.ownBlock≠some k->w'.heap[k]? = w.heap[k]?
theorem Wm (base kb sb fb n:Nat)(L:List (List UInt8))(f2:List UInt8->Option Nat)(v0 vT v5 v6:Value)(q:Option Addr)(m d:Nat)(s:ByteArray)(w:World)
 (hx:Bx w kb [v0,.slice q m d,vT,.map (some sb),.map (some fb),v5,v6]) (hown:w.ownsRow base 9 1 v0 L.length (U3 L)) (hS:Ey w sb n (Og L)) (hnn:n<=1000) (hF:G0 w fb f2) (hs:s.size<=1048576) (hb:base<=w.heap.size)
 (hrk:v0.ownBlock≠some kb) (hf:Nh (Og L) f2 s.data.toList=false) (hm:L.length+m<300) :
 Calls prog 53 #[.pointer (some ⟨kb,0,none⟩),.string s] w fun e w'=>e=.returned (.tuple #[.int .i64 (L.length:Nat),.int .i64 0])/\AddedS base kb sb fb n L (L++[s.data.toList]) v0 vT v5 v6 q m d w w':=by
 obtain⟨p0,c0,rfl⟩:=En hown;have HX:=Hd hx;have b4:=Hd hown;have e9:=Hd hS;have HS:=Hd (hS.to hnn);have HF:=Hd hF;have e6:Hid (Og L s.data.toList=none):=by
  unfold Hid;simp only[Nh,Bool.or_eq_false_iff] at hf
  cases h:Og L s.data.toList with
  | none=>rfl
  | some i=>rw[h] at hf;simp at hf
 have g3:kb<w.heap.size:=hx.lt;have d5:=Hd (hS.to hnn).lt;have h1:=Hd hF.lt;have e4:Hid (Hk (Og L) f2 s.data.toList=0):=by unfold Hid Hk;rw[hf];rfl
 clear hx hown hS hF hf
 go_in
 go_wp2_with fail
 refine (N7 kb sb fb (Og L) f2 s _ HX.o.c7.2.2.2.1 HX.o.c7.2.2.2.2.1 HS.o HF.o hs).mono ?_;rw[e4.o];rintro e w1 ⟨rfl,rfl⟩
 go_wp2_with fail
 refine (Q3 kb p0 q L.length c0 m d _ HX.o.c7.1 HX.o.c7.2.1 (by omega) (by omega)).mono ?_;rw[Jg (by omega)];rintro e w2 ⟨rfl,O⟩;have a7:=Hd (HX.o.bl g3 O);have M:=Hd (Ox b4.o (fun g hg=>O.block g (b4.o.lt g hg).2));have d4:=Hd (HS.o.bl O d5.o);have d1:=Hd O;clear O;have a0:=a7.o.cell 0;have a3:=a7.o.cell 3;simp only[Jo,Jr] at a0 a3
 go_wp2_with fail
 refine (K9 s _ hs).mono ?_;rintro e w3 ⟨rfl,U⟩;have c6:=Hd (a7.o.bl a7.o.lt U);have G:=Hd (Ox M.o (fun g hg=>U.block g (M.o.lt g hg).2));have e8:=Hd (d4.o.bl U d4.o.lt);have j:=Hd (d1.o.trans (U.mono d1.o.size));clear U a0 a3;obtain⟨a0,a1,a2,a3,a4,a5,a6⟩:=c6.o.c7;obtain⟨D,Z,hD⟩:=(e9.o.low (j.o) d5.o);have b8:=Hd Z;have e3:=Hd hD;clear Z hD
 go_wp2_with (at_mapUpdate;refine wpList_mapUpdate_own _ rfl _ _ _ 86 rfl 9 3 Il underlying86 (plainElem prog 3) sb n D rfl b8.o (by unfold maxLen;omega) _ _ _ rfl rfl (N0 s (by unfold maxLen;omega)) (.lit (.int .i64 (L.length:Nat))) [] (plainElem_int underlying3 ?wf) ?_)
 case wf=>exact VB (by omega)
 intro w4 V I;have e1:sb≠kb:=UL e8.o c6.o;have b7:(Value.slice p0 L.length c0).ownBlock≠some sb:=fun e=>by
  obtain⟨cs,fz,hk⟩:=Kt G.o sb e;obtain⟨es,cl,A,_⟩:=b8.o;rw[hk] at A
  cases A
 have a8:=Hd (Cm c6.o I (Ne.symm e1));have b9:=Hd (Ox G.o (fun g hg=>I.block g (G.o.lt g hg).2 (fun e=>b7 (hg.trans e))));have d2:=Hd V;have E:=Hd I;clear V I a0 a1 a2 a3 a4 a5 a6;obtain⟨a0,a1,a2,a3,a4,a5,a6⟩:=a8.o.c7;have r0:=a8.o.fz 0
 go_wp2_with (at_builtin;refine Ns (t:=s) (n:=L.length) (base:=base) (xs:=U3 L) rfl _ _ rfl rfl ?own _ rfl ?hH ?hn ?hb ?_)
 case own=>exact b9.o
 case hH=>rfl
 case hn=>omega
 case hb=>exact Yk (Yk hb j.o.size) E.o.size
 intro g5 c5 w5 Y J b5;have g8:kb<w4.heap.size:=a8.o.lt;have e0:sb<w4.heap.size:=by
  obtain⟨es,cl,A,_⟩:=d2.o;exact (J1.1 A).1
 have b3:Bx w5 kb [.slice p0 L.length c0,.slice q m d,vT,.map (some sb),.map (some fb),v5,v6]:=by
  obtain⟨ty,h⟩:=a8.o.alloc (.cells #[.string s] 9);exact⟨ty,(J.block kb (by simp;omega) (fun e=>hrk e.symm)).trans h⟩
 have d9:Ey w5 sb (n+1) (Og (L++[s.data.toList])):=by
  obtain⟨es,cl,A,c8⟩:=d2.o;exact Ey.put e3.o b8.o.isMap e6.o ⟨es,cl,(J.block sb (by simp;omega) (fun e=>b7 e.symm)).trans (((Oy w4 _).block sb e0).trans A),c8⟩
 have b6:(Value.slice (some ⟨g5,0,none⟩) (L.length+1) c5).ownBlock≠some kb:=fun e=>by
  have e':g5=kb:=Option.some.inj e
  rcases b5 with h|h
  ·rw[e'] at h;exact hrk h
  omega
 obtain⟨y0,y1,y2,y3,y4,y5,y6⟩:=b3.c7;have z0:=b3.fz 0;have f5:=Hd b3;have e5:=Hd d9;have e7:=Hd Y;have d3:=Hd b6;have K:=Hd J;clear b3 d9 Y J b5 b6 a0 a1 a2 a3 a4 a5 a6 r0
 go_wp2_with fail
 refine Jj (v:=.tuple #[.int .i64 (L.length:Nat),.int .i64 0]) ?_ rfl ⟨rfl,?_⟩
 ·simp[results,results53,go_sem]
 have hL:(L++[s.data.toList]).length=L.length+1:=by simp
 have hC:U3 (L++[s.data.toList])=U3 L++[.string s]:=by simp[U3,Ko]
 have d0:∀ k,k≠kb->(w5.setCell ⟨kb,0,none⟩ (.slice (some ⟨g5,0,none⟩) (L.length+1) c5)).heap[k]? = w5.heap[k]? := fun k hk=>Jq w5 ⟨kb,0,none⟩ _ k hk;refine⟨⟨_,f5.o.set 0 _,?_,d3.o⟩,?_,?_,?_,?_,?_,?_⟩
 ·rw[hL,hC];exact Ox e7.o (fun g hg=>d0 g (fun e=>d3.o (by rw[hg,e])))
 ·obtain⟨D',⟨es,cl,A,c8⟩,f9⟩:=e5.o;exact⟨D',⟨es,cl,(d0 sb e1).trans A,c8⟩,f9⟩
 ·exact K.o.os.trans (E.o.os.trans j.o.os)
 ·exact K.o.tape.trans (E.o.tape.trans j.o.tape)
 ·exact K.o.output.trans (E.o.output.trans j.o.output)
 ·have h5:=K.o.size;have h4:=E.o.size;have h3:=j.o.size;simp only[World.setCell,Z1];simp at h5;omega
 intro k hk g0 g1 g2;have h4:=E.o.size;have h3:=j.o.size;rw[d0 k g0,K.o.block k (by simp;omega) (fun e=>g2 e.symm),(Oy w4 _).block k (by omega),E.o.block k (by omega) (fun e=>g1 (Option.some.inj e)),j.o.block k hk]
end Go.Proofs.YtipgjenolpofpaaGreatDoor
