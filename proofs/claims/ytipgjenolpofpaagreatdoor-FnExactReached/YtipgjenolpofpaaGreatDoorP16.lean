import Derived.Test.YtipgjenolpofpaaGreatDoorP15
set_option maxRecDepth 100000
set_option maxHeartbeats 2000000
namespace Go.Proofs.YtipgjenolpofpaaGreatDoor
open ChangeShapes WideShapes ChangeAt RowKit Proofs.Tryz
def De:Array Value:=#[.string ⟨#[66,111,111,108]⟩,.string ⟨#[73,110,116]⟩,.string ⟨#[82,101,97,108]⟩,.string ⟨#[66,105,116,86,101,99]⟩,.string ⟨#[65,114,114,97,121]⟩,.string ⟨#[95]⟩,.string ⟨#[108,101,116]⟩,.string ⟨#[97,115]⟩,.string ⟨#[116,114,117,101]⟩,.string ⟨#[102,97,108,115,101]⟩,.string ⟨#[110,111,116]⟩,.string ⟨#[97,110,100]⟩,.string ⟨#[111,114]⟩,.string ⟨#[120,111,114]⟩,.string ⟨#[61,62]⟩,.string ⟨#[105,116,101]⟩,.string ⟨#[61]⟩,.string ⟨#[100,105,115,116,105,110,99,116]⟩,.string ⟨#[43]⟩,.string ⟨#[45]⟩,.string ⟨#[42]⟩,.string ⟨#[47]⟩,.string ⟨#[60,61]⟩,.string ⟨#[60]⟩,.string ⟨#[62,61]⟩,.string ⟨#[62]⟩,.string ⟨#[100,105,118]⟩,.string ⟨#[109,111,100]⟩,.string ⟨#[116,111,95,114,101,97,108]⟩,.string ⟨#[115,101,108,101,99,116]⟩,.string ⟨#[115,116,111,114,101]⟩,.string ⟨#[99,111,110,99,97,116]⟩,.string ⟨#[101,120,116,114,97,99,116]⟩,.string ⟨#[122,101,114,111,95,101,120,116,101,110,100]⟩,.string ⟨#[115,105,103,110,95,101,120,116,101,110,100]⟩,.string ⟨#[114,111,116,97,116,101,95,108,101,102,116]⟩,.string ⟨#[114,111,116,97,116,101,95,114,105,103,104,116]⟩,.string ⟨#[114,101,112,101,97,116]⟩]
theorem GA:∀ k:Fin 38,De.toList[k.val]? = some (.string (Oo Kk[k.val]!)):=fun k=>by
 have:De=(Kk.map fun x=>Value.string (Oo x)).toArray:=rfl
 rw[this]
 simp only[Y1]
 have h:Kk.length=38:=rfl
 rw[Jf (by omega)]
 simp[List.getElem!_eq_getElem?_getD,List.getElem?_eq_getElem (show k.val<Kk.length by omega)]
theorem P6 {X s:ByteArray}(h:X≠s):(X.toList==s.toList)=false:=by
 rw[Jc];intro e;rw[Jl,Jl] at e;exact h (by rw[<-Ko X,e,Ko])
theorem Dx {s:ByteArray}:(s.extract 0 2).toList=s.data.toList.take 2:=by
 rw[Jl,Y9];simp
theorem Sk {x:List UInt8}{L:List (List UInt8)}(h:∀ k:Nat,k<L.length->L[k]! ≠ x):L.contains x=false:=by
 rw[J9];intro hc;have j:x∈L:=by simpa using hc
 obtain⟨k,d,e⟩:=Ya j;exact h k d (by simp[List.getElem!_eq_getElem?_getD,List.getElem?_eq_getElem d,e])
theorem Su {x:List UInt8}{L:List (List UInt8)}{k:Nat}(hk:k<L.length)(h:L[k]! = x):L.contains x=true:=by
 simp only[V6,Jf hk,Un] at h;have:x∈L:=by rw[<-h];exact Jw hk
 simpa using this
theorem Tx (s:ByteArray)(w:World)(hs:s.size<=maxLen) :
 Calls prog 66 #[.string s] w fun e w'=>e=.returned (.bool (Ga s.data.toList))/\Up w w':=by
 unfold maxLen at hs
 by_cases hb:RA s.data.toList=true
 ·have F:Hid (Ga s.data.toList=true):=by unfold Hid Ga;rw[hb];rfl
  have h2:2<=s.size:=by
   simp only[RA,Yg] at hb;have:=congrArg List.length hb;simp only[J4,Yo,Zh] at this;rw[Lib.size_eq];omega
  have z:((s.extract 0 2).toList==[98,118])=true:=by rw[Dx];simpa[RA] using hb
  clear hb
  go_in
  go_wp2
  go_ret
  exact⟨Oz F.o.symm,Jh _ _⟩
 have F:Hid (Ga s.data.toList=Kk.contains s.data.toList):=by unfold Hid Ga;simp[hb]
 have U:Hid (2<=s.size->((s.extract 0 2).toList==[98,118])=false):=fun h2=>by rw[Dx];simpa[RA] using hb
 clear hb
 go_in
 by_cases h2:2<=s.size
 all_goals (try (have z:=U.o h2))
 all_goals (go_wp2_with fail)
 all_goals (obtain⟨K,d⟩:=O1 (w.alloc (.cells De 9)))
 all_goals (have HB:Hid (Up w K):=(by unfold Hid;rw[<-d];exact Oy _ _))
 all_goals (have HX:Hid (Bx K w.heap.size De.toList):=(by unfold Hid;rw[<-d];exact Oi w De.toList 9))
 all_goals (unfold De at d;rw[d];clear d)
 all_goals (go_loop [17] (fun i=>∃ k:Nat,k<=38/\i=.int .i64 k/\∀ j:Nat,j<k->Kk[j]! ≠ s.data.toList) (fun i=>38 - (intOf i).toNat))
 all_goals (try (case atStart=>exact⟨0,Jy _,rfl,fun j hj=>absurd hj (J2 _)⟩))
 all_goals (
  obtain⟨k,V,rfl,M⟩:=hrel;have J:=Hd M;clear M
  by_cases G:k<38
  ·have hc:=HX.o.cell k;rw[GA ⟨k,G⟩] at hc
   by_cases E:Kk[k]! = s.data.toList
   ·rw[E,Ko] at hc;have I:Hid (Kk.contains s.data.toList=true):=Su G E;clear E
    go_wp2
    go_ret
    exact⟨Oz (by rw[F.o,I.o]),HB.o⟩
   have A:Oo Kk[k]! ≠ s:=fun e=>E (by rw[<-e,Ou]);have O:=Hd E;generalize Oo Kk[k]! = X at hc A;have Y:=P6 A;clear E A
   go_wp2
   go_round
   case rel=>exact⟨k+1,by omega,by go_num,fun j hj=>by
    rcases J0.1 hj with h|rfl
    ·exact J.o j h
    exact O.o⟩
   simp[intOf];omega
  have I:Hid (Kk.contains s.data.toList=false):=Sk fun j hj=>J.o j (by have:Kk.length=38:=rfl;omega)
  go_wp2
  go_ret
  exact⟨Oz (by rw[F.o,I.o]),HB.o⟩)
def O8 (w:World)(v:Value)(L:List (List UInt8)):Prop:=
 ∃ p c,v=.slice p L.length c/\L.length<=c/\c<=maxLen/\(L=[]∨∃ b,p=some ⟨b,0,none⟩/\b<w.heap.size/\∀ i (h:i<L.length),w.cell? ⟨b,i,none⟩=some (.string (Oo L[i])))
theorem O8.bl {w w':World}{v:Value}{L:List (List UInt8)}(h:O8 w v L)(hb:Up w w'):O8 w' v L:=by
 obtain⟨p,c,rfl,d,j,h3⟩:=h;refine⟨p,c,rfl,d,j,?_⟩
 rcases h3 with h3|⟨b,e,hl,hc⟩
 ·exact .inl h3
 exact .inr ⟨b,e,Jz hl hb.size,fun i hi=>(hb.cell (p:=⟨b,i,none⟩) hl).trans (hc i hi)⟩
def On (L:List (List UInt8))(s:List UInt8):Bool:=decide (s∈L)
theorem Gk (v:Value)(L:List (List UInt8))(s:ByteArray)(w:World)(h:O8 w v L) :
 Calls prog 67 #[v,.string s] w fun e w'=>e=.returned (.bool (On L s.data.toList))/\w'=w:=by
 obtain⟨p,c,rfl,Z,V,h3⟩:=h;have O:=Hd h3;unfold maxLen at V;clear h3
 go_in
 go_wp2
 go_loop [9] (fun i=>∃ k:Nat,k<=L.length/\i=.int .i64 k/\∀ j (h:j<L.length),j<k->L[j]≠s.data.toList) (fun i=>L.length - (intOf i).toNat)
 case atStart=>exact⟨0,Jy _,rfl,fun j _ hj=>absurd hj (J2 _)⟩
 obtain⟨k,hk,rfl,K⟩:=hrel;have J:=Hd K;clear K
 by_cases d:k<L.length
 ·rcases O.o with U|⟨b,rfl,hb,G⟩
  ·subst U;simp at d
  have hc:=G k d;clear G
  by_cases E:L[k]=s.data.toList
  ·rw[E,Ko] at hc;have I:Hid (On L s.data.toList=true):=by unfold Hid On;rw[Js,<-E];exact Jw d
   clear E
   go_wp2
   go_ret
   exact⟨Oz I.o.symm,rfl⟩
  have M:=Hd E;have A:Oo L[k]≠s:=fun e=>E (by rw[<-e,Ou]);generalize Oo L[k]=X at hc A;have zz:=P6 A;clear E A
  go_wp2
  go_round
  case rel=>exact⟨k+1,by omega,by go_num,fun j hj hj2=>by
   rcases J0.1 hj2 with h|rfl
   ·exact J.o j hj h
   exact M.o⟩
  simp[intOf];omega
 have I:Hid (On L s.data.toList=false):=by
  unfold Hid On;rw[Jm];intro Y;obtain⟨j,hj,e⟩:=Ya Y;exact J.o j hj (by omega) e
 go_wp2
 go_ret
 exact⟨Oz I.o.symm,rfl⟩
theorem E2 (s:ByteArray)(w:World)(hs:s.size<=1048576) :
 Calls prog 114 #[.string s] w fun e w'=>e=.returned (.string (Oo (Ke 2 s.data.toList)))/\w'=w:=by
 have j:s.size<=maxLen:=by unfold maxLen;omega
 cases h:Kr s.data.toList
 ·have d:=Hd h;clear h
  go_in
  go_wp2_with (go_at_call 133;refine (Da _ _ j).mono ?_;rw[d.o];rintro e w' ⟨rfl,rfl⟩)
  go_ret
  exact⟨Qm d.o,rfl⟩
 have d:=Hd h;clear h
 go_in
 go_wp2_with (go_at_call 133;refine (Da _ _ j).mono ?_;rw[d.o];rintro e w' ⟨rfl,rfl⟩)
 go_ret
 exact⟨Lv d.o,rfl⟩
def Dy (l:List UInt8):Nat:=l.foldl (fun n c=>n*10+(c.toNat - 48)) 0
theorem GL (l:List UInt8)(c:UInt8):Dy (l++[c])=Dy l*10+(c.toNat - 48):=by simp[Dy,List.foldl_append]
theorem GM (s:ByteArray)(k:Nat)(h:k<s.size):Dy (s.data.toList.take (k+1))=Dy (s.data.toList.take k)*10+(s[k].toNat - 48):=by rw[G3 s k h,GL]
def Xo (l:List UInt8):Int:=if l.length=0∨6<l.length∨(1<l.length/\l.head? = some 48) then -1 else if l.all dg then (Dy l:Int) else -1
theorem Ca {s:ByteArray}(h:s.size=0∨6<s.size∨(1<s.size/\s.data.toList.head? = some 48)):Xo s.data.toList = -1:=by
 unfold Xo;rw[<-Lib.size_eq,if_pos h]
theorem PO {s:ByteArray}(h:¬ (s.size=0∨6<s.size∨(1<s.size/\s.data.toList.head? = some 48))):Xo s.data.toList=if s.data.toList.all dg then (Dy s.data.toList:Int) else -1:=by
 unfold Xo;rw[<-Lib.size_eq,if_neg h]
theorem U9 {a b:Int}(h:a=b):Ending.returned (.int .i64 a)=.returned (.int .i64 b):=by rw[h]
def Tw:Nat->Nat|0=>1|1=>10|2=>100|3=>1000|4=>10000|5=>100000|_=>1000000
theorem QU (k:Nat)(h:k<=6):Tw k<=1000000/\(k<6->Tw (k+1)=Tw k*10):=by
 have:k=0∨k=1∨k=2∨k=3∨k=4∨k=5∨k=6:=by omega
 rcases this with rfl|rfl|rfl|rfl|rfl|rfl|rfl<;>simp[Tw]
theorem EF (s:ByteArray)(w:World)(hs:s.size<=maxLen) :
 Calls prog 113 #[.string s] w fun e w'=>e=.returned (.int .i64 (Xo s.data.toList))/\w'=w:=by
 unfold maxLen at hs
 by_cases h0:s.size=0
 ·have F:Hid (Xo s.data.toList = -1):=Ca (.inl h0)
  go_in
  go_wp2
  go_ret
  exact⟨U9 F.o.symm,rfl⟩
 by_cases h6:6<s.size
 ·have F:Hid (Xo s.data.toList = -1):=Ca (.inr (.inl h6))
  go_in
  go_wp2
  go_ret
  exact⟨U9 F.o.symm,rfl⟩
 have hp:0<s.size:=by omega
 have O:Hid (s.data.toList.head? = some s[0]):=Nj s hp;have I:∀ c:UInt8,c.toNat=48->c=48:=fun c h=>by
  have e:UInt8.ofNat c.toNat=c:=by simp
  rw[<-e,h];rfl
 by_cases j:1<s.size/\s[0].toNat=48
 ·have F:Hid (Xo s.data.toList = -1):=Ca (.inr (.inr ⟨j.1,by rw[O.o,I _ j.2]⟩));have z1:=j.1;have z2:((s[0].toNat:Int)==48)=true:=by rw[Yc];have:=j.2;omega
  clear j I
  go_in
  go_wp2
  go_ret
  exact⟨U9 F.o.symm,rfl⟩
 have F:Hid (Xo s.data.toList=if s.data.toList.all dg then (Dy s.data.toList:Int) else -1):=PO (by
  rintro (h|h|⟨h,V⟩)
  ·omega
  ·omega
  rw[O.o] at V;exact j ⟨h,by rw[Option.some.inj V];rfl⟩)
 have HZ:Hid (1<s.size->((s[0].toNat:Int)==48)=false):=fun h=>by rw[Jc];intro e;exact j ⟨h,by omega⟩
 clear j I
 go_in
 by_cases hq:1<s.size
 all_goals (try (have z:=HZ.o hq))
 all_goals (go_wp2_with fail)
 all_goals (go_loop [3,4] (fun nv i=>∃ k N:Nat,k<=s.size/\i=.int .i64 k/\nv=.int .i64 (N:Nat)/\N<Tw k/\N=Dy (s.data.toList.take k)/\(s.data.toList.take k).all dg=true) (fun _ i=>s.size - (intOf i).toNat))
 all_goals (try (case atStart=>exact⟨0,0,Jy _,rfl,rfl,by decide,rfl,rfl⟩))
 all_goals (
  obtain⟨k,N,hk,rfl,rfl,Y,hv,Z⟩:=hrel;have U:=Hd hv;have M:=Hd Z;clear hv Z
  by_cases d:k<s.size
  ·have A:=QU k (by omega)
   by_cases hc:dg s[k]=true
   ·have b6:=(Q7 s[k]).1 hc;have E:=Hd hc;have K:=Hd A;have b5:N<1000000:=by omega
    have J:=Hd Y;clear A Y;clear hc
    go_wp2_with (go_at_call 132;refine (Xn _ _).mono ?_;rw[E.o];rintro e w' ⟨rfl,rfl⟩)
    go_round
    case rel=>exact⟨k+1,N*10+(s[k].toNat - 48),by omega,by go_num,by go_num,by have:=J.o;rw[K.o.2 (by omega)];omega,by rw[GM s k d,<-U.o],N6 d M.o E.o⟩
    simp[intOf];omega
   have G:dg s[k]=false:=by simpa using hc
   have E:=Hd G;clear hc G A
   go_wp2_with (go_at_call 132;refine (Xn _ _).mono ?_;rw[E.o];rintro e w' ⟨rfl,rfl⟩)
   go_ret
   exact⟨U9 (by rw[F.o,Ia d E.o];rfl),rfl⟩
  go_wp2
  go_ret
  exact⟨U9 (by rw[F.o,Cz d M.o,U.o,Jn (by rw[<-Lib.size_eq];omega)];rfl),rfl⟩)
def Eb (l:List UInt8)(i:Nat):Int:=match Eg (l.drop i) with|none => -1|some k=>((i+k:Nat):Int)
theorem X8 {p:UInt8->Bool}{l:List UInt8}{i k:Nat}(hik:i<=k)(hk:k<=l.length)(h:∀ j (hj:j<l.length),i<=j->j<k->p l[j]=true)(h1:∀ hk:k<l.length,p l[k]=false):Ks p (l.drop i)=k - i:=by
 refine Ag (by simp;omega) (fun j hj hj2=>?_) (fun hj=>?_)
 ·rw[List.getElem_drop];exact h (i+j) (by simp at hj;omega) (by omega) (by omega)
 rw[List.getElem_drop];have e:i+(k - i)=k:=by omega
 simp only[e];exact h1 (by simp at hj;omega)
theorem Qg {l:List UInt8}{i:Nat}(h:i<l.length):l.drop i=l[i]::l.drop (i+1):=Vm h
theorem ZE {l:List UInt8}{i:Nat}(h:l.length<=i):Eb l i = -1:=by
 unfold Eb;rw[Zj h];rfl
theorem Nw {c:UInt8}{n:Nat}(h:c.toNat=n):c=UInt8.ofNat n:=by rw[<-h];simp
def ZZ (c:UInt8):Bool:=c != 41&&c != 124
def ZY (c:UInt8):Bool:=c != 124
def EJ (c:UInt8):Bool:=c != 32&&c != 41
theorem Fr {l:List UInt8}{i k:Nat}(h:i<l.length)(h0:l[i]=40)(hik:i<=k)(hk:k<l.length)(hall:∀ j (hj:j<l.length),i<=j->j<k->ZZ l[j]=true)(hs:ZZ l[k]=false):Eb l i=if l[k]=41 then ((k+1:Nat):Int) else -1:=by
 have A:=X8 (p:=fun c=>c != 41&&c != 124) hik (Uz hk) hall (fun _=>hs);unfold Eb;have e:=Qg h;rw[h0] at e;have d:(l.drop i).getD (k - i) 0=l[k]:=by rw[Jk,Uv,show i+(k - i)=k by omega,Jf hk];rfl
 have:Eg (l.drop i)=if k - i<(l.drop i).length/\(l.drop i).getD (k - i) 0=41 then some (k - i+1) else none:=by rw[<-A,e];rfl
 rw[this,d];have hl:k - i<(l.drop i).length:=by simp;omega
 by_cases hc:l[k]=41
 ·rw[if_pos ⟨hl,hc⟩,if_pos hc];simp only[];omega
 rw[if_neg (fun h=>hc h.2),if_neg hc]
theorem Fp {l:List UInt8}{i:Nat}(h:i<l.length)(h0:l[i]=40)(hall:∀ j (hj:j<l.length),i<=j->ZZ l[j]=true):Eb l i = -1:=by
 have d:=X8 (p:=fun c=>c != 41&&c != 124) (Uz h) Of (fun j hj hi _=>hall j hj hi) (fun hk=>absurd hk (Nat.lt_irrefl _));unfold Eb;have e:=Qg h;rw[h0] at e;have:Eg (l.drop i)=if l.length - i<(l.drop i).length/\(l.drop i).getD (l.length - i) 0=41 then some (l.length - i+1) else none:=by rw[<-d,e];rfl
 rw[this,if_neg (by simp)]
theorem NG {l:List UInt8}{i k:Nat}(h:i<l.length)(h0:l[i]=124)(hik:i+1<=k)(hk:k<l.length)(hall:∀ j (hj:j<l.length),i+1<=j->j<k->ZY l[j]=true)(hs:ZY l[k]=false):Eb l i=((k+1:Nat):Int):=by
 have d:=X8 (p:=(· != 124)) hik (Uz hk) hall (fun _=>hs);unfold Eb;have e:=Qg h;rw[h0] at e;have:Eg (l.drop i)=if k - (i+1)<(l.drop (i+1)).length then some (k - (i+1)+2) else none:=by rw[<-d,e];rfl
 rw[this,if_pos (by simp;omega)];simp only[];omega
theorem L0 {l:List UInt8}{i:Nat}(h:i<l.length)(h0:l[i]=124)(hall:∀ j (hj:j<l.length),i+1<=j->ZY l[j]=true):Eb l i = -1:=by
 have d:=X8 (p:=(· != 124)) (show i+1<=l.length from h) Of (fun j hj hi _=>hall j hj hi) (fun hk=>absurd hk (Nat.lt_irrefl _));unfold Eb;have e:=Qg h;rw[h0] at e;have:Eg (l.drop i)=if l.length - (i+1)<(l.drop (i+1)).length then some (l.length - (i+1)+2) else none:=by rw[<-d,e];rfl
 rw[this,if_neg (by simp)]
theorem Re {l:List UInt8}{i k:Nat}(h:i<l.length)(h0:l[i]≠40)(h1:l[i]≠124)(hik:i<=k)(hk:k<=l.length)(hall:∀ j (hj:j<l.length),i<=j->j<k->EJ l[j]=true)(hs:∀ hk:k<l.length,EJ l[k]=false):Eb l i=((k:Nat):Int):=by
 have d:=X8 (p:=fun c=>c != 32&&c != 41) hik hk hall hs;unfold Eb;have e:=Qg h;have:Eg (l.drop i)=some (k - i):=by
  rw[<-d,e];unfold Eg
  split
  ·rename_i e';cases e'
  ·rename_i e';exact absurd (List.cons.inj e').1 h0
  ·rename_i e';exact absurd (List.cons.inj e').1 h1
  rfl
 rw[this];simp only[];omega
theorem Fh (c:UInt8):ZZ c=true↔c.toNat≠41/\c.toNat≠124:=by
 have k:=Ib (p:=fun c=>decide (ZZ c=true↔c.toNat≠41/\c.toNat≠124)) (by decide +kernel) c;exact of_decide_eq_true k
theorem Tc (c:UInt8):ZY c=true↔c.toNat≠124:=by
 have k:=Ib (p:=fun c=>decide (ZY c=true↔c.toNat≠124)) (by decide +kernel) c;exact of_decide_eq_true k
theorem Fi (c:UInt8):EJ c=true↔c.toNat≠32/\c.toNat≠41:=by
 have k:=Ib (p:=fun c=>decide (EJ c=true↔c.toNat≠32/\c.toNat≠41)) (by decide +kernel) c;exact of_decide_eq_true k
theorem Is (c:UInt8)(n:Nat)(hn:n<256):c=UInt8.ofNat n↔c.toNat=n:=⟨fun e=>by rw[e];simp;omega,fun h=>Nw h⟩
theorem Ol (s:ByteArray):s.data.toList.length=s.size:=(Lib.size_eq s).symm
theorem Td {p:UInt8->Bool}{c:UInt8}(h:¬ p c=true):p c=false:=by simpa using h
theorem Fz (s:ByteArray)(i:Nat)(w:World)(hs:s.size<=maxLen)(hi:i<=maxLen) :
 Calls prog 95 #[.string s,.int .i64 (i:Nat)] w fun e w'=>e=.returned (.int .i64 (Eb s.data.toList i))/\w'=w:=by
 unfold maxLen at hs hi
 by_cases b6:s.size<=i
 ·have F:Hid (Eb s.data.toList i = -1):=ZE (by rw[Ol];omega);have z:decide ((s.size:Int)<=(i:Int))=true:=dT (by omega)
  go_in
  go_wp2
  go_ret
  exact⟨U9 F.o.symm,rfl⟩
 have b4:i<s.size:=by omega
 have hl:i<s.data.toList.length:=by rw[Ol];exact b4
 have U:=Hd hl;clear hl
 by_cases V:s[i].toNat=40
 ·have z0:((s[i].toNat:Int)==40)=true:=by rw[Yc];omega
  have I:Hid (s.data.toList[i]'U.o=40):=(Is _ 40 (by decide)).2 V;clear V
  go_in
  go_wp2
  go_loop [5] (fun v=>∃ k:Nat,i<=k/\k<=s.size/\v=.int .i64 (k:Nat)/\∀ j (hj:j<s.data.toList.length),i<=j->j<k->ZZ s.data.toList[j]=true) (fun v=>s.size - (intOf v).toNat)
  case atStart=>exact⟨i,Of,by omega,rfl,fun j _ h1 h2=>by omega⟩
  obtain⟨k,G,hk,rfl,Y⟩:=hrel;have M:=Hd Y;clear Y
  by_cases O:k<s.size
  ·have d:k<s.data.toList.length:=by rw[Ol];exact O
   have A:=Hd d;clear d
   by_cases c1:s[k].toNat=41
   ·have z1:((s[k].toNat:Int)==41)=true:=by rw[Yc];omega
    have J:Hid (Eb s.data.toList i=((k+1:Nat):Int)):=by
     unfold Hid;have he:s.data.toList[k]'A.o=41:=(Is _ 41 (by decide)).2 c1;rw[Fr U.o I.o G A.o M.o (Td (fun h=>(Fh _).1 h |>.1 c1)),if_pos he]
    clear c1
    go_wp2
    go_ret
    exact⟨U9 (by rw[J.o];omega),rfl⟩
   have z1:((s[k].toNat:Int)==41)=false:=by rw[Jc];omega
   by_cases c2:s[k].toNat=124
   ·have z2:((s[k].toNat:Int)==124)=true:=by rw[Yc];omega
    have J:Hid (Eb s.data.toList i = -1):=by
     unfold Hid;have he:¬ s.data.toList[k]'A.o=41:=fun h=>c1 ((Is _ 41 (by decide)).1 h);rw[Fr U.o I.o G A.o M.o (Td (fun h=>(Fh _).1 h |>.2 c2)),if_neg he]
    clear c1 c2
    go_wp2
    go_ret
    exact⟨U9 J.o.symm,rfl⟩
   have z2:((s[k].toNat:Int)==124)=false:=by rw[Jc];omega
   have Z:Hid (ZZ (s.data.toList[k]'A.o)=true):=(Fh _).2 ⟨c1,c2⟩;clear c1 c2
   go_wp2
   go_round
   case rel=>exact⟨k+1,by omega,by omega,by go_num,fun j hj h1 h2=>by
    rcases J0.1 h2 with h|rfl
    ·exact M.o j hj h1 h
    exact Z.o⟩
   simp[intOf];omega
  have J:Hid (Eb s.data.toList i = -1):=Fp U.o I.o (fun j hj h1=>M.o j hj h1 (by have:=Ol s;omega))
  go_wp2
  go_ret
  exact⟨U9 J.o.symm,rfl⟩
 have z0:((s[i].toNat:Int)==40)=false:=by rw[Jc];omega
 have I:Hid (s.data.toList[i]'U.o≠40):=fun h=>V ((Is _ 40 (by decide)).1 h);clear V
 by_cases K:s[i].toNat=124
 ·have z1:((s[i].toNat:Int)==124)=true:=by rw[Yc];omega
  have E:Hid (s.data.toList[i]'U.o=124):=(Is _ 124 (by decide)).2 K;clear K
  go_in
  go_wp2
  go_loop [6] (fun v=>∃ k:Nat,i+1<=k/\k<=s.size/\v=.int .i64 (k:Nat)/\∀ j (hj:j<s.data.toList.length),i+1<=j->j<k->ZY s.data.toList[j]=true) (fun v=>s.size - (intOf v).toNat)
  case atStart=>exact⟨i+1,Of,by omega,by go_num,fun j _ h1 h2=>by omega⟩
  obtain⟨k,G,hk,rfl,Y⟩:=hrel;have M:=Hd Y;clear Y
  by_cases O:k<s.size
  ·have d:k<s.data.toList.length:=by rw[Ol];exact O
   have A:=Hd d;clear d
   by_cases c1:s[k].toNat=124
   ·have z2:((s[k].toNat:Int)==124)=true:=by rw[Yc];omega
    have J:Hid (Eb s.data.toList i=((k+1:Nat):Int)):=NG U.o E.o G A.o M.o (Td (fun h=>(Tc _).1 h c1));clear c1
    go_wp2
    go_ret
    exact⟨U9 (by rw[J.o];omega),rfl⟩
   have z2:((s[k].toNat:Int)==124)=false:=by rw[Jc];omega
   have Z:Hid (ZY (s.data.toList[k]'A.o)=true):=(Tc _).2 c1;clear c1
   go_wp2
   go_round
   case rel=>exact⟨k+1,by omega,by omega,by go_num,fun j hj h1 h2=>by
    rcases J0.1 h2 with h|rfl
    ·exact M.o j hj h1 h
    exact Z.o⟩
   simp[intOf];omega
  have J:Hid (Eb s.data.toList i = -1):=L0 U.o E.o (fun j hj h1=>M.o j hj h1 (by have:=Ol s;omega))
  go_wp2
  go_ret
  exact⟨U9 J.o.symm,rfl⟩
 have z1:((s[i].toNat:Int)==124)=false:=by rw[Jc];omega
 have E:Hid (s.data.toList[i]'U.o≠124):=fun h=>K ((Is _ 124 (by decide)).1 h);clear K
 go_in
 go_wp2
 go_loop [7] (fun v=>∃ k:Nat,i<=k/\k<=s.size/\v=.int .i64 (k:Nat)/\∀ j (hj:j<s.data.toList.length),i<=j->j<k->EJ s.data.toList[j]=true) (fun v=>s.size - (intOf v).toNat)
 case atStart=>exact⟨i,Of,by omega,rfl,fun j _ h1 h2=>by omega⟩
 obtain⟨k,G,hk,rfl,Y⟩:=hrel;have M:=Hd Y;clear Y
 by_cases O:k<s.size
 ·have d:k<s.data.toList.length:=by rw[Ol];exact O
  have A:=Hd d;clear d
  by_cases c1:s[k].toNat=32
  ·have z2:((s[k].toNat:Int)==32)=true:=by rw[Yc];omega
   have J:Hid (Eb s.data.toList i=((k:Nat):Int)):=Re U.o I.o E.o G (Uz A.o) M.o (fun _=>Td (fun h=>(Fi _).1 h |>.1 c1));have zn:((s[k].toNat:Int) != 32)=false:=by simp[bne,z2]
   have zp:(s[k].toNat:Int)=32:=by omega
   clear c1
   go_wp2
   go_ret
   exact⟨U9 J.o.symm,rfl⟩
  have z2:((s[k].toNat:Int)==32)=false:=by rw[Jc];omega
  have zp:¬ (s[k].toNat:Int)=32:=by omega
  have zn:((s[k].toNat:Int) != 32)=true:=by simp[bne,z2]
  by_cases c2:s[k].toNat=41
  ·have z3:((s[k].toNat:Int)==41)=true:=by rw[Yc];omega
   have zm:((s[k].toNat:Int) != 41)=false:=by simp[bne,z3]
   have J:Hid (Eb s.data.toList i=((k:Nat):Int)):=Re U.o I.o E.o G (Uz A.o) M.o (fun _=>Td (fun h=>(Fi _).1 h |>.2 c2));have HE:Hid ((s[k].toNat:Int)=41):=by unfold Hid;omega
   clear c1 c2
   go_wp2_with fail
   all_goals first|(go_ret;exact⟨U9 J.o.symm,rfl⟩)|(exfalso;rename_i h2 _;simp only[bne_iff_ne,ne_eq] at h2;exact h2.2 HE.o)
  have z3:((s[k].toNat:Int)==41)=false:=by rw[Jc];omega
  have zm:((s[k].toNat:Int) != 41)=true:=by simp[bne,z3]
  have Z:Hid (EJ (s.data.toList[k]'A.o)=true):=(Fi _).2 ⟨c1,c2⟩;have HE:Hid (¬ (s[k].toNat:Int)=32/\¬ (s[k].toNat:Int)=41):=⟨by omega,by omega⟩;clear c1 c2
  go_wp2_with fail
  rotate_left
  ·exfalso;rename_i h2 _;simp only[bne_eq_false_iff_eq] at h2;rcases h2 with h2|h2;exact HE.o.1 h2;exact HE.o.2 h2
  go_round
  case rel=>exact⟨k+1,by omega,by omega,by go_num,fun j hj h1 h2=>by
   rcases J0.1 h2 with h|rfl
   ·exact M.o j hj h1 h
   exact Z.o⟩
  simp[intOf];omega
 have J:Hid (Eb s.data.toList i=((k:Nat):Int)):=Re U.o I.o E.o G (by rw[Ol];exact hk) M.o (fun h=>absurd h (by rw[Ol];exact O))
 go_wp2
 go_ret
 exact⟨U9 J.o.symm,rfl⟩
end Go.Proofs.YtipgjenolpofpaaGreatDoor
namespace Go.Proofs.YtipgjenolpofpaaGreatDoor
open ChangeShapes WideShapes ChangeAt RowKit
def N9 (x:SI):Value:=.agg #[.int .i64 x.kind,.int .i64 (x.width:Nat),.string (Oo x.index),.string (Oo x.elem)]
theorem KX:∀ w:Fin 65,0<w.val->Xo (Lp w.val)=(w.val:Int):=by decide +kernel
theorem Bz:∀ w:Fin 65,0<w.val->E9 (Ni w.val)=w.val:=by decide +kernel
theorem UN:∀ (r:List UInt8)(n:Nat),n<=r.foldl (fun n c=>n*10+(c.toNat - 48)) n
 | [],n=>Of
 | c::r,n=>by
   have:=UN r (n*10+(c.toNat - 48))
   simp only[Vo]
   omega
theorem IF {d:List UInt8}{w:Nat}(h:Xo d=(w:Int))(h0:0<w)(h1:w<=64):d=Lp w:=by
 unfold Xo at h
 by_cases hc:d.length=0∨6<d.length∨(1<d.length/\d.head? = some 48)
 ·rw[if_pos hc] at h;omega
 rw[if_neg hc] at h
 by_cases j:¬ d.all dg=true
 ·rw[if_neg j] at h;omega
 have E:d.all dg=true:=Decidable.of_not_not j;rw[if_pos E] at h;have hv:Dy d=w:=by omega
 have hall:=Ju.1 E
 match d,hc,hall,hv with
 | [],hc,_,_=>exact absurd (Or.inl rfl) hc
 | [a],hc,hall,hv=>
   have ha:=(Q7 a).1 (hall a (by simp));simp only[Dy,Vo,List.foldl_nil] at hv;unfold Lp;rw[if_pos (by omega)]
   congr 1
   exact Nw (by omega)
 | [a,b],hc,hall,hv=>
   have ha:=(Q7 a).1 (hall a (by simp));have hb:=(Q7 b).1 (hall b (by simp));have A:a.toNat≠48:=fun e=>hc (.inr (.inr ⟨by simp,by rw[Nw e];rfl⟩));simp only[Dy,Vo,List.foldl_nil] at hv;unfold Lp;rw[if_neg (by omega)];rw[Nw (c:=a) (n:=48+w / 10) (by omega),Nw (c:=b) (n:=48+w % 10) (by omega)]
 | a::b::c::r,hc,hall,hv=>
   have ha:=(Q7 a).1 (hall a (by simp));have A:a.toNat≠48:=fun e=>hc (.inr (.inr ⟨by simp,by rw[Nw e];rfl⟩));simp only[Dy,Vo] at hv;have:=UN r (((0*10+(a.toNat - 48))*10+(b.toNat - 48))*10+(c.toNat - 48));omega
def I9 (t:List UInt8):Prop:=11<t.length/\t.take 10=Lg/\t.getLast? = some 41
def D7 (t:List UInt8):List UInt8:=(t.drop 10).dropLast
theorem Pr {t:List UInt8}(h:I9 t):t=Lg++D7 t++[41]:=by
 obtain⟨E,A,h3⟩:=h;have d:t=Lg++t.drop 10:=by rw[<-A,Ze]
 have j:(t.drop 10).getLast? = some 41:=by rw[List.getLast?_drop,if_neg (by omega)];exact h3
 obtain⟨G,e⟩:=Zs.1 j;unfold D7;rw[e,Vc,List.append_assoc,<-e];exact d
theorem KO:∀ w:Fin 65,0<w.val->11<(Ni w.val).length/\(Ni w.val).take 10=Lg/\(Ni w.val).getLast? = some 41:=by decide +kernel
theorem RQ {t:List UInt8}(h:¬ I9 t):E9 t=0:=by
 rcases Zp (E9 t) with d|d
 ·exact d
 obtain⟨w,A,j,rfl,_⟩:=Gq d;exact absurd (KO ⟨w,j⟩ A) h
theorem DI {t:List UInt8}(h:I9 t){w:Nat}(hd:Xo (D7 t)=(w:Int))(h0:0<w)(h1:w<=64):E9 t=w:=by
 have e:=Pr h;rw[IF hd h0 h1] at e;rw[e];exact Bz ⟨w,by omega⟩ h0
theorem DH {t:List UInt8}(h:I9 t)(hd:¬ (1<=Xo (D7 t)/\Xo (D7 t)<=64)):E9 t=0:=by
 rcases Zp (E9 t) with j|j
 ·exact j
 obtain⟨w,G,A,e,_⟩:=Gq j
 exfalso
 apply hd;have d:=Pr h;rw[e] at d;unfold Ni at d;have E:Lp w=D7 t:=by
  have:=List.append_cancel_right d;rw[e];exact List.append_cancel_left this
 rw[<-E,KX ⟨w,A⟩ G];simp only[];omega
theorem EW {t:List UInt8}(h:t.head? = some 40):Ny t=none:=by
 obtain⟨r,rfl⟩:∃ r,t=40::r:=by
  cases t with
  | nil=>simp at h
  | cons c r=>simp at h;exact⟨r,by rw[h]⟩
 have d:Kr (40::r)=false:=by
  have:E6 40=false:=by decide
  simp[Kr,this]
 unfold Ny;rw[d];rfl
theorem UV {t:List UInt8}(h:I9 t):t.head? = some 40:=by
 rw[Pr h];rfl
theorem Fd (own:List UInt8->Bool):Od own Oc=⟨1,0,[],[]⟩/\Od own Kn=⟨2,0,[],[]⟩/\Od own Ki=⟨3,0,[],[]⟩:=by
 refine⟨by simp[Od],?_,?_⟩
 ·unfold Od;rw[if_neg (by decide),if_pos rfl]
 unfold Od;rw[if_neg (by decide),if_neg (by decide),if_pos rfl]
theorem NH (own:List UInt8->Bool){t:List UInt8}{w:Nat}(h:I9 t)(hd:Xo (D7 t)=(w:Int))(h0:0<w)(h1:w<=64):Od own t=⟨4,w,[],[]⟩:=by
 have d:=UV h;unfold Od;rw[if_neg (by rintro rfl;simp[Oc] at d),if_neg (by rintro rfl;simp[Kn] at d),if_neg (by rintro rfl;simp[Ki] at d),DI h hd h0 h1,if_pos h0]
theorem Tt (own:List UInt8->Bool){t:List UInt8}(h:I9 t)(hd:¬ (1<=Xo (D7 t)/\Xo (D7 t)<=64)):Od own t=SI.none:=by
 have d:=UV h;unfold Od;rw[if_neg (by rintro rfl;simp[Oc] at d),if_neg (by rintro rfl;simp[Kn] at d),if_neg (by rintro rfl;simp[Ki] at d),DH h hd,if_neg (by omega),EW d]
theorem NI (own:List UInt8->Bool){t:List UInt8}(h1:t≠Oc)(h2:t≠Kn)(h3:t≠Ki)(h:¬ I9 t):Od own t=match Ny t with|some n=>if E3 n&&own n then ⟨5,0,[],[]⟩ else SI.none|none=>SI.none:=by
 unfold Od;rw[if_neg h1,if_neg h2,if_neg h3,RQ h,if_neg (by omega)];rfl
end Go.Proofs.YtipgjenolpofpaaGreatDoor
