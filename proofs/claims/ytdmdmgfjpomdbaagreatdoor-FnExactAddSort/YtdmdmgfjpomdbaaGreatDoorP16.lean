import Derived.Test.YtdmdmgfjpomdbaaGreatDoorP15
set_option maxRecDepth 100000
set_option maxHeartbeats 2000000
namespace Go.Proofs.YtdmdmgfjpomdbaaGreatDoor
open ChangeShapes WideShapes ChangeAt RowKit Proofs.Tryz
variable {L:List (List UInt8)}{i k:Nat}{l:List UInt8}{s:ByteArray}
def Cp:Array Value:=#[.string ⟨#[66,111,111,108]⟩,.string ⟨#[73,110,116]⟩,.string ⟨#[82,101,97,108]⟩,.string ⟨#[66,105,116,86,101,99]⟩,.string ⟨#[65,114,114,97,121]⟩,.string ⟨#[95]⟩,.string ⟨#[108,101,116]⟩,.string ⟨#[97,115]⟩,.string ⟨#[116,114,117,101]⟩,.string ⟨#[102,97,108,115,101]⟩,.string ⟨#[110,111,116]⟩,.string ⟨#[97,110,100]⟩,.string ⟨#[111,114]⟩,.string ⟨#[120,111,114]⟩,.string ⟨#[61,62]⟩,.string ⟨#[105,116,101]⟩,.string ⟨#[61]⟩,.string ⟨#[100,105,115,116,105,110,99,116]⟩,.string ⟨#[43]⟩,.string ⟨#[45]⟩,.string ⟨#[42]⟩,.string ⟨#[47]⟩,.string ⟨#[60,61]⟩,.string ⟨#[60]⟩,.string ⟨#[62,61]⟩,.string ⟨#[62]⟩,.string ⟨#[100,105,118]⟩,.string ⟨#[109,111,100]⟩,.string ⟨#[116,111,95,114,101,97,108]⟩,.string ⟨#[115,101,108,101,99,116]⟩,.string ⟨#[115,116,111,114,101]⟩,.string ⟨#[99,111,110,99,97,116]⟩,.string ⟨#[101,120,116,114,97,99,116]⟩,.string ⟨#[122,101,114,111,95,101,120,116,101,110,100]⟩,.string ⟨#[115,105,103,110,95,101,120,116,101,110,100]⟩,.string ⟨#[114,111,116,97,116,101,95,108,101,102,116]⟩,.string ⟨#[114,111,116,97,116,101,95,114,105,103,104,116]⟩,.string ⟨#[114,101,112,101,97,116]⟩]
theorem QW:∀ k:Fin 38,Cp.toList[k.val]? = some (.string (Oo Kf[k.val]!)):=fun k=>by
 have:Cp=(Kf.map fun x=>Value.string (Oo x)).toArray:=rfl
 rw[this]
 simp only[Y6]
 have h:Kf.length=38:=rfl
 rw[Jd (by omega)]
 simp[List.getElem!_eq_getElem?_getD,List.getElem?_eq_getElem (show k.val<Kf.length by omega)]
theorem Ck {X:ByteArray}(h:X≠s):(X.toList==s.toList)=false:=by
 rw[Jb];intro e;rw[Jk,Jk] at e;exact h (by rw[<-Kq X,e,Kq])
theorem C0:(s.extract 0 2).toList=s.data.toList.take 2:=by
 rw[Jk,Zc];simp
theorem Wp {x:List UInt8}(h:∀ k:Nat,k<L.length->L[k]! ≠ x):L.contains x=false:=by
 rw[J8];intro hc;have j:x∈L:=by simpa using hc
 obtain⟨k,d,e⟩:=J6 j;exact h k d (by simp[List.getElem!_eq_getElem?_getD,List.getElem?_eq_getElem d,e])
theorem Wr {x:List UInt8}(hk:k<L.length)(h:L[k]! = x):L.contains x=true:=by
 simp only[Uf,Jd hk,Us] at h;have:x∈L:=by rw[<-h];exact Jo hk
 simpa using this
theorem Fo (s:ByteArray)(w:World)(hs:s.size<=maxLen) :
 Calls prog 57 #[.string s] w fun e w'=>e=.returned (.bool (Gj s.data.toList))/\Up w w':=by
 unfold maxLen at hs
 by_cases hb:FZ s.data.toList=true
 ·have F:Hid (Gj s.data.toList=true):=by unfold Hid Gj;rw[hb];rfl
  have h2:2<=s.size:=by
   simp only[FZ,Yi] at hb;have:=congrArg List.length hb;simp only[J4,Yq,Zn] at this;rw[Lib.size_eq];omega
  have z:((s.extract 0 2).toList==[98,118])=true:=by rw[C0];simpa[FZ] using hb
  clear hb
  go_in
  go_wp2
  go_ret
  exact⟨Oy F.o.symm,Je _ _⟩
 have F:Hid (Gj s.data.toList=Kf.contains s.data.toList):=by unfold Hid Gj;simp[hb]
 have U:Hid (2<=s.size->((s.extract 0 2).toList==[98,118])=false):=fun h2=>by rw[C0];simpa[FZ] using hb
 clear hb
 go_in
 by_cases h2:2<=s.size
 all_goals (try (have z:=U.o h2))
 all_goals (go_wp2_with fail)
 all_goals (obtain⟨K,d⟩:=Oa (w.alloc (.cells Cp 9)))
 all_goals (have HB:Hid (Up w K):=(by unfold Hid;rw[<-d];exact Oz _ _))
 all_goals (have HX:Hid (Bx K w.heap.size Cp.toList):=(by unfold Hid;rw[<-d];exact Oi w Cp.toList 9))
 all_goals (unfold Cp at d;rw[d];clear d)
 all_goals (go_loop [17] (fun i=>∃ k:Nat,k<=38/\i=.int .i64 k/\∀ j:Nat,j<k->Kf[j]! ≠ s.data.toList) (fun i=>38 - (intOf i).toNat))
 all_goals (try (case atStart=>exact⟨0,Jr _,rfl,fun j hj=>absurd hj (J2 _)⟩))
 all_goals (
  obtain⟨k,V,rfl,M⟩:=hrel;have J:=Hd M;clear M
  by_cases G:k<38
  ·have hc:=HX.o.cell k;rw[QW ⟨k,G⟩] at hc
   by_cases E:Kf[k]! = s.data.toList
   ·rw[E,Kq] at hc;have I:Hid (Kf.contains s.data.toList=true):=Wr G E;clear E
    go_wp2
    go_ret
    exact⟨Oy (by rw[F.o,I.o]),HB.o⟩
   have A:Oo Kf[k]! ≠ s:=fun e=>E (by rw[<-e,Ou]);have O:=Hd E;generalize Oo Kf[k]! = X at hc A;have Y:=Ck A;clear E A
   go_wp2
   go_round
   case rel=>exact⟨k+1,by omega,by go_num,fun j hj=>by
    rcases J1.1 hj with h|rfl
    ·exact J.o j h
    exact O.o⟩
   simp[intOf];omega
  have I:Hid (Kf.contains s.data.toList=false):=Wp fun j hj=>J.o j (by have:Kf.length=38:=rfl;omega)
  go_wp2
  go_ret
  exact⟨Oy (by rw[F.o,I.o]),HB.o⟩)
def O3 (w:World)(v:Value)(L:List (List UInt8)):Prop:=
 ∃ p c,v=.slice p L.length c/\L.length<=c/\c<=maxLen/\(L=[]∨∃ b,p=some ⟨b,0,none⟩/\b<w.heap.size/\∀ i (h:i<L.length),w.cell? ⟨b,i,none⟩=some (.string (Oo L[i])))
theorem O3.bl {w w':World}{v:Value}(h:O3 w v L)(hb:Up w w'):O3 w' v L:=by
 obtain⟨p,c,rfl,d,h2,h3⟩:=h;refine⟨p,c,rfl,d,h2,?_⟩
 rcases h3 with h3|⟨b,e,hl,hc⟩
 ·exact .inl h3
 exact .inr ⟨b,e,Jq hl hb.size,fun i hi=>(hb.cell (p:=⟨b,i,none⟩) hl).trans (hc i hi)⟩
def Ok (L:List (List UInt8))(s:List UInt8):Bool:=decide (s∈L)
theorem Gm (v:Value)(L:List (List UInt8))(s:ByteArray)(w:World)(h:O3 w v L) :
 Calls prog 58 #[v,.string s] w fun e w'=>e=.returned (.bool (Ok L s.data.toList))/\w'=w:=by
 obtain⟨p,c,rfl,Y,h2,h3⟩:=h;have O:=Hd h3;unfold maxLen at h2;clear h3
 go_in
 go_wp2
 go_loop [9] (fun i=>∃ k:Nat,k<=L.length/\i=.int .i64 k/\∀ j (h:j<L.length),j<k->L[j]≠s.data.toList) (fun i=>L.length - (intOf i).toNat)
 case atStart=>exact⟨0,Jr _,rfl,fun j _ hj=>absurd hj (J2 _)⟩
 obtain⟨k,Z,rfl,K⟩:=hrel;have J:=Hd K;clear K
 by_cases d:k<L.length
 ·rcases O.o with U|⟨b,rfl,hb,G⟩
  ·subst U;simp at d
  have hc:=G k d;clear G
  by_cases E:L[k]=s.data.toList
  ·rw[E,Kq] at hc;have I:Hid (Ok L s.data.toList=true):=by unfold Hid Ok;rw[Ju,<-E];exact Jo d
   clear E
   go_wp2
   go_ret
   exact⟨Oy I.o.symm,rfl⟩
  have M:=Hd E;have A:Oo L[k]≠s:=fun e=>E (by rw[<-e,Ou]);generalize Oo L[k]=X at hc A;have zz:=Ck A;clear E A
  go_wp2
  go_round
  case rel=>exact⟨k+1,by omega,by go_num,fun j hj hj2=>by
   rcases J1.1 hj2 with h|rfl
   ·exact J.o j hj h
   exact M.o⟩
  simp[intOf];omega
 have I:Hid (Ok L s.data.toList=false):=by
  unfold Hid Ok;rw[Jj];intro V;obtain⟨j,hj,e⟩:=J6 V;exact J.o j hj (by omega) e
 go_wp2
 go_ret
 exact⟨Oy I.o.symm,rfl⟩
theorem Nc (s:ByteArray)(w:World)(hs:s.size<=1048576) :
 Calls prog 100 #[.string s] w fun e w'=>e=.returned (.string (Oo (Kl 2 s.data.toList)))/\w'=w:=by
 have j:s.size<=maxLen:=by unfold maxLen;omega
 cases h:Kt s.data.toList
 ·have d:=Hd h;clear h
  go_in
  go_wp2_with (go_at_call 118;refine (C8 _ _ j).mono ?_;rw[d.o];rintro e w' ⟨rfl,rfl⟩)
  go_ret
  exact⟨Rj d.o,rfl⟩
 have d:=Hd h;clear h
 go_in
 go_wp2_with (go_at_call 118;refine (C8 _ _ j).mono ?_;rw[d.o];rintro e w' ⟨rfl,rfl⟩)
 go_ret
 exact⟨Bq d.o,rfl⟩
def Ci (l:List UInt8):Nat:=l.foldl (fun n c=>n*10+(c.toNat - 48)) 0
theorem QA (l:List UInt8)(c:UInt8):Ci (l++[c])=Ci l*10+(c.toNat - 48):=by simp[Ci,List.foldl_append]
theorem QS (s:ByteArray)(k:Nat)(h:k<s.size):Ci (s.data.toList.take (k+1))=Ci (s.data.toList.take k)*10+(s[k].toNat - 48):=by rw[H6 s k h,QA]
def Qu (l:List UInt8):Int:=if l.length=0∨6<l.length∨(1<l.length/\l.head? = some 48) then -1 else if l.all dg then (Ci l:Int) else -1
theorem Lv (h:s.size=0∨6<s.size∨(1<s.size/\s.data.toList.head? = some 48)):Qu s.data.toList = -1:=by
 unfold Qu;rw[<-Lib.size_eq,if_pos h]
theorem FE (h:¬ (s.size=0∨6<s.size∨(1<s.size/\s.data.toList.head? = some 48))):Qu s.data.toList=if s.data.toList.all dg then (Ci s.data.toList:Int) else -1:=by
 unfold Qu;rw[<-Lib.size_eq,if_neg h]
theorem Kx {a b:Int}(h:a=b):Ending.returned (.int .i64 a)=.returned (.int .i64 b):=by rw[h]
def YL:Nat->Nat|0=>1|1=>10|2=>100|3=>1000|4=>10000|5=>100000|_=>1000000
theorem DQ (k:Nat)(h:k<=6):YL k<=1000000/\(k<6->YL (k+1)=YL k*10):=by
 have:k=0∨k=1∨k=2∨k=3∨k=4∨k=5∨k=6:=by omega
 rcases this with rfl|rfl|rfl|rfl|rfl|rfl|rfl<;>simp[YL]
theorem IS (s:ByteArray)(w:World)(hs:s.size<=maxLen) :
 Calls prog 99 #[.string s] w fun e w'=>e=.returned (.int .i64 (Qu s.data.toList))/\w'=w:=by
 unfold maxLen at hs
 by_cases h0:s.size=0
 ·have F:Hid (Qu s.data.toList = -1):=Lv (.inl h0)
  go_in
  go_wp2
  go_ret
  exact⟨Kx F.o.symm,rfl⟩
 by_cases h6:6<s.size
 ·have F:Hid (Qu s.data.toList = -1):=Lv (.inr (.inl h6))
  go_in
  go_wp2
  go_ret
  exact⟨Kx F.o.symm,rfl⟩
 have hp:0<s.size:=by omega
 have O:Hid (s.data.toList.head? = some s[0]):=Gf s hp;have I:∀ c:UInt8,c.toNat=48->c=48:=fun c h=>by
  have e:UInt8.ofNat c.toNat=c:=by simp
  rw[<-e,h];rfl
 by_cases j:1<s.size/\s[0].toNat=48
 ·have F:Hid (Qu s.data.toList = -1):=Lv (.inr (.inr ⟨j.1,by rw[O.o,I _ j.2]⟩));have z1:=j.1;have z2:((s[0].toNat:Int)==48)=true:=by rw[Yf];have:=j.2;omega
  clear j I
  go_in
  go_wp2
  go_ret
  exact⟨Kx F.o.symm,rfl⟩
 have F:Hid (Qu s.data.toList=if s.data.toList.all dg then (Ci s.data.toList:Int) else -1):=FE (by
  rintro (h|h|⟨h,V⟩)
  ·omega
  ·omega
  rw[O.o] at V;exact j ⟨h,by rw[Option.some.inj V];rfl⟩)
 have HZ:Hid (1<s.size->((s[0].toNat:Int)==48)=false):=fun h=>by rw[Jb];intro e;exact j ⟨h,by omega⟩
 clear j I
 go_in
 by_cases hq:1<s.size
 all_goals (try (have z:=HZ.o hq))
 all_goals (go_wp2_with fail)
 all_goals (go_loop [3,4] (fun nv i=>∃ k N:Nat,k<=s.size/\i=.int .i64 k/\nv=.int .i64 (N:Nat)/\N<YL k/\N=Ci (s.data.toList.take k)/\(s.data.toList.take k).all dg=true) (fun _ i=>s.size - (intOf i).toNat))
 all_goals (try (case atStart=>exact⟨0,0,Jr _,rfl,rfl,by decide,rfl,rfl⟩))
 all_goals (
  obtain⟨k,N,hk,rfl,rfl,Y,hv,Z⟩:=hrel;have U:=Hd hv;have M:=Hd Z;clear hv Z
  by_cases d:k<s.size
  ·have A:=DQ k (by omega)
   by_cases hc:dg s[k]=true
   ·have b6:=(Pz s[k]).1 hc;have E:=Hd hc;have K:=Hd A;have b5:N<1000000:=by omega
    have J:=Hd Y;clear A Y;clear hc
    go_wp2_with (go_at_call 117;refine (Qi _ _).mono ?_;rw[E.o];rintro e w' ⟨rfl,rfl⟩)
    go_round
    case rel=>exact⟨k+1,N*10+(s[k].toNat - 48),by omega,by go_num,by go_num,by have:=J.o;rw[K.o.2 (by omega)];omega,by rw[QS s k d,<-U.o],G1 d M.o E.o⟩
    simp[intOf];omega
   have G:dg s[k]=false:=by simpa using hc
   have E:=Hd G;clear hc G A
   go_wp2_with (go_at_call 117;refine (Qi _ _).mono ?_;rw[E.o];rintro e w' ⟨rfl,rfl⟩)
   go_ret
   exact⟨Kx (by rw[F.o,Xm d E.o];rfl),rfl⟩
  go_wp2
  go_ret
  exact⟨Kx (by rw[F.o,Ff d M.o,U.o,Jl (by rw[<-Lib.size_eq];omega)];rfl),rfl⟩)
def Nz (l:List UInt8)(i:Nat):Int:=match Es (l.drop i) with|none => -1|some k=>((i+k:Nat):Int)
theorem Ru {p:UInt8->Bool}(hik:i<=k)(hk:k<=l.length)(h:∀ j (hj:j<l.length),i<=j->j<k->p l[j]=true)(h1:∀ hk:k<l.length,p l[k]=false):Ek p (l.drop i)=k - i:=by
 refine Ti (by simp;omega) (fun j hj hj2=>?_) (fun hj=>?_)
 ·rw[List.getElem_drop];exact h (i+j) (by simp at hj;omega) (by omega) (by omega)
 rw[List.getElem_drop];have e:i+(k - i)=k:=by omega
 simp only[e];exact h1 (by simp at hj;omega)
theorem Rp (h:i<l.length):l.drop i=l[i]::l.drop (i+1):=Vx h
theorem KK (h:l.length<=i):Nz l i = -1:=by
 unfold Nz;rw[Zr h];rfl
theorem Gc {c:UInt8}{n:Nat}(h:c.toNat=n):c=UInt8.ofNat n:=by rw[<-h];simp
def KY (c:UInt8):Bool:=c != 41&&c != 124
def KO (c:UInt8):Bool:=c != 124
def XK (c:UInt8):Bool:=c != 32&&c != 41
theorem Mc (h:i<l.length)(h0:l[i]=40)(hik:i<=k)(hk:k<l.length)(hall:∀ j (hj:j<l.length),i<=j->j<k->KY l[j]=true)(hs:KY l[k]=false):Nz l i=if l[k]=41 then ((k+1:Nat):Int) else -1:=by
 have A:=Ru (p:=fun c=>c != 41&&c != 124) hik (U5 hk) hall (fun _=>hs);unfold Nz;have e:=Rp h;rw[h0] at e;have d:(l.drop i).getD (k - i) 0=l[k]:=by rw[Ji,Uz,show i+(k - i)=k by omega,Jd hk];rfl
 have:Es (l.drop i)=if k - i<(l.drop i).length/\(l.drop i).getD (k - i) 0=41 then some (k - i+1) else none:=by rw[<-A,e];rfl
 rw[this,d];have hl:k - i<(l.drop i).length:=by simp;omega
 by_cases hc:l[k]=41
 ·rw[if_pos ⟨hl,hc⟩,if_pos hc];simp only[];omega
 rw[if_neg (fun h=>hc h.2),if_neg hc]
theorem Mf (h:i<l.length)(h0:l[i]=40)(hall:∀ j (hj:j<l.length),i<=j->KY l[j]=true):Nz l i = -1:=by
 have d:=Ru (p:=fun c=>c != 41&&c != 124) (U5 h) leR (fun j hj hi _=>hall j hj hi) (fun hk=>absurd hk (Nat.lt_irrefl _));unfold Nz;have e:=Rp h;rw[h0] at e;have:Es (l.drop i)=if l.length - i<(l.drop i).length/\(l.drop i).getD (l.length - i) 0=41 then some (l.length - i+1) else none:=by rw[<-d,e];rfl
 rw[this,if_neg (by simp)]
theorem XP (h:i<l.length)(h0:l[i]=124)(hik:i+1<=k)(hk:k<l.length)(hall:∀ j (hj:j<l.length),i+1<=j->j<k->KO l[j]=true)(hs:KO l[k]=false):Nz l i=((k+1:Nat):Int):=by
 have d:=Ru (p:=(· != 124)) hik (U5 hk) hall (fun _=>hs);unfold Nz;have e:=Rp h;rw[h0] at e;have:Es (l.drop i)=if k - (i+1)<(l.drop (i+1)).length then some (k - (i+1)+2) else none:=by rw[<-d,e];rfl
 rw[this,if_pos (by simp;omega)];simp only[];omega
theorem Az (h:i<l.length)(h0:l[i]=124)(hall:∀ j (hj:j<l.length),i+1<=j->KO l[j]=true):Nz l i = -1:=by
 have d:=Ru (p:=(· != 124)) (show i+1<=l.length from h) leR (fun j hj hi _=>hall j hj hi) (fun hk=>absurd hk (Nat.lt_irrefl _));unfold Nz;have e:=Rp h;rw[h0] at e;have:Es (l.drop i)=if l.length - (i+1)<(l.drop (i+1)).length then some (l.length - (i+1)+2) else none:=by rw[<-d,e];rfl
 rw[this,if_neg (by simp)]
theorem Pq (h:i<l.length)(h0:l[i]≠40)(h1:l[i]≠124)(hik:i<=k)(hk:k<=l.length)(hall:∀ j (hj:j<l.length),i<=j->j<k->XK l[j]=true)(hs:∀ hk:k<l.length,XK l[k]=false):Nz l i=((k:Nat):Int):=by
 have d:=Ru (p:=fun c=>c != 32&&c != 41) hik hk hall hs;unfold Nz;have e:=Rp h;have:Es (l.drop i)=some (k - i):=by
  rw[<-d,e];unfold Es
  split
  ·rename_i e';cases e'
  ·rename_i e';exact absurd (List.cons.inj e').1 h0
  ·rename_i e';exact absurd (List.cons.inj e').1 h1
  rfl
 rw[this];simp only[];omega
theorem Mx (c:UInt8):KY c=true↔c.toNat≠41/\c.toNat≠124:=by
 have k:=Xl (p:=fun c=>decide (KY c=true↔c.toNat≠41/\c.toNat≠124)) (by decide +kernel) c;exact of_decide_eq_true k
theorem YI (c:UInt8):KO c=true↔c.toNat≠124:=by
 have k:=Xl (p:=fun c=>decide (KO c=true↔c.toNat≠124)) (by decide +kernel) c;exact of_decide_eq_true k
theorem Mq (c:UInt8):XK c=true↔c.toNat≠32/\c.toNat≠41:=by
 have k:=Xl (p:=fun c=>decide (XK c=true↔c.toNat≠32/\c.toNat≠41)) (by decide +kernel) c;exact of_decide_eq_true k
theorem Xb (c:UInt8)(n:Nat)(hn:n<256):c=UInt8.ofNat n↔c.toNat=n:=⟨fun e=>by rw[e];simp;omega,fun h=>Gc h⟩
theorem Om (s:ByteArray):s.data.toList.length=s.size:=(Lib.size_eq s).symm
theorem YH {p:UInt8->Bool}{c:UInt8}(h:¬ p c=true):p c=false:=by simpa using h
theorem Mu (s:ByteArray)(i:Nat)(w:World)(hs:s.size<=maxLen)(hi:i<=maxLen) :
 Calls prog 81 #[.string s,.int .i64 (i:Nat)] w fun e w'=>e=.returned (.int .i64 (Nz s.data.toList i))/\w'=w:=by
 unfold maxLen at hs hi
 by_cases b6:s.size<=i
 ·have F:Hid (Nz s.data.toList i = -1):=KK (by rw[Om];omega);have z:decide ((s.size:Int)<=(i:Int))=true:=dT (by omega)
  go_in
  go_wp2
  go_ret
  exact⟨Kx F.o.symm,rfl⟩
 have b4:i<s.size:=by omega
 have hl:i<s.data.toList.length:=by rw[Om];exact b4
 have U:=Hd hl;clear hl
 by_cases V:s[i].toNat=40
 ·have z0:((s[i].toNat:Int)==40)=true:=by rw[Yf];omega
  have I:Hid (s.data.toList[i]'U.o=40):=(Xb _ 40 (by decide)).2 V;clear V
  go_in
  go_wp2
  go_loop [5] (fun v=>∃ k:Nat,i<=k/\k<=s.size/\v=.int .i64 (k:Nat)/\∀ j (hj:j<s.data.toList.length),i<=j->j<k->KY s.data.toList[j]=true) (fun v=>s.size - (intOf v).toNat)
  case atStart=>exact⟨i,leR,by omega,rfl,fun j _ h1 h2=>by omega⟩
  obtain⟨k,G,hk,rfl,Y⟩:=hrel;have M:=Hd Y;clear Y
  by_cases O:k<s.size
  ·have d:k<s.data.toList.length:=by rw[Om];exact O
   have A:=Hd d;clear d
   by_cases c1:s[k].toNat=41
   ·have z1:((s[k].toNat:Int)==41)=true:=by rw[Yf];omega
    have J:Hid (Nz s.data.toList i=((k+1:Nat):Int)):=by
     unfold Hid;have he:s.data.toList[k]'A.o=41:=(Xb _ 41 (by decide)).2 c1;rw[Mc U.o I.o G A.o M.o (YH (fun h=>(Mx _).1 h |>.1 c1)),if_pos he]
    clear c1
    go_wp2
    go_ret
    exact⟨Kx (by rw[J.o];omega),rfl⟩
   have z1:((s[k].toNat:Int)==41)=false:=by rw[Jb];omega
   by_cases c2:s[k].toNat=124
   ·have z2:((s[k].toNat:Int)==124)=true:=by rw[Yf];omega
    have J:Hid (Nz s.data.toList i = -1):=by
     unfold Hid;have he:¬ s.data.toList[k]'A.o=41:=fun h=>c1 ((Xb _ 41 (by decide)).1 h);rw[Mc U.o I.o G A.o M.o (YH (fun h=>(Mx _).1 h |>.2 c2)),if_neg he]
    clear c1 c2
    go_wp2
    go_ret
    exact⟨Kx J.o.symm,rfl⟩
   have z2:((s[k].toNat:Int)==124)=false:=by rw[Jb];omega
   have Z:Hid (KY (s.data.toList[k]'A.o)=true):=(Mx _).2 ⟨c1,c2⟩;clear c1 c2
   go_wp2
   go_round
   case rel=>exact⟨k+1,by omega,by omega,by go_num,fun j hj h1 h2=>by
    rcases J1.1 h2 with h|rfl
    ·exact M.o j hj h1 h
    exact Z.o⟩
   simp[intOf];omega
  have J:Hid (Nz s.data.toList i = -1):=Mf U.o I.o (fun j hj h1=>M.o j hj h1 (by have:=Om s;omega))
  go_wp2
  go_ret
  exact⟨Kx J.o.symm,rfl⟩
 have z0:((s[i].toNat:Int)==40)=false:=by rw[Jb];omega
 have I:Hid (s.data.toList[i]'U.o≠40):=fun h=>V ((Xb _ 40 (by decide)).1 h);clear V
 by_cases K:s[i].toNat=124
 ·have z1:((s[i].toNat:Int)==124)=true:=by rw[Yf];omega
  have E:Hid (s.data.toList[i]'U.o=124):=(Xb _ 124 (by decide)).2 K;clear K
  go_in
  go_wp2
  go_loop [6] (fun v=>∃ k:Nat,i+1<=k/\k<=s.size/\v=.int .i64 (k:Nat)/\∀ j (hj:j<s.data.toList.length),i+1<=j->j<k->KO s.data.toList[j]=true) (fun v=>s.size - (intOf v).toNat)
  case atStart=>exact⟨i+1,leR,by omega,by go_num,fun j _ h1 h2=>by omega⟩
  obtain⟨k,G,hk,rfl,Y⟩:=hrel;have M:=Hd Y;clear Y
  by_cases O:k<s.size
  ·have d:k<s.data.toList.length:=by rw[Om];exact O
   have A:=Hd d;clear d
   by_cases c1:s[k].toNat=124
   ·have z2:((s[k].toNat:Int)==124)=true:=by rw[Yf];omega
    have J:Hid (Nz s.data.toList i=((k+1:Nat):Int)):=XP U.o E.o G A.o M.o (YH (fun h=>(YI _).1 h c1));clear c1
    go_wp2
    go_ret
    exact⟨Kx (by rw[J.o];omega),rfl⟩
   have z2:((s[k].toNat:Int)==124)=false:=by rw[Jb];omega
   have Z:Hid (KO (s.data.toList[k]'A.o)=true):=(YI _).2 c1;clear c1
   go_wp2
   go_round
   case rel=>exact⟨k+1,by omega,by omega,by go_num,fun j hj h1 h2=>by
    rcases J1.1 h2 with h|rfl
    ·exact M.o j hj h1 h
    exact Z.o⟩
   simp[intOf];omega
  have J:Hid (Nz s.data.toList i = -1):=Az U.o E.o (fun j hj h1=>M.o j hj h1 (by have:=Om s;omega))
  go_wp2
  go_ret
  exact⟨Kx J.o.symm,rfl⟩
 have z1:((s[i].toNat:Int)==124)=false:=by rw[Jb];omega
 have E:Hid (s.data.toList[i]'U.o≠124):=fun h=>K ((Xb _ 124 (by decide)).1 h);clear K
 go_in
 go_wp2
 go_loop [7] (fun v=>∃ k:Nat,i<=k/\k<=s.size/\v=.int .i64 (k:Nat)/\∀ j (hj:j<s.data.toList.length),i<=j->j<k->XK s.data.toList[j]=true) (fun v=>s.size - (intOf v).toNat)
 case atStart=>exact⟨i,leR,by omega,rfl,fun j _ h1 h2=>by omega⟩
 obtain⟨k,G,hk,rfl,Y⟩:=hrel;have M:=Hd Y;clear Y
 by_cases O:k<s.size
 ·have d:k<s.data.toList.length:=by rw[Om];exact O
  have A:=Hd d;clear d
  by_cases c1:s[k].toNat=32
  ·have z2:((s[k].toNat:Int)==32)=true:=by rw[Yf];omega
   have J:Hid (Nz s.data.toList i=((k:Nat):Int)):=Pq U.o I.o E.o G (U5 A.o) M.o (fun _=>YH (fun h=>(Mq _).1 h |>.1 c1));have zn:((s[k].toNat:Int) != 32)=false:=by simp[bne,z2]
   have zp:(s[k].toNat:Int)=32:=by omega
   clear c1
   go_wp2
   go_ret
   exact⟨Kx J.o.symm,rfl⟩
  have z2:((s[k].toNat:Int)==32)=false:=by rw[Jb];omega
  have zp:¬ (s[k].toNat:Int)=32:=by omega
  have zn:((s[k].toNat:Int) != 32)=true:=by simp[bne,z2]
  by_cases c2:s[k].toNat=41
  ·have z3:((s[k].toNat:Int)==41)=true:=by rw[Yf];omega
   have zm:((s[k].toNat:Int) != 41)=false:=by simp[bne,z3]
   have J:Hid (Nz s.data.toList i=((k:Nat):Int)):=Pq U.o I.o E.o G (U5 A.o) M.o (fun _=>YH (fun h=>(Mq _).1 h |>.2 c2));have HE:Hid ((s[k].toNat:Int)=41):=by unfold Hid;omega
   clear c1 c2
   go_wp2_with fail
   all_goals first|(go_ret;exact⟨Kx J.o.symm,rfl⟩)|(exfalso;rename_i h2 _;simp only[bne_iff_ne,ne_eq] at h2;exact h2.2 HE.o)
  have z3:((s[k].toNat:Int)==41)=false:=by rw[Jb];omega
  have zm:((s[k].toNat:Int) != 41)=true:=by simp[bne,z3]
  have Z:Hid (XK (s.data.toList[k]'A.o)=true):=(Mq _).2 ⟨c1,c2⟩;have HE:Hid (¬ (s[k].toNat:Int)=32/\¬ (s[k].toNat:Int)=41):=⟨by omega,by omega⟩;clear c1 c2
  go_wp2_with fail
  rotate_left
  ·exfalso;rename_i h2 _;simp only[bne_eq_false_iff_eq] at h2;rcases h2 with h2|h2;exact HE.o.1 h2;exact HE.o.2 h2
  go_round
  case rel=>exact⟨k+1,by omega,by omega,by go_num,fun j hj h1 h2=>by
   rcases J1.1 h2 with h|rfl
   ·exact M.o j hj h1 h
   exact Z.o⟩
  simp[intOf];omega
 have J:Hid (Nz s.data.toList i=((k:Nat):Int)):=Pq U.o I.o E.o G (by rw[Om];exact hk) M.o (fun h=>absurd h (by rw[Om];exact O))
 go_wp2
 go_ret
 exact⟨Kx J.o.symm,rfl⟩
end Go.Proofs.YtdmdmgfjpomdbaaGreatDoor
namespace Go.Proofs.YtdmdmgfjpomdbaaGreatDoor
open ChangeShapes WideShapes ChangeAt RowKit
variable {w:Nat}
def Gw (x:SI):Value:=.agg #[.int .i64 x.kind,.int .i64 (x.width:Nat),.string (Oo x.index),.string (Oo x.elem)]
theorem GF:∀ w:Fin 65,0<w.val->Qu (Bj w.val)=(w.val:Int):=by decide +kernel
theorem Sg:∀ w:Fin 65,0<w.val->Nt (Ge w.val)=w.val:=by decide +kernel
theorem NN:∀ (r:List UInt8)(n:Nat),n<=r.foldl (fun n c=>n*10+(c.toNat - 48)) n
 | [],n=>leR
 | c::r,n=>by
   have:=NN r (n*10+(c.toNat - 48))
   simp only[Vz]
   omega
theorem RS {d:List UInt8}(h:Qu d=(w:Int))(h0:0<w)(h1:w<=64):d=Bj w:=by
 unfold Qu at h
 by_cases hc:d.length=0∨6<d.length∨(1<d.length/\d.head? = some 48)
 ·rw[if_pos hc] at h;omega
 rw[if_neg hc] at h
 by_cases j:¬ d.all dg=true
 ·rw[if_neg j] at h;omega
 have E:d.all dg=true:=Decidable.of_not_not j;rw[if_pos E] at h;have hv:Ci d=w:=by omega
 have hall:=Jt.1 E
 match d,hc,hall,hv with
 | [],hc,_,_=>exact absurd (Or.inl rfl) hc
 | [a],hc,hall,hv=>
   have ha:=(Pz a).1 (hall a (by simp));simp only[Ci,Vz,List.foldl_nil] at hv;unfold Bj;rw[if_pos (by omega)]
   congr 1
   exact Gc (by omega)
 | [a,b],hc,hall,hv=>
   have ha:=(Pz a).1 (hall a (by simp));have hb:=(Pz b).1 (hall b (by simp));have A:a.toNat≠48:=fun e=>hc (.inr (.inr ⟨by simp,by rw[Gc e];rfl⟩));simp only[Ci,Vz,List.foldl_nil] at hv;unfold Bj;rw[if_neg (by omega)];rw[Gc (c:=a) (n:=48+w / 10) (by omega),Gc (c:=b) (n:=48+w % 10) (by omega)]
 | a::b::c::r,hc,hall,hv=>
   have ha:=(Pz a).1 (hall a (by simp));have A:a.toNat≠48:=fun e=>hc (.inr (.inr ⟨by simp,by rw[Gc e];rfl⟩));simp only[Ci,Vz] at hv;have:=NN r (((0*10+(a.toNat - 48))*10+(b.toNat - 48))*10+(c.toNat - 48));omega
def Qv (t:List UInt8):Prop:=11<t.length/\t.take 10=Bl/\t.getLast? = some 41
def Fq (t:List UInt8):List UInt8:=(t.drop 10).dropLast
theorem Db {t:List UInt8}(h:Qv t):t=Bl++Fq t++[41]:=by
 obtain⟨j,h2,h3⟩:=h;have d:t=Bl++t.drop 10:=by rw[<-h2,Zi]
 have e2:(t.drop 10).getLast? = some 41:=by rw[List.getLast?_drop,if_neg (by omega)];exact h3
 obtain⟨A,e⟩:=Z0.1 e2;unfold Fq;rw[e,Vl,List.append_assoc,<-e];exact d
theorem GU:∀ w:Fin 65,0<w.val->11<(Ge w.val).length/\(Ge w.val).take 10=Bl/\(Ge w.val).getLast? = some 41:=by decide +kernel
theorem CB {t:List UInt8}(h:¬ Qv t):Nt t=0:=by
 rcases Zw (Nt t) with d|d
 ·exact d
 obtain⟨w,A,j,rfl,_⟩:=Hv d;exact absurd (GU ⟨w,j⟩ A) h
theorem LM {t:List UInt8}(h:Qv t)(hd:Qu (Fq t)=(w:Int))(h0:0<w)(h1:w<=64):Nt t=w:=by
 have e:=Db h;rw[RS hd h0 h1] at e;rw[e];exact Sg ⟨w,by omega⟩ h0
theorem LL {t:List UInt8}(h:Qv t)(hd:¬ (1<=Qu (Fq t)/\Qu (Fq t)<=64)):Nt t=0:=by
 rcases Zw (Nt t) with d|d
 ·exact d
 obtain⟨w,E,j,e,_⟩:=Hv d
 exfalso
 apply hd;have e2:=Db h;rw[e] at e2;unfold Ge at e2;have A:Bj w=Fq t:=by
  have:=List.append_cancel_right e2;rw[e];exact List.append_cancel_left this
 rw[<-A,GF ⟨w,j⟩ E];simp only[];omega
theorem XU {t:List UInt8}(h:t.head? = some 40):N2 t=none:=by
 obtain⟨r,rfl⟩:∃ r,t=40::r:=by
  cases t with
  | nil=>simp at h
  | cons c r=>simp at h;exact⟨r,by rw[h]⟩
 have d:Kt (40::r)=false:=by
  have:Nb 40=false:=by decide
  simp[Kt,this]
 unfold N2;rw[d];rfl
theorem NV {t:List UInt8}(h:Qv t):t.head? = some 40:=by
 rw[Db h];rfl
theorem Ml (own:List UInt8->Bool):Of own On=⟨1,0,[],[]⟩/\Of own U8=⟨2,0,[],[]⟩/\Of own Ku=⟨3,0,[],[]⟩:=by
 refine⟨by simp[Of],?_,?_⟩
 ·unfold Of;rw[if_neg (by decide),if_pos rfl]
 unfold Of;rw[if_neg (by decide),if_neg (by decide),if_pos rfl]
theorem XD (own:List UInt8->Bool){t:List UInt8}(h:Qv t)(hd:Qu (Fq t)=(w:Int))(h0:0<w)(h1:w<=64):Of own t=⟨4,w,[],[]⟩:=by
 have d:=NV h;unfold Of;rw[if_neg (by rintro rfl;simp[On] at d),if_neg (by rintro rfl;simp[U8] at d),if_neg (by rintro rfl;simp[Ku] at d),LM h hd h0 h1,if_pos h0]
theorem YF (own:List UInt8->Bool){t:List UInt8}(h:Qv t)(hd:¬ (1<=Qu (Fq t)/\Qu (Fq t)<=64)):Of own t=SI.none:=by
 have d:=NV h;unfold Of;rw[if_neg (by rintro rfl;simp[On] at d),if_neg (by rintro rfl;simp[U8] at d),if_neg (by rintro rfl;simp[Ku] at d),LL h hd,if_neg (by omega),XU d]
theorem XC (own:List UInt8->Bool){t:List UInt8}(h1:t≠On)(h2:t≠U8)(h3:t≠Ku)(h:¬ Qv t):Of own t=match N2 t with|some n=>if Ng n&&own n then ⟨5,0,[],[]⟩ else SI.none|none=>SI.none:=by
 unfold Of;rw[if_neg h1,if_neg h2,if_neg h3,CB h,if_neg (by omega)];rfl
end Go.Proofs.YtdmdmgfjpomdbaaGreatDoor
