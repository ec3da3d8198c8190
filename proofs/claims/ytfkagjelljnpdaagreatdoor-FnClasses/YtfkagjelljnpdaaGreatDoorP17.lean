import Derived.Test.YtfkagjelljnpdaaGreatDoorP15
import Derived.Test.YtfkagjelljnpdaaGreatDoorP16
import Derived.Maps.OwnSet
import Derived.Maps.OwnOps
import Derived.Deep.QuietTactic
import Derived.BigQuiet
import Derived.Laws.Bits64b
set_option maxRecDepth 100000
set_option maxHeartbeats 104857600
namespace Go.Proofs.YtfkagjelljnpdaaGreatDoor
open ChangeShapes WideShapes ChangeAt RowKit Proofs.Tryz
variable {n t:List UInt8}{w w':World}
theorem RC{s:ByteArray}(h0:0<s.size)(h6:s.size<=60):Kj s.data.toList=decide (((Ud Hu s.data.toList:Nat):Int)=(s.size:Int)):=by
 rw[Wg h0 h6,J8,Jv,<-Wu,Oc];omega
theorem Rk(s:ByteArray)(w:World)(hs:s.size<=maxLen) :
 Calls prog 136 #[.string s] w fun e w'=>e=.returned (.bool (Kj s.data.toList))/\w'=w:=by
 have hm:=hs;unfold maxLen at hs
 by_cases j:s.size=0
 ·have F:Hid (Kj s.data.toList=false):=Rm (.inl j);have z:=Rb s j
  go_in
  go_wp2
  go_ret
  exact⟨Oz F.o.symm,rfl⟩
 have hp:0<s.size:=by omega
 have z:=Ii s hp
 by_cases h6:60<s.size
 ·have F:Hid (Kj s.data.toList=false):=Rm (.inr h6)
  go_in
  go_wp2
  go_ret
  exact⟨Oz F.o.symm,rfl⟩
 have F:=Hd (RC hp (by omega));obtain⟨R,h⟩:∃R:Nat,Ud Hu s.data.toList=R:=⟨_,rfl⟩;have q:=Hd h;rw[h]at F;clear h
 go_in
 go_wp2_with (go_at_call 142;refine(GC _ _ hm).mono ?_;rw[q.o];rintro e w' ⟨rfl,rfl⟩)
 go_ret
 exact⟨Oz (by rw[F.o,J8,Jv];simp),rfl⟩
theorem KH(t:List UInt8):Lib.hasPrefix t [98,118]=PS t:=by
 unfold Lib.hasPrefix PS;rw[J8,Jv,List.isPrefixOf_iff_prefix,List.prefix_iff_eq_take];exact⟨fun h=>h.symm,fun h=>h.symm⟩
theorem Bm(w:World)(t:List UInt8)(h:t∈V7):Calls prog 137 #[.string (Oo t)] w fun e w'=>e=.returned (.bool true)/\w'=w:=by
 simp only[V7,Ym,Yi,or_false]at h
 rcases h with rfl|rfl|rfl|rfl|rfl|rfl|rfl|rfl|rfl|rfl|rfl|rfl|rfl|rfl|rfl|rfl|rfl|rfl|rfl|rfl|rfl|rfl|rfl|rfl|rfl|rfl|rfl|rfl|rfl|rfl|rfl|rfl|rfl|rfl|rfl|rfl|rfl|rfl
 all_goals (unfold Oo;go_in)
 all_goals go_wp2_with fail
 all_goals go_ret
 all_goals exact⟨rfl,rfl⟩
theorem Lh(s:ByteArray)(w:World)(h:s.data.toList∉V7):Calls prog 137 #[.string s] w fun e w'=>e=.returned (.bool (PS s.data.toList))/\w'=w:=by
 have hq:∀t∈V7,(s.toList==t)=false:=fun t ht=>Nh (fun e=>h (by rw[e];exact ht));have j:=Hd (KH s.data.toList);clear h;have z0:=hq [66,111,111,108] (by decide);have z1:=hq [73,110,116] (by decide);have z2:=hq [82,101,97,108] (by decide);have z3:=hq [66,105,116,86,101,99] (by decide);have z4:=hq [65,114,114,97,121] (by decide);have z5:=hq [95] (by decide);have z6:=hq [108,101,116] (by decide);have z7:=hq [97,115] (by decide);have z8:=hq [116,114,117,101] (by decide);have z9:=hq [102,97,108,115,101] (by decide);have q:=hq [110,111,116] (by decide);have E:=hq [97,110,100] (by decide);have G:=hq [111,114] (by decide);have J:=hq [120,111,114] (by decide);have K:=hq [61,62] (by decide);have O:=hq [105,116,101] (by decide);have R:=hq [61] (by decide);have V:=hq [100,105,115,116,105,110,99,116] (by decide);have Y:=hq [43] (by decide);have Z:=hq [45] (by decide);have z20:=hq [42] (by decide);have z21:=hq [47] (by decide);have a1:=hq [60,61] (by decide);have a7:=hq [60] (by decide);have a8:=hq [62,61] (by decide);have b0:=hq [62] (by decide);have b1:=hq [100,105,118] (by decide);have b2:=hq [109,111,100] (by decide);have b3:=hq [116,111,95,114,101,97,108] (by decide);have b4:=hq [115,101,108,101,99,116] (by decide);have b5:=hq [115,116,111,114,101] (by decide);have b6:=hq [99,111,110,99,97,116] (by decide);have b7:=hq [101,120,116,114,97,99,116] (by decide);have b8:=hq [122,101,114,111,95,101,120,116,101,110,100] (by decide);have b9:=hq [115,105,103,110,95,101,120,116,101,110,100] (by decide);have c6:=hq [114,111,116,97,116,101,95,108,101,102,116] (by decide);have c8:=hq [114,111,116,97,116,101,95,114,105,103,104,116] (by decide);have z37:=hq [114,101,112,101,97,116] (by decide);clear hq
 go_in
 go_wp2_with fail
 refine(Tryz.strings_HasPrefix s ⟨#[98,118]⟩ _).mono ?_;rintro e w1 ⟨rfl,rfl⟩
 go_wp2
 go_ret
 exact⟨Oz j.o,rfl⟩
theorem S4(s:ByteArray)(w:World):Calls prog 137 #[.string s] w fun e w'=>e=.returned (.bool (N7 s.data.toList))/\w'=w:=by
 by_cases h:s.data.toList∈V7
 ·have e:N7 s.data.toList=true:=by unfold N7;rw[Vn];right;simpa using h
  have j:=Bm w _ h;rw[Uc]at j;rw[e];exact j
 have e:N7 s.data.toList=PS s.data.toList:=by
  unfold N7;have:V7.contains s.data.toList=false:=by rw[Yb];intro q;exact h (by simpa using q)
  rw[this,Bool.or_false]
 rw[e];exact Lh s w h
theorem Cy(s:ByteArray)(w:World)(hs:s.size<=maxLen) :
 Calls prog 119 #[.string s] w fun e w'=>e=.returned (.bool (K1 s.data.toList))/\w'=w:=by
 have F:Hid (K1 s.data.toList=(Kj s.data.toList&&!N7 s.data.toList)):=rfl
 cases h:Kj s.data.toList
 ·have j:=Hd h
  go_in
  go_wp2_with (go_at_call 136;refine(Rk _ _ hs).mono ?_;rw[h];rintro e w' ⟨rfl,rfl⟩)
  go_ret
  exact⟨Oz (by rw[F.o,j.o];rfl),rfl⟩
 have j:=Hd h
 go_in
 go_wp2_with (first|(go_at_call 136;refine(Rk _ _ hs).mono ?_;rw[h];rintro e w' ⟨rfl,rfl⟩)|(go_at_call 137;refine(S4 _ _).mono ?_;rintro e w' ⟨rfl,rfl⟩))
 go_ret
 exact⟨Oz (by rw[F.o,j.o];rfl),rfl⟩
def EV(w:World):Prop:=(∃ev,w.cell? ⟨4,0,none⟩=some ev/\(ev=.nilIface∨∃te pe,ev=.iface te pe))/\(∃ev,w.cell? ⟨5,0,none⟩=some ev/\(ev=.nilIface∨∃te pe,ev=.iface te pe))
theorem EV.bl{N:Nat}(h:EV w)(hb:Below N w w')(h1:4<N)(h2:5<N):EV w':=by
 obtain⟨⟨j,c1,E⟩,q,c2,k2⟩:=h;exact⟨⟨j,(hb.cell (p:=⟨4,0,none⟩) h1).trans c1,E⟩,q,(hb.cell (p:=⟨5,0,none⟩) h2).trans c2,k2⟩
theorem EV.lt(h:EV w):4<w.heap.size/\5<w.heap.size:=by
 obtain⟨⟨j,c1,_⟩,q,c2,_⟩:=h;exact⟨J3 w _ c1,J3 w _ c2⟩
theorem EV.next(h:EV w)(hb:Up w w'):EV w':=h.bl hb h.lt.1 h.lt.2
theorem Sq:∀w:Fin 65,Lib.decDigits w.val=Le w.val:=fun w=>by
 unfold Le
 unfold Lib.decDigits
 by_cases h:w.val<10
 ·rw[dif_pos h,if_pos h]
 rw[dif_neg h,if_neg h]
 unfold Lib.decDigits
 rw[dif_pos (by omega)]
 rfl
theorem XY(n:Nat)(h:n<65):(⟨#[40,95,32,66,105,116,86,101,99,32]⟩++⟨(Lib.decDigits n).toArray⟩++⟨#[41]⟩:ByteArray)=Oo (Ex n):=by
 rw[Sq ⟨n,h⟩];apply ByteArray.ext;apply Array.ext';simp[Oo,Ex,F8]
theorem Q7(n:Nat)(w:World)(h:n<65) :
 Calls prog 182 #[.int .i64 (n:Nat)] w fun e w'=>e=.returned (.string (Oo (Ex n)))/\w'=w:=by
 have j:=Hd (XY n h)
 go_in
 go_wp2_with fail
 refine(Tryz.strconv_Itoa_small n (by omega) _).mono ?_;rintro e w1 ⟨rfl,rfl⟩;have q:(⟨(Lib.decDigits n).toArray⟩:ByteArray).size<=2:=by
  rw[Sq ⟨n,h⟩];unfold Le
  split<;>simp[ByteArray.size]
 generalize (⟨(Lib.decDigits n).toArray⟩:ByteArray)=D at j q ⊢
 go_wp2
 go_ret
 exact⟨Oa (by rw[j.o];rfl),rfl⟩
theorem KU:∀w:Fin 65,0<w.val->Lib.atoiAll (Lib.trimSuffix ((Ex w.val).drop 10) [41])=.ok (w.val:Int):=by decide +kernel
theorem Ko(t p:List UInt8):Lib.hasPrefix t p=decide (t.take p.length=p):=by
 unfold Lib.hasPrefix;rw[J8,Jv,List.isPrefixOf_iff_prefix,List.prefix_iff_eq_take];exact⟨fun h=>h.symm,fun h=>h.symm⟩
theorem VB(h:t.take 10≠F8):K3 t=0:=PH (fun hb=>h hb.2.1)
theorem Ir(h:0<K3 t):Lib.atoiAll (Lib.trimSuffix (t.drop 10) [41])=.ok (K3 t:Int)/\t=Ex (K3 t)/\K3 t<65:=by
 obtain⟨w,q,j,e,E⟩:=Ns h;rw[E];refine⟨?_,e,j⟩;rw[e];exact KU ⟨w,j⟩ q
theorem LV{n:Nat}(h0:0<n)(h1:n<65)(h:Ex n=t):K3 t=n:=by rw[<-h];exact Bu ⟨n,h1⟩ h0
theorem PU(h:t.take 10=F8):Lib.trimPrefix t F8=t.drop 10:=by
 unfold Lib.trimPrefix;rw[Ko,Jb (by exact h)];rfl
theorem IU(t p:List UInt8):(Lib.trimSuffix t p).length<=t.length:=by
 unfold Lib.trimSuffix
 split
 ·rw[J7];omega
 exact leR
theorem Wc(s:ByteArray)(w:World)(hs:s.size<=1048576)(hev:EV w) :
 Calls prog 165 #[.string s] w fun e w'=>e=.returned (.int .i64 (K3 s.data.toList:Nat))/\Up w w':=by
 have K:=Hd hev;clear hev
 by_cases hp:s.data.toList.take 10=F8
 ·have q:Hid (Lib.hasPrefix s.data.toList F8=true):=by unfold Hid;rw[Ko];exact Jb hp
  have Y:=Hd (PU hp);clear hp
  go_in
  go_wp2_with fail
  refine(Tryz.strings_CutPrefix s ⟨#[40,95,32,66,105,116,86,101,99,32]⟩ _).mono ?_
  change ∀(e:Ending) (w':World),(e=.returned (.tuple #[.string ⟨(Lib.trimPrefix s.data.toList F8).toArray⟩,.bool (Lib.hasPrefix s.data.toList F8)])/\w'=w)->_
  rw[q.o,Y.o];rintro e w1 ⟨rfl,rfl⟩;obtain⟨D,Z⟩:∃D:ByteArray,(⟨(s.data.toList.drop 10).toArray⟩:ByteArray)=D:=⟨_,rfl⟩;have HD:Hid (D.data.toList=s.data.toList.drop 10):=by unfold Hid;rw[<-Z]
  have b6:D.size<=1048576:=by rw[<-Oc,HD.o,Yr,Oc];omega
  rw[Z];clear Z
  go_wp2_with fail
  refine(Tryz.strings_TrimSuffix D ⟨#[41]⟩ _ (by omega)).mono ?_
  change ∀(e:Ending) (w':World),(e=.returned (.string ⟨(Lib.trimSuffix D.data.toList [41]).toArray⟩)/\w'=w1)->_
  rw[HD.o];rintro e w1 ⟨rfl,rfl⟩;obtain⟨E,hE⟩:∃E:ByteArray,(⟨(Lib.trimSuffix (s.data.toList.drop 10) [41]).toArray⟩:ByteArray)=E:=⟨_,rfl⟩;have R:Hid (E.data.toList=Lib.trimSuffix (s.data.toList.drop 10) [41]):=by unfold Hid;rw[<-hE]
  have b7:E.size<=1048576:=by
   rw[<-Oc,R.o];have h1:=IU (s.data.toList.drop 10) [41];rw[Yr,Oc]at h1;omega
  rw[hE];clear hE
  go_wp2_with fail
  rcases ha:Lib.atoiAll E.data.toList with v|_|_
  ·refine(Tryz.strconv_Atoi_ok E (by omega) v ha _).mono ?_;rintro e w2 ⟨rfl,O⟩;have h:Hid (Up w1 w2):=by
    rcases O with rfl|⟨t,rfl⟩
    ·exact Ji _ _
    exact Lib.bytesWorld_below _ _ _
   have J:Hid (∀h0:0<K3 s.data.toList,v=(K3 s.data.toList:Int)):=fun h0=>by
    have:=(Ir h0).1;rw[<-R.o,ha]at this
    cases this
    rfl
   clear O ha
   by_cases G:1<=v/\v<=64
   ·have a8:=G.1;have b0:=G.2;obtain⟨n,rfl⟩:∃n:Nat,v=n:=⟨v.toNat,by omega⟩;clear G
    by_cases hn:Ex n=s.data.toList
    ·have F:Hid (K3 s.data.toList=n):=LV (by omega) (by omega) hn;have y:((Oo (Ex n)).toList==s.toList)=true:=by rw[Jk,Jk,Ov,hn];simp
     have j:Hid (∀W,Calls prog 182 #[.int .i64 (n:Nat)] W fun e w'=>e=.returned (.string (Oo (Ex n)))/\w'=W):=fun W=>Q7 n W (by omega);clear hn;generalize Oo (Ex n)=U at y j
     go_wp2_with (go_at_call 182;refine(j.o _).mono ?_;rintro e w' ⟨rfl,rfl⟩)
     go_ret
     exact⟨O8 (by rw[F.o]),h.o⟩
    have F:Hid (K3 s.data.toList=0):=by
     unfold Hid
     rcases Z4 (K3 s.data.toList)with h0|h0
     ·exact h0
     have h3:=J.o h0;have h4:=(Ir h0).2.1;exact absurd (by rw[show n=K3 s.data.toList by omega];exact h4.symm) hn
    have y:((Oo (Ex n)).toList==s.toList)=false:=by rw[Jk,Jk,Ov,Jc];exact hn
    have j:Hid (∀W,Calls prog 182 #[.int .i64 (n:Nat)] W fun e w'=>e=.returned (.string (Oo (Ex n)))/\w'=W):=fun W=>Q7 n W (by omega);clear hn;generalize Oo (Ex n)=U at y j
    go_wp2_with (go_at_call 182;refine(j.o _).mono ?_;rintro e w' ⟨rfl,rfl⟩)
    go_ret
    exact⟨O8 (by rw[F.o];rfl),h.o⟩
   have F:Hid (K3 s.data.toList=0):=by
    unfold Hid
    rcases Z4 (K3 s.data.toList)with h0|h0
    ·exact h0
    have h3:=J.o h0;have h4:=(Ir h0).2.2;exact absurd ⟨by omega,by omega⟩ G
   by_cases a8:v<1
   ·clear G
    go_wp2
    go_ret
    exact⟨O8 (by rw[F.o];rfl),h.o⟩
   have b0:64<v:=by omega
   have b8:1<=v:=by omega
   clear G
   go_wp2
   go_ret
   exact⟨O8 (by rw[F.o];rfl),h.o⟩
  ·have F:Hid (K3 s.data.toList=0):=by
    unfold Hid
    rcases Z4 (K3 s.data.toList)with h0|h0
    ·exact h0
    have:=(Ir h0).1;rw[<-R.o,ha]at this;cases this
   obtain⟨ev,hev,hk⟩:=K.o.1;refine(Tryz.strconv_Atoi_syntax E (by omega) ha ev _ hev hk).mono ?_;rintro e w2 ⟨N,rfl,_,_,hb2⟩;have h:=Hd hb2;clear hb2 ha
   go_wp2
   go_ret
   exact⟨O8 (by rw[F.o];rfl),h.o⟩
  have F:Hid (K3 s.data.toList=0):=by
   unfold Hid
   rcases Z4 (K3 s.data.toList)with h0|h0
   ·exact h0
   have:=(Ir h0).1;rw[<-R.o,ha]at this;cases this
  obtain⟨ev,hev,hk⟩:=K.o.2;refine(Tryz.strconv_Atoi_range E (by omega) ha ev _ hev hk).mono ?_;rintro e w2 ⟨N,rfl,_,_,hb2⟩;have h:=Hd hb2;clear hb2 ha;generalize Lib.atoiSat E.data.toList=V
  go_wp2
  go_ret
  exact⟨O8 (by rw[F.o];rfl),h.o⟩
 have F:Hid (K3 s.data.toList=0):=VB hp;have q:Hid (Lib.hasPrefix s.data.toList F8=false):=by unfold Hid;rw[Ko];exact Jd hp
 clear hp
 go_in
 go_wp2_with fail
 refine(Tryz.strings_CutPrefix s ⟨#[40,95,32,66,105,116,86,101,99,32]⟩ _).mono ?_
 change ∀(e:Ending) (w':World),(e=.returned (.tuple #[.string ⟨(Lib.trimPrefix s.data.toList F8).toArray⟩,.bool (Lib.hasPrefix s.data.toList F8)])/\w'=w)->_
 rw[q.o];rintro e w1 ⟨rfl,rfl⟩;generalize (⟨(Lib.trimPrefix s.data.toList F8).toArray⟩:ByteArray)=D
 go_wp2
 go_ret
 exact⟨O8 (by rw[F.o];rfl),Ji _ _⟩
theorem G2:Maps.Keyed prog 9:=Maps.string_keyed underlying9
theorem Eo(s:ByteArray)(hs:s.size<=maxLen):keyOf prog 9 (.string s)=some (.string s.data.toList):=Go.WideMaps.keyOf_string_mk underlying9 hs
def Gk(w:World)(b:Nat)(f:List UInt8->Option Nat):Prop:=
 ∃(n:Nat) (D:DataW Unit),n<=1000000/\w.ownsMap prog 9 (plainElem prog 3) b n D/\∀s,Maps.has D (.string s)=(f s).isSome/\∀i,f s=some i->D.atKey (.string s) (.lit (.int .i64 0))=.lit (.int .i64 (i:Nat))
theorem Sa(kb b:Nat)(f:List UInt8->Option Nat)(s:ByteArray)(w:World)(hc:w.cell? ⟨kb,3,none⟩=some (.map (some b)))(hm:Gk w b f)(hs:s.size<=maxLen) :
 Calls prog 139 #[.pointer (some ⟨kb,0,none⟩),.string s] w fun e w'=>e=.returned (.bool (f s.data.toList).isSome)/\w'=w:=by
 obtain⟨n,D,hn,h,G⟩:=hm;have j:=Hd h;have J:=Hd G;clear h G
 go_in
 go_wp2_with (at_lookup;refine wpList_lookup_own_ok_int _ rfl _ _ 56 rfl 9 3 .i64 G2 underlying56 underlying3 ?z b n D rfl j.o _ _ rfl (Eo s hs) ?_)
 case z=>rfl
 intro c q E;rw[(J.o s.data.toList).1];clear q E
 go_wp2
 go_ret
 exact⟨rfl,rfl⟩
def RK:List Value->Option (DataW Unit×List MemPlace)
 | [.int .i64 a,.int .i64 b,.string c,.string d]=>some (.agg [.lit (.int .i64 a),.lit (.int .i64 b),.lit (.string c.data.toList),.lit (.string d.data.toList)],[])
 | _=>none
def Xw:Value->Option (DataW Unit×List MemPlace)
 | .agg cs=>RK cs.toList
 | _=>none
def ID(x:SI):DataW Unit:=.agg [.lit (.int .i64 x.kind),.lit (.int .i64 (x.width:Nat)),.lit (.string x.index),.lit (.string x.elem)]
theorem Py(x:SI):Xw (Gu x)=some (ID x,[]):=by
 show some (_,_)=some (_,_)
 unfold ID;rw[Ov,Ov]
theorem Fc{v:Value}{x:SI}{ps:List MemPlace}(h:Xw v=some (ID x,ps)):v=Gu x:=by
 cases v with
 | agg cs=>
   have j:RK cs.toList=some (ID x,ps):=h;unfold RK at j
   split at j
   ·rename_i a b c d e;simp only[Option.some.injEq,Prod.mk.injEq,ID,DataW.agg.injEq,List.cons.injEq,DataW.lit.injEq,Lit.int.injEq,Lit.string.injEq,true_and]at j;obtain⟨⟨rfl,rfl,q,E,_⟩,_⟩:=j;unfold Gu;rw[<-q,<-E,Uc,Uc,<-e]
   cases j
 | _=>cases h
theorem Hg(own:List UInt8->Bool)(t:List UInt8):0<=(Oi own t).kind/\(Oi own t).kind<=5:=by
 unfold Oi
 split
 ·exact⟨by decide,by decide⟩
 split
 ·exact⟨by decide,by decide⟩
 split
 ·exact⟨by decide,by decide⟩
 split
 ·exact⟨by show(0:Int)<=4;decide,by show(4:Int)<=5;decide⟩
 split
 ·split
  ·exact⟨by decide,by decide⟩
  exact⟨by decide,by decide⟩
 exact⟨by decide,by decide⟩
theorem Qt(own:List UInt8->Bool)(t:List UInt8):Of (Oi own t)=true↔(Oi own t).kind≠0/\(Oi own t).kind≠1:=by
 have:=Hg own t;simp only[Of,Jw,J1];omega
theorem Lu{w1:World}{ty:TypeId}{a0 a1 a2 a3:Value}(hb:Below (w.heap.size+1) (w.alloc (.cells #[a0,a1,a2,a3] ty)) w1):Bx w1 w.heap.size [a0,a1,a2,a3]:=(Oq w [a0,a1,a2,a3] ty).bl (N:=w.heap.size+1) (by omega) hb
theorem Du(v:Value)(L:List (List UInt8))(s:ByteArray)(w:World)(h:O4 w v L)(hs:s.size<=1048576)(hn:¬ (8<s.data.toList.length/\s.data.toList.take 7=U0/\s.data.toList.getLast? = some 41)) :
 Calls prog 85 #[v,.string s] w fun e w'=>e=.returned (Gu (Oi (On L) s.data.toList))/\Up w w':=by
 have HS:=Hd h;have HN:=Hd hn;clear h hn
 go_in
 by_cases a8:8<s.size
 ·by_cases hb2:s.data.toList.take 7=U0
  case' pos=>
   have y1:((s.extract 0 7).toList==[40,65,114,114,97,121,32])=true:=by rw[Kt,hb2];rfl
   have y2:(((s[s.size - 1]'(by omega)).toNat:Int)==41)=false:=by
    rw[Jc];intro e;exact HN.o ⟨by rw[Oc];exact a8,hb2,by rw[Hb (by omega),E3 (c:=s[s.size - 1]'(by omega)) (n:=41) (by omega)];rfl⟩
  case' neg=>
   have y1:((s.extract 0 7).toList==[40,65,114,114,97,121,32])=false:=by rw[Kt,Jc];exact hb2
  all_goals
   clear hb2
   go_wp2_with fail
   refine(G7 v L s _ (HS.o.bl (Oy _ _)) hs).mono ?_;obtain⟨X,K⟩:=O2 (Oi (On L) s.data.toList);have J:=Hd K;rw[K];clear K;rintro e w1 ⟨rfl,hb⟩;have q:Below (w.heap.size+1) (w.alloc (.cells #[.int .i64 0,.int .i64 0,.string ⟨#[]⟩,.string ⟨#[]⟩] 145)) w1:=FS hb
   have j:=Lu q;have G:=Hd j;have E:Hid (Up w w1):=(Oy w _).trans (q.mono (by omega));obtain⟨c0,c1,c2,c3⟩:=j.c4;obtain⟨f0,f1,f2,f3⟩:=j.f4;clear hb q j;unfold Gu
   go_wp2_with fail
   have O:=((((G.o.set 0 (.int .i64 X.kind)).set 1 (.int .i64 (X.width:Nat))).set 2 (.string (Oo X.index))).set 3 (.string (Oo X.elem)));obtain⟨R,V,Y,Z⟩:=O.c4;refine Jl (v:=.agg #[.int .i64 X.kind,.int .i64 (X.width:Nat),.string (Oo X.index),.string (Oo X.elem)]) ?_ rfl ⟨Oa (by rw[J.o];rfl),?_⟩
   ·clear c0 c1 c2 c3 f0 f1 f2 f3;simp[results,results85,go_sem,R,V,Y,Z]
   exact(((E.o.sc).sc).sc).sc
 go_wp2_with fail
 refine(G7 v L s _ (HS.o.bl (Oy _ _)) hs).mono ?_;obtain⟨X,K⟩:=O2 (Oi (On L) s.data.toList);have J:=Hd K;rw[K];clear K;rintro e w1 ⟨rfl,hb⟩;have q:Below (w.heap.size+1) (w.alloc (.cells #[.int .i64 0,.int .i64 0,.string ⟨#[]⟩,.string ⟨#[]⟩] 145)) w1:=FS hb
 have j:=Lu q;have G:=Hd j;have E:Hid (Up w w1):=(Oy w _).trans (q.mono (by omega));obtain⟨c0,c1,c2,c3⟩:=j.c4;obtain⟨f0,f1,f2,f3⟩:=j.f4;clear hb q j;unfold Gu
 go_wp2_with fail
 have O:=((((G.o.set 0 (.int .i64 X.kind)).set 1 (.int .i64 (X.width:Nat))).set 2 (.string (Oo X.index))).set 3 (.string (Oo X.elem)));obtain⟨R,V,Y,Z⟩:=O.c4;refine Jl (v:=.agg #[.int .i64 X.kind,.int .i64 (X.width:Nat),.string (Oo X.index),.string (Oo X.elem)]) ?_ rfl ⟨Oa (by rw[J.o];rfl),?_⟩
 ·clear c0 c1 c2 c3 f0 f1 f2 f3;simp[results,results85,go_sem,R,V,Y,Z]
 exact(((E.o.sc).sc).sc).sc
theorem Tv(s:ByteArray)(i:Nat)(x:Int)(w:World)(hx:x=(i:Nat))(hs:s.size<=maxLen)(hi:i<=maxLen) :
 Calls prog 107 #[.string s,.int .i64 x] w fun e w'=>e=.returned (.int .i64 (Kq s.data.toList i))/\w'=w:=by
 subst hx;exact Cd s i w hs hi
theorem U4{a b:Int}(h:a=b):@bne Int (@instBEqOfDecidableEq Int Int.instDecidableEq) a b=false:=by simp[h]
theorem Un{a b:Int}(h:¬ a=b):@bne Int (@instBEqOfDecidableEq Int Int.instDecidableEq) a b=true:=by simp[h]
theorem My{s:ByteArray}{k:Nat}(h:k<s.size):(s.data.toList.drop k).head? = some s[k]:=by
 rw[X6 (by rw[Oc];exact h)];rfl
theorem EI{s:ByteArray}{k:Nat}(h:s.size<=k):(s.data.toList.drop k).head? = none:=by
 rw[Yj (by rw[Oc];exact h)];rfl
def We(own:List UInt8->Bool)(t:List UInt8)(k:Nat):SI:=
 if(t.drop (7+k)).head? = some 32 then
  match U8 (t.drop (7+k+1))with
  | none=>SI.none
  | some m=>
    if 7+k+1+m+1=t.length then
     if Of (Oi own ((t.drop 7).take k))&&Of (Oi own ((t.drop (7+k+1)).take m))then⟨6,0,(t.drop 7).take k,(t.drop (7+k+1)).take m⟩else SI.none
    else SI.none
 else SI.none
theorem RG{own:List UInt8->Bool}(h:8<t.length/\t.take 7=U0/\t.getLast? = some 41):Ec own t=match U8 (t.drop 7)with|none=>SI.none|some k=>We own t k:=by
 unfold Ec;rw[if_pos h];rfl
theorem Av(v:Value)(L:List (List UInt8))(s:ByteArray)(w:World)(h:O4 w v L)(hs:s.size<=1048576)(hc:8<s.data.toList.length/\s.data.toList.take 7=U0/\s.data.toList.getLast? = some 41) :
 Calls prog 85 #[v,.string s] w fun e w'=>e=.returned (Gu (Ec (On L) s.data.toList))/\Up w w':=by
 have HS:=Hd h;have b8:=Hd (RG (own:=On L) hc);have g9:8<s.size:=by have:=hc.1;rw[Oc]at this;exact this
 have y1:((s.extract 0 7).toList==[40,65,114,114,97,121,32])=true:=by rw[Kt,hc.2.1];rfl
 have hl:(s[s.size - 1]'(by omega)).toNat=41:=by have:=hc.2.2;rw[Hb (by omega)]at this;rw[Option.some.inj this];rfl
 have y2:(((s[s.size - 1]'(by omega)).toNat:Int)==41)=true:=by rw[J2];omega
 clear h hc hl
 go_in
 go_wp2_with fail
 refine(Cd s 7 _ (by unfold maxLen;omega) (by unfold maxLen;omega)).mono ?_
 cases hk:U8 (s.data.toList.drop 7)with
 | none=>
   have q:Hid (Ec (On L) s.data.toList=SI.none):=by unfold Hid;rw[b8.o,hk]
   have hp:Kq s.data.toList 7 = -1:=by unfold Kq;rw[hk]
   rw[hp];clear hp hk;rintro e w1 ⟨rfl,rfl⟩
   go_wp2_with fail
   refine Jl (v:=.agg #[.int .i64 0,.int .i64 0,.string ⟨#[]⟩,.string ⟨#[]⟩]) ?_ rfl ⟨Oa (by rw[q.o];rfl),Oy _ _⟩;simp[results,results85,go_sem]
 | some k=>
   have b3:Hid (Ec (On L) s.data.toList=We (On L) s.data.toList k):=by unfold Hid;rw[b8.o,hk]
   have Z:=C5 hk;rw[Yr,Oc]at Z;obtain⟨A,hA⟩:=O2 (7+k);have HA:=Hd hA;have hp:Kq s.data.toList 7=(A:Int):=by unfold Kq;rw[hk];simp only[];omega
   have g5:7<=A:=by omega
   have g7:A<=s.size:=by omega
   rw[hp];clear hp hk Z hA;rintro e w1 ⟨rfl,rfl⟩
   by_cases e7:s.size<=A
   ·have q:Hid (Ec (On L) s.data.toList=SI.none):=by
     unfold Hid;rw[b3.o];unfold We;rw[HA.o,EI e7];rfl
    have zl:decide ((s.size:Int)<=(A:Int))=true:=dT (by omega)
    go_wp2_with fail
    refine Jl (v:=.agg #[.int .i64 0,.int .i64 0,.string ⟨#[]⟩,.string ⟨#[]⟩]) ?_ rfl ⟨Oa (by rw[q.o];rfl),Oy _ _⟩;simp[results,results85,go_sem]
   have b7:A<s.size:=by omega
   by_cases c6:¬ s[A].toNat=32
   ·have q:Hid (Ec (On L) s.data.toList=SI.none):=by
     unfold Hid;rw[b3.o];unfold We;rw[HA.o,My b7,if_neg (fun e=>c6 (by rw[Option.some.inj e];rfl))]
    have x1:((s[A].toNat:Int)==32)=false:=by rw[Jc];omega
    have x2:¬ (s[A].toNat:Int)=32:=by omega
    have x3:=Un x2;clear c6
    go_wp2_with fail
    refine Jl (v:=.agg #[.int .i64 0,.int .i64 0,.string ⟨#[]⟩,.string ⟨#[]⟩]) ?_ rfl ⟨Oa (by rw[q.o];rfl),Oy _ _⟩;simp[results,results85,go_sem]
   have b6:s[A].toNat=32:=by omega
   have b4:Hid (Ec (On L) s.data.toList=match U8 (s.data.toList.drop (A+1))with|none=>SI.none|some m=>if A+1+m+1=s.size then(if Of (Oi (On L) (s.extract 7 A).data.toList)&&Of (Oi (On L) ((s.data.toList.drop (A+1)).take m))then⟨6,0,(s.extract 7 A).data.toList,(s.data.toList.drop (A+1)).take m⟩else SI.none)else SI.none):=by
    unfold Hid;rw[b3.o];unfold We;rw[HA.o,My b7,if_pos (by rw[E3 b6];rfl),Oc];have e:(s.extract 7 A).data.toList=(s.data.toList.drop 7).take k:=by
     rw[Hn,Vh]
     congr 1
     have:=HA.o;omega
    rw[e]
   have x1:((s[A].toNat:Int)==32)=true:=by rw[J2];omega
   have e6:Hid ((s[A].toNat:Int)=32):=by unfold Hid;omega
   have x3:=U4 e6.o;clear c6 b6 b8 b3
   go_wp2_with fail
   refine(Tv s (A+1) _ _ (by push_cast;rfl) (by unfold maxLen;omega) (by unfold maxLen;omega)).mono ?_
   cases hm:U8 (s.data.toList.drop (A+1))with
   | none=>
     have q:Hid (Ec (On L) s.data.toList=SI.none):=by unfold Hid;rw[b4.o,hm]
     have hp:Kq s.data.toList (A+1) = -1:=by unfold Kq;rw[hm]
     rw[hp];clear hp hm;have x4:=Un (a:=(-1:Int)) (b:=(s.size:Int) - 1) (by omega);rintro e w1 ⟨rfl,rfl⟩
     go_wp2_with fail
     refine Jl (v:=.agg #[.int .i64 0,.int .i64 0,.string ⟨#[]⟩,.string ⟨#[]⟩]) ?_ rfl ⟨Oa (by rw[q.o];rfl),Oy _ _⟩;simp[results,results85,go_sem]
   | some m=>
     have Z:=C5 hm;rw[Yr,Oc]at Z;obtain⟨B,hB⟩:=O2 (A+1+m);have HB:=Hd hB;have hp:Kq s.data.toList (A+1)=(B:Int):=by unfold Kq;rw[hm];simp only[];omega
     have g6:A+1<=B:=by omega
     have g8:B<=s.size:=by omega
     rw[hp]
     by_cases c8:¬ B+1=s.size
     ·have q:Hid (Ec (On L) s.data.toList=SI.none):=by unfold Hid;rw[b4.o,hm];simp only[];rw[hB,if_neg c8]
      have x4:=Un (a:=(B:Int)) (b:=(s.size:Int) - 1) (by omega);clear hp hm Z hB c8;rintro e w1 ⟨rfl,rfl⟩
      go_wp2_with fail
      refine Jl (v:=.agg #[.int .i64 0,.int .i64 0,.string ⟨#[]⟩,.string ⟨#[]⟩]) ?_ rfl ⟨Oa (by rw[q.o];rfl),Oy _ _⟩;simp[results,results85,go_sem]
     have x4:=U4 (a:=(B:Int)) (b:=(s.size:Int) - 1) (by omega);have HE:Hid (Ec (On L) s.data.toList=if Of (Oi (On L) (s.extract 7 A).data.toList)&&Of (Oi (On L) (s.extract (A+1) B).data.toList)then⟨6,0,(s.extract 7 A).data.toList,(s.extract (A+1) B).data.toList⟩else SI.none):=by
      have e:(s.data.toList.drop (A+1)).take m=(s.extract (A+1) B).data.toList:=by
       rw[Hn,Vh]
       congr 1
       omega
      unfold Hid;rw[b4.o,hm];simp only[];rw[hB,if_pos (by omega),e]
     clear hp hm Z hB c8 b4;rintro e w1 ⟨rfl,rfl⟩
     go_wp2_with fail
     have d9:(s.extract 7 A).size<=1048576:=by rw[Yn];omega
     have d8:(s.extract (A+1) B).size<=1048576:=by rw[Yn];omega
     generalize s.extract 7 A=J at HE d9 ⊢;generalize s.extract (A+1) B=SE at HE d8 ⊢;refine(G7 v L J _ (HS.o.bl (Oy _ _)) d9).mono ?_;have e9:=Hg (On L) J.data.toList;have d2:=Qt (On L) J.data.toList;generalize Oi (On L) J.data.toList=X at HE e9 d2 ⊢;rintro e w1 ⟨rfl,hb⟩;have E:Below (w.heap.size+1) (w.alloc (.cells #[.int .i64 0,.int .i64 0,.string ⟨#[]⟩,.string ⟨#[]⟩] 145)) w1:=FS hb
     have d4:=Hd (Lu E);have a1:Hid (Up w w1):=(Oy w _).trans (E.mono (by omega));have f9:w.heap.size+1<=w1.heap.size:=by have:=E.size;rw[Ju]at this;exact this
     have a8:=Hd d2;clear hb E d2;unfold Gu
     go_wp2_with fail
     refine(G7 v L SE _ (HS.o.bl (a1.o.trans ((Oy w1 _).mono a1.o.size))) d8).mono ?_;have e8:=Hg (On L) SE.data.toList;have d1:=Qt (On L) SE.data.toList;generalize Oi (On L) SE.data.toList=Y at HE e8 d1 ⊢;rintro e w2 ⟨rfl,hb⟩;have a7:=Hd d1;have E:Below (w1.heap.size+1) (w1.alloc (.cells #[.int .i64 X.kind,.int .i64 (X.width:Nat),.string (Oo X.index),.string (Oo X.elem)] 145)) w2:=FS hb
     have e4:=Lu E;have g2:w1.heap.size+1<=w2.heap.size:=by have:=E.size;rw[Ju]at this;exact this
     have b1:Up w1 w2:=(Oy w1 _).trans (E.mono (by omega));have b5:Bx w2 w.heap.size [.int .i64 0,.int .i64 0,.string ⟨#[]⟩,.string ⟨#[]⟩]:=d4.o.bl (N:=w1.heap.size) (by omega) b1;have x0:=e4.cell 0;simp only[Jr]at x0;have b0:=Hd b5;have G:=a1.up b1;obtain⟨c0,c1,c2,c3⟩:=b5.c4;obtain⟨f0,f1,f2,f3⟩:=b5.f4;have g1:w1.heap.size<w2.heap.size:=by omega
     have g0:w.heap.size<w2.heap.size:=by omega
     clear hb E e4 b1 b5 d1;unfold Gu
     by_cases k1:X.kind=0
     ·skip
      have q:Hid (Ec (On L) s.data.toList=SI.none):=by
       unfold Hid;rw[HE.o,if_neg];rw[Jw,a8.o,a7.o];omega
      have z1:(X.kind==0)=true:=by rw[J2];omega
      go_wp2_with fail
      have j:=((((b0.o.set 0 (.int .i64 0)).set 1 (.int .i64 0)).set 2 (.string ⟨#[]⟩)).set 3 (.string ⟨#[]⟩));have K:=fun o=>(j.alloc o).cell 0;have O:=fun o=>(j.alloc o).cell 1;have R:=fun o=>(j.alloc o).cell 2;have V:=fun o=>(j.alloc o).cell 3;simp only[Je,Jf,Jr,Jy]at K O R V;refine Jl (v:=.agg #[.int .i64 0,.int .i64 0,.string ⟨#[]⟩,.string ⟨#[]⟩]) ?_ rfl ⟨Oa (by rw[q.o];rfl),?_⟩
      ·clear c0 c1 c2 c3 f0 f1 f2 f3;simp[results,results85,go_sem,K,O,R,V]
      exact((((G.o.sc).sc).sc).sc).alloc (by simp only[Vm];omega) _
     have z1:(X.kind==0)=false:=by rw[Jc];exact k1
     by_cases k2:Y.kind=0
     ·skip
      have q:Hid (Ec (On L) s.data.toList=SI.none):=by
       unfold Hid;rw[HE.o,if_neg];rw[Jw,a8.o,a7.o];omega
      have z2:(Y.kind==0)=true:=by rw[J2];omega
      go_wp2_with fail
      have j:=((((b0.o.set 0 (.int .i64 0)).set 1 (.int .i64 0)).set 2 (.string ⟨#[]⟩)).set 3 (.string ⟨#[]⟩));have K:=fun o=>(j.alloc o).cell 0;have O:=fun o=>(j.alloc o).cell 1;have R:=fun o=>(j.alloc o).cell 2;have V:=fun o=>(j.alloc o).cell 3;simp only[Je,Jf,Jr,Jy]at K O R V;refine Jl (v:=.agg #[.int .i64 0,.int .i64 0,.string ⟨#[]⟩,.string ⟨#[]⟩]) ?_ rfl ⟨Oa (by rw[q.o];rfl),?_⟩
      ·clear c0 c1 c2 c3 f0 f1 f2 f3;simp[results,results85,go_sem,K,O,R,V]
      exact((((G.o.sc).sc).sc).sc).alloc (by simp only[Vm];omega) _
     have z2:(Y.kind==0)=false:=by rw[Jc];exact k2
     by_cases k3:X.kind=1
     ·skip
      have q:Hid (Ec (On L) s.data.toList=SI.none):=by
       unfold Hid;rw[HE.o,if_neg];rw[Jw,a8.o,a7.o];omega
      have z3:(X.kind==1)=true:=by rw[J2];omega
      go_wp2_with fail
      have j:=((((b0.o.set 0 (.int .i64 0)).set 1 (.int .i64 0)).set 2 (.string ⟨#[]⟩)).set 3 (.string ⟨#[]⟩));have K:=fun o=>(j.alloc o).cell 0;have O:=fun o=>(j.alloc o).cell 1;have R:=fun o=>(j.alloc o).cell 2;have V:=fun o=>(j.alloc o).cell 3;simp only[Je,Jf,Jr,Jy]at K O R V;refine Jl (v:=.agg #[.int .i64 0,.int .i64 0,.string ⟨#[]⟩,.string ⟨#[]⟩]) ?_ rfl ⟨Oa (by rw[q.o];rfl),?_⟩
      ·clear c0 c1 c2 c3 f0 f1 f2 f3;simp[results,results85,go_sem,K,O,R,V]
      exact((((G.o.sc).sc).sc).sc).alloc (by simp only[Vm];omega) _
     have z3:(X.kind==1)=false:=by rw[Jc];exact k3
     by_cases k4:Y.kind=1
     ·skip
      have q:Hid (Ec (On L) s.data.toList=SI.none):=by
       unfold Hid;rw[HE.o,if_neg];rw[Jw,a8.o,a7.o];omega
      have z4:(Y.kind==1)=true:=by rw[J2];omega
      go_wp2_with fail
      have j:=((((b0.o.set 0 (.int .i64 0)).set 1 (.int .i64 0)).set 2 (.string ⟨#[]⟩)).set 3 (.string ⟨#[]⟩));have K:=fun o=>(j.alloc o).cell 0;have O:=fun o=>(j.alloc o).cell 1;have R:=fun o=>(j.alloc o).cell 2;have V:=fun o=>(j.alloc o).cell 3;simp only[Je,Jf,Jr,Jy]at K O R V;refine Jl (v:=.agg #[.int .i64 0,.int .i64 0,.string ⟨#[]⟩,.string ⟨#[]⟩]) ?_ rfl ⟨Oa (by rw[q.o];rfl),?_⟩
      ·clear c0 c1 c2 c3 f0 f1 f2 f3;simp[results,results85,go_sem,K,O,R,V]
      exact((((G.o.sc).sc).sc).sc).alloc (by simp only[Vm];omega) _
     have z4:(Y.kind==1)=false:=by rw[Jc];exact k4
     have q:Hid (Ec (On L) s.data.toList=⟨6,0,J.data.toList,SE.data.toList⟩):=by
      unfold Hid;rw[HE.o,if_pos];rw[Jw,a8.o,a7.o];exact⟨⟨k1,k3⟩,k2,k4⟩
     go_wp2_with fail
     have j:=((((b0.o.set 0 (.int .i64 6)).set 1 (.int .i64 0)).set 2 (.string J)).set 3 (.string SE));have K:=fun o=>(j.alloc o).cell 0;have O:=fun o=>(j.alloc o).cell 1;have R:=fun o=>(j.alloc o).cell 2;have V:=fun o=>(j.alloc o).cell 3;simp only[Je,Jf,Jr,Jy]at K O R V;refine Jl (v:=.agg #[.int .i64 6,.int .i64 0,.string J,.string SE]) ?_ rfl ⟨Oa (by rw[q.o];unfold Gu;rw[Uc,Uc];rfl),?_⟩
     ·clear c0 c1 c2 c3 f0 f1 f2 f3;simp[results,results85,go_sem,K,O,R,V]
     exact((((G.o.sc).sc).sc).sc).alloc (by simp only[Vm];omega) _
theorem Ef(v:Value)(L:List (List UInt8))(s:ByteArray)(w:World)(h:O4 w v L)(hs:s.size<=1048576) :
 Calls prog 85 #[v,.string s] w fun e w'=>e=.returned (Gu (Ou (On L) s.data.toList))/\Up w w':=by
 by_cases j:8<s.data.toList.length/\s.data.toList.take 7=U0/\s.data.toList.getLast? = some 41
 ·rw[<-M3];exact Av v L s w h hs j
 have e:Ou (On L) s.data.toList=Oi (On L) s.data.toList:=by rw[<-M3];unfold Ec;rw[if_neg j]
 rw[e];exact Du v L s w h hs j
theorem Mm(n:List UInt8):Ee (V8 2 n)=some n:=by
 cases hp:Uv n
 ·have e:V8 2 n=124::(n++[124]):=by simp[V8,hp]
  have h:(n++[124]).getLast? = some (124:UInt8):=Zy;rw[e];unfold Ee;rw[Mt];simp only[h,Zx,hp];rfl
 have e:V8 2 n=n:=by simp[V8,hp]
 rw[e];unfold Ee;rw[if_pos hp]
theorem QI(h:Ee t=some n):V8 2 n=t:=by
 rcases Ij h with⟨j,rfl⟩|⟨j,rfl⟩
 ·simp[V8,j]
 simp[V8,j]
theorem GW(h:Kj n=true):n≠[]/\∀c∈n,c≠124:=by
 simp only[Kj,Jw,J1]at h;exact⟨by rintro rfl;simp at h,fun c hc=>A7 (Jx.1 h.2 c hc)⟩
theorem Qm{r:List UInt8}(h:n≠[])(hn:∀c∈n,c≠124):(n++r).dropWhile (fun b=>b==124)=n++r:=by
 cases n with
 | nil=>exact absurd rfl h
 | cons c n=>
   have:=hn c (by simp);simp[this]
theorem PK(h:Kj n=true):Lib.trimB (V8 2 n) 124=n:=by
 obtain⟨j,hn⟩:=GW h;have G:n.reverse≠[]:=by simpa using j
 have q:∀c∈n.reverse,c≠124:=fun c hc=>hn c (by simpa using hc);have E:n.dropWhile (fun b=>b==124)=n:=by have:=Qm (r:=[]) j hn;simpa using this
 have R:n.reverse.dropWhile (fun b=>b==124)=n.reverse:=by have:=Qm (r:=[]) G q;simpa using this
 unfold Lib.trimB Lib.trimRightB Lib.trimLeftB
 cases hp:Uv n
 ·have e:V8 2 n=124::(n++[124]):=by simp[V8,hp]
  have J:(124::(n++[124])).reverse=124::(n.reverse++[(124:UInt8)]):=by simp
  rw[e,J];have K:List.dropWhile (fun b=>b==124) (124::(n.reverse++[(124:UInt8)]))=n.reverse++[124]:=by
   rw[List.dropWhile_cons_of_pos (by decide)];exact Qm G q
  rw[K];have O:(n.reverse++[(124:UInt8)]).reverse=124::n:=by simp
  rw[O,List.dropWhile_cons_of_pos (by decide),E]
 have e:V8 2 n=n:=by simp[V8,hp]
 rw[e,R,List.reverse_reverse,E]
theorem XC(h:K1 n=true):n.length<=60:=by
 simp only[K1,Kj,Jw,J1]at h;exact h.1.1.2
def Oh(f:List UInt8->Option Nat)(n:List UInt8):Bool:=!N7 n&&(f n).isSome
theorem GK(f:List UInt8->Option Nat){N:List UInt8}(h1:t≠Ok)(h2:t≠Uu)(h3:t≠Ui)(hw:K3 t=0)(hN:Lib.trimB t 124=N):Oi (Oh f) t=if K1 N&&decide (V8 2 N=t)&&(f N).isSome then⟨5,0,[],[]⟩else SI.none:=by
 have hp:Oi (Oh f) t=match Ee t with|some n=>if Kj n&&Oh f n then⟨5,0,[],[]⟩else SI.none|none=>SI.none:=by
  unfold Oi;rw[if_neg h1,if_neg h2,if_neg h3,hw,if_neg (by omega)];rfl
 rw[hp]
 cases hn:Ee t with
 | none=>
   simp only[];rw[if_neg];intro h;simp only[Jw,J1]at h;have:=Mm N;rw[h.1.2,hn]at this
   cases this
 | some n=>
   simp only[];have E:=QI hn
   cases j:Kj n
   ·rw[if_neg (by simp),if_neg];intro h;simp only[Jw,J1,K1]at h;have:=Mm N;rw[h.1.2,hn]at this
    cases this
    rw[j]at h;simp at h
   have q:N=n:=by rw[<-hN,<-E];exact PK j
   subst q;have:(Kj N&&Oh f N)=(K1 N&&decide (V8 2 N=t)&&(f N).isSome):=by
    rw[Jb E,j];simp[Oh,K1,j]
   rw[j]at this;rw[this]
def DE(kb:Nat):Value:=.func (.func 139) #[.pointer (some ⟨kb,0,none⟩)] #[]
theorem Gk.bl{b N:Nat}{f:List UInt8->Option Nat}(h:Gk w b f)(hb:Below N w w')(hN:b<N):Gk w' b f:=by
 obtain⟨n,D,hn,⟨j,cl,hm,E⟩,q⟩:=h;exact⟨n,D,hn,⟨j,cl,(hb.block b hN).trans hm,E⟩,q⟩
theorem Hh(s:ByteArray)(w:World)(hs:s.size<=1048576) :
 Calls prog 166 #[.string s,.string ⟨#[124]⟩] w fun e w'=>e=.returned (.string (Oo (Lib.trimB s.data.toList 124)))/\Up w w':=by
 refine(Tryz.strings_Trim_one s 124 (by decide) w (by omega)).mono ?_;rintro e w' ⟨rfl,rfl|rfl⟩
 ·exact⟨rfl,Ji _ _⟩
 exact⟨rfl,⟨rfl,rfl,rfl,leR,fun _ _=>rfl⟩⟩
theorem PV(l:List UInt8)(c:UInt8):(Lib.trimB l c).length<=l.length:=by
 unfold Lib.trimB Lib.trimRightB Lib.trimLeftB;have h:=(List.dropWhile_sublist (p:=(·==c)) (l:=(l.reverse.dropWhile (·==c)).reverse)).length_le;have j:=(List.dropWhile_sublist (p:=(·==c)) (l:=l.reverse)).length_le;simp only[Vf]at h j;omega
theorem Az(kb b:Nat)(f:List UInt8->Option Nat)(s:ByteArray)(w:World)(hs:s.size<=1048576)(hev:EV w)(hc:w.cell? ⟨kb,3,none⟩=some (.map (some b)))(hm:Gk w b f)(hb:b<w.heap.size) :
 Calls prog 155 #[.string s,DE kb] w fun e w'=>e=.returned (Gu (Oi (Oh f) s.data.toList))/\Up w w':=by
 have d6:kb<w.heap.size:=J3 w _ hc;have d1:=Hd hev;have HC:=Hd hc;have HM:=Hd hm;have G:=C8 (Oh f);clear hev hc hm;unfold DE
 by_cases h1:s.data.toList=Ok
 ·have F:Hid (Oi (Oh f) s.data.toList=⟨1,0,[],[]⟩):=by unfold Hid;rw[h1];exact G.1
  have z:=H6 h1;unfold Ok at z;clear h1 G
  go_in
  go_wp2_with fail
  refine Jl (v:=.agg #[.int .i64 1,.int .i64 0,.string ⟨#[]⟩,.string ⟨#[]⟩]) ?_ rfl ⟨Oa (by rw[F.o];rfl),Oy _ _⟩;simp[results,results155,go_sem]
 have z1:=Nh h1
 by_cases h2:s.data.toList=Uu
 ·have F:Hid (Oi (Oh f) s.data.toList=⟨2,0,[],[]⟩):=by unfold Hid;rw[h2];exact G.2.1
  have z:=H6 h2;unfold Uu at z;unfold Ok at z1;clear h1 h2 G
  go_in
  go_wp2_with fail
  refine Jl (v:=.agg #[.int .i64 2,.int .i64 0,.string ⟨#[]⟩,.string ⟨#[]⟩]) ?_ rfl ⟨Oa (by rw[F.o];rfl),Oy _ _⟩;simp[results,results155,go_sem]
 have z2:=Nh h2
 by_cases h3:s.data.toList=Ui
 ·have F:Hid (Oi (Oh f) s.data.toList=⟨3,0,[],[]⟩):=by unfold Hid;rw[h3];exact G.2.2
  have z:=H6 h3;unfold Ui at z;unfold Ok at z1;unfold Uu at z2;clear h1 h2 h3 G
  go_in
  go_wp2_with fail
  refine Jl (v:=.agg #[.int .i64 3,.int .i64 0,.string ⟨#[]⟩,.string ⟨#[]⟩]) ?_ rfl ⟨Oa (by rw[F.o];rfl),Oy _ _⟩;simp[results,results155,go_sem]
 have z3:=Nh h3;clear G;have b7:Hid (∀N,K3 s.data.toList=0->Lib.trimB s.data.toList 124=N->Oi (Oh f) s.data.toList=if K1 N&&decide (V8 2 N=s.data.toList)&&(f N).isSome then⟨5,0,[],[]⟩else SI.none):=fun N hw hN=>GK f h1 h2 h3 hw hN;have b8:Hid (0<K3 s.data.toList->Oi (Oh f) s.data.toList=⟨4,K3 s.data.toList,[],[]⟩):=fun hw=>by
  unfold Oi;rw[if_neg h1,if_neg h2,if_neg h3,if_pos hw]
 unfold Ok at z1;unfold Uu at z2;unfold Ui at z3;clear h1 h2 h3
 go_in
 go_wp2_with fail
 refine(Wc s _ (by omega) (d1.o.next (Oy _ _))).mono ?_;obtain⟨W,hW⟩:=O2 (K3 s.data.toList);have d3:=Hd hW;rw[hW];rw[hW]at b7 b8;clear hW;rintro e w1 ⟨rfl,b3⟩;have E:Below (w.heap.size+1) (w.alloc (.cells #[.int .i64 0,.int .i64 0,.string ⟨#[]⟩,.string ⟨#[]⟩] 145)) w1:=FS b3
 by_cases b9:0<W
 ·have h:=Hd (Lu E);have q:Hid (Up w w1):=(Oy w _).trans (E.mono (by omega));obtain⟨c0,c1,c2,c3⟩:=h.o.c4;obtain⟨Z,f1,f2,f3⟩:=h.o.f4;have K:Hid (Oi (Oh f) s.data.toList=⟨4,W,[],[]⟩):=b8.o b9;have e8:W<65:=by
   have e:=d3.o;have:=(Ir (t:=s.data.toList) (by omega)).2.2;omega
  clear b3 E
  go_wp2_with fail
  have j:=((((h.o.set 0 (.int .i64 4)).set 1 (.int .i64 (W:Nat))).set 2 (.string ⟨#[]⟩)).set 3 (.string ⟨#[]⟩));obtain⟨O,R,V,Y⟩:=j.c4;refine Jl (v:=.agg #[.int .i64 4,.int .i64 (W:Nat),.string ⟨#[]⟩,.string ⟨#[]⟩]) ?_ rfl ⟨Oa (by rw[K.o];rfl),?_⟩
  ·clear c0 c1 c2 c3 Z f1 f2 f3;simp[results,results155,go_sem,O,R,V,Y]
  exact(((q.o.sc).sc).sc).sc
 obtain rfl:W=0:=by omega
 have b5:=Hd E;clear b3 E b9
 go_wp2_with fail
 refine(Hh s _ (by omega)).mono ?_;obtain⟨N,hN⟩:=O2 (Lib.trimB s.data.toList 124);have HP:=Hd (b7.o N (by first|rfl|trivial) hN);have d4:N.length<=1048576:=by rw[<-hN];have:=PV s.data.toList 124;rw[Oc]at this;omega
 rw[hN];clear hN;rintro e w2 ⟨rfl,hb2⟩;have J:Below (w.heap.size+1) (w.alloc (.cells #[.int .i64 0,.int .i64 0,.string ⟨#[]⟩,.string ⟨#[]⟩] 145)) w2:=b5.o.trans (hb2.mono (by have:=b5.o.size;rw[Ju]at this;exact this));have h:=Hd (Lu J);have q:Hid (Up w w2):=(Oy w _).trans (J.mono (by omega));have d0:Hid (w2.cell? ⟨kb,3,none⟩=some (.map (some b))):=(q.o.cell (p:=⟨kb,3,none⟩) d6).trans HC.o;have d2:Hid (Gk w2 b f):=HM.o.bl q.o hb;clear hb2 J;obtain⟨S,hS⟩:=O2 (Oo N);have HS:Hid (S.data.toList=N):=by unfold Hid;rw[<-hS,Ov]
 have e7:S.size<=1048576:=by rw[<-Oc,HS.o];exact d4
 rw[hS];rw[<-HS.o]at HP;clear hS
 go_wp2_with fail
 refine(Cy S _ (by unfold maxLen;omega)).mono ?_
 cases a8:K1 S.data.toList
 ·have K:Hid (Oi (Oh f) s.data.toList=SI.none):=by unfold Hid;rw[HP.o,a8];rfl
  rintro e w3 ⟨rfl,rfl⟩;obtain⟨c0,c1,c2,c3⟩:=h.o.c4;obtain⟨Z,f1,f2,f3⟩:=h.o.f4;clear a8
  go_wp2_with fail
  have j:=((((h.o.set 0 (.int .i64 0)).set 1 (.int .i64 0)).set 2 (.string ⟨#[]⟩)).set 3 (.string ⟨#[]⟩));obtain⟨O,R,V,Y⟩:=j.c4;refine Jl (v:=.agg #[.int .i64 0,.int .i64 0,.string ⟨#[]⟩,.string ⟨#[]⟩]) ?_ rfl ⟨Oa (by rw[K.o];rfl),?_⟩
  ·clear c0 c1 c2 c3 Z f1 f2 f3;simp[results,results155,go_sem,O,R,V,Y]
  exact(((q.o.sc).sc).sc).sc
 have b1:=Hd a8;clear a8;rintro e w3 ⟨rfl,rfl⟩
 go_wp2_with fail
 refine(B5 S _ (by have:=XC b1.o;rw[Oc]at this;omega)).mono ?_;rintro e w3 ⟨rfl,rfl⟩
 by_cases ht:V8 2 S.data.toList=s.data.toList
 ·have yt:((Oo (V8 2 S.data.toList)).toList==s.toList)=true:=by rw[Jk,Jk,Ov,ht];simp
  have HT:=Hd ht;clear ht;generalize Oo (V8 2 S.data.toList)=X at yt ⊢
  go_wp2_with fail
  refine(Sa kb b f S _ d0.o d2.o (by unfold maxLen;omega)).mono ?_
  cases hh:(f S.data.toList).isSome
  ·have K:Hid (Oi (Oh f) s.data.toList=SI.none):=by unfold Hid;rw[HP.o,hh,Y6];rfl
   rintro e w3 ⟨rfl,rfl⟩;obtain⟨c0,c1,c2,c3⟩:=h.o.c4;obtain⟨Z,f1,f2,f3⟩:=h.o.f4;clear hh
   go_wp2_with fail
   have j:=((((h.o.set 0 (.int .i64 0)).set 1 (.int .i64 0)).set 2 (.string ⟨#[]⟩)).set 3 (.string ⟨#[]⟩));obtain⟨O,R,V,Y⟩:=j.c4;refine Jl (v:=.agg #[.int .i64 0,.int .i64 0,.string ⟨#[]⟩,.string ⟨#[]⟩]) ?_ rfl ⟨Oa (by rw[K.o];rfl),?_⟩
   ·clear c0 c1 c2 c3 Z f1 f2 f3;simp[results,results155,go_sem,O,R,V,Y]
   exact(((q.o.sc).sc).sc).sc
  have K:Hid (Oi (Oh f) s.data.toList=⟨5,0,[],[]⟩):=by unfold Hid;rw[HP.o,b1.o,Jb HT.o,hh];rfl
  rintro e w3 ⟨rfl,rfl⟩;obtain⟨c0,c1,c2,c3⟩:=h.o.c4;obtain⟨Z,f1,f2,f3⟩:=h.o.f4;clear hh
  go_wp2_with fail
  have j:=((((h.o.set 0 (.int .i64 5)).set 1 (.int .i64 0)).set 2 (.string ⟨#[]⟩)).set 3 (.string ⟨#[]⟩));obtain⟨O,R,V,Y⟩:=j.c4;refine Jl (v:=.agg #[.int .i64 5,.int .i64 0,.string ⟨#[]⟩,.string ⟨#[]⟩]) ?_ rfl ⟨Oa (by rw[K.o];rfl),?_⟩
  ·clear c0 c1 c2 c3 Z f1 f2 f3;simp[results,results155,go_sem,O,R,V,Y]
  exact(((q.o.sc).sc).sc).sc
 have yt:((Oo (V8 2 S.data.toList)).toList==s.toList)=false:=by rw[Jk,Jk,Ov,Jc];exact ht
 have K:Hid (Oi (Oh f) s.data.toList=SI.none):=by unfold Hid;rw[HP.o,b1.o,Jd ht];rfl
 clear ht;generalize Oo (V8 2 S.data.toList)=X at yt ⊢;obtain⟨c0,c1,c2,c3⟩:=h.o.c4;obtain⟨Z,f1,f2,f3⟩:=h.o.f4
 go_wp2_with fail
 have j:=((((h.o.set 0 (.int .i64 0)).set 1 (.int .i64 0)).set 2 (.string ⟨#[]⟩)).set 3 (.string ⟨#[]⟩));obtain⟨O,R,V,Y⟩:=j.c4;refine Jl (v:=.agg #[.int .i64 0,.int .i64 0,.string ⟨#[]⟩,.string ⟨#[]⟩]) ?_ rfl ⟨Oa (by rw[K.o];rfl),?_⟩
 ·clear c0 c1 c2 c3 Z f1 f2 f3;simp[results,results155,go_sem,O,R,V,Y]
 exact(((q.o.sc).sc).sc).sc
theorem Ru(c:UInt8):∀l:List UInt8,Lib.indexByte l c=if Ud (fun x=>x != c) l<l.length then(Ud (fun x=>x != c) l:Int)else -1
 | []=>rfl
 | x::r=>by
   have q:=Ru c r
   by_cases hx:x=c
   ·subst hx
    have:Ud (fun y=>y != x) (x::r)=0:=by simp[Ud]
    rw[this]
    simp[Lib.indexByte]
   have h:Lib.indexByte (x::r) c=if Lib.indexByte r c == -1 then -1 else Lib.indexByte r c+1:=by simp[Lib.indexByte,hx]
   have j:Ud (fun y=>y != c) (x::r)=Ud (fun y=>y != c) r+1:=by simp[Ud,hx]
   rw[h,j,q,Yo]
   by_cases hl:Ud (fun y=>y != c) r<r.length
   ·rw[if_pos hl,if_pos (show Ud (fun y=>y != c) r+1<r.length+1 by omega),if_neg (by rw[J2];omega)];omega
   rw[if_neg hl,if_neg (show ¬ Ud (fun y=>y != c) r+1<r.length+1 by omega)];rfl
theorem OT(c:UInt8)(l:List UInt8) : -1<=Lib.indexByte l c/\Lib.indexByte l c<=(l.length:Int):=by
 rw[Ru]
 split<;>omega
theorem EY(t:List UInt8):Uj t<=t.length:=by
 unfold Uj
 split
 ·split
  ·simp only[Yo];omega
  simp
 ·split
  ·omega
  simp
 split
 ·omega
 simp
theorem EZ(h:t.take 1=[124]):((Uj t:Nat):Int)=Lib.indexByte (t.drop 1) 124+2:=by
 obtain⟨r,rfl⟩:∃r,t=124::r:=by
  cases t with
  | nil=>simp at h
  | cons c r=>simp at h;exact⟨r,by rw[h]⟩
 rw[List.drop_one,List.tail_cons,Ru]
 show(((if Ud (· != 124) r<r.length then Ud (· != 124) r+2 else 1):Nat):Int)=_
 split<;>omega
theorem OR(h:t.take 1=[40]):((Uj t:Nat):Int)=Lib.indexByte t 41+1:=by
 obtain⟨r,rfl⟩:∃r,t=40::r:=by
  cases t with
  | nil=>simp at h
  | cons c r=>simp at h;exact⟨r,by rw[h]⟩
 rw[Ru]
 show(((if Ud (· != 41) (40::r)<(40::r).length then Ud (· != 41) (40::r)+1 else 0):Nat):Int)=_
 split<;>omega
theorem OP(h1:t.take 1≠[124])(h2:t.take 1≠[40]):((Uj t:Nat):Int)=max (Lib.indexByte t 32) 0:=by
 rw[Ru];have e:Uj t=if Ud (· != 32) t<t.length then Ud (· != 32) t else 0:=by
  unfold Uj
  split
  ·exact absurd rfl h1
  ·exact absurd rfl h2
  rfl
 rw[e]
 split<;>omega
theorem Ry(s:ByteArray)(w:World)(hs:s.size<=1048576) :
 Calls prog 156 #[.string s] w fun e w'=>e=.returned (.int .i64 (Uj s.data.toList:Nat))/\w'=w:=by
 by_cases E:s.data.toList.take 1=[124]
 ·have q:Hid (Lib.hasPrefix s.data.toList [124]=true):=by unfold Hid;rw[Ko];exact Jb E
  have j:=Hd (EZ E);have hp:1<=s.size:=by have:=congrArg List.length E;rw[J7,Oc]at this;simp at this;omega
  clear E
  go_in
  go_wp2_with fail
  refine(Tryz.strings_HasPrefix s ⟨#[124]⟩ _).mono ?_
  change ∀(e:Ending) (w':World),(e=.returned (.bool (Lib.hasPrefix s.data.toList [124]))/\w'=w)->_
  rw[q.o];rintro e w1 ⟨rfl,rfl⟩
  go_wp2_with fail
  refine(Tryz.strings_IndexByte _ 124 _).mono ?_;have R:(s.extract 1 s.size).data.toList=s.data.toList.drop 1:=by rw[Hn,Yf (by rw[Oc];omega)]
  rw[R]
  change ∀(e:Ending) (w':World),(e=.returned (.int .i64 (Lib.indexByte (s.data.toList.drop 1) 124))/\w'=w1)->_
  have h:=OT 124 (s.data.toList.drop 1);rw[Yr,Oc]at h;obtain⟨V,G⟩:=O2 (Lib.indexByte (s.data.toList.drop 1) 124);rw[G]at h j ⊢;clear G R;rintro e w1 ⟨rfl,rfl⟩
  go_wp2
  go_ret
  exact⟨O8 j.o.symm,rfl⟩
 have q:Hid (Lib.hasPrefix s.data.toList [124]=false):=by unfold Hid;rw[Ko];exact Jd E
 by_cases K:s.data.toList.take 1=[40]
 ·have J:Hid (Lib.hasPrefix s.data.toList [40]=true):=by unfold Hid;rw[Ko];exact Jb K
  have j:=Hd (OR K);clear E K
  go_in
  go_wp2_with fail
  refine(Tryz.strings_HasPrefix s ⟨#[124]⟩ _).mono ?_
  change ∀(e:Ending) (w':World),(e=.returned (.bool (Lib.hasPrefix s.data.toList [124]))/\w'=w)->_
  rw[q.o];rintro e w1 ⟨rfl,rfl⟩
  go_wp2_with fail
  refine(Tryz.strings_HasPrefix s ⟨#[40]⟩ _).mono ?_
  change ∀(e:Ending) (w':World),(e=.returned (.bool (Lib.hasPrefix s.data.toList [40]))/\w'=w1)->_
  rw[J.o];rintro e w1 ⟨rfl,rfl⟩
  go_wp2_with fail
  refine(Tryz.strings_IndexByte _ 41 _).mono ?_
  change ∀(e:Ending) (w':World),(e=.returned (.int .i64 (Lib.indexByte s.data.toList 41))/\w'=w1)->_
  have h:=OT 41 s.data.toList;rw[Oc]at h;obtain⟨V,G⟩:=O2 (Lib.indexByte s.data.toList 41);rw[G]at h j ⊢;clear G;rintro e w1 ⟨rfl,rfl⟩
  go_wp2
  go_ret
  exact⟨O8 j.o.symm,rfl⟩
 have J:Hid (Lib.hasPrefix s.data.toList [40]=false):=by unfold Hid;rw[Ko];exact Jd K
 have j:=Hd (OP E K);clear E K
 go_in
 go_wp2_with fail
 refine(Tryz.strings_HasPrefix s ⟨#[124]⟩ _).mono ?_
 change ∀(e:Ending) (w':World),(e=.returned (.bool (Lib.hasPrefix s.data.toList [124]))/\w'=w)->_
 rw[q.o];rintro e w1 ⟨rfl,rfl⟩
 go_wp2_with fail
 refine(Tryz.strings_HasPrefix s ⟨#[40]⟩ _).mono ?_
 change ∀(e:Ending) (w':World),(e=.returned (.bool (Lib.hasPrefix s.data.toList [40]))/\w'=w1)->_
 rw[J.o];rintro e w1 ⟨rfl,rfl⟩
 go_wp2_with fail
 refine(Tryz.strings_IndexByte _ 32 _).mono ?_
 change ∀(e:Ending) (w':World),(e=.returned (.int .i64 (Lib.indexByte s.data.toList 32))/\w'=w1)->_
 have h:=OT 32 s.data.toList;rw[Oc]at h;obtain⟨V,G⟩:=O2 (Lib.indexByte s.data.toList 32);rw[G]at h j ⊢;clear G;rintro e w1 ⟨rfl,rfl⟩
 by_cases Y:0<=V
 ·have O:max V 0=V:=by omega
  go_wp2_with fail
  all_goals go_ret
  all_goals exact⟨O8 (by rw[j.o];omega),rfl⟩
 have O:max V 0=0:=by omega
 go_wp2_with fail
 all_goals go_ret
 all_goals exact⟨O8 (by rw[j.o];omega),rfl⟩
theorem ZX(own:List UInt8->Bool)(t:List UInt8):(Oi own t).kind=0->Oi own t=SI.none:=by
 unfold Oi
 split
 ·intro h;exact absurd h (by decide)
 split
 ·intro h;exact absurd h (by decide)
 split
 ·intro h;exact absurd h (by decide)
 split
 ·intro h;exact absurd h (by show ¬ (4:Int)=0;decide)
 split
 ·split
  ·intro h;exact absurd h (by decide)
  intro _;rfl
 intro _;rfl
theorem Pl(w:World):Calls prog 121 #[Gu SI.none] w fun e w'=>e=.returned (.bool false)/\Below w.heap.size w w':=by
 show Calls prog 121 #[.agg #[.int .i64 0,.int .i64 0,.string ⟨#[]⟩,.string ⟨#[]⟩]] w _
 go_in
 go_wp2
 go_ret
 exact⟨rfl,Oy _ _⟩
theorem Pm(X:SI)(w:World)(h0:¬ X.kind=0)(h:0<=X.kind/\X.kind<=5):Calls prog 121 #[Gu X] w fun e w'=>e=.returned (.bool (Of X))/\Below w.heap.size w w':=by
 have q:Hid (Of X=decide (¬ X.kind=1)):=by
  unfold Hid Of;rw[J8,Jw,Jv,Jv,Jv];omega
 unfold Gu;have z0:(X.kind==0)=false:=by rw[Jc];exact h0
 have J:=Un (a:=X.kind) (b:=6) (by omega);have G:¬ X.kind=6:=by omega
 by_cases j:X.kind=1
 ·have E:=U4 j
  go_in
  go_wp2
  go_ret
  exact⟨Oz (by rw[q.o,Jd (by omega)]),Oy _ _⟩
 have E:=Un j
 go_in
 go_wp2
 go_ret
 exact⟨Oz (by rw[q.o,Jb j]),Oy _ _⟩
theorem Ce(own:List UInt8->Bool)(t:List UInt8)(w:World):Calls prog 121 #[Gu (Oi own t)] w fun e w'=>e=.returned (.bool (Of (Oi own t)))/\Below w.heap.size w w':=by
 by_cases h:(Oi own t).kind=0
 ·rw[ZX own t h];exact Pl w
 exact Pm _ w h (Hg own t)
theorem Q2(r:List UInt8)(c:UInt8):Lib.hasSuffix r [c]=decide (r.getLast? = some c):=by
 unfold Lib.hasSuffix;rw[J8,Jv,List.isSuffixOf_iff_suffix];constructor
 ·rintro⟨a,e⟩;rw[<-e];exact Zy
 intro h;obtain⟨j,e⟩:=Zn.1 h;exact⟨j,e.symm⟩
theorem VC{r:List UInt8}{c:UInt8}(h:r.getLast? = some c):Lib.trimSuffix r [c]=r.dropLast:=by
 unfold Lib.trimSuffix;rw[Q2,Jb h,List.dropLast_eq_take];rfl
theorem C9{r:List UInt8}(h:r.getLast? = some 41):(r.dropLast.take 1=[32])↔(r.head? = some 32/\2<=r.length):=by
 obtain⟨ys,rfl⟩:=Zn.1 h;rw[Zx]
 cases ys with
 | nil=>simp
 | cons c ys=>simp
theorem ZP{own:List UInt8->Bool}(h:t.take 7≠U0):Ou own t=Oi own t:=by unfold Ou;rw[if_neg h]
theorem Fe{own:List UInt8->Bool}(h:t.take 7=U0){I R:List UInt8}(hI:(t.drop 7).take (Uj (t.drop 7))=I)(hR:(t.drop 7).drop (Uj (t.drop 7))=R)(hc:¬ R.getLast? = some 41∨¬ R.dropLast.take 1=[32]):Ou own t=SI.none:=by
 unfold Ou;rw[if_pos h];simp only[hI,hR];rw[if_neg];rintro⟨q,E,j⟩
 rcases hc with hc|hc
 ·exact hc j
 exact hc ((C9 j).2 ⟨q,E⟩)
theorem ZD{own:List UInt8->Bool}(h:t.take 7=U0){I R E:List UInt8}(hI:(t.drop 7).take (Uj (t.drop 7))=I)(hR:(t.drop 7).drop (Uj (t.drop 7))=R)(hc:R.getLast? = some 41)(hp:R.dropLast.take 1=[32])(hE:R.dropLast.drop 1=E):Ou own t=if Of (Oi own I)&&Of (Oi own E)then⟨6,0,I,E⟩else SI.none:=by
 unfold Ou;rw[if_pos h];simp only[hI,hR];have j:=(C9 hc).1 hp;rw[if_pos ⟨j.1,j.2,hc⟩];have e:(R.drop 1).dropLast=E:=by rw[<-hE];simp[List.dropLast_eq_take,List.drop_take]
 rw[e]
theorem IV(h:t.take 7=U0):Lib.trimPrefix t U0=t.drop 7:=by
 unfold Lib.trimPrefix;rw[Ko,Jb (by exact h)];rfl
theorem Eh(s:ByteArray)(w:World)(hs:s.size<=1048576) :
 Calls prog 100 #[.string s] w fun e w'=>e=.returned (.string s)/\Below w.heap.size w w':=by
 go_in
 go_wp2_with fail
 refine(Tryz.stringslite_Clone s _ (by omega)).mono ?_;rintro e w1 ⟨rfl,hb⟩;have h:=Hd hb;clear hb
 go_wp2
 go_ret
 exact⟨rfl,h.o⟩
theorem Lp(kb b:Nat)(f:List UInt8->Option Nat)(s:ByteArray)(w:World)(hs:s.size<=1048576)(hev:EV w)(hc:w.cell? ⟨kb,3,none⟩=some (.map (some b)))(hm:Gk w b f)(hb:b<w.heap.size) :
 Calls prog 138 #[.string s,DE kb] w fun e w'=>e=.returned (Gu (Ou (Oh f) s.data.toList))/\Below w.heap.size w w':=by
 have g7:kb<w.heap.size:=J3 w _ hc;have g0:=Hd hev;have HC:=Hd hc;have HM:=Hd hm;clear hev hc hm;have HV:Hid (DE kb=.func (.func 139) #[.pointer (some ⟨kb,0,none⟩)] #[]):=rfl;have G:Hid (∀(s':ByteArray) (W:World),s'.size<=1048576->Below w.heap.size w W->Calls prog 155 #[.string s',.func (.func 139) #[.pointer (some ⟨kb,0,none⟩)] #[]] W fun e w'=>e=.returned (Gu (Oi (Oh f) s'.data.toList))/\Below W.heap.size W w'):=fun s' W h1 h2=>
  Az kb b f s' W h1 (g0.o.next h2) ((h2.cell (p:=⟨kb,3,none⟩) g7).trans HC.o) (HM.o.bl h2 hb) (Jn hb h2.size)
 rw[HV.o];clear HV
 by_cases hp:s.data.toList.take 7=U0
 ·have c6:Hid (Lib.hasPrefix s.data.toList U0=true):=by unfold Hid;rw[Ko];exact Jb hp
  have g2:=Hd (IV hp);have c8:=Hd hp;clear hp
  go_in
  go_wp2_with fail
  refine(Tryz.strings_CutPrefix s ⟨#[40,65,114,114,97,121,32]⟩ _).mono ?_;generalize q:w.alloc (.cells #[.int .i64 0,.int .i64 0,.string ⟨#[]⟩,.string ⟨#[]⟩] 145)=W1
  change ∀(e:Ending) (w':World),(e=.returned (.tuple #[.string ⟨(Lib.trimPrefix s.data.toList U0).toArray⟩,.bool (Lib.hasPrefix s.data.toList U0)])/\w'=W1)->_
  rw[c6.o,g2.o];rintro e w1 ⟨rfl,rfl⟩;subst q;obtain⟨D,hD⟩:∃D:ByteArray,(⟨(s.data.toList.drop 7).toArray⟩:ByteArray)=D:=⟨_,rfl⟩;have HD:Hid (D.data.toList=s.data.toList.drop 7):=by unfold Hid;rw[<-hD]
  have h9:D.size<=1048576:=by rw[<-Oc,HD.o,Yr,Oc];omega
  rw[hD];clear hD
  go_wp2_with fail
  refine(Ry D _ (by omega)).mono ?_;obtain⟨k,hk⟩:=O2 (Uj D.data.toList);have HK:=Hd hk;have i6:k<=D.size:=by rw[<-hk,<-Oc];exact EY _
  rw[hk];clear hk;rintro e w1 ⟨rfl,rfl⟩
  go_wp2_with fail
  have d8:(D.extract 0 k).size<=1048576:=by rw[Yn];omega
  have HI:Hid ((s.data.toList.drop 7).take (Uj (s.data.toList.drop 7))=(D.extract 0 k).data.toList):=by
   unfold Hid;rw[Hn,Y9,<-HD.o,HK.o]
  have g5:(D.extract k D.size).size<=1048576:=by rw[Yn];omega
  have b5:Hid ((s.data.toList.drop 7).drop (Uj (s.data.toList.drop 7))=(D.extract k D.size).data.toList):=by
   unfold Hid;rw[Hn,Yf (by rw[Oc];omega),<-HD.o,HK.o]
  generalize D.extract 0 k=j at HI d8 ⊢;generalize D.extract k D.size=R at b5 g5 ⊢;refine(Tryz.strings_CutSuffix R ⟨#[41]⟩ _ (by omega)).mono ?_;generalize q:w.alloc (.cells #[.int .i64 0,.int .i64 0,.string ⟨#[]⟩,.string ⟨#[]⟩] 145)=W1
  change ∀(e:Ending) (w':World),(e=.returned (.tuple #[.string (Oo (Lib.trimSuffix R.data.toList [41])),.bool (Lib.hasSuffix R.data.toList [41])])/\w'=W1)->_
  by_cases J:R.data.toList.getLast? = some 41
  ·rw[VC J,Q2,Jb J];rintro e w1 ⟨rfl,rfl⟩;subst q;have f5:=Hd J;clear J;obtain⟨Z,hZ⟩:=O2 (Oo R.data.toList.dropLast);have HZ:Hid (Z.data.toList=R.data.toList.dropLast):=by unfold Hid;rw[<-hZ,Ov]
   have i1:Z.size<=1048576:=by rw[<-Oc,HZ.o,List.length_dropLast,Oc];omega
   rw[hZ];clear hZ
   go_wp2_with fail
   refine(Tryz.strings_CutPrefix Z ⟨#[32]⟩ _).mono ?_;generalize q:w.alloc (.cells #[.int .i64 0,.int .i64 0,.string ⟨#[]⟩,.string ⟨#[]⟩] 145)=W1
   change ∀(e:Ending) (w':World),(e=.returned (.tuple #[.string (Oo (Lib.trimPrefix Z.data.toList [32])),.bool (Lib.hasPrefix Z.data.toList [32])])/\w'=W1)->_
   by_cases a1:Z.data.toList.take 1=[32]
   ·have O:Lib.hasPrefix Z.data.toList [32]=true:=by rw[Ko];exact Jb a1
    have e2:Lib.trimPrefix Z.data.toList [32]=Z.data.toList.drop 1:=by unfold Lib.trimPrefix;rw[O];rfl
    rw[O,e2];rintro e w1 ⟨rfl,rfl⟩;subst q;obtain⟨Y,d4⟩:=O2 (Oo (Z.data.toList.drop 1));have d5:Hid (Y.data.toList=Z.data.toList.drop 1):=by unfold Hid;rw[<-d4,Ov]
    have g4:Y.size<=1048576:=by rw[<-Oc,d5.o,Yr,Oc];omega
    have HE:Hid (Ou (Oh f) s.data.toList=if Of (Oi (Oh f) j.data.toList)&&Of (Oi (Oh f) Y.data.toList)then⟨6,0,j.data.toList,Y.data.toList⟩else SI.none):=ZD c8.o HI.o b5.o f5.o (by rw[<-HZ.o];exact a1) (by rw[d5.o,HZ.o]);rw[d4];clear d4 O e2 a1
    go_wp2_with fail
    refine(G.o j _ d8 (Oy _ _)).mono ?_;rintro e w1 ⟨rfl,a8⟩;have b6:Hid (Below (w.heap.size+1) (w.alloc (.cells #[.int .i64 0,.int .i64 0,.string ⟨#[]⟩,.string ⟨#[]⟩] 145)) w1):=FS a8
    clear a8
    go_wp2_with fail
    refine(Ce (Oh f) j.data.toList _).mono ?_
    cases b8:Of (Oi (Oh f) j.data.toList)
    ·have HR:Hid (Ou (Oh f) s.data.toList=SI.none):=by unfold Hid;rw[HE.o,b8];rfl
     rintro e w2 ⟨rfl,hb2⟩;have V:Hid (Below (w.heap.size+1) (w.alloc (.cells #[.int .i64 0,.int .i64 0,.string ⟨#[]⟩,.string ⟨#[]⟩] 145)) w2):=b6.o.trans (hb2.mono (by have:=b6.o.size;rw[Ju]at this;exact this));have h:=Hd (Lu V.o);have E:Hid (Below w.heap.size w w2):=(Oy w _).trans (V.o.mono (by omega));obtain⟨c0,c1,c2,c3⟩:=h.o.c4;obtain⟨f0,f1,f2,f3⟩:=h.o.f4;clear hb2 b8;generalize Gu (Oi (Oh f) j.data.toList)=V1
     go_wp2_with fail
     have K:=((((h.o.set 0 (.int .i64 0)).set 1 (.int .i64 0)).set 2 (.string ⟨#[]⟩)).set 3 (.string ⟨#[]⟩));obtain⟨e0,O,e2,e3⟩:=K.c4;refine Jl (v:=.agg #[.int .i64 0,.int .i64 0,.string ⟨#[]⟩,.string ⟨#[]⟩]) ?_ rfl ⟨Oa (by rw[HR.o];rfl),?_⟩
     ·clear c0 c1 c2 c3 f0 f1 f2 f3;simp[results,results138,go_sem,e0,O,e2,e3]
     exact(((E.o.sc).sc).sc).sc
    have g1:=Hd b8;rintro e w2 ⟨rfl,hb2⟩;have V:Hid (Below (w.heap.size+1) (w.alloc (.cells #[.int .i64 0,.int .i64 0,.string ⟨#[]⟩,.string ⟨#[]⟩] 145)) w2):=b6.o.trans (hb2.mono (by have:=b6.o.size;rw[Ju]at this;exact this));clear hb2 b8;generalize Gu (Oi (Oh f) j.data.toList)=V1
    go_wp2_with fail
    refine(G.o Y _ g4 ((Oy w _).trans (V.o.mono (by omega)))).mono ?_;rintro e w3 ⟨rfl,d9⟩;have b7:Hid (Below (w.heap.size+1) (w.alloc (.cells #[.int .i64 0,.int .i64 0,.string ⟨#[]⟩,.string ⟨#[]⟩] 145)) w3):=V.o.trans (d9.mono (by have:=V.o.size;rw[Ju]at this;exact this));clear d9
    go_wp2_with fail
    refine(Ce (Oh f) Y.data.toList _).mono ?_
    cases b9:Of (Oi (Oh f) Y.data.toList)
    ·have HR:Hid (Ou (Oh f) s.data.toList=SI.none):=by unfold Hid;rw[HE.o,b9,Y6];rfl
     rintro e w4 ⟨rfl,b1⟩;have a7:Hid (Below (w.heap.size+1) (w.alloc (.cells #[.int .i64 0,.int .i64 0,.string ⟨#[]⟩,.string ⟨#[]⟩] 145)) w4):=b7.o.trans (b1.mono (by have:=b7.o.size;rw[Ju]at this;exact this));have h:=Hd (Lu a7.o);have E:Hid (Below w.heap.size w w4):=(Oy w _).trans (a7.o.mono (by omega));obtain⟨c0,c1,c2,c3⟩:=h.o.c4;obtain⟨f0,f1,f2,f3⟩:=h.o.f4;clear b1 b9;generalize Gu (Oi (Oh f) Y.data.toList)=V2
     go_wp2_with fail
     have K:=((((h.o.set 0 (.int .i64 0)).set 1 (.int .i64 0)).set 2 (.string ⟨#[]⟩)).set 3 (.string ⟨#[]⟩));obtain⟨e0,O,e2,e3⟩:=K.c4;refine Jl (v:=.agg #[.int .i64 0,.int .i64 0,.string ⟨#[]⟩,.string ⟨#[]⟩]) ?_ rfl ⟨Oa (by rw[HR.o];rfl),?_⟩
     ·clear c0 c1 c2 c3 f0 f1 f2 f3;simp[results,results138,go_sem,e0,O,e2,e3]
     exact(((E.o.sc).sc).sc).sc
    have HR:Hid (Ou (Oh f) s.data.toList=⟨6,0,j.data.toList,Y.data.toList⟩):=by unfold Hid;rw[HE.o,g1.o,b9];rfl
    rintro e w4 ⟨rfl,b1⟩;have a7:Hid (Below (w.heap.size+1) (w.alloc (.cells #[.int .i64 0,.int .i64 0,.string ⟨#[]⟩,.string ⟨#[]⟩] 145)) w4):=b7.o.trans (b1.mono (by have:=b7.o.size;rw[Ju]at this;exact this));clear b1 b9;generalize Gu (Oi (Oh f) Y.data.toList)=V2
    go_wp2_with fail
    refine(Eh j _ (by omega)).mono ?_;rintro e w5 ⟨rfl,e4⟩;have d6:Hid (Below (w.heap.size+1) (w.alloc (.cells #[.int .i64 0,.int .i64 0,.string ⟨#[]⟩,.string ⟨#[]⟩] 145)) w5):=a7.o.trans (e4.mono (by have:=a7.o.size;rw[Ju]at this;exact this));clear e4
    go_wp2_with fail
    refine(Eh Y _ (by omega)).mono ?_;rintro e w6 ⟨rfl,e5⟩;have d7:Hid (Below (w.heap.size+1) (w.alloc (.cells #[.int .i64 0,.int .i64 0,.string ⟨#[]⟩,.string ⟨#[]⟩] 145)) w6):=d6.o.trans (e5.mono (by have:=d6.o.size;rw[Ju]at this;exact this));have h:=Hd (Lu d7.o);have E:Hid (Below w.heap.size w w6):=(Oy w _).trans (d7.o.mono (by omega));obtain⟨c0,c1,c2,c3⟩:=h.o.c4;obtain⟨f0,f1,f2,f3⟩:=h.o.f4;clear e5
    go_wp2_with fail
    have K:=((((h.o.set 0 (.int .i64 6)).set 1 (.int .i64 0)).set 2 (.string j)).set 3 (.string Y));obtain⟨e0,O,e2,e3⟩:=K.c4;refine Jl (v:=.agg #[.int .i64 6,.int .i64 0,.string j,.string Y]) ?_ rfl ⟨Oa (by rw[HR.o];unfold Gu;rw[Uc,Uc];rfl),?_⟩
    ·clear c0 c1 c2 c3 f0 f1 f2 f3;simp[results,results138,go_sem,e0,O,e2,e3]
    exact(((E.o.sc).sc).sc).sc
   have HR:Hid (Ou (Oh f) s.data.toList=SI.none):=Fe c8.o HI.o b5.o (.inr (by rw[<-HZ.o];exact a1));have O:Lib.hasPrefix Z.data.toList [32]=false:=by rw[Ko];exact Jd a1
   rw[O];rintro e w1 ⟨rfl,rfl⟩;subst q;clear O a1;generalize Oo (Lib.trimPrefix Z.data.toList [32])=Z2
   go_wp2_with fail
   refine Jl (v:=.agg #[.int .i64 0,.int .i64 0,.string ⟨#[]⟩,.string ⟨#[]⟩]) ?_ rfl ⟨Oa (by rw[HR.o];rfl),Oy _ _⟩;simp[results,results138,go_sem]
  have HR:Hid (Ou (Oh f) s.data.toList=SI.none):=Fe c8.o HI.o b5.o (.inl J);have e0:Lib.hasSuffix R.data.toList [41]=false:=by rw[Q2];exact Jd J
  rw[e0];rintro e w1 ⟨rfl,rfl⟩;subst q;clear e0 J;generalize Oo (Lib.trimSuffix R.data.toList [41])=Z
  go_wp2_with fail
  refine(Tryz.strings_CutPrefix Z ⟨#[32]⟩ _).mono ?_;rintro e w1 ⟨rfl,rfl⟩;generalize Lib.hasPrefix Z.data.toList (ByteArray.mk #[32]).data.toList=B2;generalize (⟨(Lib.trimPrefix Z.data.toList (ByteArray.mk #[32]).data.toList).toArray⟩:ByteArray)=Z2
  go_wp2_with fail
  refine Jl (v:=.agg #[.int .i64 0,.int .i64 0,.string ⟨#[]⟩,.string ⟨#[]⟩]) ?_ rfl ⟨Oa (by rw[HR.o];rfl),Oy _ _⟩;simp[results,results138,go_sem]
 have F:Hid (Ou (Oh f) s.data.toList=Oi (Oh f) s.data.toList):=ZP hp;have c6:Hid (Lib.hasPrefix s.data.toList U0=false):=by unfold Hid;rw[Ko];exact Jd hp
 clear hp
 go_in
 go_wp2_with fail
 refine(Tryz.strings_CutPrefix s ⟨#[40,65,114,114,97,121,32]⟩ _).mono ?_;generalize q:w.alloc (.cells #[.int .i64 0,.int .i64 0,.string ⟨#[]⟩,.string ⟨#[]⟩] 145)=W1
 change ∀(e:Ending) (w':World),(e=.returned (.tuple #[.string ⟨(Lib.trimPrefix s.data.toList U0).toArray⟩,.bool (Lib.hasPrefix s.data.toList U0)])/\w'=W1)->_
 rw[c6.o];rintro e w1 ⟨rfl,rfl⟩;generalize (⟨(Lib.trimPrefix s.data.toList U0).toArray⟩:ByteArray)=D;subst q
 go_wp2_with fail
 refine(G.o s _ hs (Oy _ _)).mono ?_;obtain⟨X,hX⟩:=O2 (Oi (Oh f) s.data.toList);rw[hX]at F ⊢;clear hX;rintro e w1 ⟨rfl,a8⟩;have b0:Below (w.heap.size+1) (w.alloc (.cells #[.int .i64 0,.int .i64 0,.string ⟨#[]⟩,.string ⟨#[]⟩] 145)) w1:=FS a8
 have h:=Hd (Lu b0);have E:Hid (Below w.heap.size w w1):=(Oy w _).trans (b0.mono (by omega));obtain⟨c0,c1,c2,c3⟩:=h.o.c4;obtain⟨f0,f1,f2,f3⟩:=h.o.f4;clear a8 b0;unfold Gu
 go_wp2_with fail
 have K:=((((h.o.set 0 (.int .i64 X.kind)).set 1 (.int .i64 (X.width:Nat))).set 2 (.string (Oo X.index))).set 3 (.string (Oo X.elem)));obtain⟨e0,O,e2,e3⟩:=K.c4;refine Jl (v:=.agg #[.int .i64 X.kind,.int .i64 (X.width:Nat),.string (Oo X.index),.string (Oo X.elem)]) ?_ rfl ⟨Oa (by rw[F.o];rfl),?_⟩
 ·clear c0 c1 c2 c3 f0 f1 f2 f3;simp[results,results138,go_sem,e0,O,e2,e3]
 exact(((E.o.sc).sc).sc).sc
end Go.Proofs.YtfkagjelljnpdaaGreatDoor
namespace Go.Proofs.YtfkagjelljnpdaaGreatDoor
open ChangeShapes WideShapes ChangeAt RowKit
variable {g:Nat}{w w':World}
structure Bar(g:Nat)(w w':World):Prop where
 os:w'.os=w.os
 tape:w'.tape=w.tape
 output:w'.output=w.output
 size:w.heap.size<=w'.heap.size
 block:∀k,k<w.heap.size->k≠g->w'.heap[k]? = w.heap[k]?
theorem Bar.refl(g:Nat)(w:World):Bar g w w:=⟨rfl,rfl,rfl,leR,fun _ _ _=>rfl⟩
theorem Bar.trans{a b c:World}(h:Bar g a b)(k:Bar g b c):Bar g a c:=
 ⟨k.os.trans h.os,k.tape.trans h.tape,k.output.trans h.output,Jm h.size k.size,fun i hi hg=>(k.block i (Jn hi h.size) hg).trans (h.block i hi hg)⟩
theorem Bar.of(h:Up w w'):Bar g w w':=⟨h.os,h.tape,h.output,h.size,fun k hk _=>h.block k hk⟩
theorem Bar.bl{N:Nat}(h:Bar g w w')(hN:N<=g)(hw:N<=w.heap.size):Below N w w':=⟨h.os,h.tape,h.output,h.size,fun k hk=>h.block k (by omega) (by omega)⟩
theorem Bar.setCell(g i:Nat)(w:World)(v:Value):Bar g w (w.setCell ⟨g,i,none⟩ v):=
 ⟨rfl,rfl,rfl,by simp[World.setCell],fun k _ hk=>Jh _ _ _ _ hk⟩
theorem Bar.drew(h:Bar g w w'):Bar g w w'.drew:=⟨h.os,h.tape,h.output,h.size,h.block⟩
theorem Bar.cell(h:Bar g w w'){p:Addr}(hp:p.block<w.heap.size)(hg:p.block≠g):w'.cell? p=w.cell? p:=by
 unfold World.cell?;rw[h.block p.block hp hg]
theorem Bar.grownBy(h:Bar g w w'):w.grownBy w' (some g):=⟨h.os,h.tape,h.output,h.size,fun k hk hne=>h.block k hk (fun e=>hne (by rw[e]))⟩
theorem Bar.then{a b:World}(h:Bar g w a)(k:Below w.heap.size a b):Bar g w b:=
 ⟨k.os.trans h.os,k.tape.trans h.tape,k.output.trans h.output,Jm h.size k.size,fun i hi hg=>(k.block i hi).trans (h.block i hi hg)⟩
theorem Bx.bar{W W':World}{b:Nat}{l:List Value}(h:Bx W b l)(hb:Bar g W W')(hg:b≠g):Bx W' b l:=by
 obtain⟨t,h⟩:=h;exact⟨t,(hb.block b (Jo.1 h).1 hg).trans h⟩
end Go.Proofs.YtfkagjelljnpdaaGreatDoor
