import Derived.Test.YtdmdmgfjpomdbaaGreatDoorP17
import Derived.Test.YtdmdmgfjpomdbaaGreatDoorP18
import Derived.Maps.OwnSet
import Derived.Maps.OwnOps
set_option maxRecDepth 100000
set_option maxHeartbeats 104857600
namespace Go.Proofs.YtdmdmgfjpomdbaaGreatDoor
open ChangeShapes WideShapes ChangeAt RowKit Proofs.Tryz
variable {n:List UInt8}{s:ByteArray}{w w':World}
theorem CK (h0:0<s.size)(h6:s.size<=60):Ng s.data.toList=decide (((Ek Ib s.data.toList:Nat):Int)=(s.size:Int)):=by
 rw[ZG h0 h6,Yd,Ju,<-ZY,Om];omega
theorem Do (s:ByteArray)(w:World)(hs:s.size<=maxLen) :
 Calls prog 97 #[.string s] w fun e w'=>e=.returned (.bool (Ng s.data.toList))/\w'=w:=by
 have G:=hs;unfold maxLen at hs
 by_cases h:s.size=0
 ·have F:Hid (Ng s.data.toList=false):=Dq (.inl h);have z:=Rn s h
  go_in
  go_wp2
  go_ret
  exact⟨Oy F.o.symm,rfl⟩
 have j:0<s.size:=by omega
 have z:=Il s j
 by_cases E:60<s.size
 ·have F:Hid (Ng s.data.toList=false):=Dq (.inr E)
  go_in
  go_wp2
  go_ret
  exact⟨Oy F.o.symm,rfl⟩
 have F:=Hd (CK j (by omega));obtain⟨R,d⟩:∃ R:Nat,Ek Ib s.data.toList=R:=⟨_,rfl⟩;have A:=Hd d;rw[d] at F;clear d
 go_in
 go_wp2_with (go_at_call 111;refine (QZ _ _ G).mono ?_;rw[A.o];rintro e w' ⟨rfl,rfl⟩)
 go_ret
 exact⟨Oy (by rw[F.o,Yd,Ju];simp),rfl⟩
theorem GE (t:List UInt8):Lib.hasPrefix t [98,118]=FZ t:=by
 unfold Lib.hasPrefix FZ;rw[Yd,Ju,List.isPrefixOf_iff_prefix,List.prefix_iff_eq_take];exact⟨fun h=>h.symm,fun h=>h.symm⟩
theorem S2 (w:World)(t:List UInt8)(h:t∈Kf):Calls prog 98 #[.string (Oo t)] w fun e w'=>e=.returned (.bool true)/\w'=w:=by
 simp only[Kf,Vi,List.not_mem_nil,or_false] at h
 rcases h with rfl|rfl|rfl|rfl|rfl|rfl|rfl|rfl|rfl|rfl|rfl|rfl|rfl|rfl|rfl|rfl|rfl|rfl|rfl|rfl|rfl|rfl|rfl|rfl|rfl|rfl|rfl|rfl|rfl|rfl|rfl|rfl|rfl|rfl|rfl|rfl|rfl|rfl
 all_goals (unfold Oo;go_in)
 all_goals go_wp2_with fail
 all_goals go_ret
 all_goals exact⟨rfl,rfl⟩
theorem B5 (s:ByteArray)(w:World)(h:s.data.toList∉Kf):Calls prog 98 #[.string s] w fun e w'=>e=.returned (.bool (FZ s.data.toList))/\w'=w:=by
 have d:∀ t∈Kf,(s.toList==t)=false:=fun t ht=>Qd (fun e=>h (by rw[e];exact ht));have j:=Hd (GE s.data.toList);clear h;have z0:=d [66,111,111,108] (by decide);have z1:=d [73,110,116] (by decide);have z2:=d [82,101,97,108] (by decide);have z3:=d [66,105,116,86,101,99] (by decide);have z4:=d [65,114,114,97,121] (by decide);have z5:=d [95] (by decide);have z6:=d [108,101,116] (by decide);have z7:=d [97,115] (by decide);have z8:=d [116,114,117,101] (by decide);have z9:=d [102,97,108,115,101] (by decide);have A:=d [110,111,116] (by decide);have E:=d [97,110,100] (by decide);have G:=d [111,114] (by decide);have I:=d [120,111,114] (by decide);have J:=d [61,62] (by decide);have K:=d [105,116,101] (by decide);have M:=d [61] (by decide);have O:=d [100,105,115,116,105,110,99,116] (by decide);have U:=d [43] (by decide);have V:=d [45] (by decide);have z20:=d [42] (by decide);have z21:=d [47] (by decide);have z22:=d [60,61] (by decide);have Y:=d [60] (by decide);have Z:=d [62,61] (by decide);have a7:=d [62] (by decide);have a8:=d [100,105,118] (by decide);have b3:=d [109,111,100] (by decide);have b4:=d [116,111,95,114,101,97,108] (by decide);have b5:=d [115,101,108,101,99,116] (by decide);have b6:=d [115,116,111,114,101] (by decide);have b7:=d [99,111,110,99,97,116] (by decide);have b8:=d [101,120,116,114,97,99,116] (by decide);have b9:=d [122,101,114,111,95,101,120,116,101,110,100] (by decide);have c6:=d [115,105,103,110,95,101,120,116,101,110,100] (by decide);have c8:=d [114,111,116,97,116,101,95,108,101,102,116] (by decide);have d0:=d [114,111,116,97,116,101,95,114,105,103,104,116] (by decide);have z37:=d [114,101,112,101,97,116] (by decide);clear d
 go_in
 go_wp2_with fail
 refine (Tryz.strings_HasPrefix s ⟨#[98,118]⟩ _).mono ?_;rintro e w1 ⟨rfl,rfl⟩
 go_wp2
 go_ret
 exact⟨Oy j.o,rfl⟩
theorem OM (s:ByteArray)(w:World):Calls prog 98 #[.string s] w fun e w'=>e=.returned (.bool (Gj s.data.toList))/\w'=w:=by
 by_cases h:s.data.toList∈Kf
 ·have e:Gj s.data.toList=true:=by unfold Gj;rw[Uu];right;simpa using h
  have h2:=S2 w _ h;rw[Kq] at h2;rw[e];exact h2
 have e:Gj s.data.toList=FZ s.data.toList:=by
  unfold Gj;have:Kf.contains s.data.toList=false:=by rw[J8];intro hc;exact h (by simpa using hc)
  rw[this,Bool.or_false]
 rw[e];exact B5 s w h
theorem Ll (s:ByteArray)(w:World)(hs:s.size<=maxLen) :
 Calls prog 78 #[.string s] w fun e w'=>e=.returned (.bool (Ni s.data.toList))/\w'=w:=by
 have F:Hid (Ni s.data.toList=(Ng s.data.toList&&!Gj s.data.toList)):=rfl
 cases d:Ng s.data.toList
 ·have h:=Hd d
  go_in
  go_wp2_with (go_at_call 97;refine (Do _ _ hs).mono ?_;rw[d];rintro e w' ⟨rfl,rfl⟩)
  go_ret
  exact⟨Oy (by rw[F.o,h.o];rfl),rfl⟩
 have h:=Hd d
 go_in
 go_wp2_with (first|(go_at_call 97;refine (Do _ _ hs).mono ?_;rw[d];rintro e w' ⟨rfl,rfl⟩)|(go_at_call 98;refine (OM _ _).mono ?_;rintro e w' ⟨rfl,rfl⟩))
 go_ret
 exact⟨Oy (by rw[F.o,h.o];rfl),rfl⟩
def EV (w:World):Prop:=(∃ ev,w.cell? ⟨4,0,none⟩=some ev/\(ev=.nilIface∨∃ te pe,ev=.iface te pe))/\(∃ ev,w.cell? ⟨5,0,none⟩=some ev/\(ev=.nilIface∨∃ te pe,ev=.iface te pe))
theorem EV.bl {N:Nat}(h:EV w)(hb:Below N w w')(h1:4<N)(h2:5<N):EV w':=by
 obtain⟨⟨d,c1,j⟩,e2,c2,k2⟩:=h;exact⟨⟨d,(hb.cell (p:=⟨4,0,none⟩) h1).trans c1,j⟩,e2,(hb.cell (p:=⟨5,0,none⟩) h2).trans c2,k2⟩
theorem EV.lt (h:EV w):4<w.heap.size/\5<w.heap.size:=by
 obtain⟨⟨d,c1,_⟩,e2,c2,_⟩:=h;exact⟨J5 w _ c1,J5 w _ c2⟩
theorem EV.next (h:EV w)(hb:Up w w'):EV w':=h.bl hb h.lt.1 h.lt.2
theorem Wa:∀ w:Fin 65,Lib.decDigits w.val=Bj w.val:=fun w=>by
 unfold Bj
 unfold Lib.decDigits
 by_cases h:w.val<10
 ·rw[dif_pos h,if_pos h]
 rw[dif_neg h,if_neg h]
 unfold Lib.decDigits
 rw[dif_pos (by omega)]
 rfl
theorem RR (n:Nat)(h:n<65):(⟨#[40,95,32,66,105,116,86,101,99,32]⟩++⟨(Lib.decDigits n).toArray⟩++⟨#[41]⟩:ByteArray)=Oo (Ge n):=by
 rw[Wa ⟨n,h⟩];apply ByteArray.ext;apply Array.ext';simp[Oo,Ge,Bl]
theorem Pm (n:Nat)(w:World)(h:n<65) :
 Calls prog 157 #[.int .i64 (n:Nat)] w fun e w'=>e=.returned (.string (Oo (Ge n)))/\w'=w:=by
 have d:=Hd (RR n h)
 go_in
 go_wp2_with fail
 refine (Tryz.strconv_Itoa_small n (by omega) _).mono ?_;rintro e A ⟨rfl,rfl⟩;have j:(⟨(Lib.decDigits n).toArray⟩:ByteArray).size<=2:=by
  rw[Wa ⟨n,h⟩];unfold Bj
  split<;>simp[ByteArray.size]
 generalize (⟨(Lib.decDigits n).toArray⟩:ByteArray)=D at d j ⊢
 go_wp2
 go_ret
 exact⟨O6 (by rw[d.o];rfl),rfl⟩
theorem GO:∀ w:Fin 65,0<w.val->Lib.atoiAll (Lib.trimSuffix ((Ge w.val).drop 10) [41])=.ok (w.val:Int):=by decide +kernel
theorem Ew (t p:List UInt8):Lib.hasPrefix t p=decide (t.take p.length=p):=by
 unfold Lib.hasPrefix;rw[Yd,Ju,List.isPrefixOf_iff_prefix,List.prefix_iff_eq_take];exact⟨fun h=>h.symm,fun h=>h.symm⟩
theorem ES {t:List UInt8}(h:t.take 10≠Bl):Nt t=0:=CB (fun hb=>h hb.2.1)
theorem X8 {t:List UInt8}(h:0<Nt t):Lib.atoiAll (Lib.trimSuffix (t.drop 10) [41])=.ok (Nt t:Int)/\t=Ge (Nt t)/\Nt t<65:=by
 obtain⟨w,j,d,e,A⟩:=Hv h;rw[A];refine⟨?_,e,d⟩;rw[e];exact GO ⟨w,d⟩ j
theorem BG {t:List UInt8}{n:Nat}(h0:0<n)(h1:n<65)(h:Ge n=t):Nt t=n:=by rw[<-h];exact Sg ⟨n,h1⟩ h0
theorem CD {t:List UInt8}(h:t.take 10=Bl):Lib.trimPrefix t Bl=t.drop 10:=by
 unfold Lib.trimPrefix;rw[Ew,Ja (by exact h)];rfl
theorem QB (t p:List UInt8):(Lib.trimSuffix t p).length<=t.length:=by
 unfold Lib.trimSuffix
 split
 ·rw[J4];omega
 exact leR
theorem ZD (s:ByteArray)(w:World)(hs:s.size<=1048576)(hev:EV w) :
 Calls prog 137 #[.string s] w fun e w'=>e=.returned (.int .i64 (Nt s.data.toList:Nat))/\Up w w':=by
 have J:=Hd hev;clear hev
 by_cases A:s.data.toList.take 10=Bl
 ·have j:Hid (Lib.hasPrefix s.data.toList Bl=true):=by unfold Hid;rw[Ew];exact Ja A
  have Y:=Hd (CD A);clear A
  go_in
  go_wp2_with fail
  refine (Tryz.strings_CutPrefix s ⟨#[40,95,32,66,105,116,86,101,99,32]⟩ _).mono ?_
  change ∀ (e:Ending) (w':World),(e=.returned (.tuple #[.string ⟨(Lib.trimPrefix s.data.toList Bl).toArray⟩,.bool (Lib.hasPrefix s.data.toList Bl)])/\w'=w)->_
  rw[j.o,Y.o];rintro e O ⟨rfl,rfl⟩;obtain⟨D,Z⟩:∃ D:ByteArray,(⟨(s.data.toList.drop 10).toArray⟩:ByteArray)=D:=⟨_,rfl⟩;have HD:Hid (D.data.toList=s.data.toList.drop 10):=by unfold Hid;rw[<-Z]
  have b7:D.size<=1048576:=by rw[<-Om,HD.o,Zf,Om];omega
  rw[Z];clear Z
  go_wp2_with fail
  refine (Tryz.strings_TrimSuffix D ⟨#[41]⟩ _ (by omega)).mono ?_
  change ∀ (e:Ending) (w':World),(e=.returned (.string ⟨(Lib.trimSuffix D.data.toList [41]).toArray⟩)/\w'=O)->_
  rw[HD.o];rintro e O ⟨rfl,rfl⟩;obtain⟨E,hE⟩:∃ E:ByteArray,(⟨(Lib.trimSuffix (s.data.toList.drop 10) [41]).toArray⟩:ByteArray)=E:=⟨_,rfl⟩;have M:Hid (E.data.toList=Lib.trimSuffix (s.data.toList.drop 10) [41]):=by unfold Hid;rw[<-hE]
  have b8:E.size<=1048576:=by
   rw[<-Om,M.o];have h1:=QB (s.data.toList.drop 10) [41];rw[Zf,Om] at h1;omega
  rw[hE];clear hE
  go_wp2_with fail
  rcases ha:Lib.atoiAll E.data.toList with v|_|_
  ·refine (Tryz.strconv_Atoi_ok E (by omega) v ha _).mono ?_;rintro e w2 ⟨rfl,K⟩;have d:Hid (Up O w2):=by
    rcases K with rfl|⟨t,rfl⟩
    ·exact Je _ _
    exact Lib.bytesWorld_below _ _ _
   have I:Hid (∀ h0:0<Nt s.data.toList,v=(Nt s.data.toList:Int)):=fun h0=>by
    have:=(X8 h0).1;rw[<-M.o,ha] at this
    cases this
    rfl
   clear K ha
   by_cases G:1<=v/\v<=64
   ·have b3:=G.1;have b4:=G.2;obtain⟨n,rfl⟩:∃ n:Nat,v=n:=⟨v.toNat,by omega⟩;clear G
    by_cases hn:Ge n=s.data.toList
    ·have F:Hid (Nt s.data.toList=n):=BG (by omega) (by omega) hn;have y:((Oo (Ge n)).toList==s.toList)=true:=by rw[Jk,Jk,Ou,hn];simp
     have h:Hid (∀ W,Calls prog 157 #[.int .i64 (n:Nat)] W fun e w'=>e=.returned (.string (Oo (Ge n)))/\w'=W):=fun W=>Pm n W (by omega);clear hn;generalize Oo (Ge n)=U at y h
     go_wp2_with (go_at_call 157;refine (h.o _).mono ?_;rintro e w' ⟨rfl,rfl⟩)
     go_ret
     exact⟨Kx (by rw[F.o]),d.o⟩
    have F:Hid (Nt s.data.toList=0):=by
     unfold Hid
     rcases Zw (Nt s.data.toList) with h0|h0
     ·exact h0
     have h3:=I.o h0;have h4:=(X8 h0).2.1;exact absurd (by rw[show n=Nt s.data.toList by omega];exact h4.symm) hn
    have y:((Oo (Ge n)).toList==s.toList)=false:=by rw[Jk,Jk,Ou,Jb];exact hn
    have h:Hid (∀ W,Calls prog 157 #[.int .i64 (n:Nat)] W fun e w'=>e=.returned (.string (Oo (Ge n)))/\w'=W):=fun W=>Pm n W (by omega);clear hn;generalize Oo (Ge n)=U at y h
    go_wp2_with (go_at_call 157;refine (h.o _).mono ?_;rintro e w' ⟨rfl,rfl⟩)
    go_ret
    exact⟨Kx (by rw[F.o];rfl),d.o⟩
   have F:Hid (Nt s.data.toList=0):=by
    unfold Hid
    rcases Zw (Nt s.data.toList) with h0|h0
    ·exact h0
    have h3:=I.o h0;have h4:=(X8 h0).2.2;exact absurd ⟨by omega,by omega⟩ G
   by_cases b3:v<1
   ·clear G
    go_wp2
    go_ret
    exact⟨Kx (by rw[F.o];rfl),d.o⟩
   have b4:64<v:=by omega
   have b9:1<=v:=by omega
   clear G
   go_wp2
   go_ret
   exact⟨Kx (by rw[F.o];rfl),d.o⟩
  ·have F:Hid (Nt s.data.toList=0):=by
    unfold Hid
    rcases Zw (Nt s.data.toList) with h0|h0
    ·exact h0
    have:=(X8 h0).1;rw[<-M.o,ha] at this;cases this
   obtain⟨ev,hev,hk⟩:=J.o.1;refine (Tryz.strconv_Atoi_syntax E (by omega) ha ev _ hev hk).mono ?_;rintro e w2 ⟨N,rfl,_,_,hb2⟩;have d:=Hd hb2;clear hb2 ha
   go_wp2
   go_ret
   exact⟨Kx (by rw[F.o];rfl),d.o⟩
  have F:Hid (Nt s.data.toList=0):=by
   unfold Hid
   rcases Zw (Nt s.data.toList) with h0|h0
   ·exact h0
   have:=(X8 h0).1;rw[<-M.o,ha] at this;cases this
  obtain⟨ev,hev,hk⟩:=J.o.2;refine (Tryz.strconv_Atoi_range E (by omega) ha ev _ hev hk).mono ?_;rintro e w2 ⟨N,rfl,_,_,hb2⟩;have d:=Hd hb2;clear hb2 ha;generalize Lib.atoiSat E.data.toList=V
  go_wp2
  go_ret
  exact⟨Kx (by rw[F.o];rfl),d.o⟩
 have F:Hid (Nt s.data.toList=0):=ES A;have j:Hid (Lib.hasPrefix s.data.toList Bl=false):=by unfold Hid;rw[Ew];exact Jc A
 clear A
 go_in
 go_wp2_with fail
 refine (Tryz.strings_CutPrefix s ⟨#[40,95,32,66,105,116,86,101,99,32]⟩ _).mono ?_
 change ∀ (e:Ending) (w':World),(e=.returned (.tuple #[.string ⟨(Lib.trimPrefix s.data.toList Bl).toArray⟩,.bool (Lib.hasPrefix s.data.toList Bl)])/\w'=w)->_
 rw[j.o];rintro e O ⟨rfl,rfl⟩;generalize (⟨(Lib.trimPrefix s.data.toList Bl).toArray⟩:ByteArray)=D
 go_wp2
 go_ret
 exact⟨Kx (by rw[F.o];rfl),Je _ _⟩
theorem Xc:Maps.Keyed prog 9:=Maps.string_keyed underlying9
theorem Gl (s:ByteArray)(hs:s.size<=maxLen):keyOf prog 9 (.string s)=some (.string s.data.toList):=Go.WideMaps.keyOf_string_mk underlying9 hs
def Hm (w:World)(b:Nat)(f:List UInt8->Option Nat):Prop:=
 ∃ (n:Nat) (D:DataW Unit),n<=1000000/\w.ownsMap prog 9 (plainElem prog 3) b n D/\∀ s,Maps.has D (.string s)=(f s).isSome/\∀ i,f s=some i->D.atKey (.string s) (.lit (.int .i64 0))=.lit (.int .i64 (i:Nat))
theorem OX (kb b:Nat)(f:List UInt8->Option Nat)(s:ByteArray)(w:World)(hc:w.cell? ⟨kb,3,none⟩=some (.map (some b)))(hm:Hm w b f)(hs:s.size<=maxLen) :
 Calls prog 102 #[.pointer (some ⟨kb,0,none⟩),.string s] w fun e w'=>e=.returned (.bool (f s.data.toList).isSome)/\w'=w:=by
 obtain⟨n,D,hn,d,E⟩:=hm;have h:=Hd d;have G:=Hd E;clear d E
 go_in
 go_wp2_with (at_lookup;refine wpList_lookup_own_ok_int _ rfl _ _ 75 rfl 9 3 .i64 Xc underlying75 underlying3 ?z b n D rfl h.o _ _ rfl (Gl s hs) ?_)
 case z=>rfl
 intro c j A;rw[(G.o s.data.toList).1];clear j A
 go_wp2
 go_ret
 exact⟨rfl,rfl⟩
def DS:List Value->Option (DataW Unit×List MemPlace)
 | [.int .i64 a,.int .i64 b,.string c,.string d]=>some (.agg [.lit (.int .i64 a),.lit (.int .i64 b),.lit (.string c.data.toList),.lit (.string d.data.toList)],[])
 | _=>none
def Rk:Value->Option (DataW Unit×List MemPlace)
 | .agg cs=>DS cs.toList
 | _=>none
def QJ (x:SI):DataW Unit:=.agg [.lit (.int .i64 x.kind),.lit (.int .i64 (x.width:Nat)),.lit (.string x.index),.lit (.string x.elem)]
theorem Cz (x:SI):Rk (Gw x)=some (QJ x,[]):=by
 show some (_,_)=some (_,_)
 unfold QJ;rw[Ou,Ou]
theorem Bz {v:Value}{x:SI}{ps:List MemPlace}(h:Rk v=some (QJ x,ps)):v=Gw x:=by
 cases v with
 | agg cs=>
   have j:DS cs.toList=some (QJ x,ps):=h;unfold DS at j
   split at j
   ·rename_i a b c d e;simp only[Option.some.injEq,Prod.mk.injEq,QJ,DataW.agg.injEq,List.cons.injEq,DataW.lit.injEq,Lit.int.injEq,Lit.string.injEq,true_and] at j;obtain⟨⟨rfl,rfl,h3,h4,_⟩,_⟩:=j;unfold Gw;rw[<-h3,<-h4,Kq,Kq,<-e]
   cases j
 | _=>cases h
theorem I4 (own:List UInt8->Bool)(t:List UInt8):0<=(Of own t).kind/\(Of own t).kind<=5:=by
 unfold Of
 split
 ·exact⟨by decide,by decide⟩
 split
 ·exact⟨by decide,by decide⟩
 split
 ·exact⟨by decide,by decide⟩
 split
 ·exact⟨by show (0:Int)<=4;decide,by show (4:Int)<=5;decide⟩
 split
 ·split
  ·exact⟨by decide,by decide⟩
  exact⟨by decide,by decide⟩
 exact⟨by decide,by decide⟩
theorem Pn (own:List UInt8->Bool)(t:List UInt8):O1 (Of own t)=true↔(Of own t).kind≠0/\(Of own t).kind≠1:=by
 have:=I4 own t;simp only[O1,J3,Yi];omega
theorem Bw {w1:World}{ty:TypeId}{a0 a1 a2 a3:Value}(hb:Below (w.heap.size+1) (w.alloc (.cells #[a0,a1,a2,a3] ty)) w1):Bx w1 w.heap.size [a0,a1,a2,a3]:=(Oi w [a0,a1,a2,a3] ty).bl (N:=w.heap.size+1) (by omega) hb
theorem Fp (v:Value)(L:List (List UInt8))(s:ByteArray)(w:World)(h:O3 w v L)(hs:s.size<=1048576)(hn:¬ (8<s.data.toList.length/\s.data.toList.take 7=Eh/\s.data.toList.getLast? = some 41)) :
 Calls prog 67 #[v,.string s] w fun e w'=>e=.returned (Gw (Of (Ok L) s.data.toList))/\Up w w':=by
 have Y:=Hd h;have Z:=Hd hn;clear h hn
 go_in
 by_cases V:8<s.size
 ·by_cases hb2:s.data.toList.take 7=Eh
  case' pos=>
   have y1:((s.extract 0 7).toList==[40,65,114,114,97,121,32])=true:=by rw[Np,hb2];rfl
   have y2:(((s[s.size - 1]'(by omega)).toNat:Int)==41)=false:=by
    rw[Jb];intro e;exact Z.o ⟨by rw[Om];exact V,hb2,by rw[Xe (by omega),Gc (c:=s[s.size - 1]'(by omega)) (n:=41) (by omega)];rfl⟩
  case' neg=>
   have y1:((s.extract 0 7).toList==[40,65,114,114,97,121,32])=false:=by rw[Np,Jb];exact hb2
  all_goals
   clear hb2
   go_wp2_with fail
   refine (Ii v L s _ (Y.o.bl (Oz _ _)) hs).mono ?_;obtain⟨X,I⟩:=Oa (Of (Ok L) s.data.toList);have G:=Hd I;rw[I];clear I;rintro e K ⟨rfl,hb⟩;have j:Below (w.heap.size+1) (w.alloc (.cells #[.int .i64 0,.int .i64 0,.string ⟨#[]⟩,.string ⟨#[]⟩] 101)) K:=BO hb
   have d:=Bw j;have E:=Hd d;have A:Hid (Up w K):=(Oz w _).trans (j.mono (by omega));obtain⟨c0,c1,c2,c3⟩:=d.c4;obtain⟨f0,f1,f2,f3⟩:=d.f4;clear hb j d;unfold Gw
   go_wp2_with fail
   have J:=((((E.o.set 0 (.int .i64 X.kind)).set 1 (.int .i64 (X.width:Nat))).set 2 (.string (Oo X.index))).set 3 (.string (Oo X.elem)));obtain⟨M,O,e2,U⟩:=J.c4;refine Jg (v:=.agg #[.int .i64 X.kind,.int .i64 (X.width:Nat),.string (Oo X.index),.string (Oo X.elem)]) ?_ rfl ⟨O6 (by rw[G.o];rfl),?_⟩
   ·clear c0 c1 c2 c3 f0 f1 f2 f3;simp[results,results67,go_sem,M,O,e2,U]
   exact (((A.o.sc).sc).sc).sc
 go_wp2_with fail
 refine (Ii v L s _ (Y.o.bl (Oz _ _)) hs).mono ?_;obtain⟨X,I⟩:=Oa (Of (Ok L) s.data.toList);have G:=Hd I;rw[I];clear I;rintro e K ⟨rfl,hb⟩;have j:Below (w.heap.size+1) (w.alloc (.cells #[.int .i64 0,.int .i64 0,.string ⟨#[]⟩,.string ⟨#[]⟩] 101)) K:=BO hb
 have d:=Bw j;have E:=Hd d;have A:Hid (Up w K):=(Oz w _).trans (j.mono (by omega));obtain⟨c0,c1,c2,c3⟩:=d.c4;obtain⟨f0,f1,f2,f3⟩:=d.f4;clear hb j d;unfold Gw
 go_wp2_with fail
 have J:=((((E.o.set 0 (.int .i64 X.kind)).set 1 (.int .i64 (X.width:Nat))).set 2 (.string (Oo X.index))).set 3 (.string (Oo X.elem)));obtain⟨M,O,e2,U⟩:=J.c4;refine Jg (v:=.agg #[.int .i64 X.kind,.int .i64 (X.width:Nat),.string (Oo X.index),.string (Oo X.elem)]) ?_ rfl ⟨O6 (by rw[G.o];rfl),?_⟩
 ·clear c0 c1 c2 c3 f0 f1 f2 f3;simp[results,results67,go_sem,M,O,e2,U]
 exact (((A.o.sc).sc).sc).sc
theorem YV (s:ByteArray)(i:Nat)(x:Int)(w:World)(hx:x=(i:Nat))(hs:s.size<=maxLen)(hi:i<=maxLen) :
 Calls prog 81 #[.string s,.int .i64 x] w fun e w'=>e=.returned (.int .i64 (Nz s.data.toList i))/\w'=w:=by
 subst hx;exact Mu s i w hs hi
theorem Nr {a b:Int}(h:a=b):@bne Int (@instBEqOfDecidableEq Int Int.instDecidableEq) a b=false:=by simp[h]
theorem K3 {a b:Int}(h:¬ a=b):@bne Int (@instBEqOfDecidableEq Int Int.instDecidableEq) a b=true:=by simp[h]
theorem Af {k:Nat}(h:k<s.size):(s.data.toList.drop k).head? = some s[k]:=by
 rw[Rp (by rw[Om];exact h)];rfl
theorem IG {k:Nat}(h:s.size<=k):(s.data.toList.drop k).head? = none:=by
 rw[Zr (by rw[Om];exact h)];rfl
def ZE (own:List UInt8->Bool)(t:List UInt8)(k:Nat):SI:=
 if (t.drop (7+k)).head? = some 32 then
  match Es (t.drop (7+k+1)) with
  | none=>SI.none
  | some m=>
    if 7+k+1+m+1=t.length then
     if O1 (Of own ((t.drop 7).take k))&&O1 (Of own ((t.drop (7+k+1)).take m)) then ⟨6,0,(t.drop 7).take k,(t.drop (7+k+1)).take m⟩ else SI.none
    else SI.none
 else SI.none
theorem DT {own:List UInt8->Bool}{t:List UInt8}(h:8<t.length/\t.take 7=Eh/\t.getLast? = some 41):Gz own t=match Es (t.drop 7) with|none=>SI.none|some k=>ZE own t k:=by
 unfold Gz;rw[if_pos h];rfl
theorem Tg (v:Value)(L:List (List UInt8))(s:ByteArray)(w:World)(h:O3 w v L)(hs:s.size<=1048576)(hc:8<s.data.toList.length/\s.data.toList.take 7=Eh/\s.data.toList.getLast? = some 41) :
 Calls prog 67 #[v,.string s] w fun e w'=>e=.returned (Gw (Gz (Ok L) s.data.toList))/\Up w w':=by
 have HS:=Hd h;have d0:=Hd (DT (own:=Ok L) hc);have h1:8<s.size:=by have:=hc.1;rw[Om] at this;exact this
 have y1:((s.extract 0 7).toList==[40,65,114,114,97,121,32])=true:=by rw[Np,hc.2.1];rfl
 have hl:(s[s.size - 1]'(by omega)).toNat=41:=by have:=hc.2.2;rw[Xe (by omega)] at this;rw[Option.some.inj this];rfl
 have y2:(((s[s.size - 1]'(by omega)).toNat:Int)==41)=true:=by rw[Yf];omega
 clear h hc hl
 go_in
 go_wp2_with fail
 refine (Mu s 7 _ (by unfold maxLen;omega) (by unfold maxLen;omega)).mono ?_
 cases hk:Es (s.data.toList.drop 7) with
 | none=>
   have j:Hid (Gz (Ok L) s.data.toList=SI.none):=by unfold Hid;rw[d0.o,hk]
   have V:Nz s.data.toList 7 = -1:=by unfold Nz;rw[hk]
   rw[V];clear V hk;rintro e I ⟨rfl,rfl⟩
   go_wp2_with fail
   refine Jg (v:=.agg #[.int .i64 0,.int .i64 0,.string ⟨#[]⟩,.string ⟨#[]⟩]) ?_ rfl ⟨O6 (by rw[j.o];rfl),Oz _ _⟩;simp[results,results67,go_sem]
 | some k=>
   have b6:Hid (Gz (Ok L) s.data.toList=ZE (Ok L) s.data.toList k):=by unfold Hid;rw[d0.o,hk]
   have U:=Md hk;rw[Zf,Om] at U;obtain⟨A,hA⟩:=Oa (7+k);have HA:=Hd hA;have V:Nz s.data.toList 7=(A:Int):=by unfold Nz;rw[hk];simp only[];omega
   have g7:7<=A:=by omega
   have g9:A<=s.size:=by omega
   rw[V];clear V hk U hA;rintro e I ⟨rfl,rfl⟩
   by_cases e8:s.size<=A
   ·have j:Hid (Gz (Ok L) s.data.toList=SI.none):=by
     unfold Hid;rw[b6.o];unfold ZE;rw[HA.o,IG e8];rfl
    have zl:decide ((s.size:Int)<=(A:Int))=true:=dT (by omega)
    go_wp2_with fail
    refine Jg (v:=.agg #[.int .i64 0,.int .i64 0,.string ⟨#[]⟩,.string ⟨#[]⟩]) ?_ rfl ⟨O6 (by rw[j.o];rfl),Oz _ _⟩;simp[results,results67,go_sem]
   have c8:A<s.size:=by omega
   by_cases d2:¬ s[A].toNat=32
   ·have j:Hid (Gz (Ok L) s.data.toList=SI.none):=by
     unfold Hid;rw[b6.o];unfold ZE;rw[HA.o,Af c8,if_neg (fun e=>d2 (by rw[Option.some.inj e];rfl))]
    have x1:((s[A].toNat:Int)==32)=false:=by rw[Jb];omega
    have x2:¬ (s[A].toNat:Int)=32:=by omega
    have x3:=K3 x2;clear d2
    go_wp2_with fail
    refine Jg (v:=.agg #[.int .i64 0,.int .i64 0,.string ⟨#[]⟩,.string ⟨#[]⟩]) ?_ rfl ⟨O6 (by rw[j.o];rfl),Oz _ _⟩;simp[results,results67,go_sem]
   have c6:s[A].toNat=32:=by omega
   have b7:Hid (Gz (Ok L) s.data.toList=match Es (s.data.toList.drop (A+1)) with|none=>SI.none|some m=>if A+1+m+1=s.size then (if O1 (Of (Ok L) (s.extract 7 A).data.toList)&&O1 (Of (Ok L) ((s.data.toList.drop (A+1)).take m)) then ⟨6,0,(s.extract 7 A).data.toList,(s.data.toList.drop (A+1)).take m⟩ else SI.none) else SI.none):=by
    unfold Hid;rw[b6.o];unfold ZE;rw[HA.o,Af c8,if_pos (by rw[Gc c6];rfl),Om];have e:(s.extract 7 A).data.toList=(s.data.toList.drop 7).take k:=by
     rw[Iw,Uq]
     congr 1
     have:=HA.o;omega
    rw[e]
   have x1:((s[A].toNat:Int)==32)=true:=by rw[Yf];omega
   have e7:Hid ((s[A].toNat:Int)=32):=by unfold Hid;omega
   have x3:=Nr e7.o;clear d2 c6 d0 b6
   go_wp2_with fail
   refine (YV s (A+1) _ _ (by push_cast;rfl) (by unfold maxLen;omega) (by unfold maxLen;omega)).mono ?_
   cases hm:Es (s.data.toList.drop (A+1)) with
   | none=>
     have j:Hid (Gz (Ok L) s.data.toList=SI.none):=by unfold Hid;rw[b7.o,hm]
     have V:Nz s.data.toList (A+1) = -1:=by unfold Nz;rw[hm]
     rw[V];clear V hm;have x4:=K3 (a:=(-1:Int)) (b:=(s.size:Int) - 1) (by omega);rintro e I ⟨rfl,rfl⟩
     go_wp2_with fail
     refine Jg (v:=.agg #[.int .i64 0,.int .i64 0,.string ⟨#[]⟩,.string ⟨#[]⟩]) ?_ rfl ⟨O6 (by rw[j.o];rfl),Oz _ _⟩;simp[results,results67,go_sem]
   | some m=>
     have U:=Md hm;rw[Zf,Om] at U;obtain⟨B,hB⟩:=Oa (A+1+m);have HB:=Hd hB;have V:Nz s.data.toList (A+1)=(B:Int):=by unfold Nz;rw[hm];simp only[];omega
     have g8:A+1<=B:=by omega
     have h0:B<=s.size:=by omega
     rw[V]
     by_cases d3:¬ B+1=s.size
     ·have j:Hid (Gz (Ok L) s.data.toList=SI.none):=by unfold Hid;rw[b7.o,hm];simp only[];rw[hB,if_neg d3]
      have x4:=K3 (a:=(B:Int)) (b:=(s.size:Int) - 1) (by omega);clear V hm U hB d3;rintro e I ⟨rfl,rfl⟩
      go_wp2_with fail
      refine Jg (v:=.agg #[.int .i64 0,.int .i64 0,.string ⟨#[]⟩,.string ⟨#[]⟩]) ?_ rfl ⟨O6 (by rw[j.o];rfl),Oz _ _⟩;simp[results,results67,go_sem]
     have x4:=Nr (a:=(B:Int)) (b:=(s.size:Int) - 1) (by omega);have HE:Hid (Gz (Ok L) s.data.toList=if O1 (Of (Ok L) (s.extract 7 A).data.toList)&&O1 (Of (Ok L) (s.extract (A+1) B).data.toList) then ⟨6,0,(s.extract 7 A).data.toList,(s.extract (A+1) B).data.toList⟩ else SI.none):=by
      have e:(s.data.toList.drop (A+1)).take m=(s.extract (A+1) B).data.toList:=by
       rw[Iw,Uq]
       congr 1
       omega
      unfold Hid;rw[b7.o,hm];simp only[];rw[hB,if_pos (by omega),e]
     clear V hm U hB d3 b7;rintro e I ⟨rfl,rfl⟩
     go_wp2_with fail
     have e4:(s.extract 7 A).size<=1048576:=by rw[Yo];omega
     have d9:(s.extract (A+1) B).size<=1048576:=by rw[Yo];omega
     generalize s.extract 7 A=J at HE e4 ⊢;generalize s.extract (A+1) B=SE at HE d9 ⊢;refine (Ii v L J _ (HS.o.bl (Oz _ _)) e4).mono ?_;have f8:=I4 (Ok L) J.data.toList;have d6:=Pn (Ok L) J.data.toList;generalize Of (Ok L) J.data.toList=X at HE f8 d6 ⊢;rintro e I ⟨rfl,hb⟩;have E:Below (w.heap.size+1) (w.alloc (.cells #[.int .i64 0,.int .i64 0,.string ⟨#[]⟩,.string ⟨#[]⟩] 101)) I:=BO hb
     have d7:=Hd (Bw E);have Z:Hid (Up w I):=(Oz w _).trans (E.mono (by omega));have g3:w.heap.size+1<=I.heap.size:=by have:=E.size;rw[Jf] at this;exact this
     have a8:=Hd d6;clear hb E d6;unfold Gw
     go_wp2_with fail
     refine (Ii v L SE _ (HS.o.bl (Z.o.trans ((Oz I _).mono Z.o.size))) d9).mono ?_;have e9:=I4 (Ok L) SE.data.toList;have d5:=Pn (Ok L) SE.data.toList;generalize Of (Ok L) SE.data.toList=Y at HE e9 d5 ⊢;rintro e w2 ⟨rfl,hb⟩;have a7:=Hd d5;have E:Below (I.heap.size+1) (I.alloc (.cells #[.int .i64 X.kind,.int .i64 (X.width:Nat),.string (Oo X.index),.string (Oo X.elem)] 101)) w2:=BO hb
     have e5:=Bw E;have g4:I.heap.size+1<=w2.heap.size:=by have:=E.size;rw[Jf] at this;exact this
     have b4:Up I w2:=(Oz I _).trans (E.mono (by omega));have b9:Bx w2 w.heap.size [.int .i64 0,.int .i64 0,.string ⟨#[]⟩,.string ⟨#[]⟩]:=d7.o.bl (N:=I.heap.size) (by omega) b4;have x0:=e5.cell 0;simp only[Jm] at x0;have b3:=Hd b9;have G:=Z.up b4;obtain⟨c0,c1,c2,c3⟩:=b9.c4;obtain⟨f0,f1,f2,f3⟩:=b9.f4;have g1:I.heap.size<w2.heap.size:=by omega
     have g0:w.heap.size<w2.heap.size:=by omega
     clear hb E e5 b4 b9 d5;unfold Gw
     by_cases k1:X.kind=0
     ·skip
      have j:Hid (Gz (Ok L) s.data.toList=SI.none):=by
       unfold Hid;rw[HE.o,if_neg];rw[J3,a8.o,a7.o];omega
      have z1:(X.kind==0)=true:=by rw[Yf];omega
      go_wp2_with fail
      have d:=((((b3.o.set 0 (.int .i64 0)).set 1 (.int .i64 0)).set 2 (.string ⟨#[]⟩)).set 3 (.string ⟨#[]⟩));have K:=fun o=>(d.alloc o).cell 0;have M:=fun o=>(d.alloc o).cell 1;have e2:=fun o=>(d.alloc o).cell 2;have O:=fun o=>(d.alloc o).cell 3;simp only[J0,Jz,Jm,Js] at K M e2 O;refine Jg (v:=.agg #[.int .i64 0,.int .i64 0,.string ⟨#[]⟩,.string ⟨#[]⟩]) ?_ rfl ⟨O6 (by rw[j.o];rfl),?_⟩
      ·clear c0 c1 c2 c3 f0 f1 f2 f3;simp[results,results67,go_sem,K,M,e2,O]
      exact ((((G.o.sc).sc).sc).sc).alloc (by simp only[Ui];omega) _
     have z1:(X.kind==0)=false:=by rw[Jb];exact k1
     by_cases k2:Y.kind=0
     ·skip
      have j:Hid (Gz (Ok L) s.data.toList=SI.none):=by
       unfold Hid;rw[HE.o,if_neg];rw[J3,a8.o,a7.o];omega
      have z2:(Y.kind==0)=true:=by rw[Yf];omega
      go_wp2_with fail
      have d:=((((b3.o.set 0 (.int .i64 0)).set 1 (.int .i64 0)).set 2 (.string ⟨#[]⟩)).set 3 (.string ⟨#[]⟩));have K:=fun o=>(d.alloc o).cell 0;have M:=fun o=>(d.alloc o).cell 1;have e2:=fun o=>(d.alloc o).cell 2;have O:=fun o=>(d.alloc o).cell 3;simp only[J0,Jz,Jm,Js] at K M e2 O;refine Jg (v:=.agg #[.int .i64 0,.int .i64 0,.string ⟨#[]⟩,.string ⟨#[]⟩]) ?_ rfl ⟨O6 (by rw[j.o];rfl),?_⟩
      ·clear c0 c1 c2 c3 f0 f1 f2 f3;simp[results,results67,go_sem,K,M,e2,O]
      exact ((((G.o.sc).sc).sc).sc).alloc (by simp only[Ui];omega) _
     have z2:(Y.kind==0)=false:=by rw[Jb];exact k2
     by_cases k3:X.kind=1
     ·skip
      have j:Hid (Gz (Ok L) s.data.toList=SI.none):=by
       unfold Hid;rw[HE.o,if_neg];rw[J3,a8.o,a7.o];omega
      have z3:(X.kind==1)=true:=by rw[Yf];omega
      go_wp2_with fail
      have d:=((((b3.o.set 0 (.int .i64 0)).set 1 (.int .i64 0)).set 2 (.string ⟨#[]⟩)).set 3 (.string ⟨#[]⟩));have K:=fun o=>(d.alloc o).cell 0;have M:=fun o=>(d.alloc o).cell 1;have e2:=fun o=>(d.alloc o).cell 2;have O:=fun o=>(d.alloc o).cell 3;simp only[J0,Jz,Jm,Js] at K M e2 O;refine Jg (v:=.agg #[.int .i64 0,.int .i64 0,.string ⟨#[]⟩,.string ⟨#[]⟩]) ?_ rfl ⟨O6 (by rw[j.o];rfl),?_⟩
      ·clear c0 c1 c2 c3 f0 f1 f2 f3;simp[results,results67,go_sem,K,M,e2,O]
      exact ((((G.o.sc).sc).sc).sc).alloc (by simp only[Ui];omega) _
     have z3:(X.kind==1)=false:=by rw[Jb];exact k3
     by_cases k4:Y.kind=1
     ·skip
      have j:Hid (Gz (Ok L) s.data.toList=SI.none):=by
       unfold Hid;rw[HE.o,if_neg];rw[J3,a8.o,a7.o];omega
      have z4:(Y.kind==1)=true:=by rw[Yf];omega
      go_wp2_with fail
      have d:=((((b3.o.set 0 (.int .i64 0)).set 1 (.int .i64 0)).set 2 (.string ⟨#[]⟩)).set 3 (.string ⟨#[]⟩));have K:=fun o=>(d.alloc o).cell 0;have M:=fun o=>(d.alloc o).cell 1;have e2:=fun o=>(d.alloc o).cell 2;have O:=fun o=>(d.alloc o).cell 3;simp only[J0,Jz,Jm,Js] at K M e2 O;refine Jg (v:=.agg #[.int .i64 0,.int .i64 0,.string ⟨#[]⟩,.string ⟨#[]⟩]) ?_ rfl ⟨O6 (by rw[j.o];rfl),?_⟩
      ·clear c0 c1 c2 c3 f0 f1 f2 f3;simp[results,results67,go_sem,K,M,e2,O]
      exact ((((G.o.sc).sc).sc).sc).alloc (by simp only[Ui];omega) _
     have z4:(Y.kind==1)=false:=by rw[Jb];exact k4
     have j:Hid (Gz (Ok L) s.data.toList=⟨6,0,J.data.toList,SE.data.toList⟩):=by
      unfold Hid;rw[HE.o,if_pos];rw[J3,a8.o,a7.o];exact⟨⟨k1,k3⟩,k2,k4⟩
     go_wp2_with fail
     have d:=((((b3.o.set 0 (.int .i64 6)).set 1 (.int .i64 0)).set 2 (.string J)).set 3 (.string SE));have K:=fun o=>(d.alloc o).cell 0;have M:=fun o=>(d.alloc o).cell 1;have e2:=fun o=>(d.alloc o).cell 2;have O:=fun o=>(d.alloc o).cell 3;simp only[J0,Jz,Jm,Js] at K M e2 O;refine Jg (v:=.agg #[.int .i64 6,.int .i64 0,.string J,.string SE]) ?_ rfl ⟨O6 (by rw[j.o];unfold Gw;rw[Kq,Kq];rfl),?_⟩
     ·clear c0 c1 c2 c3 f0 f1 f2 f3;simp[results,results67,go_sem,K,M,e2,O]
     exact ((((G.o.sc).sc).sc).sc).alloc (by simp only[Ui];omega) _
theorem Kv (v:Value)(L:List (List UInt8))(s:ByteArray)(w:World)(h:O3 w v L)(hs:s.size<=1048576) :
 Calls prog 67 #[v,.string s] w fun e w'=>e=.returned (Gw (Ov (Ok L) s.data.toList))/\Up w w':=by
 by_cases hc:8<s.data.toList.length/\s.data.toList.take 7=Eh/\s.data.toList.getLast? = some 41
 ·rw[<-So];exact Tg v L s w h hs hc
 have e:Ov (Ok L) s.data.toList=Of (Ok L) s.data.toList:=by rw[<-So];unfold Gz;rw[if_neg hc]
 rw[e];exact Fp v L s w h hs hc
theorem A3 (n:List UInt8):N2 (Kl 2 n)=some n:=by
 cases d:Kt n
 ·have e:Kl 2 n=124::(n++[124]):=by simp[Kl,d]
  have h:(n++[124]).getLast? = some (124:UInt8):=Vm;rw[e];unfold N2;rw[A7];simp only[h,Vl,d];rfl
 have e:Kl 2 n=n:=by simp[Kl,d]
 rw[e];unfold N2;rw[if_pos d]
theorem PS {t:List UInt8}(h:N2 t=some n):Kl 2 n=t:=by
 rcases Qq h with⟨d,rfl⟩|⟨d,rfl⟩
 ·simp[Kl,d]
 simp[Kl,d]
theorem QQ (h:Ng n=true):n≠[]/\∀ c∈n,c≠124:=by
 simp only[Ng,J3,Yi] at h;exact⟨by rintro rfl;simp at h,fun c hc=>Wu (Jt.1 h.2 c hc)⟩
theorem Pv {r:List UInt8}(h:n≠[])(hn:∀ c∈n,c≠124):(n++r).dropWhile (fun b=>b==124)=n++r:=by
 cases n with
 | nil=>exact absurd rfl h
 | cons c n=>
   have:=hn c (by simp);simp[this]
theorem CC (h:Ng n=true):Lib.trimB (Kl 2 n) 124=n:=by
 obtain⟨d,hn⟩:=QQ h;have G:n.reverse≠[]:=by simpa using d
 have j:∀ c∈n.reverse,c≠124:=fun c hc=>hn c (by simpa using hc);have A:n.dropWhile (fun b=>b==124)=n:=by have:=Pv (r:=[]) d hn;simpa using this
 have h2:n.reverse.dropWhile (fun b=>b==124)=n.reverse:=by have:=Pv (r:=[]) G j;simpa using this
 unfold Lib.trimB Lib.trimRightB Lib.trimLeftB
 cases E:Kt n
 ·have e:Kl 2 n=124::(n++[124]):=by simp[Kl,E]
  have e2:(124::(n++[124])).reverse=124::(n.reverse++[(124:UInt8)]):=by simp
  rw[e,e2];have I:List.dropWhile (fun b=>b==124) (124::(n.reverse++[(124:UInt8)]))=n.reverse++[124]:=by
   rw[List.dropWhile_cons_of_pos (by decide)];exact Pv G j
  rw[I];have J:(n.reverse++[(124:UInt8)]).reverse=124::n:=by simp
  rw[J,List.dropWhile_cons_of_pos (by decide),A]
 have e:Kl 2 n=n:=by simp[Kl,E]
 rw[e,h2,List.reverse_reverse,A]
theorem PY (h:Ni n=true):n.length<=60:=by
 simp only[Ni,Ng,J3,Yi] at h;exact h.1.1.2
def Oc (f:List UInt8->Option Nat)(n:List UInt8):Bool:=!Gj n&&(f n).isSome
theorem XM (f:List UInt8->Option Nat){t N:List UInt8}(h1:t≠On)(h2:t≠U8)(h3:t≠Ku)(hw:Nt t=0)(hN:Lib.trimB t 124=N):Of (Oc f) t=if Ni N&&decide (Kl 2 N=t)&&(f N).isSome then ⟨5,0,[],[]⟩ else SI.none:=by
 have A:Of (Oc f) t=match N2 t with|some n=>if Ng n&&Oc f n then ⟨5,0,[],[]⟩ else SI.none|none=>SI.none:=by
  unfold Of;rw[if_neg h1,if_neg h2,if_neg h3,hw,if_neg (by omega)];rfl
 rw[A]
 cases hn:N2 t with
 | none=>
   simp only[];rw[if_neg];intro hc;simp only[J3,Yi] at hc;have:=A3 N;rw[hc.1.2,hn] at this
   cases this
 | some n=>
   simp only[];have j:=PS hn
   cases d:Ng n
   ·rw[if_neg (by simp),if_neg];intro hc;simp only[J3,Yi,Ni] at hc;have:=A3 N;rw[hc.1.2,hn] at this
    cases this
    rw[d] at hc;simp at hc
   have h:N=n:=by rw[<-hN,<-j];exact CC d
   subst h;have:(Ng N&&Oc f N)=(Ni N&&decide (Kl 2 N=t)&&(f N).isSome):=by
    rw[Ja j,d];simp[Oc,Ni,d]
   rw[d] at this;rw[this]
def FP (kb:Nat):Value:=.func (.func 102) #[.pointer (some ⟨kb,0,none⟩)] #[]
theorem Hm.bl {b N:Nat}{f:List UInt8->Option Nat}(h:Hm w b f)(hb:Below N w w')(hN:b<N):Hm w' b f:=by
 obtain⟨n,D,hn,⟨j,d,G,E⟩,A⟩:=h;exact⟨n,D,hn,⟨j,d,(hb.block b hN).trans G,E⟩,A⟩
theorem I8 (s:ByteArray)(w:World)(hs:s.size<=1048576) :
 Calls prog 138 #[.string s,.string ⟨#[124]⟩] w fun e w'=>e=.returned (.string (Oo (Lib.trimB s.data.toList 124)))/\Up w w':=by
 refine (Tryz.strings_Trim_one s 124 (by decide) w (by omega)).mono ?_;rintro e w' ⟨rfl,rfl|rfl⟩
 ·exact⟨rfl,Je _ _⟩
 exact⟨rfl,⟨rfl,rfl,rfl,leR,fun _ _=>rfl⟩⟩
theorem CP (l:List UInt8)(c:UInt8):(Lib.trimB l c).length<=l.length:=by
 unfold Lib.trimB Lib.trimRightB Lib.trimLeftB;have d:=(List.dropWhile_sublist (p:=(·==c)) (l:=(l.reverse.dropWhile (·==c)).reverse)).length_le;have h2:=(List.dropWhile_sublist (p:=(·==c)) (l:=l.reverse)).length_le;simp only[Ub] at d h2;omega
theorem Tn (kb b:Nat)(f:List UInt8->Option Nat)(s:ByteArray)(w:World)(hs:s.size<=1048576)(hev:EV w)(hc:w.cell? ⟨kb,3,none⟩=some (.map (some b)))(hm:Hm w b f)(hb:b<w.heap.size) :
 Calls prog 120 #[.string s,FP kb] w fun e w'=>e=.returned (Gw (Of (Oc f) s.data.toList))/\Up w w':=by
 have d3:kb<w.heap.size:=J5 w _ hc;have c6:=Hd hev;have HC:=Hd hc;have HM:=Hd hm;have E:=Ml (Oc f);clear hev hc hm;unfold FP
 by_cases O:s.data.toList=On
 ·have F:Hid (Of (Oc f) s.data.toList=⟨1,0,[],[]⟩):=by unfold Hid;rw[O];exact E.1
  have z:=Cu O;unfold On at z;clear O E
  go_in
  go_wp2_with fail
  refine Jg (v:=.agg #[.int .i64 1,.int .i64 0,.string ⟨#[]⟩,.string ⟨#[]⟩]) ?_ rfl ⟨O6 (by rw[F.o];rfl),Oz _ _⟩;simp[results,results120,go_sem]
 have z1:=Qd O
 by_cases h2:s.data.toList=U8
 ·have F:Hid (Of (Oc f) s.data.toList=⟨2,0,[],[]⟩):=by unfold Hid;rw[h2];exact E.2.1
  have z:=Cu h2;unfold U8 at z;unfold On at z1;clear O h2 E
  go_in
  go_wp2_with fail
  refine Jg (v:=.agg #[.int .i64 2,.int .i64 0,.string ⟨#[]⟩,.string ⟨#[]⟩]) ?_ rfl ⟨O6 (by rw[F.o];rfl),Oz _ _⟩;simp[results,results120,go_sem]
 have z2:=Qd h2
 by_cases h3:s.data.toList=Ku
 ·have F:Hid (Of (Oc f) s.data.toList=⟨3,0,[],[]⟩):=by unfold Hid;rw[h3];exact E.2.2
  have z:=Cu h3;unfold Ku at z;unfold On at z1;unfold U8 at z2;clear O h2 h3 E
  go_in
  go_wp2_with fail
  refine Jg (v:=.agg #[.int .i64 3,.int .i64 0,.string ⟨#[]⟩,.string ⟨#[]⟩]) ?_ rfl ⟨O6 (by rw[F.o];rfl),Oz _ _⟩;simp[results,results120,go_sem]
 have z3:=Qd h3;clear E;have b3:Hid (∀ N,Nt s.data.toList=0->Lib.trimB s.data.toList 124=N->Of (Oc f) s.data.toList=if Ni N&&decide (Kl 2 N=s.data.toList)&&(f N).isSome then ⟨5,0,[],[]⟩ else SI.none):=fun N hw hN=>XM f O h2 h3 hw hN;have b4:Hid (0<Nt s.data.toList->Of (Oc f) s.data.toList=⟨4,Nt s.data.toList,[],[]⟩):=fun hw=>by
  unfold Of;rw[if_neg O,if_neg h2,if_neg h3,if_pos hw]
 unfold On at z1;unfold U8 at z2;unfold Ku at z3;clear O h2 h3
 go_in
 go_wp2_with fail
 refine (ZD s _ (by omega) (c6.o.next (Oz _ _))).mono ?_;obtain⟨W,hW⟩:=Oa (Nt s.data.toList);have d0:=Hd hW;rw[hW];rw[hW] at b3 b4;clear hW;rintro e w1 ⟨rfl,Y⟩;have A:Below (w.heap.size+1) (w.alloc (.cells #[.int .i64 0,.int .i64 0,.string ⟨#[]⟩,.string ⟨#[]⟩] 101)) w1:=BO Y
 by_cases b5:0<W
 ·have d:=Hd (Bw A);have j:Hid (Up w w1):=(Oz w _).trans (A.mono (by omega));obtain⟨c0,c1,c2,c3⟩:=d.o.c4;obtain⟨f0,f1,f2,f3⟩:=d.o.f4;have I:Hid (Of (Oc f) s.data.toList=⟨4,W,[],[]⟩):=b4.o b5;have e6:W<65:=by
   have e:=d0.o;have:=(X8 (t:=s.data.toList) (by omega)).2.2;omega
  clear Y A
  go_wp2_with fail
  have h:=((((d.o.set 0 (.int .i64 4)).set 1 (.int .i64 (W:Nat))).set 2 (.string ⟨#[]⟩)).set 3 (.string ⟨#[]⟩));obtain⟨J,K,e2,M⟩:=h.c4;refine Jg (v:=.agg #[.int .i64 4,.int .i64 (W:Nat),.string ⟨#[]⟩,.string ⟨#[]⟩]) ?_ rfl ⟨O6 (by rw[I.o];rfl),?_⟩
  ·clear c0 c1 c2 c3 f0 f1 f2 f3;simp[results,results120,go_sem,J,K,e2,M]
  exact (((j.o.sc).sc).sc).sc
 obtain rfl:W=0:=by omega
 have a7:=Hd A;clear Y A b5
 go_wp2_with fail
 refine (I8 s _ (by omega)).mono ?_;obtain⟨N,hN⟩:=Oa (Lib.trimB s.data.toList 124);have HP:=Hd (b3.o N (by first|rfl|trivial) hN);have d1:N.length<=1048576:=by rw[<-hN];have:=CP s.data.toList 124;rw[Om] at this;omega
 rw[hN];clear hN;rintro e w2 ⟨rfl,hb2⟩;have G:Below (w.heap.size+1) (w.alloc (.cells #[.int .i64 0,.int .i64 0,.string ⟨#[]⟩,.string ⟨#[]⟩] 101)) w2:=a7.o.trans (hb2.mono (by have:=a7.o.size;rw[Jf] at this;exact this));have d:=Hd (Bw G);have j:Hid (Up w w2):=(Oz w _).trans (G.mono (by omega));have b9:Hid (w2.cell? ⟨kb,3,none⟩=some (.map (some b))):=(j.o.cell (p:=⟨kb,3,none⟩) d3).trans HC.o;have c8:Hid (Hm w2 b f):=HM.o.bl j.o hb;clear hb2 G;obtain⟨S,hS⟩:=Oa (Oo N);have HS:Hid (S.data.toList=N):=by unfold Hid;rw[<-hS,Ou]
 have e5:S.size<=1048576:=by rw[<-Om,HS.o];exact d1
 rw[hS];rw[<-HS.o] at HP;clear hS
 go_wp2_with fail
 refine (Ll S _ (by unfold maxLen;omega)).mono ?_
 cases U:Ni S.data.toList
 ·have I:Hid (Of (Oc f) s.data.toList=SI.none):=by unfold Hid;rw[HP.o,U];rfl
  rintro e w3 ⟨rfl,rfl⟩;obtain⟨c0,c1,c2,c3⟩:=d.o.c4;obtain⟨f0,f1,f2,f3⟩:=d.o.f4;clear U
  go_wp2_with fail
  have h:=((((d.o.set 0 (.int .i64 0)).set 1 (.int .i64 0)).set 2 (.string ⟨#[]⟩)).set 3 (.string ⟨#[]⟩));obtain⟨J,K,e2,M⟩:=h.c4;refine Jg (v:=.agg #[.int .i64 0,.int .i64 0,.string ⟨#[]⟩,.string ⟨#[]⟩]) ?_ rfl ⟨O6 (by rw[I.o];rfl),?_⟩
  ·clear c0 c1 c2 c3 f0 f1 f2 f3;simp[results,results120,go_sem,J,K,e2,M]
  exact (((j.o.sc).sc).sc).sc
 have V:=Hd U;clear U;rintro e w3 ⟨rfl,rfl⟩
 go_wp2_with fail
 refine (S9 S _ (by have:=PY V.o;rw[Om] at this;omega)).mono ?_;rintro e w3 ⟨rfl,rfl⟩
 by_cases Z:Kl 2 S.data.toList=s.data.toList
 ·have yt:((Oo (Kl 2 S.data.toList)).toList==s.toList)=true:=by rw[Jk,Jk,Ou,Z];simp
  have HT:=Hd Z;clear Z;generalize Oo (Kl 2 S.data.toList)=X at yt ⊢
  go_wp2_with fail
  refine (OX kb b f S _ b9.o c8.o (by unfold maxLen;omega)).mono ?_
  cases hh:(f S.data.toList).isSome
  ·have I:Hid (Of (Oc f) s.data.toList=SI.none):=by unfold Hid;rw[HP.o,hh,Y1];rfl
   rintro e w3 ⟨rfl,rfl⟩;obtain⟨c0,c1,c2,c3⟩:=d.o.c4;obtain⟨f0,f1,f2,f3⟩:=d.o.f4;clear hh
   go_wp2_with fail
   have h:=((((d.o.set 0 (.int .i64 0)).set 1 (.int .i64 0)).set 2 (.string ⟨#[]⟩)).set 3 (.string ⟨#[]⟩));obtain⟨J,K,e2,M⟩:=h.c4;refine Jg (v:=.agg #[.int .i64 0,.int .i64 0,.string ⟨#[]⟩,.string ⟨#[]⟩]) ?_ rfl ⟨O6 (by rw[I.o];rfl),?_⟩
   ·clear c0 c1 c2 c3 f0 f1 f2 f3;simp[results,results120,go_sem,J,K,e2,M]
   exact (((j.o.sc).sc).sc).sc
  have I:Hid (Of (Oc f) s.data.toList=⟨5,0,[],[]⟩):=by unfold Hid;rw[HP.o,V.o,Ja HT.o,hh];rfl
  rintro e w3 ⟨rfl,rfl⟩;obtain⟨c0,c1,c2,c3⟩:=d.o.c4;obtain⟨f0,f1,f2,f3⟩:=d.o.f4;clear hh
  go_wp2_with fail
  have h:=((((d.o.set 0 (.int .i64 5)).set 1 (.int .i64 0)).set 2 (.string ⟨#[]⟩)).set 3 (.string ⟨#[]⟩));obtain⟨J,K,e2,M⟩:=h.c4;refine Jg (v:=.agg #[.int .i64 5,.int .i64 0,.string ⟨#[]⟩,.string ⟨#[]⟩]) ?_ rfl ⟨O6 (by rw[I.o];rfl),?_⟩
  ·clear c0 c1 c2 c3 f0 f1 f2 f3;simp[results,results120,go_sem,J,K,e2,M]
  exact (((j.o.sc).sc).sc).sc
 have yt:((Oo (Kl 2 S.data.toList)).toList==s.toList)=false:=by rw[Jk,Jk,Ou,Jb];exact Z
 have I:Hid (Of (Oc f) s.data.toList=SI.none):=by unfold Hid;rw[HP.o,V.o,Jc Z];rfl
 clear Z;generalize Oo (Kl 2 S.data.toList)=X at yt ⊢;obtain⟨c0,c1,c2,c3⟩:=d.o.c4;obtain⟨f0,f1,f2,f3⟩:=d.o.f4
 go_wp2_with fail
 have h:=((((d.o.set 0 (.int .i64 0)).set 1 (.int .i64 0)).set 2 (.string ⟨#[]⟩)).set 3 (.string ⟨#[]⟩));obtain⟨J,K,e2,M⟩:=h.c4;refine Jg (v:=.agg #[.int .i64 0,.int .i64 0,.string ⟨#[]⟩,.string ⟨#[]⟩]) ?_ rfl ⟨O6 (by rw[I.o];rfl),?_⟩
 ·clear c0 c1 c2 c3 f0 f1 f2 f3;simp[results,results120,go_sem,J,K,e2,M]
 exact (((j.o.sc).sc).sc).sc
theorem P7 (c:UInt8):∀ l:List UInt8,Lib.indexByte l c=if Ek (fun x=>x != c) l<l.length then (Ek (fun x=>x != c) l:Int) else -1
 | []=>rfl
 | x::r=>by
   have j:=P7 c r
   by_cases d:x=c
   ·subst d
    have:Ek (fun y=>y != x) (x::r)=0:=by simp[Ek]
    rw[this]
    simp[Lib.indexByte]
   have h:Lib.indexByte (x::r) c=if Lib.indexByte r c == -1 then -1 else Lib.indexByte r c+1:=by simp[Lib.indexByte,d]
   have e2:Ek (fun y=>y != c) (x::r)=Ek (fun y=>y != c) r+1:=by simp[Ek,d]
   rw[h,e2,j,Yq]
   by_cases hl:Ek (fun y=>y != c) r<r.length
   ·rw[if_pos hl,if_pos (show Ek (fun y=>y != c) r+1<r.length+1 by omega),if_neg (by rw[Yf];omega)];omega
   rw[if_neg hl,if_neg (show ¬ Ek (fun y=>y != c) r+1<r.length+1 by omega)];rfl
theorem UO (c:UInt8)(l:List UInt8) : -1<=Lib.indexByte l c/\Lib.indexByte l c<=(l.length:Int):=by
 rw[P7]
 split<;>omega
theorem GJ (t:List UInt8):Eg t<=t.length:=by
 unfold Eg
 split
 ·split
  ·simp only[Yq];omega
  simp
 ·split
  ·omega
  simp
 split
 ·omega
 simp
theorem IY {t:List UInt8}(h:t.take 1=[124]):((Eg t:Nat):Int)=Lib.indexByte (t.drop 1) 124+2:=by
 obtain⟨r,rfl⟩:∃ r,t=124::r:=by
  cases t with
  | nil=>simp at h
  | cons c r=>simp at h;exact⟨r,by rw[h]⟩
 rw[List.drop_one,List.tail_cons,P7]
 show (((if Ek (· != 124) r<r.length then Ek (· != 124) r+2 else 1):Nat):Int)=_
 split<;>omega
theorem VD {t:List UInt8}(h:t.take 1=[40]):((Eg t:Nat):Int)=Lib.indexByte t 41+1:=by
 obtain⟨r,rfl⟩:∃ r,t=40::r:=by
  cases t with
  | nil=>simp at h
  | cons c r=>simp at h;exact⟨r,by rw[h]⟩
 rw[P7]
 show (((if Ek (· != 41) (40::r)<(40::r).length then Ek (· != 41) (40::r)+1 else 0):Nat):Int)=_
 split<;>omega
theorem VC {t:List UInt8}(h1:t.take 1≠[124])(h2:t.take 1≠[40]):((Eg t:Nat):Int)=max (Lib.indexByte t 32) 0:=by
 rw[P7];have e:Eg t=if Ek (· != 32) t<t.length then Ek (· != 32) t else 0:=by
  unfold Eg
  split
  ·exact absurd rfl h1
  ·exact absurd rfl h2
  rfl
 rw[e]
 split<;>omega
theorem P3 (s:ByteArray)(w:World)(hs:s.size<=1048576) :
 Calls prog 121 #[.string s] w fun e w'=>e=.returned (.int .i64 (Eg s.data.toList:Nat))/\w'=w:=by
 by_cases E:s.data.toList.take 1=[124]
 ·have A:Hid (Lib.hasPrefix s.data.toList [124]=true):=by unfold Hid;rw[Ew];exact Ja E
  have j:=Hd (IY E);have O:1<=s.size:=by have:=congrArg List.length E;rw[J4,Om] at this;simp at this;omega
  clear E
  go_in
  go_wp2_with fail
  refine (Tryz.strings_HasPrefix s ⟨#[124]⟩ _).mono ?_
  change ∀ (e:Ending) (w':World),(e=.returned (.bool (Lib.hasPrefix s.data.toList [124]))/\w'=w)->_
  rw[A.o];rintro e h ⟨rfl,rfl⟩
  go_wp2_with fail
  refine (Tryz.strings_IndexByte _ 124 _).mono ?_;have K:(s.extract 1 s.size).data.toList=s.data.toList.drop 1:=by rw[Iw,Jl (by rw[Om];omega)]
  rw[K]
  change ∀ (e:Ending) (w':World),(e=.returned (.int .i64 (Lib.indexByte (s.data.toList.drop 1) 124))/\w'=h)->_
  have d:=UO 124 (s.data.toList.drop 1);rw[Zf,Om] at d;obtain⟨V,G⟩:=Oa (Lib.indexByte (s.data.toList.drop 1) 124);rw[G] at d j ⊢;clear G K;rintro e h ⟨rfl,rfl⟩
  go_wp2
  go_ret
  exact⟨Kx j.o.symm,rfl⟩
 have A:Hid (Lib.hasPrefix s.data.toList [124]=false):=by unfold Hid;rw[Ew];exact Jc E
 by_cases h2:s.data.toList.take 1=[40]
 ·have I:Hid (Lib.hasPrefix s.data.toList [40]=true):=by unfold Hid;rw[Ew];exact Ja h2
  have j:=Hd (VD h2);clear E h2
  go_in
  go_wp2_with fail
  refine (Tryz.strings_HasPrefix s ⟨#[124]⟩ _).mono ?_
  change ∀ (e:Ending) (w':World),(e=.returned (.bool (Lib.hasPrefix s.data.toList [124]))/\w'=w)->_
  rw[A.o];rintro e h ⟨rfl,rfl⟩
  go_wp2_with fail
  refine (Tryz.strings_HasPrefix s ⟨#[40]⟩ _).mono ?_
  change ∀ (e:Ending) (w':World),(e=.returned (.bool (Lib.hasPrefix s.data.toList [40]))/\w'=h)->_
  rw[I.o];rintro e h ⟨rfl,rfl⟩
  go_wp2_with fail
  refine (Tryz.strings_IndexByte _ 41 _).mono ?_
  change ∀ (e:Ending) (w':World),(e=.returned (.int .i64 (Lib.indexByte s.data.toList 41))/\w'=h)->_
  have d:=UO 41 s.data.toList;rw[Om] at d;obtain⟨V,G⟩:=Oa (Lib.indexByte s.data.toList 41);rw[G] at d j ⊢;clear G;rintro e h ⟨rfl,rfl⟩
  go_wp2
  go_ret
  exact⟨Kx j.o.symm,rfl⟩
 have I:Hid (Lib.hasPrefix s.data.toList [40]=false):=by unfold Hid;rw[Ew];exact Jc h2
 have j:=Hd (VC E h2);clear E h2
 go_in
 go_wp2_with fail
 refine (Tryz.strings_HasPrefix s ⟨#[124]⟩ _).mono ?_
 change ∀ (e:Ending) (w':World),(e=.returned (.bool (Lib.hasPrefix s.data.toList [124]))/\w'=w)->_
 rw[A.o];rintro e h ⟨rfl,rfl⟩
 go_wp2_with fail
 refine (Tryz.strings_HasPrefix s ⟨#[40]⟩ _).mono ?_
 change ∀ (e:Ending) (w':World),(e=.returned (.bool (Lib.hasPrefix s.data.toList [40]))/\w'=h)->_
 rw[I.o];rintro e h ⟨rfl,rfl⟩
 go_wp2_with fail
 refine (Tryz.strings_IndexByte _ 32 _).mono ?_
 change ∀ (e:Ending) (w':World),(e=.returned (.int .i64 (Lib.indexByte s.data.toList 32))/\w'=h)->_
 have d:=UO 32 s.data.toList;rw[Om] at d;obtain⟨V,G⟩:=Oa (Lib.indexByte s.data.toList 32);rw[G] at d j ⊢;clear G;rintro e h ⟨rfl,rfl⟩
 by_cases M:0<=V
 ·have J:max V 0=V:=by omega
  go_wp2_with fail
  all_goals go_ret
  all_goals exact⟨Kx (by rw[j.o];omega),rfl⟩
 have J:max V 0=0:=by omega
 go_wp2_with fail
 all_goals go_ret
 all_goals exact⟨Kx (by rw[j.o];omega),rfl⟩
end Go.Proofs.YtdmdmgfjpomdbaaGreatDoor
