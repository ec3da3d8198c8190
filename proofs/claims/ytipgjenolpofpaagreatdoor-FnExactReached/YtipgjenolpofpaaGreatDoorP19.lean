import Derived.Test.YtipgjenolpofpaaGreatDoorP17
import Derived.Test.YtipgjenolpofpaaGreatDoorP18
import Derived.Maps.OwnSet
import Derived.Maps.OwnOps
set_option maxRecDepth 100000
set_option maxHeartbeats 104857600
namespace Go.Proofs.YtipgjenolpofpaaGreatDoor
open ChangeShapes WideShapes ChangeAt RowKit Proofs.Tryz
theorem QT {s:ByteArray}(h0:0<s.size)(h6:s.size<=60):E3 s.data.toList=decide (((Ks Hs s.data.toList:Nat):Int)=(s.size:Int)):=by
 rw[Wu h0 h6,Yb,Js,<-T7,Ol];omega
theorem R4 (s:ByteArray)(w:World)(hs:s.size<=maxLen) :
 Calls prog 111 #[.string s] w fun e w'=>e=.returned (.bool (E3 s.data.toList))/\w'=w:=by
 have G:=hs;unfold maxLen at hs
 by_cases h:s.size=0
 ·have F:Hid (E3 s.data.toList=false):=Pe (.inl h);have z:=Qo s h
  go_in
  go_wp2
  go_ret
  exact⟨Oz F.o.symm,rfl⟩
 have j:0<s.size:=by omega
 have z:=Hm s j
 by_cases E:60<s.size
 ·have F:Hid (E3 s.data.toList=false):=Pe (.inr E)
  go_in
  go_wp2
  go_ret
  exact⟨Oz F.o.symm,rfl⟩
 have F:=Hd (QT j (by omega));obtain⟨R,d⟩:∃ R:Nat,Ks Hs s.data.toList=R:=⟨_,rfl⟩;have A:=Hd d;rw[d] at F;clear d
 go_in
 go_wp2_with (go_at_call 119;refine (NW _ _ G).mono ?_;rw[A.o];rintro e w' ⟨rfl,rfl⟩)
 go_ret
 exact⟨Oz (by rw[F.o,Yb,Js];simp),rfl⟩
theorem KY (t:List UInt8):Lib.hasPrefix t [98,118]=RA t:=by
 unfold Lib.hasPrefix RA;rw[Yb,Js,List.isPrefixOf_iff_prefix,List.prefix_iff_eq_take];exact⟨fun h=>h.symm,fun h=>h.symm⟩
theorem Bw (w:World)(t:List UInt8)(h:t∈Kk):Calls prog 112 #[.string (Oo t)] w fun e w'=>e=.returned (.bool true)/\w'=w:=by
 simp only[Kk,Vz,List.not_mem_nil,or_false] at h
 rcases h with rfl|rfl|rfl|rfl|rfl|rfl|rfl|rfl|rfl|rfl|rfl|rfl|rfl|rfl|rfl|rfl|rfl|rfl|rfl|rfl|rfl|rfl|rfl|rfl|rfl|rfl|rfl|rfl|rfl|rfl|rfl|rfl|rfl|rfl|rfl|rfl|rfl|rfl
 all_goals (unfold Oo;go_in)
 all_goals go_wp2_with fail
 all_goals go_ret
 all_goals exact⟨rfl,rfl⟩
theorem Ls (s:ByteArray)(w:World)(h:s.data.toList∉Kk):Calls prog 112 #[.string s] w fun e w'=>e=.returned (.bool (RA s.data.toList))/\w'=w:=by
 have d:∀ t∈Kk,(s.toList==t)=false:=fun t ht=>Xq (fun e=>h (by rw[e];exact ht));have j:=Hd (KY s.data.toList);clear h;have z0:=d [66,111,111,108] (by decide);have z1:=d [73,110,116] (by decide);have z2:=d [82,101,97,108] (by decide);have z3:=d [66,105,116,86,101,99] (by decide);have z4:=d [65,114,114,97,121] (by decide);have z5:=d [95] (by decide);have z6:=d [108,101,116] (by decide);have z7:=d [97,115] (by decide);have z8:=d [116,114,117,101] (by decide);have z9:=d [102,97,108,115,101] (by decide);have A:=d [110,111,116] (by decide);have E:=d [97,110,100] (by decide);have G:=d [111,114] (by decide);have I:=d [120,111,114] (by decide);have J:=d [61,62] (by decide);have K:=d [105,116,101] (by decide);have M:=d [61] (by decide);have O:=d [100,105,115,116,105,110,99,116] (by decide);have U:=d [43] (by decide);have V:=d [45] (by decide);have z20:=d [42] (by decide);have z21:=d [47] (by decide);have z22:=d [60,61] (by decide);have Y:=d [60] (by decide);have Z:=d [62,61] (by decide);have a7:=d [62] (by decide);have a8:=d [100,105,118] (by decide);have b3:=d [109,111,100] (by decide);have b4:=d [116,111,95,114,101,97,108] (by decide);have b5:=d [115,101,108,101,99,116] (by decide);have b6:=d [115,116,111,114,101] (by decide);have b7:=d [99,111,110,99,97,116] (by decide);have b8:=d [101,120,116,114,97,99,116] (by decide);have b9:=d [122,101,114,111,95,101,120,116,101,110,100] (by decide);have c6:=d [115,105,103,110,95,101,120,116,101,110,100] (by decide);have c8:=d [114,111,116,97,116,101,95,108,101,102,116] (by decide);have d0:=d [114,111,116,97,116,101,95,114,105,103,104,116] (by decide);have z37:=d [114,101,112,101,97,116] (by decide);clear d
 go_in
 go_wp2_with fail
 refine (Tryz.strings_HasPrefix s ⟨#[98,118]⟩ _).mono ?_;rintro e w1 ⟨rfl,rfl⟩
 go_wp2
 go_ret
 exact⟨Oz j.o,rfl⟩
theorem S9 (s:ByteArray)(w:World):Calls prog 112 #[.string s] w fun e w'=>e=.returned (.bool (Ga s.data.toList))/\w'=w:=by
 by_cases h:s.data.toList∈Kk
 ·have e:Ga s.data.toList=true:=by unfold Ga;rw[Uq];right;simpa using h
  have d:=Bw w _ h;rw[Ko] at d;rw[e];exact d
 have e:Ga s.data.toList=RA s.data.toList:=by
  unfold Ga;have:Kk.contains s.data.toList=false:=by rw[J9];intro hc;exact h (by simpa using hc)
  rw[this,Bool.or_false]
 rw[e];exact Ls s w h
theorem C3 (s:ByteArray)(w:World)(hs:s.size<=maxLen) :
 Calls prog 93 #[.string s] w fun e w'=>e=.returned (.bool (E5 s.data.toList))/\w'=w:=by
 have F:Hid (E5 s.data.toList=(E3 s.data.toList&&!Ga s.data.toList)):=rfl
 cases d:E3 s.data.toList
 ·have h:=Hd d
  go_in
  go_wp2_with (go_at_call 111;refine (R4 _ _ hs).mono ?_;rw[d];rintro e w' ⟨rfl,rfl⟩)
  go_ret
  exact⟨Oz (by rw[F.o,h.o];rfl),rfl⟩
 have h:=Hd d
 go_in
 go_wp2_with (first|(go_at_call 111;refine (R4 _ _ hs).mono ?_;rw[d];rintro e w' ⟨rfl,rfl⟩)|(go_at_call 112;refine (S9 _ _).mono ?_;rintro e w' ⟨rfl,rfl⟩))
 go_ret
 exact⟨Oz (by rw[F.o,h.o];rfl),rfl⟩
def EV (w:World):Prop:=(∃ ev,w.cell? ⟨5,0,none⟩=some ev/\(ev=.nilIface∨∃ te pe,ev=.iface te pe))/\(∃ ev,w.cell? ⟨6,0,none⟩=some ev/\(ev=.nilIface∨∃ te pe,ev=.iface te pe))
theorem EV.bl {w w':World}{N:Nat}(h:EV w)(hb:Below N w w')(h1:5<N)(h2:6<N):EV w':=by
 obtain⟨⟨d,c1,A⟩,j,c2,k2⟩:=h;exact⟨⟨d,(hb.cell (p:=⟨5,0,none⟩) h1).trans c1,A⟩,j,(hb.cell (p:=⟨6,0,none⟩) h2).trans c2,k2⟩
theorem EV.lt {w:World}(h:EV w):5<w.heap.size/\6<w.heap.size:=by
 obtain⟨⟨d,c1,_⟩,j,c2,_⟩:=h;exact⟨Ye w _ c1,Ye w _ c2⟩
theorem EV.next {w w':World}(h:EV w)(hb:Up w w'):EV w':=h.bl hb h.lt.1 h.lt.2
theorem Sx:∀ w:Fin 65,Lib.decDigits w.val=Lp w.val:=fun w=>by
 unfold Lp
 unfold Lib.decDigits
 by_cases h:w.val<10
 ·rw[dif_pos h,if_pos h]
 rw[dif_neg h,if_neg h]
 unfold Lib.decDigits
 rw[dif_pos (by omega)]
 rfl
theorem IH (n:Nat)(h:n<65):(⟨#[40,95,32,66,105,116,86,101,99,32]⟩++⟨(Lib.decDigits n).toArray⟩++⟨#[41]⟩:ByteArray)=Oo (Ni n):=by
 rw[Sx ⟨n,h⟩];apply ByteArray.ext;apply Array.ext';simp[Oo,Ni,Lg]
theorem Rp (n:Nat)(w:World)(h:n<65) :
 Calls prog 171 #[.int .i64 (n:Nat)] w fun e w'=>e=.returned (.string (Oo (Ni n)))/\w'=w:=by
 have d:=Hd (IH n h)
 go_in
 go_wp2_with fail
 refine (Tryz.strconv_Itoa_small n (by omega) _).mono ?_;rintro e A ⟨rfl,rfl⟩;have j:(⟨(Lib.decDigits n).toArray⟩:ByteArray).size<=2:=by
  rw[Sx ⟨n,h⟩];unfold Lp
  split<;>simp[ByteArray.size]
 generalize (⟨(Lib.decDigits n).toArray⟩:ByteArray)=D at d j ⊢
 go_wp2
 go_ret
 exact⟨O4 (by rw[d.o];rfl),rfl⟩
theorem UT:∀ w:Fin 65,0<w.val->Lib.atoiAll (Lib.trimSuffix ((Ni w.val).drop 10) [41])=.ok (w.val:Int):=by decide +kernel
theorem Ei (t p:List UInt8):Lib.hasPrefix t p=decide (t.take p.length=p):=by
 unfold Lib.hasPrefix;rw[Yb,Js,List.isPrefixOf_iff_prefix,List.prefix_iff_eq_take];exact⟨fun h=>h.symm,fun h=>h.symm⟩
theorem VS {t:List UInt8}(h:t.take 10≠Lg):E9 t=0:=RQ (fun hb=>h hb.2.1)
theorem I5 {t:List UInt8}(h:0<E9 t):Lib.atoiAll (Lib.trimSuffix (t.drop 10) [41])=.ok (E9 t:Int)/\t=Ni (E9 t)/\E9 t<65:=by
 obtain⟨w,j,d,e,A⟩:=Gq h;rw[A];refine⟨?_,e,d⟩;rw[e];exact UT ⟨w,d⟩ j
theorem CW {t:List UInt8}{n:Nat}(h0:0<n)(h1:n<65)(h:Ni n=t):E9 t=n:=by rw[<-h];exact Bz ⟨n,h1⟩ h0
theorem RN {t:List UInt8}(h:t.take 10=Lg):Lib.trimPrefix t Lg=t.drop 10:=by
 unfold Lib.trimPrefix;rw[Ei,Jb (by exact h)];rfl
theorem GF (t p:List UInt8):(Lib.trimSuffix t p).length<=t.length:=by
 unfold Lib.trimSuffix
 split
 ·rw[J4];omega
 exact Of
theorem Wr (s:ByteArray)(w:World)(hs:s.size<=1048576)(hev:EV w) :
 Calls prog 148 #[.string s] w fun e w'=>e=.returned (.int .i64 (E9 s.data.toList:Nat))/\Up w w':=by
 have K:=Hd hev;clear hev
 by_cases G:s.data.toList.take 10=Lg
 ·have A:Hid (Lib.hasPrefix s.data.toList Lg=true):=by unfold Hid;rw[Ei];exact Jb G
  have Z:=Hd (RN G);clear G
  go_in
  go_wp2_with fail
  refine (Tryz.strings_CutPrefix s ⟨#[40,95,32,66,105,116,86,101,99,32]⟩ _).mono ?_
  change ∀ (e:Ending) (w':World),(e=.returned (.tuple #[.string ⟨(Lib.trimPrefix s.data.toList Lg).toArray⟩,.bool (Lib.hasPrefix s.data.toList Lg)])/\w'=w)->_
  rw[A.o,Z.o];rintro e Y ⟨rfl,rfl⟩;obtain⟨D,hD⟩:∃ D:ByteArray,(⟨(s.data.toList.drop 10).toArray⟩:ByteArray)=D:=⟨_,rfl⟩;have HD:Hid (D.data.toList=s.data.toList.drop 10):=by unfold Hid;rw[<-hD]
  have b9:D.size<=1048576:=by rw[<-Ol,HD.o,Zb,Ol];omega
  rw[hD];clear hD
  go_wp2_with fail
  refine (Tryz.strings_TrimSuffix D ⟨#[41]⟩ _ (by omega)).mono ?_
  change ∀ (e:Ending) (w':World),(e=.returned (.string ⟨(Lib.trimSuffix D.data.toList [41]).toArray⟩)/\w'=Y)->_
  rw[HD.o];rintro e Y ⟨rfl,rfl⟩;obtain⟨E,hE⟩:∃ E:ByteArray,(⟨(Lib.trimSuffix (s.data.toList.drop 10) [41]).toArray⟩:ByteArray)=E:=⟨_,rfl⟩;have O:Hid (E.data.toList=Lib.trimSuffix (s.data.toList.drop 10) [41]):=by unfold Hid;rw[<-hE]
  have c6:E.size<=1048576:=by
   rw[<-Ol,O.o];have h1:=GF (s.data.toList.drop 10) [41];rw[Zb,Ol] at h1;omega
  rw[hE];clear hE
  go_wp2_with fail
  rcases ha:Lib.atoiAll E.data.toList with v|_|_
  ·refine (Tryz.strconv_Atoi_ok E (by omega) v ha _).mono ?_;rintro e w2 ⟨rfl,M⟩;have d:Hid (Up Y w2):=by
    rcases M with rfl|⟨t,rfl⟩
    ·exact Jh _ _
    exact Lib.bytesWorld_below _ _ _
   have J:Hid (∀ h0:0<E9 s.data.toList,v=(E9 s.data.toList:Int)):=fun h0=>by
    have:=(I5 h0).1;rw[<-O.o,ha] at this
    cases this
    rfl
   clear M ha
   by_cases I:1<=v/\v<=64
   ·have b4:=I.1;have b5:=I.2;obtain⟨n,rfl⟩:∃ n:Nat,v=n:=⟨v.toNat,by omega⟩;clear I
    by_cases hn:Ni n=s.data.toList
    ·have F:Hid (E9 s.data.toList=n):=CW (by omega) (by omega) hn;have y:((Oo (Ni n)).toList==s.toList)=true:=by rw[Jl,Jl,Ou,hn];simp
     have h:Hid (∀ W,Calls prog 171 #[.int .i64 (n:Nat)] W fun e w'=>e=.returned (.string (Oo (Ni n)))/\w'=W):=fun W=>Rp n W (by omega);clear hn;generalize Oo (Ni n)=U at y h
     go_wp2_with (go_at_call 171;refine (h.o _).mono ?_;rintro e w' ⟨rfl,rfl⟩)
     go_ret
     exact⟨U9 (by rw[F.o]),d.o⟩
    have F:Hid (E9 s.data.toList=0):=by
     unfold Hid
     rcases Zp (E9 s.data.toList) with h0|h0
     ·exact h0
     have h3:=J.o h0;have h4:=(I5 h0).2.1;exact absurd (by rw[show n=E9 s.data.toList by omega];exact h4.symm) hn
    have y:((Oo (Ni n)).toList==s.toList)=false:=by rw[Jl,Jl,Ou,Jc];exact hn
    have h:Hid (∀ W,Calls prog 171 #[.int .i64 (n:Nat)] W fun e w'=>e=.returned (.string (Oo (Ni n)))/\w'=W):=fun W=>Rp n W (by omega);clear hn;generalize Oo (Ni n)=U at y h
    go_wp2_with (go_at_call 171;refine (h.o _).mono ?_;rintro e w' ⟨rfl,rfl⟩)
    go_ret
    exact⟨U9 (by rw[F.o];rfl),d.o⟩
   have F:Hid (E9 s.data.toList=0):=by
    unfold Hid
    rcases Zp (E9 s.data.toList) with h0|h0
    ·exact h0
    have h3:=J.o h0;have h4:=(I5 h0).2.2;exact absurd ⟨by omega,by omega⟩ I
   by_cases b4:v<1
   ·clear I
    go_wp2
    go_ret
    exact⟨U9 (by rw[F.o];rfl),d.o⟩
   have b5:64<v:=by omega
   have c8:1<=v:=by omega
   clear I
   go_wp2
   go_ret
   exact⟨U9 (by rw[F.o];rfl),d.o⟩
  ·have F:Hid (E9 s.data.toList=0):=by
    unfold Hid
    rcases Zp (E9 s.data.toList) with h0|h0
    ·exact h0
    have:=(I5 h0).1;rw[<-O.o,ha] at this;cases this
   obtain⟨ev,hev,hk⟩:=K.o.1;refine (Tryz.strconv_Atoi_syntax E (by omega) ha ev _ hev hk).mono ?_;rintro e w2 ⟨N,rfl,_,_,j⟩;have d:=Hd j;clear j ha
   go_wp2
   go_ret
   exact⟨U9 (by rw[F.o];rfl),d.o⟩
  have F:Hid (E9 s.data.toList=0):=by
   unfold Hid
   rcases Zp (E9 s.data.toList) with h0|h0
   ·exact h0
   have:=(I5 h0).1;rw[<-O.o,ha] at this;cases this
  obtain⟨ev,hev,hk⟩:=K.o.2;refine (Tryz.strconv_Atoi_range E (by omega) ha ev _ hev hk).mono ?_;rintro e w2 ⟨N,rfl,_,_,j⟩;have d:=Hd j;clear j ha;generalize Lib.atoiSat E.data.toList=V
  go_wp2
  go_ret
  exact⟨U9 (by rw[F.o];rfl),d.o⟩
 have F:Hid (E9 s.data.toList=0):=VS G;have A:Hid (Lib.hasPrefix s.data.toList Lg=false):=by unfold Hid;rw[Ei];exact Jg G
 clear G
 go_in
 go_wp2_with fail
 refine (Tryz.strings_CutPrefix s ⟨#[40,95,32,66,105,116,86,101,99,32]⟩ _).mono ?_
 change ∀ (e:Ending) (w':World),(e=.returned (.tuple #[.string ⟨(Lib.trimPrefix s.data.toList Lg).toArray⟩,.bool (Lib.hasPrefix s.data.toList Lg)])/\w'=w)->_
 rw[A.o];rintro e Y ⟨rfl,rfl⟩;generalize (⟨(Lib.trimPrefix s.data.toList Lg).toArray⟩:ByteArray)=D
 go_wp2
 go_ret
 exact⟨U9 (by rw[F.o];rfl),Jh _ _⟩
theorem Il:Maps.Keyed prog 9:=Maps.string_keyed underlying9
theorem N0 (s:ByteArray)(hs:s.size<=maxLen):keyOf prog 9 (.string s)=some (.string s.data.toList):=Go.WideMaps.keyOf_string_mk underlying9 hs
def G0 (w:World)(b:Nat)(f:List UInt8->Option Nat):Prop:=
 ∃ (n:Nat) (D:DataW Unit),n<=1000000/\w.ownsMap prog 9 (plainElem prog 3) b n D/\∀ s,Maps.has D (.string s)=(f s).isSome/\∀ i,f s=some i->D.atKey (.string s) (.lit (.int .i64 0))=.lit (.int .i64 (i:Nat))
theorem S3 (kb b:Nat)(f:List UInt8->Option Nat)(s:ByteArray)(w:World)(hc:w.cell? ⟨kb,3,none⟩=some (.map (some b)))(hm:G0 w b f)(hs:s.size<=maxLen) :
 Calls prog 116 #[.pointer (some ⟨kb,0,none⟩),.string s] w fun e w'=>e=.returned (.bool (f s.data.toList).isSome)/\w'=w:=by
 obtain⟨n,D,hn,d,E⟩:=hm;have h:=Hd d;have G:=Hd E;clear d E
 go_in
 go_wp2_with (at_lookup;refine wpList_lookup_own_ok_int _ rfl _ _ 86 rfl 9 3 .i64 Il underlying86 underlying3 ?z b n D rfl h.o _ _ rfl (N0 s hs) ?_)
 case z=>rfl
 intro c j A;rw[(G.o s.data.toList).1];clear j A
 go_wp2
 go_ret
 exact⟨rfl,rfl⟩
def QP:List Value->Option (DataW Unit×List MemPlace)
 | [.int .i64 a,.int .i64 b,.string c,.string d]=>some (.agg [.lit (.int .i64 a),.lit (.int .i64 b),.lit (.string c.data.toList),.lit (.string d.data.toList)],[])
 | _=>none
def X9:Value->Option (DataW Unit×List MemPlace)
 | .agg cs=>QP cs.toList
 | _=>none
def GS (x:SI):DataW Unit:=.agg [.lit (.int .i64 x.kind),.lit (.int .i64 (x.width:Nat)),.lit (.string x.index),.lit (.string x.elem)]
theorem P2 (x:SI):X9 (N9 x)=some (GS x,[]):=by
 show some (_,_)=some (_,_)
 unfold GS;rw[Ou,Ou]
theorem F4 {v:Value}{x:SI}{ps:List MemPlace}(h:X9 v=some (GS x,ps)):v=N9 x:=by
 cases v with
 | agg cs=>
   have j:QP cs.toList=some (GS x,ps):=h;unfold QP at j
   split at j
   ·rename_i a b c d e;simp only[Option.some.injEq,Prod.mk.injEq,GS,DataW.agg.injEq,List.cons.injEq,DataW.lit.injEq,Lit.int.injEq,Lit.string.injEq,true_and] at j;obtain⟨⟨rfl,rfl,h3,h4,_⟩,_⟩:=j;unfold N9;rw[<-h3,<-h4,Ko,Ko,<-e]
   cases j
 | _=>cases h
theorem H8 (own:List UInt8->Bool)(t:List UInt8):0<=(Od own t).kind/\(Od own t).kind<=5:=by
 unfold Od
 split
 ·exact⟨by decide,by decide⟩
 split
 ·exact⟨by decide,by decide⟩
 split
 ·exact⟨by decide,by decide⟩
 split
 ·exact⟨by show (0:Int)<=4;decide,by show (4:Int)<=5;decide⟩
 split
 ·split
  ·exact⟨by decide,by decide⟩
  exact⟨by decide,by decide⟩
 exact⟨by decide,by decide⟩
theorem Rz (own:List UInt8->Bool)(t:List UInt8):O0 (Od own t)=true↔(Od own t).kind≠0/\(Od own t).kind≠1:=by
 have:=H8 own t;simp only[O0,J3,Yg];omega
theorem Lr {w w1:World}{ty:TypeId}{a0 a1 a2 a3:Value}(hb:Below (w.heap.size+1) (w.alloc (.cells #[a0,a1,a2,a3] ty)) w1):Bx w1 w.heap.size [a0,a1,a2,a3]:=(Oi w [a0,a1,a2,a3] ty).bl (N:=w.heap.size+1) (by omega) hb
theorem D9 (v:Value)(L:List (List UInt8))(s:ByteArray)(w:World)(h:O8 w v L)(hs:s.size<=1048576)(hn:¬ (8<s.data.toList.length/\s.data.toList.take 7=K4/\s.data.toList.getLast? = some 41)) :
 Calls prog 81 #[v,.string s] w fun e w'=>e=.returned (N9 (Od (On L) s.data.toList))/\Up w w':=by
 have HS:=Hd h;have HN:=Hd hn;clear h hn
 go_in
 by_cases Z:8<s.size
 ·by_cases A:s.data.toList.take 7=K4
  case' pos=>
   have y1:((s.extract 0 7).toList==[40,65,114,114,97,121,32])=true:=by rw[E0,A];rfl
   have y2:(((s[s.size - 1]'(by omega)).toNat:Int)==41)=false:=by
    rw[Jc];intro e;exact HN.o ⟨by rw[Ol];exact Z,A,by rw[Ix (by omega),Nw (c:=s[s.size - 1]'(by omega)) (n:=41) (by omega)];rfl⟩
  case' neg=>
   have y1:((s.extract 0 7).toList==[40,65,114,114,97,121,32])=false:=by rw[E0,Jc];exact A
  all_goals
   clear A
   go_wp2_with fail
   refine (Hx v L s _ (HS.o.bl (Oy _ _)) hs).mono ?_;obtain⟨X,J⟩:=O1 (Od (On L) s.data.toList);have I:=Hd J;rw[J];clear J;rintro e M ⟨rfl,hb⟩;have j:Below (w.heap.size+1) (w.alloc (.cells #[.int .i64 0,.int .i64 0,.string ⟨#[]⟩,.string ⟨#[]⟩] 110)) M:=CC hb
   have d:=Lr j;have G:=Hd d;have E:Hid (Up w M):=(Oy w _).trans (j.mono (by omega));obtain⟨c0,c1,c2,c3⟩:=d.c4;obtain⟨f0,f1,f2,f3⟩:=d.f4;clear hb j d;unfold N9
   go_wp2_with fail
   have K:=((((G.o.set 0 (.int .i64 X.kind)).set 1 (.int .i64 (X.width:Nat))).set 2 (.string (Oo X.index))).set 3 (.string (Oo X.elem)));obtain⟨O,U,V,Y⟩:=K.c4;refine Jj (v:=.agg #[.int .i64 X.kind,.int .i64 (X.width:Nat),.string (Oo X.index),.string (Oo X.elem)]) ?_ rfl ⟨O4 (by rw[I.o];rfl),?_⟩
   ·clear c0 c1 c2 c3 f0 f1 f2 f3;simp[results,results81,go_sem,O,U,V,Y]
   exact (((E.o.sc).sc).sc).sc
 go_wp2_with fail
 refine (Hx v L s _ (HS.o.bl (Oy _ _)) hs).mono ?_;obtain⟨X,J⟩:=O1 (Od (On L) s.data.toList);have I:=Hd J;rw[J];clear J;rintro e M ⟨rfl,hb⟩;have j:Below (w.heap.size+1) (w.alloc (.cells #[.int .i64 0,.int .i64 0,.string ⟨#[]⟩,.string ⟨#[]⟩] 110)) M:=CC hb
 have d:=Lr j;have G:=Hd d;have E:Hid (Up w M):=(Oy w _).trans (j.mono (by omega));obtain⟨c0,c1,c2,c3⟩:=d.c4;obtain⟨f0,f1,f2,f3⟩:=d.f4;clear hb j d;unfold N9
 go_wp2_with fail
 have K:=((((G.o.set 0 (.int .i64 X.kind)).set 1 (.int .i64 (X.width:Nat))).set 2 (.string (Oo X.index))).set 3 (.string (Oo X.elem)));obtain⟨O,U,V,Y⟩:=K.c4;refine Jj (v:=.agg #[.int .i64 X.kind,.int .i64 (X.width:Nat),.string (Oo X.index),.string (Oo X.elem)]) ?_ rfl ⟨O4 (by rw[I.o];rfl),?_⟩
 ·clear c0 c1 c2 c3 f0 f1 f2 f3;simp[results,results81,go_sem,O,U,V,Y]
 exact (((E.o.sc).sc).sc).sc
theorem Ti (s:ByteArray)(i:Nat)(x:Int)(w:World)(hx:x=(i:Nat))(hs:s.size<=maxLen)(hi:i<=maxLen) :
 Calls prog 95 #[.string s,.int .i64 x] w fun e w'=>e=.returned (.int .i64 (Eb s.data.toList i))/\w'=w:=by
 subst hx;exact Fz s i w hs hi
theorem N3 {a b:Int}(h:a=b):@bne Int (@instBEqOfDecidableEq Int Int.instDecidableEq) a b=false:=by simp[h]
theorem Eo {a b:Int}(h:¬ a=b):@bne Int (@instBEqOfDecidableEq Int Int.instDecidableEq) a b=true:=by simp[h]
theorem Mi {s:ByteArray}{k:Nat}(h:k<s.size):(s.data.toList.drop k).head? = some s[k]:=by
 rw[Qg (by rw[Ol];exact h)];rfl
theorem EZ {s:ByteArray}{k:Nat}(h:s.size<=k):(s.data.toList.drop k).head? = none:=by
 rw[Zj (by rw[Ol];exact h)];rfl
def Wz (own:List UInt8->Bool)(t:List UInt8)(k:Nat):SI:=
 if (t.drop (7+k)).head? = some 32 then
  match Eg (t.drop (7+k+1)) with
  | none=>SI.none
  | some m=>
    if 7+k+1+m+1=t.length then
     if O0 (Od own ((t.drop 7).take k))&&O0 (Od own ((t.drop (7+k+1)).take m)) then ⟨6,0,(t.drop 7).take k,(t.drop (7+k+1)).take m⟩ else SI.none
    else SI.none
 else SI.none
theorem QD {own:List UInt8->Bool}{t:List UInt8}(h:8<t.length/\t.take 7=K4/\t.getLast? = some 41):Nu own t=match Eg (t.drop 7) with|none=>SI.none|some k=>Wz own t k:=by
 unfold Nu;rw[if_pos h];rfl
theorem Ae (v:Value)(L:List (List UInt8))(s:ByteArray)(w:World)(h:O8 w v L)(hs:s.size<=1048576)(hc:8<s.data.toList.length/\s.data.toList.take 7=K4/\s.data.toList.getLast? = some 41) :
 Calls prog 81 #[v,.string s] w fun e w'=>e=.returned (N9 (Nu (On L) s.data.toList))/\Up w w':=by
 have HS:=Hd h;have d1:=Hd (QD (own:=On L) hc);have h2:8<s.size:=by have:=hc.1;rw[Ol] at this;exact this
 have y1:((s.extract 0 7).toList==[40,65,114,114,97,121,32])=true:=by rw[E0,hc.2.1];rfl
 have hl:(s[s.size - 1]'(by omega)).toNat=41:=by have:=hc.2.2;rw[Ix (by omega)] at this;rw[Option.some.inj this];rfl
 have y2:(((s[s.size - 1]'(by omega)).toNat:Int)==41)=true:=by rw[Yc];omega
 clear h hc hl
 go_in
 go_wp2_with fail
 refine (Fz s 7 _ (by unfold maxLen;omega) (by unfold maxLen;omega)).mono ?_
 cases hk:Eg (s.data.toList.drop 7) with
 | none=>
   have j:Hid (Nu (On L) s.data.toList=SI.none):=by unfold Hid;rw[d1.o,hk]
   have Z:Eb s.data.toList 7 = -1:=by unfold Eb;rw[hk]
   rw[Z];clear Z hk;rintro e I ⟨rfl,rfl⟩
   go_wp2_with fail
   refine Jj (v:=.agg #[.int .i64 0,.int .i64 0,.string ⟨#[]⟩,.string ⟨#[]⟩]) ?_ rfl ⟨O4 (by rw[j.o];rfl),Oy _ _⟩;simp[results,results81,go_sem]
 | some k=>
   have b7:Hid (Nu (On L) s.data.toList=Wz (On L) s.data.toList k):=by unfold Hid;rw[d1.o,hk]
   have V:=Fq hk;rw[Zb,Ol] at V;obtain⟨A,hA⟩:=O1 (7+k);have HA:=Hd hA;have Z:Eb s.data.toList 7=(A:Int):=by unfold Eb;rw[hk];simp only[];omega
   have g8:7<=A:=by omega
   have h0:A<=s.size:=by omega
   rw[Z];clear Z hk V hA;rintro e I ⟨rfl,rfl⟩
   by_cases f5:s.size<=A
   ·have j:Hid (Nu (On L) s.data.toList=SI.none):=by
     unfold Hid;rw[b7.o];unfold Wz;rw[HA.o,EZ f5];rfl
    have zl:decide ((s.size:Int)<=(A:Int))=true:=dT (by omega)
    go_wp2_with fail
    refine Jj (v:=.agg #[.int .i64 0,.int .i64 0,.string ⟨#[]⟩,.string ⟨#[]⟩]) ?_ rfl ⟨O4 (by rw[j.o];rfl),Oy _ _⟩;simp[results,results81,go_sem]
   have d0:A<s.size:=by omega
   by_cases d3:¬ s[A].toNat=32
   ·have j:Hid (Nu (On L) s.data.toList=SI.none):=by
     unfold Hid;rw[b7.o];unfold Wz;rw[HA.o,Mi d0,if_neg (fun e=>d3 (by rw[Option.some.inj e];rfl))]
    have x1:((s[A].toNat:Int)==32)=false:=by rw[Jc];omega
    have x2:¬ (s[A].toNat:Int)=32:=by omega
    have x3:=Eo x2;clear d3
    go_wp2_with fail
    refine Jj (v:=.agg #[.int .i64 0,.int .i64 0,.string ⟨#[]⟩,.string ⟨#[]⟩]) ?_ rfl ⟨O4 (by rw[j.o];rfl),Oy _ _⟩;simp[results,results81,go_sem]
   have c8:s[A].toNat=32:=by omega
   have b8:Hid (Nu (On L) s.data.toList=match Eg (s.data.toList.drop (A+1)) with|none=>SI.none|some m=>if A+1+m+1=s.size then (if O0 (Od (On L) (s.extract 7 A).data.toList)&&O0 (Od (On L) ((s.data.toList.drop (A+1)).take m)) then ⟨6,0,(s.extract 7 A).data.toList,(s.data.toList.drop (A+1)).take m⟩ else SI.none) else SI.none):=by
    unfold Hid;rw[b7.o];unfold Wz;rw[HA.o,Mi d0,if_pos (by rw[Nw c8];rfl),Ol];have e:(s.extract 7 A).data.toList=(s.data.toList.drop 7).take k:=by
     rw[Hj,Uk]
     congr 1
     have:=HA.o;omega
    rw[e]
   have x1:((s[A].toNat:Int)==32)=true:=by rw[Yc];omega
   have e9:Hid ((s[A].toNat:Int)=32):=by unfold Hid;omega
   have x3:=N3 e9.o;clear d3 c8 d1 b7
   go_wp2_with fail
   refine (Ti s (A+1) _ _ (by push_cast;rfl) (by unfold maxLen;omega) (by unfold maxLen;omega)).mono ?_
   cases hm:Eg (s.data.toList.drop (A+1)) with
   | none=>
     have j:Hid (Nu (On L) s.data.toList=SI.none):=by unfold Hid;rw[b8.o,hm]
     have Z:Eb s.data.toList (A+1) = -1:=by unfold Eb;rw[hm]
     rw[Z];clear Z hm;have x4:=Eo (a:=(-1:Int)) (b:=(s.size:Int) - 1) (by omega);rintro e I ⟨rfl,rfl⟩
     go_wp2_with fail
     refine Jj (v:=.agg #[.int .i64 0,.int .i64 0,.string ⟨#[]⟩,.string ⟨#[]⟩]) ?_ rfl ⟨O4 (by rw[j.o];rfl),Oy _ _⟩;simp[results,results81,go_sem]
   | some m=>
     have V:=Fq hm;rw[Zb,Ol] at V;obtain⟨B,hB⟩:=O1 (A+1+m);have HB:=Hd hB;have Z:Eb s.data.toList (A+1)=(B:Int):=by unfold Eb;rw[hm];simp only[];omega
     have g9:A+1<=B:=by omega
     have h1:B<=s.size:=by omega
     rw[Z]
     by_cases d4:¬ B+1=s.size
     ·have j:Hid (Nu (On L) s.data.toList=SI.none):=by unfold Hid;rw[b8.o,hm];simp only[];rw[hB,if_neg d4]
      have x4:=Eo (a:=(B:Int)) (b:=(s.size:Int) - 1) (by omega);clear Z hm V hB d4;rintro e I ⟨rfl,rfl⟩
      go_wp2_with fail
      refine Jj (v:=.agg #[.int .i64 0,.int .i64 0,.string ⟨#[]⟩,.string ⟨#[]⟩]) ?_ rfl ⟨O4 (by rw[j.o];rfl),Oy _ _⟩;simp[results,results81,go_sem]
     have x4:=N3 (a:=(B:Int)) (b:=(s.size:Int) - 1) (by omega);have HE:Hid (Nu (On L) s.data.toList=if O0 (Od (On L) (s.extract 7 A).data.toList)&&O0 (Od (On L) (s.extract (A+1) B).data.toList) then ⟨6,0,(s.extract 7 A).data.toList,(s.extract (A+1) B).data.toList⟩ else SI.none):=by
      have e:(s.data.toList.drop (A+1)).take m=(s.extract (A+1) B).data.toList:=by
       rw[Hj,Uk]
       congr 1
       omega
      unfold Hid;rw[b8.o,hm];simp only[];rw[hB,if_pos (by omega),e]
     clear Z hm V hB d4 b8;rintro e I ⟨rfl,rfl⟩
     go_wp2_with fail
     have e6:(s.extract 7 A).size<=1048576:=by rw[Ym];omega
     have e5:(s.extract (A+1) B).size<=1048576:=by rw[Ym];omega
     generalize s.extract 7 A=J at HE e6 ⊢;generalize s.extract (A+1) B=SE at HE e5 ⊢;refine (Hx v L J _ (HS.o.bl (Oy _ _)) e6).mono ?_;have f9:=H8 (On L) J.data.toList;have d7:=Rz (On L) J.data.toList;generalize Od (On L) J.data.toList=X at HE f9 d7 ⊢;rintro e I ⟨rfl,hb⟩;have E:Below (w.heap.size+1) (w.alloc (.cells #[.int .i64 0,.int .i64 0,.string ⟨#[]⟩,.string ⟨#[]⟩] 110)) I:=CC hb
     have d9:=Hd (Lr E);have a7:Hid (Up w I):=(Oy w _).trans (E.mono (by omega));have g4:w.heap.size+1<=I.heap.size:=by have:=E.size;rw[Ji] at this;exact this
     have b3:=Hd d7;clear hb E d7;unfold N9
     go_wp2_with fail
     refine (Hx v L SE _ (HS.o.bl (a7.o.trans ((Oy I _).mono a7.o.size))) e5).mono ?_;have f8:=H8 (On L) SE.data.toList;have d6:=Rz (On L) SE.data.toList;generalize Od (On L) SE.data.toList=Y at HE f8 d6 ⊢;rintro e w2 ⟨rfl,hb⟩;have a8:=Hd d6;have E:Below (I.heap.size+1) (I.alloc (.cells #[.int .i64 X.kind,.int .i64 (X.width:Nat),.string (Oo X.index),.string (Oo X.elem)] 110)) w2:=CC hb
     have e7:=Lr E;have g5:I.heap.size+1<=w2.heap.size:=by have:=E.size;rw[Ji] at this;exact this
     have b5:Up I w2:=(Oy I _).trans (E.mono (by omega));have c6:Bx w2 w.heap.size [.int .i64 0,.int .i64 0,.string ⟨#[]⟩,.string ⟨#[]⟩]:=d9.o.bl (N:=I.heap.size) (by omega) b5;have x0:=e7.cell 0;simp only[Jo] at x0;have b4:=Hd c6;have G:=a7.up b5;obtain⟨c0,c1,c2,c3⟩:=c6.c4;obtain⟨f0,f1,f2,f3⟩:=c6.f4;have g1:I.heap.size<w2.heap.size:=by omega
     have g0:w.heap.size<w2.heap.size:=by omega
     clear hb E e7 b5 c6 d6;unfold N9
     by_cases k1:X.kind=0
     ·skip
      have j:Hid (Nu (On L) s.data.toList=SI.none):=by
       unfold Hid;rw[HE.o,if_neg];rw[J3,b3.o,a8.o];omega
      have z1:(X.kind==0)=true:=by rw[Yc];omega
      go_wp2_with fail
      have d:=((((b4.o.set 0 (.int .i64 0)).set 1 (.int .i64 0)).set 2 (.string ⟨#[]⟩)).set 3 (.string ⟨#[]⟩));have K:=fun o=>(d.alloc o).cell 0;have M:=fun o=>(d.alloc o).cell 1;have O:=fun o=>(d.alloc o).cell 2;have U:=fun o=>(d.alloc o).cell 3;simp only[Je,Jd,Jo,Jr] at K M O U;refine Jj (v:=.agg #[.int .i64 0,.int .i64 0,.string ⟨#[]⟩,.string ⟨#[]⟩]) ?_ rfl ⟨O4 (by rw[j.o];rfl),?_⟩
      ·clear c0 c1 c2 c3 f0 f1 f2 f3;simp[results,results81,go_sem,K,M,O,U]
      exact ((((G.o.sc).sc).sc).sc).alloc (by simp only[Ub];omega) _
     have z1:(X.kind==0)=false:=by rw[Jc];exact k1
     by_cases k2:Y.kind=0
     ·skip
      have j:Hid (Nu (On L) s.data.toList=SI.none):=by
       unfold Hid;rw[HE.o,if_neg];rw[J3,b3.o,a8.o];omega
      have z2:(Y.kind==0)=true:=by rw[Yc];omega
      go_wp2_with fail
      have d:=((((b4.o.set 0 (.int .i64 0)).set 1 (.int .i64 0)).set 2 (.string ⟨#[]⟩)).set 3 (.string ⟨#[]⟩));have K:=fun o=>(d.alloc o).cell 0;have M:=fun o=>(d.alloc o).cell 1;have O:=fun o=>(d.alloc o).cell 2;have U:=fun o=>(d.alloc o).cell 3;simp only[Je,Jd,Jo,Jr] at K M O U;refine Jj (v:=.agg #[.int .i64 0,.int .i64 0,.string ⟨#[]⟩,.string ⟨#[]⟩]) ?_ rfl ⟨O4 (by rw[j.o];rfl),?_⟩
      ·clear c0 c1 c2 c3 f0 f1 f2 f3;simp[results,results81,go_sem,K,M,O,U]
      exact ((((G.o.sc).sc).sc).sc).alloc (by simp only[Ub];omega) _
     have z2:(Y.kind==0)=false:=by rw[Jc];exact k2
     by_cases k3:X.kind=1
     ·skip
      have j:Hid (Nu (On L) s.data.toList=SI.none):=by
       unfold Hid;rw[HE.o,if_neg];rw[J3,b3.o,a8.o];omega
      have z3:(X.kind==1)=true:=by rw[Yc];omega
      go_wp2_with fail
      have d:=((((b4.o.set 0 (.int .i64 0)).set 1 (.int .i64 0)).set 2 (.string ⟨#[]⟩)).set 3 (.string ⟨#[]⟩));have K:=fun o=>(d.alloc o).cell 0;have M:=fun o=>(d.alloc o).cell 1;have O:=fun o=>(d.alloc o).cell 2;have U:=fun o=>(d.alloc o).cell 3;simp only[Je,Jd,Jo,Jr] at K M O U;refine Jj (v:=.agg #[.int .i64 0,.int .i64 0,.string ⟨#[]⟩,.string ⟨#[]⟩]) ?_ rfl ⟨O4 (by rw[j.o];rfl),?_⟩
      ·clear c0 c1 c2 c3 f0 f1 f2 f3;simp[results,results81,go_sem,K,M,O,U]
      exact ((((G.o.sc).sc).sc).sc).alloc (by simp only[Ub];omega) _
     have z3:(X.kind==1)=false:=by rw[Jc];exact k3
     by_cases k4:Y.kind=1
     ·skip
      have j:Hid (Nu (On L) s.data.toList=SI.none):=by
       unfold Hid;rw[HE.o,if_neg];rw[J3,b3.o,a8.o];omega
      have z4:(Y.kind==1)=true:=by rw[Yc];omega
      go_wp2_with fail
      have d:=((((b4.o.set 0 (.int .i64 0)).set 1 (.int .i64 0)).set 2 (.string ⟨#[]⟩)).set 3 (.string ⟨#[]⟩));have K:=fun o=>(d.alloc o).cell 0;have M:=fun o=>(d.alloc o).cell 1;have O:=fun o=>(d.alloc o).cell 2;have U:=fun o=>(d.alloc o).cell 3;simp only[Je,Jd,Jo,Jr] at K M O U;refine Jj (v:=.agg #[.int .i64 0,.int .i64 0,.string ⟨#[]⟩,.string ⟨#[]⟩]) ?_ rfl ⟨O4 (by rw[j.o];rfl),?_⟩
      ·clear c0 c1 c2 c3 f0 f1 f2 f3;simp[results,results81,go_sem,K,M,O,U]
      exact ((((G.o.sc).sc).sc).sc).alloc (by simp only[Ub];omega) _
     have z4:(Y.kind==1)=false:=by rw[Jc];exact k4
     have j:Hid (Nu (On L) s.data.toList=⟨6,0,J.data.toList,SE.data.toList⟩):=by
      unfold Hid;rw[HE.o,if_pos];rw[J3,b3.o,a8.o];exact⟨⟨k1,k3⟩,k2,k4⟩
     go_wp2_with fail
     have d:=((((b4.o.set 0 (.int .i64 6)).set 1 (.int .i64 0)).set 2 (.string J)).set 3 (.string SE));have K:=fun o=>(d.alloc o).cell 0;have M:=fun o=>(d.alloc o).cell 1;have O:=fun o=>(d.alloc o).cell 2;have U:=fun o=>(d.alloc o).cell 3;simp only[Je,Jd,Jo,Jr] at K M O U;refine Jj (v:=.agg #[.int .i64 6,.int .i64 0,.string J,.string SE]) ?_ rfl ⟨O4 (by rw[j.o];unfold N9;rw[Ko,Ko];rfl),?_⟩
     ·clear c0 c1 c2 c3 f0 f1 f2 f3;simp[results,results81,go_sem,K,M,O,U]
     exact ((((G.o.sc).sc).sc).sc).alloc (by simp only[Ub];omega) _
theorem Kz (v:Value)(L:List (List UInt8))(s:ByteArray)(w:World)(h:O8 w v L)(hs:s.size<=1048576) :
 Calls prog 81 #[v,.string s] w fun e w'=>e=.returned (N9 (Ov (On L) s.data.toList))/\Up w w':=by
 by_cases hc:8<s.data.toList.length/\s.data.toList.take 7=K4/\s.data.toList.getLast? = some 41
 ·rw[<-M3];exact Ae v L s w h hs hc
 have e:Ov (On L) s.data.toList=Od (On L) s.data.toList:=by rw[<-M3];unfold Nu;rw[if_neg hc]
 rw[e];exact D9 v L s w h hs hc
theorem Ms (n:List UInt8):Ny (Ke 2 n)=some n:=by
 cases d:Kr n
 ·have e:Ke 2 n=124::(n++[124]):=by simp[Ke,d]
  have h:(n++[124]).getLast? = some (124:UInt8):=Vd;rw[e];unfold Ny;rw[Mj];simp only[h,Vc,d];rfl
 have e:Ke 2 n=n:=by simp[Ke,d]
 rw[e];unfold Ny;rw[if_pos d]
theorem XR {t n:List UInt8}(h:Ny t=some n):Ke 2 n=t:=by
 rcases Xh h with⟨d,rfl⟩|⟨d,rfl⟩
 ·simp[Ke,d]
 simp[Ke,d]
theorem GG {n:List UInt8}(h:E3 n=true):n≠[]/\∀ c∈n,c≠124:=by
 simp only[E3,J3,Yg] at h;exact⟨by rintro rfl;simp at h,fun c hc=>A6 (Ju.1 h.2 c hc)⟩
theorem Q8 {n r:List UInt8}(h:n≠[])(hn:∀ c∈n,c≠124):(n++r).dropWhile (fun b=>b==124)=n++r:=by
 cases n with
 | nil=>exact absurd rfl h
 | cons c n=>
   have:=hn c (by simp);simp[this]
theorem RG {n:List UInt8}(h:E3 n=true):Lib.trimB (Ke 2 n) 124=n:=by
 obtain⟨d,hn⟩:=GG h;have G:n.reverse≠[]:=by simpa using d
 have j:∀ c∈n.reverse,c≠124:=fun c hc=>hn c (by simpa using hc);have A:n.dropWhile (fun b=>b==124)=n:=by have:=Q8 (r:=[]) d hn;simpa using this
 have M:n.reverse.dropWhile (fun b=>b==124)=n.reverse:=by have:=Q8 (r:=[]) G j;simpa using this
 unfold Lib.trimB Lib.trimRightB Lib.trimLeftB
 cases E:Kr n
 ·have e:Ke 2 n=124::(n++[124]):=by simp[Ke,E]
  have I:(124::(n++[124])).reverse=124::(n.reverse++[(124:UInt8)]):=by simp
  rw[e,I];have J:List.dropWhile (fun b=>b==124) (124::(n.reverse++[(124:UInt8)]))=n.reverse++[124]:=by
   rw[List.dropWhile_cons_of_pos (by decide)];exact Q8 G j
  rw[J];have K:(n.reverse++[(124:UInt8)]).reverse=124::n:=by simp
  rw[K,List.dropWhile_cons_of_pos (by decide),A]
 have e:Ke 2 n=n:=by simp[Ke,E]
 rw[e,M,List.reverse_reverse,A]
theorem IA {n:List UInt8}(h:E5 n=true):n.length<=60:=by
 simp only[E5,E3,J3,Yg] at h;exact h.1.1.2
def Oh (f:List UInt8->Option Nat)(n:List UInt8):Bool:=!Ga n&&(f n).isSome
theorem NR (f:List UInt8->Option Nat){t N:List UInt8}(h1:t≠Oc)(h2:t≠Kn)(h3:t≠Ki)(hw:E9 t=0)(hN:Lib.trimB t 124=N):Od (Oh f) t=if E5 N&&decide (Ke 2 N=t)&&(f N).isSome then ⟨5,0,[],[]⟩ else SI.none:=by
 have A:Od (Oh f) t=match Ny t with|some n=>if E3 n&&Oh f n then ⟨5,0,[],[]⟩ else SI.none|none=>SI.none:=by
  unfold Od;rw[if_neg h1,if_neg h2,if_neg h3,hw,if_neg (by omega)];rfl
 rw[A]
 cases hn:Ny t with
 | none=>
   simp only[];rw[if_neg];intro hc;simp only[J3,Yg] at hc;have:=Ms N;rw[hc.1.2,hn] at this
   cases this
 | some n=>
   simp only[];have j:=XR hn
   cases d:E3 n
   ·rw[if_neg (by simp),if_neg];intro hc;simp only[J3,Yg,E5] at hc;have:=Ms N;rw[hc.1.2,hn] at this
    cases this
    rw[d] at hc;simp at hc
   have h:N=n:=by rw[<-hN,<-j];exact RG d
   subst h;have:(E3 N&&Oh f N)=(E5 N&&decide (Ke 2 N=t)&&(f N).isSome):=by
    rw[Jb j,d];simp[Oh,E5,d]
   rw[d] at this;rw[this]
def PN (kb:Nat):Value:=.func (.func 116) #[.pointer (some ⟨kb,0,none⟩)] #[]
theorem G0.bl {w w':World}{b N:Nat}{f:List UInt8->Option Nat}(h:G0 w b f)(hb:Below N w w')(hN:b<N):G0 w' b f:=by
 obtain⟨n,D,hn,⟨j,d,G,E⟩,A⟩:=h;exact⟨n,D,hn,⟨j,d,(hb.block b hN).trans G,E⟩,A⟩
theorem Iv (s:ByteArray)(w:World)(hs:s.size<=1048576) :
 Calls prog 149 #[.string s,.string ⟨#[124]⟩] w fun e w'=>e=.returned (.string (Oo (Lib.trimB s.data.toList 124)))/\Up w w':=by
 refine (Tryz.strings_Trim_one s 124 (by decide) w (by omega)).mono ?_;rintro e w' ⟨rfl,rfl|rfl⟩
 ·exact⟨rfl,Jh _ _⟩
 exact⟨rfl,⟨rfl,rfl,rfl,Of,fun _ _=>rfl⟩⟩
theorem RE (l:List UInt8)(c:UInt8):(Lib.trimB l c).length<=l.length:=by
 unfold Lib.trimB Lib.trimRightB Lib.trimLeftB;have d:=(List.dropWhile_sublist (p:=(·==c)) (l:=(l.reverse.dropWhile (·==c)).reverse)).length_le;have h:=(List.dropWhile_sublist (p:=(·==c)) (l:=l.reverse)).length_le;simp only[V4] at d h;omega
theorem Ak (kb b:Nat)(f:List UInt8->Option Nat)(s:ByteArray)(w:World)(hs:s.size<=1048576)(hev:EV w)(hc:w.cell? ⟨kb,3,none⟩=some (.map (some b)))(hm:G0 w b f)(hb:b<w.heap.size) :
 Calls prog 135 #[.string s,PN kb] w fun e w'=>e=.returned (N9 (Od (Oh f) s.data.toList))/\Up w w':=by
 have d7:kb<w.heap.size:=Ye w _ hc;have d2:=Hd hev;have HC:=Hd hc;have HM:=Hd hm;have E:=Fd (Oh f);clear hev hc hm;unfold PN
 by_cases U:s.data.toList=Oc
 ·have F:Hid (Od (Oh f) s.data.toList=⟨1,0,[],[]⟩):=by unfold Hid;rw[U];exact E.1
  have z:=P5 U;unfold Oc at z;clear U E
  go_in
  go_wp2_with fail
  refine Jj (v:=.agg #[.int .i64 1,.int .i64 0,.string ⟨#[]⟩,.string ⟨#[]⟩]) ?_ rfl ⟨O4 (by rw[F.o];rfl),Oy _ _⟩;simp[results,results135,go_sem]
 have z1:=Xq U
 by_cases Y:s.data.toList=Kn
 ·have F:Hid (Od (Oh f) s.data.toList=⟨2,0,[],[]⟩):=by unfold Hid;rw[Y];exact E.2.1
  have z:=P5 Y;unfold Kn at z;unfold Oc at z1;clear U Y E
  go_in
  go_wp2_with fail
  refine Jj (v:=.agg #[.int .i64 2,.int .i64 0,.string ⟨#[]⟩,.string ⟨#[]⟩]) ?_ rfl ⟨O4 (by rw[F.o];rfl),Oy _ _⟩;simp[results,results135,go_sem]
 have z2:=Xq Y
 by_cases h3:s.data.toList=Ki
 ·have F:Hid (Od (Oh f) s.data.toList=⟨3,0,[],[]⟩):=by unfold Hid;rw[h3];exact E.2.2
  have z:=P5 h3;unfold Ki at z;unfold Oc at z1;unfold Kn at z2;clear U Y h3 E
  go_in
  go_wp2_with fail
  refine Jj (v:=.agg #[.int .i64 3,.int .i64 0,.string ⟨#[]⟩,.string ⟨#[]⟩]) ?_ rfl ⟨O4 (by rw[F.o];rfl),Oy _ _⟩;simp[results,results135,go_sem]
 have z3:=Xq h3;clear E;have b5:Hid (∀ N,E9 s.data.toList=0->Lib.trimB s.data.toList 124=N->Od (Oh f) s.data.toList=if E5 N&&decide (Ke 2 N=s.data.toList)&&(f N).isSome then ⟨5,0,[],[]⟩ else SI.none):=fun N hw hN=>NR f U Y h3 hw hN;have b6:Hid (0<E9 s.data.toList->Od (Oh f) s.data.toList=⟨4,E9 s.data.toList,[],[]⟩):=fun hw=>by
  unfold Od;rw[if_neg U,if_neg Y,if_neg h3,if_pos hw]
 unfold Oc at z1;unfold Kn at z2;unfold Ki at z3;clear U Y h3
 go_in
 go_wp2_with fail
 refine (Wr s _ (by omega) (d2.o.next (Oy _ _))).mono ?_;obtain⟨W,hW⟩:=O1 (E9 s.data.toList);have d4:=Hd hW;rw[hW];rw[hW] at b5 b6;clear hW;rintro e w1 ⟨rfl,a7⟩;have A:Below (w.heap.size+1) (w.alloc (.cells #[.int .i64 0,.int .i64 0,.string ⟨#[]⟩,.string ⟨#[]⟩] 110)) w1:=CC a7
 by_cases b7:0<W
 ·have d:=Hd (Lr A);have j:Hid (Up w w1):=(Oy w _).trans (A.mono (by omega));obtain⟨c0,c1,c2,c3⟩:=d.o.c4;obtain⟨f0,f1,f2,f3⟩:=d.o.f4;have I:Hid (Od (Oh f) s.data.toList=⟨4,W,[],[]⟩):=b6.o b7;have f5:W<65:=by
   have e:=d4.o;have:=(I5 (t:=s.data.toList) (by omega)).2.2;omega
  clear a7 A
  go_wp2_with fail
  have h:=((((d.o.set 0 (.int .i64 4)).set 1 (.int .i64 (W:Nat))).set 2 (.string ⟨#[]⟩)).set 3 (.string ⟨#[]⟩));obtain⟨J,K,M,O⟩:=h.c4;refine Jj (v:=.agg #[.int .i64 4,.int .i64 (W:Nat),.string ⟨#[]⟩,.string ⟨#[]⟩]) ?_ rfl ⟨O4 (by rw[I.o];rfl),?_⟩
  ·clear c0 c1 c2 c3 f0 f1 f2 f3;simp[results,results135,go_sem,J,K,M,O]
  exact (((j.o.sc).sc).sc).sc
 obtain rfl:W=0:=by omega
 have b3:=Hd A;clear a7 A b7
 go_wp2_with fail
 refine (Iv s _ (by omega)).mono ?_;obtain⟨N,hN⟩:=O1 (Lib.trimB s.data.toList 124);have HP:=Hd (b5.o N (by first|rfl|trivial) hN);have d5:N.length<=1048576:=by rw[<-hN];have:=RE s.data.toList 124;rw[Ol] at this;omega
 rw[hN];clear hN;rintro e w2 ⟨rfl,b8⟩;have G:Below (w.heap.size+1) (w.alloc (.cells #[.int .i64 0,.int .i64 0,.string ⟨#[]⟩,.string ⟨#[]⟩] 110)) w2:=b3.o.trans (b8.mono (by have:=b3.o.size;rw[Ji] at this;exact this));have d:=Hd (Lr G);have j:Hid (Up w w2):=(Oy w _).trans (G.mono (by omega));have d1:Hid (w2.cell? ⟨kb,3,none⟩=some (.map (some b))):=(j.o.cell (p:=⟨kb,3,none⟩) d7).trans HC.o;have d3:Hid (G0 w2 b f):=HM.o.bl j.o hb;clear b8 G;obtain⟨S,hS⟩:=O1 (Oo N);have HS:Hid (S.data.toList=N):=by unfold Hid;rw[<-hS,Ou]
 have e9:S.size<=1048576:=by rw[<-Ol,HS.o];exact d5
 rw[hS];rw[<-HS.o] at HP;clear hS
 go_wp2_with fail
 refine (C3 S _ (by unfold maxLen;omega)).mono ?_
 cases V:E5 S.data.toList
 ·have I:Hid (Od (Oh f) s.data.toList=SI.none):=by unfold Hid;rw[HP.o,V];rfl
  rintro e w3 ⟨rfl,rfl⟩;obtain⟨c0,c1,c2,c3⟩:=d.o.c4;obtain⟨f0,f1,f2,f3⟩:=d.o.f4;clear V
  go_wp2_with fail
  have h:=((((d.o.set 0 (.int .i64 0)).set 1 (.int .i64 0)).set 2 (.string ⟨#[]⟩)).set 3 (.string ⟨#[]⟩));obtain⟨J,K,M,O⟩:=h.c4;refine Jj (v:=.agg #[.int .i64 0,.int .i64 0,.string ⟨#[]⟩,.string ⟨#[]⟩]) ?_ rfl ⟨O4 (by rw[I.o];rfl),?_⟩
  ·clear c0 c1 c2 c3 f0 f1 f2 f3;simp[results,results135,go_sem,J,K,M,O]
  exact (((j.o.sc).sc).sc).sc
 have Z:=Hd V;clear V;rintro e w3 ⟨rfl,rfl⟩
 go_wp2_with fail
 refine (B7 S _ (by have:=IA Z.o;rw[Ol] at this;omega)).mono ?_;rintro e w3 ⟨rfl,rfl⟩
 by_cases ht:Ke 2 S.data.toList=s.data.toList
 ·have yt:((Oo (Ke 2 S.data.toList)).toList==s.toList)=true:=by rw[Jl,Jl,Ou,ht];simp
  have HT:=Hd ht;clear ht;generalize Oo (Ke 2 S.data.toList)=X at yt ⊢
  go_wp2_with fail
  refine (S3 kb b f S _ d1.o d3.o (by unfold maxLen;omega)).mono ?_
  cases hh:(f S.data.toList).isSome
  ·have I:Hid (Od (Oh f) s.data.toList=SI.none):=by unfold Hid;rw[HP.o,hh,Y0];rfl
   rintro e w3 ⟨rfl,rfl⟩;obtain⟨c0,c1,c2,c3⟩:=d.o.c4;obtain⟨f0,f1,f2,f3⟩:=d.o.f4;clear hh
   go_wp2_with fail
   have h:=((((d.o.set 0 (.int .i64 0)).set 1 (.int .i64 0)).set 2 (.string ⟨#[]⟩)).set 3 (.string ⟨#[]⟩));obtain⟨J,K,M,O⟩:=h.c4;refine Jj (v:=.agg #[.int .i64 0,.int .i64 0,.string ⟨#[]⟩,.string ⟨#[]⟩]) ?_ rfl ⟨O4 (by rw[I.o];rfl),?_⟩
   ·clear c0 c1 c2 c3 f0 f1 f2 f3;simp[results,results135,go_sem,J,K,M,O]
   exact (((j.o.sc).sc).sc).sc
  have I:Hid (Od (Oh f) s.data.toList=⟨5,0,[],[]⟩):=by unfold Hid;rw[HP.o,Z.o,Jb HT.o,hh];rfl
  rintro e w3 ⟨rfl,rfl⟩;obtain⟨c0,c1,c2,c3⟩:=d.o.c4;obtain⟨f0,f1,f2,f3⟩:=d.o.f4;clear hh
  go_wp2_with fail
  have h:=((((d.o.set 0 (.int .i64 5)).set 1 (.int .i64 0)).set 2 (.string ⟨#[]⟩)).set 3 (.string ⟨#[]⟩));obtain⟨J,K,M,O⟩:=h.c4;refine Jj (v:=.agg #[.int .i64 5,.int .i64 0,.string ⟨#[]⟩,.string ⟨#[]⟩]) ?_ rfl ⟨O4 (by rw[I.o];rfl),?_⟩
  ·clear c0 c1 c2 c3 f0 f1 f2 f3;simp[results,results135,go_sem,J,K,M,O]
  exact (((j.o.sc).sc).sc).sc
 have yt:((Oo (Ke 2 S.data.toList)).toList==s.toList)=false:=by rw[Jl,Jl,Ou,Jc];exact ht
 have I:Hid (Od (Oh f) s.data.toList=SI.none):=by unfold Hid;rw[HP.o,Z.o,Jg ht];rfl
 clear ht;generalize Oo (Ke 2 S.data.toList)=X at yt ⊢;obtain⟨c0,c1,c2,c3⟩:=d.o.c4;obtain⟨f0,f1,f2,f3⟩:=d.o.f4
 go_wp2_with fail
 have h:=((((d.o.set 0 (.int .i64 0)).set 1 (.int .i64 0)).set 2 (.string ⟨#[]⟩)).set 3 (.string ⟨#[]⟩));obtain⟨J,K,M,O⟩:=h.c4;refine Jj (v:=.agg #[.int .i64 0,.int .i64 0,.string ⟨#[]⟩,.string ⟨#[]⟩]) ?_ rfl ⟨O4 (by rw[I.o];rfl),?_⟩
 ·clear c0 c1 c2 c3 f0 f1 f2 f3;simp[results,results135,go_sem,J,K,M,O]
 exact (((j.o.sc).sc).sc).sc
theorem R0 (c:UInt8):∀ l:List UInt8,Lib.indexByte l c=if Ks (fun x=>x != c) l<l.length then (Ks (fun x=>x != c) l:Int) else -1
 | []=>rfl
 | x::r=>by
   have A:=R0 c r
   by_cases d:x=c
   ·subst d
    have:Ks (fun y=>y != x) (x::r)=0:=by simp[Ks]
    rw[this]
    simp[Lib.indexByte]
   have h:Lib.indexByte (x::r) c=if Lib.indexByte r c == -1 then -1 else Lib.indexByte r c+1:=by simp[Lib.indexByte,d]
   have j:Ks (fun y=>y != c) (x::r)=Ks (fun y=>y != c) r+1:=by simp[Ks,d]
   rw[h,j,A,Yo]
   by_cases hl:Ks (fun y=>y != c) r<r.length
   ·rw[if_pos hl,if_pos (show Ks (fun y=>y != c) r+1<r.length+1 by omega),if_neg (by rw[Yc];omega)];omega
   rw[if_neg hl,if_neg (show ¬ Ks (fun y=>y != c) r+1<r.length+1 by omega)];rfl
theorem OM (c:UInt8)(l:List UInt8) : -1<=Lib.indexByte l c/\Lib.indexByte l c<=(l.length:Int):=by
 rw[R0]
 split<;>omega
theorem KF (t:List UInt8):K3 t<=t.length:=by
 unfold K3
 split
 ·split
  ·simp only[Yo];omega
  simp
 ·split
  ·omega
  simp
 split
 ·omega
 simp
theorem KL {t:List UInt8}(h:t.take 1=[124]):((K3 t:Nat):Int)=Lib.indexByte (t.drop 1) 124+2:=by
 obtain⟨r,rfl⟩:∃ r,t=124::r:=by
  cases t with
  | nil=>simp at h
  | cons c r=>simp at h;exact⟨r,by rw[h]⟩
 rw[List.drop_one,List.tail_cons,R0]
 show (((if Ks (· != 124) r<r.length then Ks (· != 124) r+2 else 1):Nat):Int)=_
 split<;>omega
theorem OH {t:List UInt8}(h:t.take 1=[40]):((K3 t:Nat):Int)=Lib.indexByte t 41+1:=by
 obtain⟨r,rfl⟩:∃ r,t=40::r:=by
  cases t with
  | nil=>simp at h
  | cons c r=>simp at h;exact⟨r,by rw[h]⟩
 rw[R0]
 show (((if Ks (· != 41) (40::r)<(40::r).length then Ks (· != 41) (40::r)+1 else 0):Nat):Int)=_
 split<;>omega
theorem OI {t:List UInt8}(h1:t.take 1≠[124])(h2:t.take 1≠[40]):((K3 t:Nat):Int)=max (Lib.indexByte t 32) 0:=by
 rw[R0];have e:K3 t=if Ks (· != 32) t<t.length then Ks (· != 32) t else 0:=by
  unfold K3
  split
  ·exact absurd rfl h1
  ·exact absurd rfl h2
  rfl
 rw[e]
 split<;>omega
theorem Rt (s:ByteArray)(w:World)(hs:s.size<=1048576) :
 Calls prog 136 #[.string s] w fun e w'=>e=.returned (.int .i64 (K3 s.data.toList:Nat))/\w'=w:=by
 by_cases E:s.data.toList.take 1=[124]
 ·have A:Hid (Lib.hasPrefix s.data.toList [124]=true):=by unfold Hid;rw[Ei];exact Jb E
  have j:=Hd (KL E);have U:1<=s.size:=by have:=congrArg List.length E;rw[J4,Ol] at this;simp at this;omega
  clear E
  go_in
  go_wp2_with fail
  refine (Tryz.strings_HasPrefix s ⟨#[124]⟩ _).mono ?_
  change ∀ (e:Ending) (w':World),(e=.returned (.bool (Lib.hasPrefix s.data.toList [124]))/\w'=w)->_
  rw[A.o];rintro e h ⟨rfl,rfl⟩
  go_wp2_with fail
  refine (Tryz.strings_IndexByte _ 124 _).mono ?_;have M:(s.extract 1 s.size).data.toList=s.data.toList.drop 1:=by rw[Hj,Jn (by rw[Ol];omega)]
  rw[M]
  change ∀ (e:Ending) (w':World),(e=.returned (.int .i64 (Lib.indexByte (s.data.toList.drop 1) 124))/\w'=h)->_
  have d:=OM 124 (s.data.toList.drop 1);rw[Zb,Ol] at d;obtain⟨V,G⟩:=O1 (Lib.indexByte (s.data.toList.drop 1) 124);rw[G] at d j ⊢;clear G M;rintro e h ⟨rfl,rfl⟩
  go_wp2
  go_ret
  exact⟨U9 j.o.symm,rfl⟩
 have A:Hid (Lib.hasPrefix s.data.toList [124]=false):=by unfold Hid;rw[Ei];exact Jg E
 by_cases J:s.data.toList.take 1=[40]
 ·have I:Hid (Lib.hasPrefix s.data.toList [40]=true):=by unfold Hid;rw[Ei];exact Jb J
  have j:=Hd (OH J);clear E J
  go_in
  go_wp2_with fail
  refine (Tryz.strings_HasPrefix s ⟨#[124]⟩ _).mono ?_
  change ∀ (e:Ending) (w':World),(e=.returned (.bool (Lib.hasPrefix s.data.toList [124]))/\w'=w)->_
  rw[A.o];rintro e h ⟨rfl,rfl⟩
  go_wp2_with fail
  refine (Tryz.strings_HasPrefix s ⟨#[40]⟩ _).mono ?_
  change ∀ (e:Ending) (w':World),(e=.returned (.bool (Lib.hasPrefix s.data.toList [40]))/\w'=h)->_
  rw[I.o];rintro e h ⟨rfl,rfl⟩
  go_wp2_with fail
  refine (Tryz.strings_IndexByte _ 41 _).mono ?_
  change ∀ (e:Ending) (w':World),(e=.returned (.int .i64 (Lib.indexByte s.data.toList 41))/\w'=h)->_
  have d:=OM 41 s.data.toList;rw[Ol] at d;obtain⟨V,G⟩:=O1 (Lib.indexByte s.data.toList 41);rw[G] at d j ⊢;clear G;rintro e h ⟨rfl,rfl⟩
  go_wp2
  go_ret
  exact⟨U9 j.o.symm,rfl⟩
 have I:Hid (Lib.hasPrefix s.data.toList [40]=false):=by unfold Hid;rw[Ei];exact Jg J
 have j:=Hd (OI E J);clear E J
 go_in
 go_wp2_with fail
 refine (Tryz.strings_HasPrefix s ⟨#[124]⟩ _).mono ?_
 change ∀ (e:Ending) (w':World),(e=.returned (.bool (Lib.hasPrefix s.data.toList [124]))/\w'=w)->_
 rw[A.o];rintro e h ⟨rfl,rfl⟩
 go_wp2_with fail
 refine (Tryz.strings_HasPrefix s ⟨#[40]⟩ _).mono ?_
 change ∀ (e:Ending) (w':World),(e=.returned (.bool (Lib.hasPrefix s.data.toList [40]))/\w'=h)->_
 rw[I.o];rintro e h ⟨rfl,rfl⟩
 go_wp2_with fail
 refine (Tryz.strings_IndexByte _ 32 _).mono ?_
 change ∀ (e:Ending) (w':World),(e=.returned (.int .i64 (Lib.indexByte s.data.toList 32))/\w'=h)->_
 have d:=OM 32 s.data.toList;rw[Ol] at d;obtain⟨V,G⟩:=O1 (Lib.indexByte s.data.toList 32);rw[G] at d j ⊢;clear G;rintro e h ⟨rfl,rfl⟩
 by_cases O:0<=V
 ·have K:max V 0=V:=by omega
  go_wp2_with fail
  all_goals go_ret
  all_goals exact⟨U9 (by rw[j.o];omega),rfl⟩
 have K:max V 0=0:=by omega
 go_wp2_with fail
 all_goals go_ret
 all_goals exact⟨U9 (by rw[j.o];omega),rfl⟩
end Go.Proofs.YtipgjenolpofpaaGreatDoor
