import Derived.Test.YtipgjenolpofpaaGreatDoorP17
import Derived.Test.YtipgjenolpofpaaGreatDoorP18
import Derived.Maps.OwnSet
import Derived.Maps.OwnOps
set_option maxRecDepth 100000
set_option maxHeartbeats 104857600
namespace Go.Proofs.YtipgjenolpofpaaGreatDoor
open Go.ChangeShapes Go.WideShapes Go.ChangeAt Go.RowKit Go.Proofs.Tryz
theorem RH {s:ByteArray}(h0:0<s.size)(h6:s.size<=60):E2 s.data.toList=decide (((Ks Hb s.data.toList:Nat):Int)=(s.size:Int)):=by
 rw[T5 h0 h6,Yb,Js,<-Sz,Ol];omega
theorem Pz (s:ByteArray)(w:World)(hs:s.size<=maxLen) :
 Calls prog 111 #[.string s] w fun e w'=>e=.returned (.bool (E2 s.data.toList))/\w'=w:=by
 have E:=hs;unfold maxLen at hs
 by_cases h:s.size=0
 ·have F:Hid (E2 s.data.toList=false):=Rx (.inl h);have z:=X9 s h
  go_enter func111,ntmps111
  go_wp2_with fail
  go_ret
  exact⟨Oz F.o.symm,rfl⟩
 have j:0<s.size:=by omega
 have z:=Hr s j
 by_cases A:60<s.size
 ·have F:Hid (E2 s.data.toList=false):=Rx (.inr A)
  go_enter func111,ntmps111
  go_wp2_with fail
  go_ret
  exact⟨Oz F.o.symm,rfl⟩
 have F:=Hd (RH j (by omega));obtain⟨R,d⟩:∃ R:Nat,Ks Hb s.data.toList=R:=⟨_,rfl⟩;have G:=Hd d;rw[d] at F;clear d
 go_enter func111,ntmps111
 go_wp2_with (go_at_call 119;refine (GH _ _ E).mono ?_;rw[G.o];rintro e w' ⟨rfl,rfl⟩)
 go_ret
 exact⟨Oz (by rw[F.o,Yb,Js];simp),rfl⟩
theorem EW (t:List UInt8):Lib.hasPrefix t [98,118]=RF t:=by
 unfold Lib.hasPrefix RF;rw[Yb,Js,List.isPrefixOf_iff_prefix,List.prefix_iff_eq_take];exact⟨fun h=>h.symm,fun h=>h.symm⟩
theorem Bw (w:World)(t:List UInt8)(h:t∈Kk):Calls prog 112 #[.string (Oo t)] w fun e w'=>e=.returned (.bool true)/\w'=w:=by
 simp only[Kk,Vx,List.not_mem_nil,or_false] at h
 rcases h with rfl|rfl|rfl|rfl|rfl|rfl|rfl|rfl|rfl|rfl|rfl|rfl|rfl|rfl|rfl|rfl|rfl|rfl|rfl|rfl|rfl|rfl|rfl|rfl|rfl|rfl|rfl|rfl|rfl|rfl|rfl|rfl|rfl|rfl|rfl|rfl|rfl|rfl
 all_goals (unfold Oo;go_enter func112,ntmps112)
 all_goals go_wp2_with fail
 all_goals go_ret
 all_goals exact⟨rfl,rfl⟩
theorem Lx (s:ByteArray)(w:World)(h:s.data.toList∉Kk):Calls prog 112 #[.string s] w fun e w'=>e=.returned (.bool (RF s.data.toList))/\w'=w:=by
 have d:∀ t∈Kk,(s.toList==t)=false:=fun t ht=>Xg (fun e=>h (by rw[e];exact ht));have j:=Hd (EW s.data.toList);clear h;have z0:=d [66,111,111,108] (by decide);have z1:=d [73,110,116] (by decide);have z2:=d [82,101,97,108] (by decide);have z3:=d [66,105,116,86,101,99] (by decide);have z4:=d [65,114,114,97,121] (by decide);have z5:=d [95] (by decide);have z6:=d [108,101,116] (by decide);have z7:=d [97,115] (by decide);have z8:=d [116,114,117,101] (by decide);have z9:=d [102,97,108,115,101] (by decide);have b8:=d [110,111,116] (by decide);have U:=d [97,110,100] (by decide);have Z:=d [111,114] (by decide);have b7:=d [120,111,114] (by decide);have a7:=d [61,62] (by decide);have b4:=d [105,116,101] (by decide);have O:=d [61] (by decide);have Y:=d [100,105,115,116,105,110,99,116] (by decide);have c6:=d [43] (by decide);have A:=d [45] (by decide);have z20:=d [42] (by decide);have z21:=d [47] (by decide);have z22:=d [60,61] (by decide);have G:=d [60] (by decide);have d0:=d [62,61] (by decide);have b9:=d [62] (by decide);have b6:=d [100,105,118] (by decide);have I:=d [109,111,100] (by decide);have b5:=d [116,111,95,114,101,97,108] (by decide);have E:=d [115,101,108,101,99,116] (by decide);have c8:=d [115,116,111,114,101] (by decide);have K:=d [99,111,110,99,97,116] (by decide);have M:=d [101,120,116,114,97,99,116] (by decide);have V:=d [122,101,114,111,95,101,120,116,101,110,100] (by decide);have J:=d [115,105,103,110,95,101,120,116,101,110,100] (by decide);have a8:=d [114,111,116,97,116,101,95,108,101,102,116] (by decide);have b3:=d [114,111,116,97,116,101,95,114,105,103,104,116] (by decide);have z37:=d [114,101,112,101,97,116] (by decide);clear d
 go_enter func112,ntmps112
 go_wp2_with fail
 refine (Tryz.strings_HasPrefix s ⟨#[98,118]⟩ _).mono ?_;rintro e w1 ⟨rfl,rfl⟩
 go_wp2_with fail
 go_ret
 exact⟨Oz j.o,rfl⟩
theorem S6 (s:ByteArray)(w:World):Calls prog 112 #[.string s] w fun e w'=>e=.returned (.bool (Gc s.data.toList))/\w'=w:=by
 by_cases h:s.data.toList∈Kk
 ·have e:Gc s.data.toList=true:=by unfold Gc;rw[Ur];right;simpa using h
  have d:=Bw w _ h;rw[Ko] at d;rw[e];exact d
 have e:Gc s.data.toList=RF s.data.toList:=by
  unfold Gc;have:Kk.contains s.data.toList=false:=by rw[J9];intro hc;exact h (by simpa using hc)
  rw[this,Bool.or_false]
 rw[e];exact Lx s w h
theorem Fm (s:ByteArray)(w:World)(hs:s.size<=maxLen) :
 Calls prog 93 #[.string s] w fun e w'=>e=.returned (.bool (E5 s.data.toList))/\w'=w:=by
 have F:Hid (E5 s.data.toList=(E2 s.data.toList&&!Gc s.data.toList)):=rfl
 cases d:E2 s.data.toList
 ·have h:=Hd d
  go_enter func93,ntmps93
  go_wp2_with (go_at_call 111;refine (Pz _ _ hs).mono ?_;rw[d];rintro e w' ⟨rfl,rfl⟩)
  go_ret
  exact⟨Oz (by rw[F.o,h.o];rfl),rfl⟩
 have h:=Hd d
 go_enter func93,ntmps93
 go_wp2_with (first|(go_at_call 111;refine (Pz _ _ hs).mono ?_;rw[d];rintro e w' ⟨rfl,rfl⟩)|(go_at_call 112;refine (S6 _ _).mono ?_;rintro e w' ⟨rfl,rfl⟩))
 go_ret
 exact⟨Oz (by rw[F.o,h.o];rfl),rfl⟩
def EV (w:World):Prop:=(∃ ev,w.cell? ⟨5,0,none⟩=some ev/\(ev=.nilIface∨∃ te pe,ev=.iface te pe))/\(∃ ev,w.cell? ⟨6,0,none⟩=some ev/\(ev=.nilIface∨∃ te pe,ev=.iface te pe))
theorem EV.below {w w':World}{N:Nat}(h:EV w)(hb:Below N w w')(h1:5<N)(h2:6<N):EV w':=by
 obtain⟨⟨d,c1,A⟩,j,c2,k2⟩:=h;exact⟨⟨d,(hb.cell (p:=⟨5,0,none⟩) h1).trans c1,A⟩,j,(hb.cell (p:=⟨6,0,none⟩) h2).trans c2,k2⟩
theorem EV.lt {w:World}(h:EV w):5<w.heap.size/\6<w.heap.size:=by
 obtain⟨⟨d,c1,_⟩,j,c2,_⟩:=h;exact⟨Yd w _ c1,Yd w _ c2⟩
theorem EV.next {w w':World}(h:EV w)(hb:Up w w'):EV w':=h.below hb h.lt.1 h.lt.2
theorem S3:∀ w:Fin 65,Lib.decDigits w.val=Lq w.val:=fun w=>by
 unfold Lq
 unfold Lib.decDigits
 by_cases h:w.val<10
 ·rw[dif_pos h,if_pos h]
 ·rw[dif_neg h,if_neg h]
  unfold Lib.decDigits
  rw[dif_pos (by omega)]
  rfl
theorem XK (n:Nat)(h:n<65):(⟨#[40,95,32,66,105,116,86,101,99,32]⟩++⟨(Lib.decDigits n).toArray⟩++⟨#[41]⟩:ByteArray)=Oo (Ni n):=by
 rw[S3 ⟨n,h⟩];apply ByteArray.ext;apply Array.ext';simp[Oo,Ni,Lg]
theorem Pe (n:Nat)(w:World)(h:n<65) :
 Calls prog 171 #[.int .i64 (n:Nat)] w fun e w'=>e=.returned (.string (Oo (Ni n)))/\w'=w:=by
 have d:=Hd (XK n h)
 go_enter func171,ntmps171
 go_wp2_with fail
 refine (Tryz.strconv_Itoa_small n (by omega) _).mono ?_;rintro e A ⟨rfl,rfl⟩;have j:(⟨(Lib.decDigits n).toArray⟩:ByteArray).size<=2:=by
  rw[S3 ⟨n,h⟩];unfold Lq
  split<;>simp[ByteArray.size]
 generalize (⟨(Lib.decDigits n).toArray⟩:ByteArray)=D at d j ⊢
 go_wp2_with fail
 go_ret
 exact⟨O4 (by rw[d.o];rfl),rfl⟩
theorem NX:∀ w:Fin 65,0<w.val->Lib.atoiAll (Lib.trimSuffix ((Ni w.val).drop 10) [41])=.ok (w.val:Int):=by decide +kernel
theorem Ei (t p:List UInt8):Lib.hasPrefix t p=decide (t.take p.length=p):=by
 unfold Lib.hasPrefix;rw[Yb,Js,List.isPrefixOf_iff_prefix,List.prefix_iff_eq_take];exact⟨fun h=>h.symm,fun h=>h.symm⟩
theorem OI {t:List UInt8}(h:t.take 10≠Lg):E9 t=0:=XE (fun hb=>h hb.2.1)
theorem I0 {t:List UInt8}(h:0<E9 t):Lib.atoiAll (Lib.trimSuffix (t.drop 10) [41])=.ok (E9 t:Int)/\t=Ni (E9 t)/\E9 t<65:=by
 obtain⟨w,j,d,e,A⟩:=Gh h;rw[A];refine⟨?_,e,d⟩;rw[e];exact NX ⟨w,d⟩ j
theorem CR {t:List UInt8}{n:Nat}(h0:0<n)(h1:n<65)(h:Ni n=t):E9 t=n:=by rw[<-h];exact By ⟨n,h1⟩ h0
theorem RI {t:List UInt8}(h:t.take 10=Lg):Lib.trimPrefix t Lg=t.drop 10:=by
 unfold Lib.trimPrefix;rw[Ei,Jb (by exact h)];rfl
theorem GY (t p:List UInt8):(Lib.trimSuffix t p).length<=t.length:=by
 unfold Lib.trimSuffix
 split
 ·rw[J3];omega
 exact Of
theorem T2 (s:ByteArray)(w:World)(hs:s.size<=1048576)(hev:EV w) :
 Calls prog 148 #[.string s] w fun e w'=>e=.returned (.int .i64 (E9 s.data.toList:Nat))/\Up w w':=by
 have J:=Hd hev;clear hev
 by_cases I:s.data.toList.take 10=Lg
 ·have A:Hid (Lib.hasPrefix s.data.toList Lg=true):=by unfold Hid;rw[Ei];exact Jb I
  have b4:=Hd (RI I);clear I
  go_enter func148,ntmps148
  go_wp2_with fail
  refine (Tryz.strings_CutPrefix s ⟨#[40,95,32,66,105,116,86,101,99,32]⟩ _).mono ?_
  change ∀ (e:Ending) (w':World),(e=.returned (.tuple #[.string ⟨(Lib.trimPrefix s.data.toList Lg).toArray⟩,.bool (Lib.hasPrefix s.data.toList Lg)])/\w'=w)->_
  rw[A.o,b4.o];rintro e O ⟨rfl,rfl⟩;obtain⟨D,hD⟩:∃ D:ByteArray,(⟨(s.data.toList.drop 10).toArray⟩:ByteArray)=D:=⟨_,rfl⟩;have HD:Hid (D.data.toList=s.data.toList.drop 10):=by unfold Hid;rw[<-hD]
  have b9:D.size<=1048576:=by rw[<-Ol,HD.o,Zb,Ol];omega
  rw[hD];clear hD
  go_wp2_with fail
  refine (Tryz.strings_TrimSuffix D ⟨#[41]⟩ _ (by omega)).mono ?_
  change ∀ (e:Ending) (w':World),(e=.returned (.string ⟨(Lib.trimSuffix D.data.toList [41]).toArray⟩)/\w'=O)->_
  rw[HD.o];rintro e O ⟨rfl,rfl⟩;obtain⟨E,hE⟩:∃ E:ByteArray,(⟨(Lib.trimSuffix (s.data.toList.drop 10) [41]).toArray⟩:ByteArray)=E:=⟨_,rfl⟩;have Y:Hid (E.data.toList=Lib.trimSuffix (s.data.toList.drop 10) [41]):=by unfold Hid;rw[<-hE]
  have c6:E.size<=1048576:=by
   rw[<-Ol,Y.o];have h1:=GY (s.data.toList.drop 10) [41];rw[Zb,Ol] at h1;omega
  rw[hE];clear hE
  go_wp2_with fail
  rcases ha:Lib.atoiAll E.data.toList with v|_|_
  ·refine (Tryz.strconv_Atoi_ok E (by omega) v ha _).mono ?_;rintro e w2 ⟨rfl,M⟩;have d:Hid (Up O w2):=by
    rcases M with rfl|⟨t,rfl⟩
    ·exact Jh _ _
    exact Lib.bytesWorld_below _ _ _
   have K:Hid (∀ h0:0<E9 s.data.toList,v=(E9 s.data.toList:Int)):=fun h0=>by
    have:=(I0 h0).1;rw[<-Y.o,ha] at this
    cases this
    rfl
   clear M ha
   by_cases G:1<=v/\v<=64
   ·have Z:=G.1;have a7:=G.2;obtain⟨n,rfl⟩:∃ n:Nat,v=n:=⟨v.toNat,by omega⟩;clear G
    by_cases hn:Ni n=s.data.toList
    ·have F:Hid (E9 s.data.toList=n):=CR (by omega) (by omega) hn;have y:((Oo (Ni n)).toList==s.toList)=true:=by rw[Jl,Jl,Ou,hn];simp
     have h:Hid (∀ W,Calls prog 171 #[.int .i64 (n:Nat)] W fun e w'=>e=.returned (.string (Oo (Ni n)))/\w'=W):=fun W=>Pe n W (by omega);clear hn;generalize Oo (Ni n)=U at y h
     go_wp2_with (go_at_call 171;refine (h.o _).mono ?_;rintro e w' ⟨rfl,rfl⟩)
     go_ret
     exact⟨U9 (by rw[F.o]),d.o⟩
    have F:Hid (E9 s.data.toList=0):=by
     unfold Hid
     rcases Zq (E9 s.data.toList) with h0|h0
     ·exact h0
     have h3:=K.o h0;have h4:=(I0 h0).2.1;exact absurd (by rw[show n=E9 s.data.toList by omega];exact h4.symm) hn
    have y:((Oo (Ni n)).toList==s.toList)=false:=by rw[Jl,Jl,Ou,Jc];exact hn
    have h:Hid (∀ W,Calls prog 171 #[.int .i64 (n:Nat)] W fun e w'=>e=.returned (.string (Oo (Ni n)))/\w'=W):=fun W=>Pe n W (by omega);clear hn;generalize Oo (Ni n)=U at y h
    go_wp2_with (go_at_call 171;refine (h.o _).mono ?_;rintro e w' ⟨rfl,rfl⟩)
    go_ret
    exact⟨U9 (by rw[F.o];rfl),d.o⟩
   have F:Hid (E9 s.data.toList=0):=by
    unfold Hid
    rcases Zq (E9 s.data.toList) with h0|h0
    ·exact h0
    have h3:=K.o h0;have h4:=(I0 h0).2.2;exact absurd ⟨by omega,by omega⟩ G
   by_cases Z:v<1
   ·clear G
    go_wp2_with fail
    go_ret
    exact⟨U9 (by rw[F.o];rfl),d.o⟩
   have a7:64<v:=by omega
   have b8:1<=v:=by omega
   clear G
   go_wp2_with fail
   go_ret
   exact⟨U9 (by rw[F.o];rfl),d.o⟩
  ·have F:Hid (E9 s.data.toList=0):=by
    unfold Hid
    rcases Zq (E9 s.data.toList) with h0|h0
    ·exact h0
    have:=(I0 h0).1;rw[<-Y.o,ha] at this;cases this
   obtain⟨ev,hev,hk⟩:=J.o.1;refine (Tryz.strconv_Atoi_syntax E (by omega) ha ev _ hev hk).mono ?_;rintro e w2 ⟨N,rfl,_,_,j⟩;have d:=Hd j;clear j ha
   go_wp2_with fail
   go_ret
   exact⟨U9 (by rw[F.o];rfl),d.o⟩
  have F:Hid (E9 s.data.toList=0):=by
   unfold Hid
   rcases Zq (E9 s.data.toList) with h0|h0
   ·exact h0
   have:=(I0 h0).1;rw[<-Y.o,ha] at this;cases this
  obtain⟨ev,hev,hk⟩:=J.o.2;refine (Tryz.strconv_Atoi_range E (by omega) ha ev _ hev hk).mono ?_;rintro e w2 ⟨N,rfl,_,_,j⟩;have d:=Hd j;clear j ha;generalize Lib.atoiSat E.data.toList=V
  go_wp2_with fail
  go_ret
  exact⟨U9 (by rw[F.o];rfl),d.o⟩
 have F:Hid (E9 s.data.toList=0):=OI I;have A:Hid (Lib.hasPrefix s.data.toList Lg=false):=by unfold Hid;rw[Ei];exact Jg I
 clear I
 go_enter func148,ntmps148
 go_wp2_with fail
 refine (Tryz.strings_CutPrefix s ⟨#[40,95,32,66,105,116,86,101,99,32]⟩ _).mono ?_
 change ∀ (e:Ending) (w':World),(e=.returned (.tuple #[.string ⟨(Lib.trimPrefix s.data.toList Lg).toArray⟩,.bool (Lib.hasPrefix s.data.toList Lg)])/\w'=w)->_
 rw[A.o];rintro e O ⟨rfl,rfl⟩;generalize (⟨(Lib.trimPrefix s.data.toList Lg).toArray⟩:ByteArray)=D
 go_wp2_with fail
 go_ret
 exact⟨U9 (by rw[F.o];rfl),Jh _ _⟩
theorem Il:Maps.Keyed prog 9:=Maps.string_keyed underlying9
theorem N0 (s:ByteArray)(hs:s.size<=maxLen):keyOf prog 9 (.string s)=some (.string s.data.toList):=Go.WideMaps.keyOf_string_mk underlying9 hs
def G3 (w:World)(b:Nat)(f:List UInt8->Option Nat):Prop:=
 ∃ (n:Nat) (D:DataW Unit),n<=1000000/\w.ownsMap prog 9 (plainElem prog 3) b n D/\∀ s,Maps.has D (.string s)=(f s).isSome/\∀ i,f s=some i->D.atKey (.string s) (.lit (.int .i64 0))=.lit (.int .i64 (i:Nat))
theorem Wk (kb b:Nat)(f:List UInt8->Option Nat)(s:ByteArray)(w:World)(hc:w.cell? ⟨kb,3,none⟩=some (.map (some b)))(hm:G3 w b f)(hs:s.size<=maxLen) :
 Calls prog 116 #[.pointer (some ⟨kb,0,none⟩),.string s] w fun e w'=>e=.returned (.bool (f s.data.toList).isSome)/\w'=w:=by
 obtain⟨n,D,hn,d,E⟩:=hm;have h:=Hd d;have G:=Hd E;clear d E
 go_enter func116,ntmps116
 go_wp2_with (at_lookup;refine wpList_lookup_own_ok_int _ rfl _ _ 86 rfl 9 3 .i64 Il underlying86 underlying3 ?z b n D rfl h.o _ _ rfl (N0 s hs) ?_)
 case z=>rfl
 intro c A j;rw[(G.o s.data.toList).1];clear A j
 go_wp2_with fail
 go_ret
 exact⟨rfl,rfl⟩
def IV:List Value->Option (DataW Unit×List MemPlace)
 | [.int .i64 a,.int .i64 b,.string c,.string d]=>some (.agg [.lit (.int .i64 a),.lit (.int .i64 b),.lit (.string c.data.toList),.lit (.string d.data.toList)],[])
 | _=>none
def Xt:Value->Option (DataW Unit×List MemPlace)
 | .agg cs=>IV cs.toList
 | _=>none
def GS (x:SI):DataW Unit:=.agg [.lit (.int .i64 x.kind),.lit (.int .i64 (x.width:Nat)),.lit (.string x.index),.lit (.string x.elem)]
theorem Pw (x:SI):Xt (Gy x)=some (GS x,[]):=by
 show some (_,_)=some (_,_)
 unfold GS;rw[Ou,Ou]
theorem C1 {v:Value}{x:SI}{ps:List MemPlace}(h:Xt v=some (GS x,ps)):v=Gy x:=by
 cases v with
 | agg cs=>
   have j:IV cs.toList=some (GS x,ps):=h;unfold IV at j
   split at j
   ·rename_i a b c d e;simp only[Option.some.injEq,Prod.mk.injEq,GS,DataW.agg.injEq,List.cons.injEq,DataW.lit.injEq,Lit.int.injEq,Lit.string.injEq,true_and] at j;obtain⟨⟨rfl,rfl,h3,h4,_⟩,_⟩:=j;unfold Gy;rw[<-h3,<-h4,Ko,Ko,<-e]
   ·cases j
 | _=>cases h
theorem H9 (own:List UInt8->Bool)(t:List UInt8):0<=(Od own t).kind/\(Od own t).kind<=5:=by
 unfold Od
 split
 ·exact⟨by decide,by decide⟩
 split
 ·exact⟨by decide,by decide⟩
 split
 ·exact⟨by decide,by decide⟩
 split
 ·exact⟨by show (0:Int)<=4;decide,by show (4:Int)<=5;decide⟩
 split
 ·split
  ·exact⟨by decide,by decide⟩
  exact⟨by decide,by decide⟩
 exact⟨by decide,by decide⟩
theorem Rz (own:List UInt8->Bool)(t:List UInt8):O0 (Od own t)=true↔(Od own t).kind≠0/\(Od own t).kind≠1:=by
 have:=H9 own t;simp only[O0,J4,Yg];omega
theorem Lh {w w1:World}{ty:TypeId}{a0 a1 a2 a3:Value}(hb:Below (w.heap.size+1) (w.alloc (.cells #[a0,a1,a2,a3] ty)) w1):Bx w1 w.heap.size [a0,a1,a2,a3]:=(Ox w [a0,a1,a2,a3] ty).below (N:=w.heap.size+1) (by omega) hb
theorem szA {w M:World}{o:Obj}(h:Below (w.alloc o).heap.size (w.alloc o) M):Below (w.heap.size+1) (w.alloc o) M:=by rw[Ji] at h;exact h
theorem D5 (v:Value)(L:List (List UInt8))(s:ByteArray)(w:World)(h:O8 w v L)(hs:s.size<=1048576)(hn:¬ (8<s.data.toList.length/\s.data.toList.take 7=K3/\s.data.toList.getLast? = some 41)) :
 Calls prog 81 #[v,.string s] w fun e w'=>e=.returned (Gy (Od (On L) s.data.toList))/\Up w w':=by
 have HS:=Hd h;have HN:=Hd hn;clear h hn
 go_enter func81,ntmps81
 by_cases Z:8<s.size
 ·by_cases A:s.data.toList.take 7=K3
  case' pos=>
   have y1:((s.extract 0 7).toList==[40,65,114,114,97,121,32])=true:=by rw[E3,A];rfl
   have y2:(((s[s.size - 1]'(by omega)).toNat:Int)==41)=false:=by
    rw[Jc];intro e;exact HN.o ⟨by rw[Ol];exact Z,A,by rw[Ic (by omega),Nt (c:=s[s.size - 1]'(by omega)) (n:=41) (by omega)];rfl⟩
  case' neg=>
   have y1:((s.extract 0 7).toList==[40,65,114,114,97,121,32])=false:=by rw[E3,Jc];exact A
  all_goals
   clear A
   go_wp2_with fail
   refine (Hx v L s _ (HS.o.below (Oy _ _)) hs).mono ?_;obtain⟨X,I⟩:=O1 (Od (On L) s.data.toList);have J:=Hd I;rw[I];clear I;rintro e M ⟨rfl,hb⟩;have j:Below (w.heap.size+1) (w.alloc (.cells #[.int .i64 0,.int .i64 0,.string ⟨#[]⟩,.string ⟨#[]⟩] 110)) M:=szA hb
   have d:=Lh j;have G:=Hd d;have E:Hid (Up w M):=(Oy w _).trans (j.mono (by omega));obtain⟨c0,c1,c2,c3⟩:=d.c4;obtain⟨f0,f1,f2,f3⟩:=d.f4;clear hb j d;unfold Gy
   go_wp2_with fail
   have K:=((((G.o.set 0 (.int .i64 X.kind)).set 1 (.int .i64 (X.width:Nat))).set 2 (.string (Oo X.index))).set 3 (.string (Oo X.elem)));obtain⟨V,O,U,Y⟩:=K.c4;refine Jj (v:=.agg #[.int .i64 X.kind,.int .i64 (X.width:Nat),.string (Oo X.index),.string (Oo X.elem)]) ?_ rfl ⟨O4 (by rw[J.o];rfl),?_⟩
   ·clear c0 c1 c2 c3 f0 f1 f2 f3;simp[results,results81,go_sem,V,O,U,Y]
   exact (((E.o.setCell (p:=⟨w.heap.size,0,none⟩) Of _).setCell (p:=⟨w.heap.size,1,none⟩) Of _).setCell (p:=⟨w.heap.size,2,none⟩) Of _).setCell (p:=⟨w.heap.size,3,none⟩) Of _
 go_wp2_with fail
 refine (Hx v L s _ (HS.o.below (Oy _ _)) hs).mono ?_;obtain⟨X,I⟩:=O1 (Od (On L) s.data.toList);have J:=Hd I;rw[I];clear I;rintro e M ⟨rfl,hb⟩;have j:Below (w.heap.size+1) (w.alloc (.cells #[.int .i64 0,.int .i64 0,.string ⟨#[]⟩,.string ⟨#[]⟩] 110)) M:=szA hb
 have d:=Lh j;have G:=Hd d;have E:Hid (Up w M):=(Oy w _).trans (j.mono (by omega));obtain⟨c0,c1,c2,c3⟩:=d.c4;obtain⟨f0,f1,f2,f3⟩:=d.f4;clear hb j d;unfold Gy
 go_wp2_with fail
 have K:=((((G.o.set 0 (.int .i64 X.kind)).set 1 (.int .i64 (X.width:Nat))).set 2 (.string (Oo X.index))).set 3 (.string (Oo X.elem)));obtain⟨V,O,U,Y⟩:=K.c4;refine Jj (v:=.agg #[.int .i64 X.kind,.int .i64 (X.width:Nat),.string (Oo X.index),.string (Oo X.elem)]) ?_ rfl ⟨O4 (by rw[J.o];rfl),?_⟩
 ·clear c0 c1 c2 c3 f0 f1 f2 f3;simp[results,results81,go_sem,V,O,U,Y]
 exact (((E.o.setCell (p:=⟨w.heap.size,0,none⟩) Of _).setCell (p:=⟨w.heap.size,1,none⟩) Of _).setCell (p:=⟨w.heap.size,2,none⟩) Of _).setCell (p:=⟨w.heap.size,3,none⟩) Of _
theorem Sq (s:ByteArray)(i:Nat)(x:Int)(w:World)(hx:x=(i:Nat))(hs:s.size<=maxLen)(hi:i<=maxLen) :
 Calls prog 95 #[.string s,.int .i64 x] w fun e w'=>e=.returned (.int .i64 (Ea s.data.toList i))/\w'=w:=by
 subst hx;exact Cd s i w hs hi
theorem N4 {a b:Int}(h:a=b):@bne Int (@instBEqOfDecidableEq Int Int.instDecidableEq) a b=false:=by simp[h]
theorem Eo {a b:Int}(h:¬ a=b):@bne Int (@instBEqOfDecidableEq Int Int.instDecidableEq) a b=true:=by simp[h]
theorem Mb {s:ByteArray}{k:Nat}(h:k<s.size):(s.data.toList.drop k).head? = some s[k]:=by
 rw[Qm (by rw[Ol];exact h)];rfl
theorem KX {s:ByteArray}{k:Nat}(h:s.size<=k):(s.data.toList.drop k).head? = none:=by
 rw[Zj (by rw[Ol];exact h)];rfl
def Wh (own:List UInt8->Bool)(t:List UInt8)(k:Nat):SI:=
 if (t.drop (7+k)).head? = some 32 then
  match Ee (t.drop (7+k+1)) with
  | none=>SI.none
  | some m=>
    if 7+k+1+m+1=t.length then
     if O0 (Od own ((t.drop 7).take k))&&O0 (Od own ((t.drop (7+k+1)).take m)) then ⟨6,0,(t.drop 7).take k,(t.drop (7+k+1)).take m⟩ else SI.none
    else SI.none
 else SI.none
theorem XJ {own:List UInt8->Bool}{t:List UInt8}(h:8<t.length/\t.take 7=K3/\t.getLast? = some 41):Nk own t=match Ee (t.drop 7) with|none=>SI.none|some k=>Wh own t k:=by
 unfold Nk;rw[if_pos h];rfl
theorem Ax (v:Value)(L:List (List UInt8))(s:ByteArray)(w:World)(h:O8 w v L)(hs:s.size<=1048576)(hc:8<s.data.toList.length/\s.data.toList.take 7=K3/\s.data.toList.getLast? = some 41) :
 Calls prog 81 #[v,.string s] w fun e w'=>e=.returned (Gy (Nk (On L) s.data.toList))/\Up w w':=by
 have HS:=Hd h;have d1:=Hd (XJ (own:=On L) hc);have i1:8<s.size:=by have:=hc.1;rw[Ol] at this;exact this
 have y1:((s.extract 0 7).toList==[40,65,114,114,97,121,32])=true:=by rw[E3,hc.2.1];rfl
 have hl:(s[s.size - 1]'(by omega)).toNat=41:=by have:=hc.2.2;rw[Ic (by omega)] at this;rw[Option.some.inj this];rfl
 have y2:(((s[s.size - 1]'(by omega)).toNat:Int)==41)=true:=by rw[Yc];omega
 clear h hc hl
 go_enter func81,ntmps81
 go_wp2_with fail
 refine (Cd s 7 _ (by unfold maxLen;omega) (by unfold maxLen;omega)).mono ?_
 cases hk:Ee (s.data.toList.drop 7) with
 | none=>
   have j:Hid (Nk (On L) s.data.toList=SI.none):=by unfold Hid;rw[d1.o,hk]
   have Z:Ea s.data.toList 7 = -1:=by unfold Ea;rw[hk]
   rw[Z];clear Z hk;rintro e I ⟨rfl,rfl⟩
   go_wp2_with fail
   refine Jj (v:=.agg #[.int .i64 0,.int .i64 0,.string ⟨#[]⟩,.string ⟨#[]⟩]) ?_ rfl ⟨O4 (by rw[j.o];rfl),Oy _ _⟩;simp[results,results81,go_sem]
 | some k=>
   have c6:Hid (Nk (On L) s.data.toList=Wh (On L) s.data.toList k):=by unfold Hid;rw[d1.o,hk]
   have V:=Lv hk;rw[Zb,Ol] at V;obtain⟨A,hA⟩:=O1 (7+k);have HA:=Hd hA;have Z:Ea s.data.toList 7=(A:Int):=by unfold Ea;rw[hk];simp only[];omega
   have h6:7<=A:=by omega
   have h0:A<=s.size:=by omega
   rw[Z];clear Z hk V hA;rintro e I ⟨rfl,rfl⟩
   by_cases f9:s.size<=A
   ·have j:Hid (Nk (On L) s.data.toList=SI.none):=by
     unfold Hid;rw[c6.o];unfold Wh;rw[HA.o,KX f9];rfl
    have zl:decide ((s.size:Int)<=(A:Int))=true:=dT (by omega)
    go_wp2_with fail
    refine Jj (v:=.agg #[.int .i64 0,.int .i64 0,.string ⟨#[]⟩,.string ⟨#[]⟩]) ?_ rfl ⟨O4 (by rw[j.o];rfl),Oy _ _⟩;simp[results,results81,go_sem]
   have d0:A<s.size:=by omega
   by_cases d2:¬ s[A].toNat=32
   ·have j:Hid (Nk (On L) s.data.toList=SI.none):=by
     unfold Hid;rw[c6.o];unfold Wh;rw[HA.o,Mb d0,if_neg (fun e=>d2 (by rw[Option.some.inj e];rfl))]
    have x1:((s[A].toNat:Int)==32)=false:=by rw[Jc];omega
    have x2:¬ (s[A].toNat:Int)=32:=by omega
    have x3:=Eo x2;clear d2
    go_wp2_with fail
    refine Jj (v:=.agg #[.int .i64 0,.int .i64 0,.string ⟨#[]⟩,.string ⟨#[]⟩]) ?_ rfl ⟨O4 (by rw[j.o];rfl),Oy _ _⟩;simp[results,results81,go_sem]
   have c8:s[A].toNat=32:=by omega
   have b7:Hid (Nk (On L) s.data.toList=match Ee (s.data.toList.drop (A+1)) with|none=>SI.none|some m=>if A+1+m+1=s.size then (if O0 (Od (On L) (s.extract 7 A).data.toList)&&O0 (Od (On L) ((s.data.toList.drop (A+1)).take m)) then ⟨6,0,(s.extract 7 A).data.toList,(s.data.toList.drop (A+1)).take m⟩ else SI.none) else SI.none):=by
    unfold Hid;rw[c6.o];unfold Wh;rw[HA.o,Mb d0,if_pos (by rw[Nt c8];rfl),Ol];have e:(s.extract 7 A).data.toList=(s.data.toList.drop 7).take k:=by
     rw[H5,Uk]
     congr 1
     have:=HA.o;omega
    rw[e]
   have x1:((s[A].toNat:Int)==32)=true:=by rw[Yc];omega
   have e9:Hid ((s[A].toNat:Int)=32):=by unfold Hid;omega
   have x3:=N4 e9.o;clear d2 c8 d1 c6
   go_wp2_with fail
   refine (Sq s (A+1) _ _ (by push_cast;rfl) (by unfold maxLen;omega) (by unfold maxLen;omega)).mono ?_
   cases hm:Ee (s.data.toList.drop (A+1)) with
   | none=>
     have j:Hid (Nk (On L) s.data.toList=SI.none):=by unfold Hid;rw[b7.o,hm]
     have Z:Ea s.data.toList (A+1) = -1:=by unfold Ea;rw[hm]
     rw[Z];clear Z hm;have x4:=Eo (a:=(-1:Int)) (b:=(s.size:Int) - 1) (by omega);rintro e I ⟨rfl,rfl⟩
     go_wp2_with fail
     refine Jj (v:=.agg #[.int .i64 0,.int .i64 0,.string ⟨#[]⟩,.string ⟨#[]⟩]) ?_ rfl ⟨O4 (by rw[j.o];rfl),Oy _ _⟩;simp[results,results81,go_sem]
   | some m=>
     have V:=Lv hm;rw[Zb,Ol] at V;obtain⟨B,hB⟩:=O1 (A+1+m);have HB:=Hd hB;have Z:Ea s.data.toList (A+1)=(B:Int):=by unfold Ea;rw[hm];simp only[];omega
     have h9:A+1<=B:=by omega
     have h7:B<=s.size:=by omega
     rw[Z]
     by_cases d3:¬ B+1=s.size
     ·have j:Hid (Nk (On L) s.data.toList=SI.none):=by unfold Hid;rw[b7.o,hm];simp only[];rw[hB,if_neg d3]
      have x4:=Eo (a:=(B:Int)) (b:=(s.size:Int) - 1) (by omega);clear Z hm V hB d3;rintro e I ⟨rfl,rfl⟩
      go_wp2_with fail
      refine Jj (v:=.agg #[.int .i64 0,.int .i64 0,.string ⟨#[]⟩,.string ⟨#[]⟩]) ?_ rfl ⟨O4 (by rw[j.o];rfl),Oy _ _⟩;simp[results,results81,go_sem]
     have x4:=N4 (a:=(B:Int)) (b:=(s.size:Int) - 1) (by omega);have HE:Hid (Nk (On L) s.data.toList=if O0 (Od (On L) (s.extract 7 A).data.toList)&&O0 (Od (On L) (s.extract (A+1) B).data.toList) then ⟨6,0,(s.extract 7 A).data.toList,(s.extract (A+1) B).data.toList⟩ else SI.none):=by
      have e:(s.data.toList.drop (A+1)).take m=(s.extract (A+1) B).data.toList:=by
       rw[H5,Uk]
       congr 1
       omega
      unfold Hid;rw[b7.o,hm];simp only[];rw[hB,if_pos (by omega),e]
     clear Z hm V hB d3 b7;rintro e I ⟨rfl,rfl⟩
     go_wp2_with fail
     have d9:(s.extract 7 A).size<=1048576:=by rw[Yn];omega
     have e7:(s.extract (A+1) B).size<=1048576:=by rw[Yn];omega
     generalize s.extract 7 A=J at HE d9 ⊢;generalize s.extract (A+1) B=SE at HE e7 ⊢;refine (Hx v L J _ (HS.o.below (Oy _ _)) d9).mono ?_;have f8:=H9 (On L) J.data.toList;have d5:=Rz (On L) J.data.toList;generalize Od (On L) J.data.toList=X at HE f8 d5 ⊢;rintro e I ⟨rfl,hb⟩;have E:Below (w.heap.size+1) (w.alloc (.cells #[.int .i64 0,.int .i64 0,.string ⟨#[]⟩,.string ⟨#[]⟩] 110)) I:=szA hb
     have e6:=Hd (Lh E);have b4:Hid (Up w I):=(Oy w _).trans (E.mono (by omega));have g5:w.heap.size+1<=I.heap.size:=by have:=E.size;rw[Ji] at this;exact this
     have b5:=Hd d5;clear hb E d5;unfold Gy
     go_wp2_with fail
     refine (Hx v L SE _ (HS.o.below (b4.o.trans ((Oy I _).mono b4.o.size))) e7).mono ?_;have f5:=H9 (On L) SE.data.toList;have d7:=Rz (On L) SE.data.toList;generalize Od (On L) SE.data.toList=Y at HE f5 d7 ⊢;rintro e w2 ⟨rfl,hb⟩;have a7:=Hd d7;have E:Below (I.heap.size+1) (I.alloc (.cells #[.int .i64 X.kind,.int .i64 (X.width:Nat),.string (Oo X.index),.string (Oo X.elem)] 110)) w2:=szA hb
     have e5:=Lh E;have g6:I.heap.size+1<=w2.heap.size:=by have:=E.size;rw[Ji] at this;exact this
     have a8:Up I w2:=(Oy I _).trans (E.mono (by omega));have b9:Bx w2 w.heap.size [.int .i64 0,.int .i64 0,.string ⟨#[]⟩,.string ⟨#[]⟩]:=e6.o.below (N:=I.heap.size) (by omega) a8;have x0:=e5.cell 0;simp only[Jo] at x0;have b3:=Hd b9;have G:=b4.up a8;obtain⟨c0,c1,c2,c3⟩:=b9.c4;obtain⟨f0,f1,f2,f3⟩:=b9.f4;have g1:I.heap.size<w2.heap.size:=by omega
     have g0:w.heap.size<w2.heap.size:=by omega
     clear hb E e5 a8 b9 d7;unfold Gy
     by_cases k1:X.kind=0
     ·skip
      have j:Hid (Nk (On L) s.data.toList=SI.none):=by
       unfold Hid;rw[HE.o,if_neg];rw[J4,b5.o,a7.o];omega
      have z1:(X.kind==0)=true:=by rw[Yc];omega
      go_wp2_with fail
      have d:=((((b3.o.set 0 (.int .i64 0)).set 1 (.int .i64 0)).set 2 (.string ⟨#[]⟩)).set 3 (.string ⟨#[]⟩));have K:=fun o=>(d.alloc o).cell 0;have U:=fun o=>(d.alloc o).cell 1;have M:=fun o=>(d.alloc o).cell 2;have O:=fun o=>(d.alloc o).cell 3;simp only[Je,Jd,Jo,Jr] at K U M O;refine Jj (v:=.agg #[.int .i64 0,.int .i64 0,.string ⟨#[]⟩,.string ⟨#[]⟩]) ?_ rfl ⟨O4 (by rw[j.o];rfl),?_⟩
      ·clear c0 c1 c2 c3 f0 f1 f2 f3;simp[results,results81,go_sem,K,U,M,O]
      ·exact ((((G.o.setCell (p:=⟨w.heap.size,0,none⟩) Of _).setCell (p:=⟨w.heap.size,1,none⟩) Of _).setCell (p:=⟨w.heap.size,2,none⟩) Of _).setCell (p:=⟨w.heap.size,3,none⟩) Of _).alloc (by simp only[Ub];omega) _
     have z1:(X.kind==0)=false:=by rw[Jc];exact k1
     by_cases k2:Y.kind=0
     ·skip
      have j:Hid (Nk (On L) s.data.toList=SI.none):=by
       unfold Hid;rw[HE.o,if_neg];rw[J4,b5.o,a7.o];omega
      have z2:(Y.kind==0)=true:=by rw[Yc];omega
      go_wp2_with fail
      have d:=((((b3.o.set 0 (.int .i64 0)).set 1 (.int .i64 0)).set 2 (.string ⟨#[]⟩)).set 3 (.string ⟨#[]⟩));have K:=fun o=>(d.alloc o).cell 0;have U:=fun o=>(d.alloc o).cell 1;have M:=fun o=>(d.alloc o).cell 2;have O:=fun o=>(d.alloc o).cell 3;simp only[Je,Jd,Jo,Jr] at K U M O;refine Jj (v:=.agg #[.int .i64 0,.int .i64 0,.string ⟨#[]⟩,.string ⟨#[]⟩]) ?_ rfl ⟨O4 (by rw[j.o];rfl),?_⟩
      ·clear c0 c1 c2 c3 f0 f1 f2 f3;simp[results,results81,go_sem,K,U,M,O]
      ·exact ((((G.o.setCell (p:=⟨w.heap.size,0,none⟩) Of _).setCell (p:=⟨w.heap.size,1,none⟩) Of _).setCell (p:=⟨w.heap.size,2,none⟩) Of _).setCell (p:=⟨w.heap.size,3,none⟩) Of _).alloc (by simp only[Ub];omega) _
     have z2:(Y.kind==0)=false:=by rw[Jc];exact k2
     by_cases k3:X.kind=1
     ·skip
      have j:Hid (Nk (On L) s.data.toList=SI.none):=by
       unfold Hid;rw[HE.o,if_neg];rw[J4,b5.o,a7.o];omega
      have z3:(X.kind==1)=true:=by rw[Yc];omega
      go_wp2_with fail
      have d:=((((b3.o.set 0 (.int .i64 0)).set 1 (.int .i64 0)).set 2 (.string ⟨#[]⟩)).set 3 (.string ⟨#[]⟩));have K:=fun o=>(d.alloc o).cell 0;have U:=fun o=>(d.alloc o).cell 1;have M:=fun o=>(d.alloc o).cell 2;have O:=fun o=>(d.alloc o).cell 3;simp only[Je,Jd,Jo,Jr] at K U M O;refine Jj (v:=.agg #[.int .i64 0,.int .i64 0,.string ⟨#[]⟩,.string ⟨#[]⟩]) ?_ rfl ⟨O4 (by rw[j.o];rfl),?_⟩
      ·clear c0 c1 c2 c3 f0 f1 f2 f3;simp[results,results81,go_sem,K,U,M,O]
      ·exact ((((G.o.setCell (p:=⟨w.heap.size,0,none⟩) Of _).setCell (p:=⟨w.heap.size,1,none⟩) Of _).setCell (p:=⟨w.heap.size,2,none⟩) Of _).setCell (p:=⟨w.heap.size,3,none⟩) Of _).alloc (by simp only[Ub];omega) _
     have z3:(X.kind==1)=false:=by rw[Jc];exact k3
     by_cases k4:Y.kind=1
     ·skip
      have j:Hid (Nk (On L) s.data.toList=SI.none):=by
       unfold Hid;rw[HE.o,if_neg];rw[J4,b5.o,a7.o];omega
      have z4:(Y.kind==1)=true:=by rw[Yc];omega
      go_wp2_with fail
      have d:=((((b3.o.set 0 (.int .i64 0)).set 1 (.int .i64 0)).set 2 (.string ⟨#[]⟩)).set 3 (.string ⟨#[]⟩));have K:=fun o=>(d.alloc o).cell 0;have U:=fun o=>(d.alloc o).cell 1;have M:=fun o=>(d.alloc o).cell 2;have O:=fun o=>(d.alloc o).cell 3;simp only[Je,Jd,Jo,Jr] at K U M O;refine Jj (v:=.agg #[.int .i64 0,.int .i64 0,.string ⟨#[]⟩,.string ⟨#[]⟩]) ?_ rfl ⟨O4 (by rw[j.o];rfl),?_⟩
      ·clear c0 c1 c2 c3 f0 f1 f2 f3;simp[results,results81,go_sem,K,U,M,O]
      ·exact ((((G.o.setCell (p:=⟨w.heap.size,0,none⟩) Of _).setCell (p:=⟨w.heap.size,1,none⟩) Of _).setCell (p:=⟨w.heap.size,2,none⟩) Of _).setCell (p:=⟨w.heap.size,3,none⟩) Of _).alloc (by simp only[Ub];omega) _
     have z4:(Y.kind==1)=false:=by rw[Jc];exact k4
     have j:Hid (Nk (On L) s.data.toList=⟨6,0,J.data.toList,SE.data.toList⟩):=by
      unfold Hid;rw[HE.o,if_pos];rw[J4,b5.o,a7.o];exact⟨⟨k1,k3⟩,k2,k4⟩
     go_wp2_with fail
     have d:=((((b3.o.set 0 (.int .i64 6)).set 1 (.int .i64 0)).set 2 (.string J)).set 3 (.string SE));have K:=fun o=>(d.alloc o).cell 0;have U:=fun o=>(d.alloc o).cell 1;have M:=fun o=>(d.alloc o).cell 2;have O:=fun o=>(d.alloc o).cell 3;simp only[Je,Jd,Jo,Jr] at K U M O;refine Jj (v:=.agg #[.int .i64 6,.int .i64 0,.string J,.string SE]) ?_ rfl ⟨O4 (by rw[j.o];unfold Gy;rw[Ko,Ko];rfl),?_⟩
     ·clear c0 c1 c2 c3 f0 f1 f2 f3;simp[results,results81,go_sem,K,U,M,O]
     ·exact ((((G.o.setCell (p:=⟨w.heap.size,0,none⟩) Of _).setCell (p:=⟨w.heap.size,1,none⟩) Of _).setCell (p:=⟨w.heap.size,2,none⟩) Of _).setCell (p:=⟨w.heap.size,3,none⟩) Of _).alloc (by simp only[Ub];omega) _
theorem Kz (v:Value)(L:List (List UInt8))(s:ByteArray)(w:World)(h:O8 w v L)(hs:s.size<=1048576) :
 Calls prog 81 #[v,.string s] w fun e w'=>e=.returned (Gy (Ov (On L) s.data.toList))/\Up w w':=by
 by_cases hc:8<s.data.toList.length/\s.data.toList.take 7=K3/\s.data.toList.getLast? = some 41
 ·rw[<-Ms];exact Ax v L s w h hs hc
 have e:Ov (On L) s.data.toList=Od (On L) s.data.toList:=by rw[<-Ms];unfold Nk;rw[if_neg hc]
 rw[e];exact D5 v L s w h hs hc
theorem Mk (n:List UInt8):No (Ke 2 n)=some n:=by
 cases d:Kr n
 ·have e:Ke 2 n=124::(n++[124]):=by simp[Ke,d]
  have h:(n++[124]).getLast? = some (124:UInt8):=Vc;rw[e];unfold No;rw[Ml];simp only[h,Vd,d];rfl
 have e:Ke 2 n=n:=by simp[Ke,d]
 rw[e];unfold No;rw[if_pos d]
theorem QC {t n:List UInt8}(h:No t=some n):Ke 2 n=t:=by
 rcases Xv h with⟨d,rfl⟩|⟨d,rfl⟩
 ·simp[Ke,d]
 simp[Ke,d]
theorem KK {n:List UInt8}(h:E2 n=true):n≠[]/\∀ c∈n,c≠124:=by
 simp only[E2,J4,Yg] at h;exact⟨by rintro rfl;simp at h,fun c hc=>Sg (Ju.1 h.2 c hc)⟩
theorem Rn {n r:List UInt8}(h:n≠[])(hn:∀ c∈n,c≠124):(n++r).dropWhile (fun b=>b==124)=n++r:=by
 cases n with
 | nil=>exact absurd rfl h
 | cons c n=>
   have:=hn c (by simp);simp[this]
theorem XB {n:List UInt8}(h:E2 n=true):Lib.trimB (Ke 2 n) 124=n:=by
 obtain⟨j,hn⟩:=KK h;have A:n.reverse≠[]:=by simpa using j
 have d:∀ c∈n.reverse,c≠124:=fun c hc=>hn c (by simpa using hc);have G:n.dropWhile (fun b=>b==124)=n:=by have:=Rn (r:=[]) j hn;simpa using this
 have M:n.reverse.dropWhile (fun b=>b==124)=n.reverse:=by have:=Rn (r:=[]) A d;simpa using this
 unfold Lib.trimB Lib.trimRightB Lib.trimLeftB
 cases E:Kr n
 ·have e:Ke 2 n=124::(n++[124]):=by simp[Ke,E]
  have I:(124::(n++[124])).reverse=124::(n.reverse++[(124:UInt8)]):=by simp
  rw[e,I];have J:List.dropWhile (fun b=>b==124) (124::(n.reverse++[(124:UInt8)]))=n.reverse++[124]:=by
   rw[List.dropWhile_cons_of_pos (by decide)];exact Rn A d
  rw[J];have K:(n.reverse++[(124:UInt8)]).reverse=124::n:=by simp
  rw[K,List.dropWhile_cons_of_pos (by decide),G]
 have e:Ke 2 n=n:=by simp[Ke,E]
 rw[e,M,List.reverse_reverse,G]
theorem QR {n:List UInt8}(h:E5 n=true):n.length<=60:=by
 simp only[E5,E2,J4,Yg] at h;exact h.1.1.2
def Oh (f:List UInt8->Option Nat)(n:List UInt8):Bool:=!Gc n&&(f n).isSome
theorem EF (f:List UInt8->Option Nat){t N:List UInt8}(h1:t≠Oc)(h2:t≠Kn)(h3:t≠Ki)(hw:E9 t=0)(hN:Lib.trimB t 124=N):Od (Oh f) t=if E5 N&&decide (Ke 2 N=t)&&(f N).isSome then ⟨5,0,[],[]⟩ else SI.none:=by
 have A:Od (Oh f) t=match No t with|some n=>if E2 n&&Oh f n then ⟨5,0,[],[]⟩ else SI.none|none=>SI.none:=by
  unfold Od;rw[if_neg h1,if_neg h2,if_neg h3,hw,if_neg (by omega)];rfl
 rw[A]
 cases hn:No t with
 | none=>
   simp only[];rw[if_neg];intro hc;simp only[J4,Yg] at hc;have:=Mk N;rw[hc.1.2,hn] at this
   cases this
 | some n=>
   simp only[];have j:=QC hn
   cases d:E2 n
   ·rw[if_neg (by simp),if_neg];intro hc;simp only[J4,Yg,E5] at hc;have:=Mk N;rw[hc.1.2,hn] at this
    cases this
    rw[d] at hc;simp at hc
   ·have h:N=n:=by rw[<-hN,<-j];exact XB d
    subst h;have:(E2 N&&Oh f N)=(E5 N&&decide (Ke 2 N=t)&&(f N).isSome):=by
     rw[Jb j,d];simp[Oh,E5,d]
    rw[d] at this;rw[this]
def PR (kb:Nat):Value:=.func (.func 116) #[.pointer (some ⟨kb,0,none⟩)] #[]
theorem G3.below {w w':World}{b N:Nat}{f:List UInt8->Option Nat}(h:G3 w b f)(hb:Below N w w')(hN:b<N):G3 w' b f:=by
 obtain⟨n,D,hn,⟨G,j,d,A⟩,E⟩:=h;exact⟨n,D,hn,⟨G,j,(hb.block b hN).trans d,A⟩,E⟩
theorem Iv (s:ByteArray)(w:World)(hs:s.size<=1048576) :
 Calls prog 149 #[.string s,.string ⟨#[124]⟩] w fun e w'=>e=.returned (.string (Oo (Lib.trimB s.data.toList 124)))/\Up w w':=by
 refine (Tryz.strings_Trim_one s 124 (by decide) w (by omega)).mono ?_;rintro e w' ⟨rfl,rfl|rfl⟩
 ·exact⟨rfl,Jh _ _⟩
 exact⟨rfl,⟨rfl,rfl,rfl,Of,fun _ _=>rfl⟩⟩
theorem XY (l:List UInt8)(c:UInt8):(Lib.trimB l c).length<=l.length:=by
 unfold Lib.trimB Lib.trimRightB Lib.trimLeftB;have d:=(List.dropWhile_sublist (p:=(·==c)) (l:=(l.reverse.dropWhile (·==c)).reverse)).length_le;have h:=(List.dropWhile_sublist (p:=(·==c)) (l:=l.reverse)).length_le;simp only[V4] at d h;omega
theorem Bb (kb b:Nat)(f:List UInt8->Option Nat)(s:ByteArray)(w:World)(hs:s.size<=1048576)(hev:EV w)(hc:w.cell? ⟨kb,3,none⟩=some (.map (some b)))(hm:G3 w b f)(hb:b<w.heap.size) :
 Calls prog 135 #[.string s,PR kb] w fun e w'=>e=.returned (Gy (Od (Oh f) s.data.toList))/\Up w w':=by
 have d3:kb<w.heap.size:=Yd w _ hc;have d5:=Hd hev;have HC:=Hd hc;have HM:=Hd hm;have E:=C3 (Oh f);clear hev hc hm;unfold PR
 by_cases Y:s.data.toList=Oc
 ·have F:Hid (Od (Oh f) s.data.toList=⟨1,0,[],[]⟩):=by unfold Hid;rw[Y];exact E.1
  have z:=Pt Y;unfold Oc at z;clear Y E
  go_enter func135,ntmps135
  go_wp2_with fail
  refine Jj (v:=.agg #[.int .i64 1,.int .i64 0,.string ⟨#[]⟩,.string ⟨#[]⟩]) ?_ rfl ⟨O4 (by rw[F.o];rfl),Oy _ _⟩;simp[results,results135,go_sem]
 have z1:=Xg Y
 by_cases Z:s.data.toList=Kn
 ·have F:Hid (Od (Oh f) s.data.toList=⟨2,0,[],[]⟩):=by unfold Hid;rw[Z];exact E.2.1
  have z:=Pt Z;unfold Kn at z;unfold Oc at z1;clear Y Z E
  go_enter func135,ntmps135
  go_wp2_with fail
  refine Jj (v:=.agg #[.int .i64 2,.int .i64 0,.string ⟨#[]⟩,.string ⟨#[]⟩]) ?_ rfl ⟨O4 (by rw[F.o];rfl),Oy _ _⟩;simp[results,results135,go_sem]
 have z2:=Xg Z
 by_cases h3:s.data.toList=Ki
 ·have F:Hid (Od (Oh f) s.data.toList=⟨3,0,[],[]⟩):=by unfold Hid;rw[h3];exact E.2.2
  have z:=Pt h3;unfold Ki at z;unfold Oc at z1;unfold Kn at z2;clear Y Z h3 E
  go_enter func135,ntmps135
  go_wp2_with fail
  refine Jj (v:=.agg #[.int .i64 3,.int .i64 0,.string ⟨#[]⟩,.string ⟨#[]⟩]) ?_ rfl ⟨O4 (by rw[F.o];rfl),Oy _ _⟩;simp[results,results135,go_sem]
 have z3:=Xg h3;clear E;have b6:Hid (∀ N,E9 s.data.toList=0->Lib.trimB s.data.toList 124=N->Od (Oh f) s.data.toList=if E5 N&&decide (Ke 2 N=s.data.toList)&&(f N).isSome then ⟨5,0,[],[]⟩ else SI.none):=fun N hw hN=>EF f Y Z h3 hw hN;have b4:Hid (0<E9 s.data.toList->Od (Oh f) s.data.toList=⟨4,E9 s.data.toList,[],[]⟩):=fun hw=>by
  unfold Od;rw[if_neg Y,if_neg Z,if_neg h3,if_pos hw]
 unfold Oc at z1;unfold Kn at z2;unfold Ki at z3;clear Y Z h3
 go_enter func135,ntmps135
 go_wp2_with fail
 refine (T2 s _ (by omega) (d5.o.next (Oy _ _))).mono ?_;obtain⟨W,hW⟩:=O1 (E9 s.data.toList);have d6:=Hd hW;rw[hW];rw[hW] at b6 b4;clear hW;rintro e w1 ⟨rfl,V⟩;have A:Below (w.heap.size+1) (w.alloc (.cells #[.int .i64 0,.int .i64 0,.string ⟨#[]⟩,.string ⟨#[]⟩] 110)) w1:=szA V
 by_cases b3:0<W
 ·have d:=Hd (Lh A);have j:Hid (Up w w1):=(Oy w _).trans (A.mono (by omega));obtain⟨c0,c1,c2,c3⟩:=d.o.c4;obtain⟨f0,f1,f2,f3⟩:=d.o.f4;have J:Hid (Od (Oh f) s.data.toList=⟨4,W,[],[]⟩):=b4.o b3;have e9:W<65:=by
   have e:=d6.o;have:=(I0 (t:=s.data.toList) (by omega)).2.2;omega
  clear V A
  go_wp2_with fail
  have h:=((((d.o.set 0 (.int .i64 4)).set 1 (.int .i64 (W:Nat))).set 2 (.string ⟨#[]⟩)).set 3 (.string ⟨#[]⟩));obtain⟨I,U,K,O⟩:=h.c4;refine Jj (v:=.agg #[.int .i64 4,.int .i64 (W:Nat),.string ⟨#[]⟩,.string ⟨#[]⟩]) ?_ rfl ⟨O4 (by rw[J.o];rfl),?_⟩
  ·clear c0 c1 c2 c3 f0 f1 f2 f3;simp[results,results135,go_sem,I,U,K,O]
  exact (((j.o.setCell (p:=⟨w.heap.size,0,none⟩) Of _).setCell (p:=⟨w.heap.size,1,none⟩) Of _).setCell (p:=⟨w.heap.size,2,none⟩) Of _).setCell (p:=⟨w.heap.size,3,none⟩) Of _
 obtain rfl:W=0:=by omega
 have b8:=Hd A;clear V A b3
 go_wp2_with fail
 refine (Iv s _ (by omega)).mono ?_;obtain⟨N,hN⟩:=O1 (Lib.trimB s.data.toList 124);have HP:=Hd (b6.o N (by first|rfl|trivial) hN);have d7:N.length<=1048576:=by rw[<-hN];have:=XY s.data.toList 124;rw[Ol] at this;omega
 rw[hN];clear hN;rintro e w2 ⟨rfl,b7⟩;have G:Below (w.heap.size+1) (w.alloc (.cells #[.int .i64 0,.int .i64 0,.string ⟨#[]⟩,.string ⟨#[]⟩] 110)) w2:=b8.o.trans (b7.mono (by have:=b8.o.size;rw[Ji] at this;exact this));have d:=Hd (Lh G);have j:Hid (Up w w2):=(Oy w _).trans (G.mono (by omega));have d1:Hid (w2.cell? ⟨kb,3,none⟩=some (.map (some b))):=(j.o.cell (p:=⟨kb,3,none⟩) d3).trans HC.o;have d9:Hid (G3 w2 b f):=HM.o.below j.o hb;clear b7 G;obtain⟨S,hS⟩:=O1 (Oo N);have HS:Hid (S.data.toList=N):=by unfold Hid;rw[<-hS,Ou]
 have f5:S.size<=1048576:=by rw[<-Ol,HS.o];exact d7
 rw[hS];rw[<-HS.o] at HP;clear hS
 go_wp2_with fail
 refine (Fm S _ (by unfold maxLen;omega)).mono ?_
 cases M:E5 S.data.toList
 ·have J:Hid (Od (Oh f) s.data.toList=SI.none):=by unfold Hid;rw[HP.o,M];rfl
  rintro e w3 ⟨rfl,rfl⟩;obtain⟨c0,c1,c2,c3⟩:=d.o.c4;obtain⟨f0,f1,f2,f3⟩:=d.o.f4;clear M
  go_wp2_with fail
  have h:=((((d.o.set 0 (.int .i64 0)).set 1 (.int .i64 0)).set 2 (.string ⟨#[]⟩)).set 3 (.string ⟨#[]⟩));obtain⟨I,U,K,O⟩:=h.c4;refine Jj (v:=.agg #[.int .i64 0,.int .i64 0,.string ⟨#[]⟩,.string ⟨#[]⟩]) ?_ rfl ⟨O4 (by rw[J.o];rfl),?_⟩
  ·clear c0 c1 c2 c3 f0 f1 f2 f3;simp[results,results135,go_sem,I,U,K,O]
  exact (((j.o.setCell (p:=⟨w.heap.size,0,none⟩) Of _).setCell (p:=⟨w.heap.size,1,none⟩) Of _).setCell (p:=⟨w.heap.size,2,none⟩) Of _).setCell (p:=⟨w.heap.size,3,none⟩) Of _
 have a7:=Hd M;clear M;rintro e w3 ⟨rfl,rfl⟩
 go_wp2_with fail
 refine (B7 S _ (by have:=QR a7.o;rw[Ol] at this;omega)).mono ?_;rintro e w3 ⟨rfl,rfl⟩
 by_cases ht:Ke 2 S.data.toList=s.data.toList
 ·have yt:((Oo (Ke 2 S.data.toList)).toList==s.toList)=true:=by rw[Jl,Jl,Ou,ht];simp
  have HT:=Hd ht;clear ht;generalize Oo (Ke 2 S.data.toList)=X at yt ⊢
  go_wp2_with fail
  refine (Wk kb b f S _ d1.o d9.o (by unfold maxLen;omega)).mono ?_
  cases hh:(f S.data.toList).isSome
  ·have J:Hid (Od (Oh f) s.data.toList=SI.none):=by unfold Hid;rw[HP.o,hh,Y0];rfl
   rintro e w3 ⟨rfl,rfl⟩;obtain⟨c0,c1,c2,c3⟩:=d.o.c4;obtain⟨f0,f1,f2,f3⟩:=d.o.f4;clear hh
   go_wp2_with fail
   have h:=((((d.o.set 0 (.int .i64 0)).set 1 (.int .i64 0)).set 2 (.string ⟨#[]⟩)).set 3 (.string ⟨#[]⟩));obtain⟨I,U,K,O⟩:=h.c4;refine Jj (v:=.agg #[.int .i64 0,.int .i64 0,.string ⟨#[]⟩,.string ⟨#[]⟩]) ?_ rfl ⟨O4 (by rw[J.o];rfl),?_⟩
   ·clear c0 c1 c2 c3 f0 f1 f2 f3;simp[results,results135,go_sem,I,U,K,O]
   exact (((j.o.setCell (p:=⟨w.heap.size,0,none⟩) Of _).setCell (p:=⟨w.heap.size,1,none⟩) Of _).setCell (p:=⟨w.heap.size,2,none⟩) Of _).setCell (p:=⟨w.heap.size,3,none⟩) Of _
  have J:Hid (Od (Oh f) s.data.toList=⟨5,0,[],[]⟩):=by unfold Hid;rw[HP.o,a7.o,Jb HT.o,hh];rfl
  rintro e w3 ⟨rfl,rfl⟩;obtain⟨c0,c1,c2,c3⟩:=d.o.c4;obtain⟨f0,f1,f2,f3⟩:=d.o.f4;clear hh
  go_wp2_with fail
  have h:=((((d.o.set 0 (.int .i64 5)).set 1 (.int .i64 0)).set 2 (.string ⟨#[]⟩)).set 3 (.string ⟨#[]⟩));obtain⟨I,U,K,O⟩:=h.c4;refine Jj (v:=.agg #[.int .i64 5,.int .i64 0,.string ⟨#[]⟩,.string ⟨#[]⟩]) ?_ rfl ⟨O4 (by rw[J.o];rfl),?_⟩
  ·clear c0 c1 c2 c3 f0 f1 f2 f3;simp[results,results135,go_sem,I,U,K,O]
  exact (((j.o.setCell (p:=⟨w.heap.size,0,none⟩) Of _).setCell (p:=⟨w.heap.size,1,none⟩) Of _).setCell (p:=⟨w.heap.size,2,none⟩) Of _).setCell (p:=⟨w.heap.size,3,none⟩) Of _
 have yt:((Oo (Ke 2 S.data.toList)).toList==s.toList)=false:=by rw[Jl,Jl,Ou,Jc];exact ht
 have J:Hid (Od (Oh f) s.data.toList=SI.none):=by unfold Hid;rw[HP.o,a7.o,Jg ht];rfl
 clear ht;generalize Oo (Ke 2 S.data.toList)=X at yt ⊢;obtain⟨c0,c1,c2,c3⟩:=d.o.c4;obtain⟨f0,f1,f2,f3⟩:=d.o.f4
 go_wp2_with fail
 have h:=((((d.o.set 0 (.int .i64 0)).set 1 (.int .i64 0)).set 2 (.string ⟨#[]⟩)).set 3 (.string ⟨#[]⟩));obtain⟨I,U,K,O⟩:=h.c4;refine Jj (v:=.agg #[.int .i64 0,.int .i64 0,.string ⟨#[]⟩,.string ⟨#[]⟩]) ?_ rfl ⟨O4 (by rw[J.o];rfl),?_⟩
 ·clear c0 c1 c2 c3 f0 f1 f2 f3;simp[results,results135,go_sem,I,U,K,O]
 exact (((j.o.setCell (p:=⟨w.heap.size,0,none⟩) Of _).setCell (p:=⟨w.heap.size,1,none⟩) Of _).setCell (p:=⟨w.heap.size,2,none⟩) Of _).setCell (p:=⟨w.heap.size,3,none⟩) Of _
theorem Rs (c:UInt8):∀ l:List UInt8,Lib.indexByte l c=if Ks (fun x=>x != c) l<l.length then (Ks (fun x=>x != c) l:Int) else -1
 | []=>rfl
 | x::r=>by
   have h:=Rs c r
   by_cases d:x=c
   ·subst d
    have:Ks (fun y=>y != x) (x::r)=0:=by simp[Ks]
    rw[this]
    simp[Lib.indexByte]
   ·have A:Lib.indexByte (x::r) c=if Lib.indexByte r c == -1 then -1 else Lib.indexByte r c+1:=by simp[Lib.indexByte,d]
    have j:Ks (fun y=>y != c) (x::r)=Ks (fun y=>y != c) r+1:=by simp[Ks,d]
    rw[A,j,h,Yo]
    by_cases hl:Ks (fun y=>y != c) r<r.length
    ·rw[if_pos hl,if_pos (show Ks (fun y=>y != c) r+1<r.length+1 by omega),if_neg (by rw[Yc];omega)];omega
    ·rw[if_neg hl,if_neg (show ¬ Ks (fun y=>y != c) r+1<r.length+1 by omega)];rfl
theorem ZN (c:UInt8)(l:List UInt8) : -1<=Lib.indexByte l c/\Lib.indexByte l c<=(l.length:Int):=by
 rw[Rs]
 split<;>omega
theorem KT (t:List UInt8):K4 t<=t.length:=by
 unfold K4
 split
 ·split
  ·simp only[Yo];omega
  simp
 ·split
  ·omega
  simp
 split
 ·omega
 simp
theorem KZ {t:List UInt8}(h:t.take 1=[124]):((K4 t:Nat):Int)=Lib.indexByte (t.drop 1) 124+2:=by
 obtain⟨r,rfl⟩:∃ r,t=124::r:=by
  cases t with
  | nil=>simp at h
  | cons c r=>simp at h;exact⟨r,by rw[h]⟩
 rw[List.drop_one,List.tail_cons,Rs]
 show (((if Ks (· != 124) r<r.length then Ks (· != 124) r+2 else 1):Nat):Int)=_
 split<;>omega
theorem VE {t:List UInt8}(h:t.take 1=[40]):((K4 t:Nat):Int)=Lib.indexByte t 41+1:=by
 obtain⟨r,rfl⟩:∃ r,t=40::r:=by
  cases t with
  | nil=>simp at h
  | cons c r=>simp at h;exact⟨r,by rw[h]⟩
 rw[Rs]
 show (((if Ks (· != 41) (40::r)<(40::r).length then Ks (· != 41) (40::r)+1 else 0):Nat):Int)=_
 split<;>omega
theorem VX {t:List UInt8}(h1:t.take 1≠[124])(h2:t.take 1≠[40]):((K4 t:Nat):Int)=max (Lib.indexByte t 32) 0:=by
 rw[Rs];have e:K4 t=if Ks (· != 32) t<t.length then Ks (· != 32) t else 0:=by
  unfold K4
  split
  ·exact absurd rfl h1
  ·exact absurd rfl h2
  rfl
 rw[e]
 split<;>omega
theorem Rl (s:ByteArray)(w:World)(hs:s.size<=1048576) :
 Calls prog 136 #[.string s] w fun e w'=>e=.returned (.int .i64 (K4 s.data.toList:Nat))/\w'=w:=by
 by_cases E:s.data.toList.take 1=[124]
 ·have j:Hid (Lib.hasPrefix s.data.toList [124]=true):=by unfold Hid;rw[Ei];exact Jb E
  have A:=Hd (KZ E);have U:1<=s.size:=by have:=congrArg List.length E;rw[J3,Ol] at this;simp at this;omega
  clear E
  go_enter func136,ntmps136
  go_wp2_with fail
  refine (Tryz.strings_HasPrefix s ⟨#[124]⟩ _).mono ?_
  change ∀ (e:Ending) (w':World),(e=.returned (.bool (Lib.hasPrefix s.data.toList [124]))/\w'=w)->_
  rw[j.o];rintro e h ⟨rfl,rfl⟩
  go_wp2_with fail
  refine (Tryz.strings_IndexByte _ 124 _).mono ?_;have M:(s.extract 1 s.size).data.toList=s.data.toList.drop 1:=by rw[H5,Jn (by rw[Ol];omega)]
  rw[M]
  change ∀ (e:Ending) (w':World),(e=.returned (.int .i64 (Lib.indexByte (s.data.toList.drop 1) 124))/\w'=h)->_
  have d:=ZN 124 (s.data.toList.drop 1);rw[Zb,Ol] at d;obtain⟨V,G⟩:=O1 (Lib.indexByte (s.data.toList.drop 1) 124);rw[G] at d A ⊢;clear G M;rintro e h ⟨rfl,rfl⟩
  go_wp2_with fail
  go_ret
  exact⟨U9 A.o.symm,rfl⟩
 have j:Hid (Lib.hasPrefix s.data.toList [124]=false):=by unfold Hid;rw[Ei];exact Jg E
 by_cases J:s.data.toList.take 1=[40]
 ·have I:Hid (Lib.hasPrefix s.data.toList [40]=true):=by unfold Hid;rw[Ei];exact Jb J
  have A:=Hd (VE J);clear E J
  go_enter func136,ntmps136
  go_wp2_with fail
  refine (Tryz.strings_HasPrefix s ⟨#[124]⟩ _).mono ?_
  change ∀ (e:Ending) (w':World),(e=.returned (.bool (Lib.hasPrefix s.data.toList [124]))/\w'=w)->_
  rw[j.o];rintro e h ⟨rfl,rfl⟩
  go_wp2_with fail
  refine (Tryz.strings_HasPrefix s ⟨#[40]⟩ _).mono ?_
  change ∀ (e:Ending) (w':World),(e=.returned (.bool (Lib.hasPrefix s.data.toList [40]))/\w'=h)->_
  rw[I.o];rintro e h ⟨rfl,rfl⟩
  go_wp2_with fail
  refine (Tryz.strings_IndexByte _ 41 _).mono ?_
  change ∀ (e:Ending) (w':World),(e=.returned (.int .i64 (Lib.indexByte s.data.toList 41))/\w'=h)->_
  have d:=ZN 41 s.data.toList;rw[Ol] at d;obtain⟨V,G⟩:=O1 (Lib.indexByte s.data.toList 41);rw[G] at d A ⊢;clear G;rintro e h ⟨rfl,rfl⟩
  go_wp2_with fail
  go_ret
  exact⟨U9 A.o.symm,rfl⟩
 have I:Hid (Lib.hasPrefix s.data.toList [40]=false):=by unfold Hid;rw[Ei];exact Jg J
 have A:=Hd (VX E J);clear E J
 go_enter func136,ntmps136
 go_wp2_with fail
 refine (Tryz.strings_HasPrefix s ⟨#[124]⟩ _).mono ?_
 change ∀ (e:Ending) (w':World),(e=.returned (.bool (Lib.hasPrefix s.data.toList [124]))/\w'=w)->_
 rw[j.o];rintro e h ⟨rfl,rfl⟩
 go_wp2_with fail
 refine (Tryz.strings_HasPrefix s ⟨#[40]⟩ _).mono ?_
 change ∀ (e:Ending) (w':World),(e=.returned (.bool (Lib.hasPrefix s.data.toList [40]))/\w'=h)->_
 rw[I.o];rintro e h ⟨rfl,rfl⟩
 go_wp2_with fail
 refine (Tryz.strings_IndexByte _ 32 _).mono ?_
 change ∀ (e:Ending) (w':World),(e=.returned (.int .i64 (Lib.indexByte s.data.toList 32))/\w'=h)->_
 have d:=ZN 32 s.data.toList;rw[Ol] at d;obtain⟨V,G⟩:=O1 (Lib.indexByte s.data.toList 32);rw[G] at d A ⊢;clear G;rintro e h ⟨rfl,rfl⟩
 by_cases O:0<=V
 ·have K:max V 0=V:=by omega
  go_wp2_with fail
  all_goals go_ret
  all_goals exact⟨U9 (by rw[A.o];omega),rfl⟩
 have K:max V 0=0:=by omega
 go_wp2_with fail
 all_goals go_ret
 all_goals exact⟨U9 (by rw[A.o];omega),rfl⟩
end Go.Proofs.YtipgjenolpofpaaGreatDoor
