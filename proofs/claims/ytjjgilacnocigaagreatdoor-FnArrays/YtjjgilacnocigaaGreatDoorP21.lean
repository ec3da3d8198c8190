import Derived.Test.YtjjgilacnocigaaGreatDoorP19
import Derived.Test.YtjjgilacnocigaaGreatDoorP20
import Derived.Lib.ConvBytes
import Derived.Lib.AtoiAllMem
import Derived.Lib.Hide
import Derived.Laws.Closers25
import Derived.Laws.Closers25b
import Derived.BigCall
import Derived.BigGuard
import Derived.Maps.OwnSet
import Derived.Maps.OwnOps
set_option maxRecDepth 100000
set_option maxHeartbeats 32000000
namespace Go.Proofs.YtjjgilacnocigaaGreatDoor
open ChangeShapes WideShapes ChangeAt RowKit Proofs.Tryz
variable {w:World}
theorem LN {s:ByteArray}(h0:0<s.size)(h6:s.size<=60):Nx s.data.toList=decide (((Eg Id s.data.toList:Nat):Int)=(s.size:Int)):=by
 rw[VJ h0 h6,Zj,J2,<-VR,O6];omega
theorem Ch (s:ByteArray)(w:World)(hs:s.size<=maxLen) :
 Calls prog 198 #[.string s] w fun e w'=>e=.returned (.bool (Nx s.data.toList))/\w'=w:=by
 have hm:=hs;unfold maxLen at hs
 by_cases j:s.size=0
 ·have F:Hid (Nx s.data.toList=false):=Cm (.inl j);have z:=R1 s j
  go_in
  go_wp2
  go_ret
  exact⟨O7 F.o.symm,rfl⟩
 have D:0<s.size:=by omega
 have z:=I1 s D
 by_cases G:60<s.size
 ·have F:Hid (Nx s.data.toList=false):=Cm (.inr G)
  go_in
  go_wp2
  go_ret
  exact⟨O7 F.o.symm,rfl⟩
 have F:=Hd (LN D (by omega));obtain⟨R,d⟩:∃ R:Nat,Eg Id s.data.toList=R:=⟨_,rfl⟩;have E:=Hd d;rw[d] at F;clear d
 go_in
 go_wp2_with (go_at_call 201;refine (RZ _ _ hm).mono ?_;rw[E.o];rintro e w' ⟨rfl,rfl⟩)
 go_ret
 exact⟨O7 (by rw[F.o,Zj,J2];simp),rfl⟩
theorem IV (t:List UInt8):Lib.hasPrefix t [98,118]=WI t:=by
 unfold Lib.hasPrefix WI;rw[Zj,J2,List.isPrefixOf_iff_prefix,List.prefix_iff_eq_take];exact⟨fun h=>h.symm,fun h=>h.symm⟩
theorem T4 (w:World)(t:List UInt8)(h:t∈G3):Calls prog 199 #[.string (Oy t)] w fun e w'=>e=.returned (.bool true)/\w'=w:=by
 simp only[G3,Yn,Oc,or_false] at h
 rcases h with rfl|rfl|rfl|rfl|rfl|rfl|rfl|rfl|rfl|rfl|rfl|rfl|rfl|rfl|rfl|rfl|rfl|rfl|rfl|rfl|rfl|rfl|rfl|rfl|rfl|rfl|rfl|rfl|rfl|rfl|rfl|rfl|rfl|rfl|rfl|rfl|rfl|rfl
 all_goals (unfold Oy;go_in)
 all_goals go_wp2_with fail
 all_goals go_ret
 all_goals exact⟨rfl,rfl⟩
theorem Aa (s:ByteArray)(w:World)(h:s.data.toList∉G3):Calls prog 199 #[.string s] w fun e w'=>e=.returned (.bool (WI s.data.toList))/\w'=w:=by
 have d:∀ t∈G3,(s.toList==t)=false:=fun t ht=>Q9 (fun e=>h (by rw[e];exact ht));have j:=Hd (IV s.data.toList);clear h;have z0:=d [66,111,111,108] (by decide);have z1:=d [73,110,116] (by decide);have z2:=d [82,101,97,108] (by decide);have z3:=d [66,105,116,86,101,99] (by decide);have z4:=d [65,114,114,97,121] (by decide);have z5:=d [95] (by decide);have z6:=d [108,101,116] (by decide);have z7:=d [97,115] (by decide);have z8:=d [116,114,117,101] (by decide);have z9:=d [102,97,108,115,101] (by decide);have D:=d [110,111,116] (by decide);have E:=d [97,110,100] (by decide);have F:=d [111,114] (by decide);have G:=d [120,111,114] (by decide);have H:=d [61,62] (by decide);have I:=d [105,116,101] (by decide);have J:=d [61] (by decide);have K:=d [100,105,115,116,105,110,99,116] (by decide);have O:=d [43] (by decide);have T:=d [45] (by decide);have z20:=d [42] (by decide);have z21:=d [47] (by decide);have z22:=d [60,61] (by decide);have U:=d [60] (by decide);have V:=d [62,61] (by decide);have Y:=d [62] (by decide);have Z:=d [100,105,118] (by decide);have a6:=d [109,111,100] (by decide);have a7:=d [116,111,95,114,101,97,108] (by decide);have a8:=d [115,101,108,101,99,116] (by decide);have b3:=d [115,116,111,114,101] (by decide);have b4:=d [99,111,110,99,97,116] (by decide);have b5:=d [101,120,116,114,97,99,116] (by decide);have b6:=d [122,101,114,111,95,101,120,116,101,110,100] (by decide);have b7:=d [115,105,103,110,95,101,120,116,101,110,100] (by decide);have b8:=d [114,111,116,97,116,101,95,108,101,102,116] (by decide);have b9:=d [114,111,116,97,116,101,95,114,105,103,104,116] (by decide);have z37:=d [114,101,112,101,97,116] (by decide);clear d
 go_in
 go_wp2_with fail
 refine (Tryz.strings_HasPrefix s ⟨#[98,118]⟩ _).mono ?_;rintro e w1 ⟨rfl,rfl⟩
 go_wp2
 go_ret
 exact⟨O7 j.o,rfl⟩
theorem YW (s:ByteArray)(w:World):Calls prog 199 #[.string s] w fun e w'=>e=.returned (.bool (R0 s.data.toList))/\w'=w:=by
 by_cases h:s.data.toList∈G3
 ·have e:R0 s.data.toList=true:=by unfold R0;rw[Ud];right;simpa using h
  have d:=T4 w _ h;rw[Nv] at d;rw[e];exact d
 have e:R0 s.data.toList=WI s.data.toList:=by
  unfold R0;have:G3.contains s.data.toList=false:=by rw[Z4];intro j;exact h (by simpa using j)
  rw[this,Bool.or_false]
 rw[e];exact Aa s w h
theorem KP (s:ByteArray)(w:World)(hs:s.size<=maxLen) :
 Calls prog 157 #[.string s] w fun e w'=>e=.returned (.bool (Pm s.data.toList))/\w'=w:=by
 have F:Hid (Pm s.data.toList=(Nx s.data.toList&&!R0 s.data.toList)):=rfl
 cases d:Nx s.data.toList
 ·have j:=Hd d
  go_in
  go_wp2_with (go_at_call 198;refine (Ch _ _ hs).mono ?_;rw[d];rintro e w' ⟨rfl,rfl⟩)
  go_ret
  exact⟨O7 (by rw[F.o,j.o];rfl),rfl⟩
 have j:=Hd d
 go_in
 go_wp2_with (first|(go_at_call 198;refine (Ch _ _ hs).mono ?_;rw[d];rintro e w' ⟨rfl,rfl⟩)|(go_at_call 199;refine (YW _ _).mono ?_;rintro e w' ⟨rfl,rfl⟩))
 go_ret
 exact⟨O7 (by rw[F.o,j.o];rfl),rfl⟩
def EV (w:World):Prop:=(∃ ev,w.cell? ⟨3,0,none⟩=some ev/\(ev=.nilIface∨∃ te pe,ev=.iface te pe))/\(∃ ev,w.cell? ⟨4,0,none⟩=some ev/\(ev=.nilIface∨∃ te pe,ev=.iface te pe))
theorem EV.bl {w':World}{N:Nat}(h:EV w)(hb:Below N w w')(h1:3<N)(h2:4<N):EV w':=by
 obtain⟨⟨d,c1,D⟩,j,c2,k2⟩:=h;exact⟨⟨d,(hb.cell (p:=⟨3,0,none⟩) h1).trans c1,D⟩,j,(hb.cell (p:=⟨4,0,none⟩) h2).trans c2,k2⟩
theorem EV.lt (h:EV w):3<w.heap.size/\4<w.heap.size:=by
 obtain⟨⟨d,c1,_⟩,j,c2,_⟩:=h;exact⟨Zb w _ c1,Zb w _ c2⟩
theorem EV.next {w':World}(h:EV w)(hb:Up w w'):EV w':=h.bl hb h.lt.1 h.lt.2
theorem OW:∀ w:Fin 65,Lib.decDigits w.val=Al w.val:=fun w=>by
 unfold Al
 unfold Lib.decDigits
 by_cases h:w.val<10
 ·rw[dif_pos h,if_pos h]
 rw[dif_neg h,if_neg h]
 unfold Lib.decDigits
 rw[dif_pos (by omega)]
 rfl
theorem PL (n:Nat)(h:n<65):(⟨#[40,95,32,66,105,116,86,101,99,32]⟩++⟨(Lib.decDigits n).toArray⟩++⟨#[41]⟩:ByteArray)=Oy (Gz n):=by
 rw[OW ⟨n,h⟩];apply ByteArray.ext;apply Array.ext';simp[Oy,Gz,A7]
theorem Dc (n:Nat)(w:World)(h:n<65) :
 Calls prog 190 #[.int .i64 (n:Nat)] w fun e w'=>e=.returned (.string (Oy (Gz n)))/\w'=w:=by
 have d:=Hd (PL n h)
 go_in
 go_wp2_with fail
 refine (Tryz.strconv_Itoa_small n (by omega) _).mono ?_;rintro e E ⟨rfl,rfl⟩;have j:(⟨(Lib.decDigits n).toArray⟩:ByteArray).size<=2:=by
  rw[OW ⟨n,h⟩];unfold Al
  split<;>simp[ByteArray.size]
 generalize (⟨(Lib.decDigits n).toArray⟩:ByteArray)=D at d j ⊢
 go_wp2
 go_ret
 exact⟨Ke (by rw[d.o];rfl),rfl⟩
theorem GA:∀ w:Fin 65,0<w.val->Lib.atoiAll (Lib.trimSuffix ((Gz w.val).drop 10) [41])=.ok (w.val:Int):=by decide +kernel
theorem El (t p:List UInt8):Lib.hasPrefix t p=decide (t.take p.length=p):=by
 unfold Lib.hasPrefix;rw[Zj,J2,List.isPrefixOf_iff_prefix,List.prefix_iff_eq_take];exact⟨fun h=>h.symm,fun h=>h.symm⟩
theorem ND {t:List UInt8}(h:t.take 10≠A7):N2 t=0:=LB (fun hb=>h hb.2.1)
theorem Qh {t:List UInt8}(h:0<N2 t):Lib.atoiAll (Lib.trimSuffix (t.drop 10) [41])=.ok (N2 t:Int)/\t=Gz (N2 t)/\N2 t<65:=by
 obtain⟨w,j,d,e,D⟩:=Qg h;rw[D];refine⟨?_,e,d⟩;rw[e];exact GA ⟨w,d⟩ j
theorem WO {t:List UInt8}{n:Nat}(h0:0<n)(h1:n<65)(h:Gz n=t):N2 t=n:=by rw[<-h];exact Th ⟨n,h1⟩ h0
theorem LP {t:List UInt8}(h:t.take 10=A7):Lib.trimPrefix t A7=t.drop 10:=by
 unfold Lib.trimPrefix;rw[El,Jn (by exact h)];rfl
theorem Te (t p:List UInt8):(Lib.trimSuffix t p).length<=t.length:=by
 unfold Lib.trimSuffix
 split
 ·rw[Jm];omega
 exact O1
theorem UN (s:ByteArray)(w:World)(hs:s.size<=1048576)(hev:EV w) :
 Calls prog 155 #[.string s] w fun e w'=>e=.returned (.int .i64 (N2 s.data.toList:Nat))/\Up w w':=by
 have O:=Hd hev;clear hev
 by_cases I:s.data.toList.take 10=A7
 ·have H:Hid (Lib.hasPrefix s.data.toList A7=true):=by unfold Hid;rw[El];exact Jn I
  have a6:=Hd (LP I);clear I
  go_in
  go_wp2_with fail
  refine (Tryz.strings_CutPrefix s ⟨#[40,95,32,66,105,116,86,101,99,32]⟩ _).mono ?_
  change ∀ (e:Ending) (w':World),(e=.returned (.tuple #[.string ⟨(Lib.trimPrefix s.data.toList A7).toArray⟩,.bool (Lib.hasPrefix s.data.toList A7)])/\w'=w)->_
  rw[H.o,a6.o];rintro e Z ⟨rfl,rfl⟩;obtain⟨D,hD⟩:∃ D:ByteArray,(⟨(s.data.toList.drop 10).toArray⟩:ByteArray)=D:=⟨_,rfl⟩;have HD:Hid (D.data.toList=s.data.toList.drop 10):=by unfold Hid;rw[<-hD]
  have b9:D.size<=1048576:=by rw[<-O6,HD.o,Jr,O6];omega
  rw[hD];clear hD
  go_wp2_with fail
  refine (Tryz.strings_TrimSuffix D ⟨#[41]⟩ _ (by omega)).mono ?_
  change ∀ (e:Ending) (w':World),(e=.returned (.string ⟨(Lib.trimSuffix D.data.toList [41]).toArray⟩)/\w'=Z)->_
  rw[HD.o];rintro e Z ⟨rfl,rfl⟩;obtain⟨E,hE⟩:∃ E:ByteArray,(⟨(Lib.trimSuffix (s.data.toList.drop 10) [41]).toArray⟩:ByteArray)=E:=⟨_,rfl⟩;have Y:Hid (E.data.toList=Lib.trimSuffix (s.data.toList.drop 10) [41]):=by unfold Hid;rw[<-hE]
  have c6:E.size<=1048576:=by
   rw[<-O6,Y.o];have h1:=Te (s.data.toList.drop 10) [41];rw[Jr,O6] at h1;omega
  rw[hE];clear hE
  go_wp2_with fail
  rcases ha:Lib.atoiAll E.data.toList with v|_|_
  ·refine (Tryz.strconv_Atoi_ok E (by omega) v ha _).mono ?_;rintro e w2 ⟨rfl,T⟩;have d:Hid (Up Z w2):=by
    rcases T with rfl|⟨t,rfl⟩
    ·exact Jj _ _
    exact Lib.bytesWorld_below _ _ _
   have K:Hid (∀ h0:0<N2 s.data.toList,v=(N2 s.data.toList:Int)):=fun h0=>by
    have:=(Qh h0).1;rw[<-Y.o,ha] at this
    cases this
    rfl
   clear T ha
   by_cases J:1<=v/\v<=64
   ·have b4:=J.1;have b5:=J.2;obtain⟨n,rfl⟩:∃ n:Nat,v=n:=⟨v.toNat,by omega⟩;clear J
    by_cases hn:Gz n=s.data.toList
    ·have F:Hid (N2 s.data.toList=n):=WO (by omega) (by omega) hn;have y:((Oy (Gz n)).toList==s.toList)=true:=by rw[Je,Je,O4,hn];simp
     have j:Hid (∀ W,Calls prog 190 #[.int .i64 (n:Nat)] W fun e w'=>e=.returned (.string (Oy (Gz n)))/\w'=W):=fun W=>Dc n W (by omega);clear hn;generalize Oy (Gz n)=U at y j
     go_wp2_with (go_at_call 190;refine (j.o _).mono ?_;rintro e w' ⟨rfl,rfl⟩)
     go_ret
     exact⟨Ev (by rw[F.o]),d.o⟩
    have F:Hid (N2 s.data.toList=0):=by
     unfold Hid
     rcases Zx (N2 s.data.toList) with h0|h0
     ·exact h0
     have h3:=K.o h0;have h4:=(Qh h0).2.1;exact absurd (by rw[show n=N2 s.data.toList by omega];exact h4.symm) hn
    have y:((Oy (Gz n)).toList==s.toList)=false:=by rw[Je,Je,O4,Jd];exact hn
    have j:Hid (∀ W,Calls prog 190 #[.int .i64 (n:Nat)] W fun e w'=>e=.returned (.string (Oy (Gz n)))/\w'=W):=fun W=>Dc n W (by omega);clear hn;generalize Oy (Gz n)=U at y j
    go_wp2_with (go_at_call 190;refine (j.o _).mono ?_;rintro e w' ⟨rfl,rfl⟩)
    go_ret
    exact⟨Ev (by rw[F.o];rfl),d.o⟩
   have F:Hid (N2 s.data.toList=0):=by
    unfold Hid
    rcases Zx (N2 s.data.toList) with h0|h0
    ·exact h0
    have h3:=K.o h0;have h4:=(Qh h0).2.2;exact absurd ⟨by omega,by omega⟩ J
   by_cases b4:v<1
   ·clear J
    go_wp2
    go_ret
    exact⟨Ev (by rw[F.o];rfl),d.o⟩
   have b5:64<v:=by omega
   have c7:1<=v:=by omega
   clear J
   go_wp2
   go_ret
   exact⟨Ev (by rw[F.o];rfl),d.o⟩
  ·have F:Hid (N2 s.data.toList=0):=by
    unfold Hid
    rcases Zx (N2 s.data.toList) with h0|h0
    ·exact h0
    have:=(Qh h0).1;rw[<-Y.o,ha] at this;cases this
   obtain⟨ev,hev,hk⟩:=O.o.1;refine (Tryz.strconv_Atoi_syntax E (by omega) ha ev _ hev hk).mono ?_;rintro e w2 ⟨N,rfl,_,_,G⟩;have d:=Hd G;clear G ha
   go_wp2
   go_ret
   exact⟨Ev (by rw[F.o];rfl),d.o⟩
  have F:Hid (N2 s.data.toList=0):=by
   unfold Hid
   rcases Zx (N2 s.data.toList) with h0|h0
   ·exact h0
   have:=(Qh h0).1;rw[<-Y.o,ha] at this;cases this
  obtain⟨ev,hev,hk⟩:=O.o.2;refine (Tryz.strconv_Atoi_range E (by omega) ha ev _ hev hk).mono ?_;rintro e w2 ⟨N,rfl,_,_,G⟩;have d:=Hd G;clear G ha;generalize Lib.atoiSat E.data.toList=V
  go_wp2
  go_ret
  exact⟨Ev (by rw[F.o];rfl),d.o⟩
 have F:Hid (N2 s.data.toList=0):=ND I;have H:Hid (Lib.hasPrefix s.data.toList A7=false):=by unfold Hid;rw[El];exact Jp I
 clear I
 go_in
 go_wp2_with fail
 refine (Tryz.strings_CutPrefix s ⟨#[40,95,32,66,105,116,86,101,99,32]⟩ _).mono ?_
 change ∀ (e:Ending) (w':World),(e=.returned (.tuple #[.string ⟨(Lib.trimPrefix s.data.toList A7).toArray⟩,.bool (Lib.hasPrefix s.data.toList A7)])/\w'=w)->_
 rw[H.o];rintro e Z ⟨rfl,rfl⟩;generalize (⟨(Lib.trimPrefix s.data.toList A7).toArray⟩:ByteArray)=D
 go_wp2
 go_ret
 exact⟨Ev (by rw[F.o];rfl),Jj _ _⟩
end Go.Proofs.YtjjgilacnocigaaGreatDoor
namespace Go.Proofs.YtjjgilacnocigaaGreatDoor
open Shelf RowKit Proofs.Tryz
variable {k:Nat}{l:List UInt8}
def Lw (l:List UInt8):Prop:=∀ c∈l,If c=true
def AW (l:List UInt8)(n:Int)(ev:Value):Prop:=
 (ev=.nilIface/\l≠[]/\Lw l/\(l.length<=64->n=(bn 2 l:Nat)))∨(ev=.iface 196 (.int .i64 2)/\¬ (l≠[]/\Lw l))∨(ev=.iface 196 (.int .i64 1)/\64<l.length)
theorem AW.none:AW [] 0 (.iface 196 (.int .i64 2)):=.inr (.inl ⟨rfl,fun h=>h.1 rfl⟩)
theorem IY (hk:k<l.length)(h:∀ c∈l.take k,If c=true)(hc:If (l[k]'hk)=true):∀ c∈l.take (k+1),If c=true:=by
 intro c hm;rw[Jt hk] at hm
 rcases J5.1 hm with hm|hm
 ·exact h c hm
 rcases Ye.1 hm with rfl;exact hc
theorem ME (hk:k<l.length):bn 2 (l.take (k+1))=bn 2 (l.take k)*2+((l[k]'hk).toNat - 48):=by
 rw[Jt hk,Xb,I3];simp
def AX (l:List UInt8)(k:Nat)(a:Int):Prop:=(∀ c∈l.take k,If c=true)/\(k<=64->a=(bn 2 (l.take k):Nat))
theorem AX.more {a:Int}(h:AX l k a)(hk:k<l.length)(hb:If (l[k]'hk)=true):AX l (k+1) (a*2+(((l[k]'hk).toNat:Int) - 48)):=by
 refine⟨IY hk h.1 hb,fun h64=>?_⟩;rw[h.2 (by omega),ME hk];have:=Gf hb;unfold Lq at this;omega
theorem AX.small {a:Int}(h:AX l k a)(hk:k<l.length)(ha:9223372036854775808<=a):64<l.length:=by
 by_cases d:l.length<=64
 ·have j:=h.2 (by omega);have D:=Pp (l.take k) (fun c hc=>Gf (h.1 c hc));have h3:(l.take k).length<=63:=by rw[Jm];omega
  have h4:2 ^ (l.take k).length<=2 ^ 63:=J3 (by decide) h3;omega
 omega
theorem QC (t:ByteArray)(hmax:t.size<=1048576)(w:World) :
 Calls prog 136 #[.string t,.int .i64 2,.int .i64 64] w fun e w'=>∃ n ev,e=.returned (.tuple #[.int .u64 n,ev])/\AW t.data.toList n ev/\Up w w':=by
 by_cases K:t.size=0
 ·have ht:t=⟨#[]⟩:=by apply ByteArray.ext;exact Array.eq_empty_of_size_eq_zero K
  subst ht
  go_in
  go_wp2
  go_ret2
  exact⟨_,_,rfl,AW.none,Jj _ _⟩
 have b5:t.toList.isEmpty=false:=by
  rw[<-decide_eq_emptyBytes];exact Jp (fun h=>K (by rw[h];rfl))
 have b3:=Lib.run_convert_string_bytes (P:=prog) w 9 22 5 t (u:=.string) underlying9 underlying22 underlying5;have Z:∀ j,j<t.size->(Lib.bytesWorld w 5 t).cell? ⟨w.heap.size,j,none⟩=some (.int .u8 (t.data.toList.getD j 0).toNat):=fun j hj=>Lib.bytesWorld_cell w 5 t j hj;have E:Hid (Up w (Lib.bytesWorld w 5 t)):=Lib.bytesWorld_below _ _ _;obtain⟨W1,U⟩:∃ W1,W1=Lib.bytesWorld w 5 t:=⟨_,rfl⟩;rw[<-U] at b3 Z E;clear U;obtain⟨bs,hL⟩:∃ bs,bs=t.data.toList:=⟨_,rfl⟩;have F:Hid (bs.length=t.size):=by rw[hL];rfl
 rw[<-hL] at Z ⊢;clear hL;have d1:IntKind.u64.wrap (IntKind.u64.wrap 18446744073709551616 - 1)=18446744073709551615:=by
  rw[IntKind.wrap_u64,IntKind.wrap_u64];decide
 go_in
 go_wp2
 go_loop [12,13,101] (fun vu vn vi=>∃ (k:Nat) (a:Int),vu=.bool false/\vn=.int .u64 a/\vi=.int .i64 k/\k<=t.size/\0<=a/\a<18446744073709551616/\Hid (AX bs k a))
  (fun _ _ vi=>t.size - (intOf vi).toNat)
 case atStart=>exact⟨0,0,rfl,rfl,rfl,by omega,by omega,by omega,⟨fun c hc=>by simp at hc,fun _=>by simp[bn]⟩⟩
 obtain⟨k,a,rfl,rfl,rfl,hk,a0,a1,T⟩:=hrel
 by_cases V:k<t.size
 ·have D:k<bs.length:=by rw[F.o];exact V
  have hc:=Z k V;have H:bs.getD k 0=bs[k]'D:=by simp[List.getD,List.getElem?_eq_getElem D]
  rw[H] at hc;obtain⟨c,J⟩:=O2 (bs[k]'D);rw[J] at hc;have a8:c.toNat<256:=c.toNat_lt;have I:=Hd J;clear Z H J
  by_cases d:48<=c.toNat/\c.toNat<=49
  ·obtain⟨c8,d0⟩:=d;have G:If c=true:=by
    have:c=48∨c=49:=by
     have:c.toNat=48∨c.toNat=49:=by omega
     rcases this with e|e
     ·exact .inl (UInt8.toNat_inj.1 e)
     exact .inr (UInt8.toNat_inj.1 e)
    rcases this with rfl|rfl<;>rfl
   by_cases hcut:9223372036854775808<=a
   ·have O:Hid (AW bs 18446744073709551615 (.iface 196 (.int .i64 1))):=.inr (.inr ⟨rfl,T.o.small D hcut⟩);clear G
    go_wp2
    go_ret2
    exact⟨_,_,rfl,O.o,E.o⟩
   have HN:Hid (AX bs (k+1) (a*2+((c.toNat:Int) - 48))):=by
    have:=T.o.more D (by rw[I.o];exact G);rw[I.o] at this;exact this
   have b6:a<9223372036854775808:=by omega
   have d7:a*2+((c.toNat:Int) - 48)<18446744073709551616:=by omega
   clear hcut G T
   go_wp2
   refine⟨⟨k+1,a*2+((c.toNat:Int) - 48),rfl,(by first|rfl|(congr 1;omega)),(by first|rfl|(congr 1;omega)),by omega,by omega,by omega,HN⟩,by simp[intOf];omega⟩
  have O:Hid (AW bs 0 (.iface 196 (.int .i64 2))):=.inr (.inl ⟨rfl,fun h=>d (by
   have:=h.2 c (by rw[<-I.o];exact Yl D);have:=Gf this;unfold Lq at this;omega)⟩)
  clear T
  by_cases a6:48<=c.toNat/\c.toNat<=57
  ·obtain⟨b9,c7⟩:=a6;have c6:50<=c.toNat:=by omega
   clear d
   go_wp2
   go_ret2
   exact⟨_,_,rfl,O.o,E.o⟩
  clear d;have d5:=bits_lo_u8 .or (c.toNat:Int) 32;have d6:=bits_hi_u8 .or (c.toNat:Int) 32;have d3:=bits_lo_u8 .or 95 32;have d4:=bits_hi_u8 .or 95 32
  go_wp2_with (refine (Tryz.internal_strconv_lower _ _).mono ?_;rintro e w' ⟨rfl,rfl⟩)
  all_goals go_ret2
  all_goals exact⟨_,_,rfl,O.o,E.o⟩
 have b4:k=t.size:=by omega
 subst b4;have O:Hid (AW bs a .nilIface):=by
  have Y:=T.o;have h2:bs.take t.size=bs:=Jf (by rw[F.o];exact O1);unfold AX at Y;rw[h2] at Y;refine .inl ⟨rfl,fun e=>?_,Y.1,fun h64=>Y.2 (by rw[<-F.o];exact h64)⟩;rw[e] at F;exact K F.o.symm
 clear T
 go_wp2
 go_ret2
 exact⟨_,_,rfl,O.o,E.o⟩
def MY (v:Value):Prop:=v=.nilIface∨∃ t x,v=.iface t x
def JF (l:List UInt8)(n:Int)(ev:Value):Prop:=
 (ev=.nilIface/\l≠[]/\Lw l/\(l.length<=64->n=(bn 2 l:Nat)))∨((∃ t x,ev=.iface t x)/\(¬ (l≠[]/\Lw l)∨64<l.length))
theorem ED (t:ByteArray)(hmax:t.size<=1048576)(w:World)(hev:EV w) :
 Calls prog 90 #[.string t,.int .i64 2,.int .i64 64] w fun e w'=>∃ n ev,e=.returned (.tuple #[.int .u64 n,ev])/\JF t.data.toList n ev/\Up w w':=by
 have E:=Hd hev;clear hev
 go_in
 go_wp2_with fail
 refine (QC t hmax _).mono ?_;rintro e T ⟨n,ev,rfl,K,D⟩;have H:=Hd D
 rcases K with⟨rfl,I,J,h3⟩|⟨rfl,h⟩|⟨rfl,h⟩
 ·have F:Hid (JF t.data.toList n .nilIface):=.inl ⟨rfl,I,J,h3⟩;clear I J h3 D
  go_wp2
  go_ret2
  exact⟨_,_,rfl,F.o,H.o⟩
 ·have F:=Hd h;obtain⟨ev,G,hev⟩:=(E.o.next D).1;clear h D
  go_wp2_with fail
  refine (Tryz.strconv_toError_syntax _ t 2 64 ev _ (by omega) G hev).mono ?_;rintro e O ⟨N,rfl,_,_,d⟩;have j:=H.up d;clear G hev d
  go_wp2
  go_ret2
  exact⟨_,_,rfl,.inr ⟨⟨_,_,rfl⟩,.inl F.o⟩,j.o⟩
 have F:=Hd h;obtain⟨ev,G,hev⟩:=(E.o.next D).2;clear h D
 go_wp2_with fail
 refine (Tryz.strconv_toError_range _ t 2 64 ev _ (by omega) G hev).mono ?_;rintro e O ⟨N,rfl,_,_,d⟩;have j:=H.up d;clear G hev d
 go_wp2
 go_ret2
 exact⟨_,_,rfl,.inr ⟨⟨_,_,rfl⟩,.inr F.o⟩,j.o⟩
theorem Dn:∀ (l:List UInt8)(acc:Nat),l.length<=6->acc<10 ^ (6 - l.length)->((∀ c∈l,Q.Ey c=true)->Lib.parseUintM (2 ^ 64 - 1) acc l=.ok (acc*10 ^ l.length+Q.N7 l))/\(¬ (∀ c∈l,Q.Ey c=true)->Lib.parseUintM (2 ^ 64 - 1) acc l=Lib.parseUintB 64 [])
 | [],acc,_,_=>⟨fun _=>by simp[Lib.parseUintM,Q.N7],fun h=>absurd (fun c hc=>by cases hc) h⟩
 | c::l,acc,h6,hacc=>by
   simp only[J8] at h6 hacc
   have H:10 ^ (6 - l.length)=10 ^ (6 - (l.length+1))*10:=by rw[<-Ju];congr 1;omega
   have G:10 ^ (6 - (l.length+1))<=10 ^ 6:=J3 (by decide) (by omega)
   by_cases j:Q.Ey c=true
   ·have D:=j
    unfold Q.Ey at D
    have E:=of_decide_eq_true D
    have e:Lib.parseUintM (2 ^ 64 - 1) acc (c::l)=Lib.parseUintM (2 ^ 64 - 1) (acc*10+(c.toNat - 48)) l:=by
     show (if 48<=c.toNat/\c.toNat<=57 then _ else _)=_
     rw[if_pos E,if_neg (by omega),if_neg (by omega)]
    have F:=Dn l (acc*10+(c.toNat - 48)) (by omega) (by omega)
    constructor
    ·intro h
     rw[e,F.1 (fun x hx=>h x (by simp[hx]))]
     congr 1
     rw[Xo,Xo,show c::l=[c]++l from rfl,Xb,I3,Jq,Vk,Ol 1,Ju]
     generalize 10 ^ l.length=P
     generalize c.toNat - 48=d
     grind
    intro h
    rw[e]
    exact F.2 (fun h2=>h (fun x hx=>by
     rcases Yn.1 hx with rfl|hx
     ·exact j
     exact h2 x hx))
   refine⟨fun h=>absurd (h c (by simp)) j,fun _=>?_⟩
   unfold Q.Ey at j
   show (if 48<=c.toNat/\c.toNat<=57 then _ else _)=_
   rw[if_neg (fun h=>j (Jn h))]
   rfl
theorem ZJ (t:ByteArray)(h6:t.size<=6)(w:World)(hev:EV w) :
 Calls prog 90 #[.string t,.int .i64 10,.int .i64 64] w fun e w'=>∃ (n:Nat) (ev:Value),e=.returned (.tuple #[.int .u64 n,ev])/\((ev=.nilIface/\t.data.toList≠[]/\(∀ c∈t.data.toList,Q.Ey c=true)/\n=Q.N7 t.data.toList)∨((∃ t x,ev=.iface t x)/\n=0/\¬ (t.data.toList≠[]/\∀ c∈t.data.toList,Q.Ey c=true)))/\Up w w':=by
 have hl:t.data.toList.length=t.size:=rfl
 by_cases d:t.data.toList≠[]/\∀ c∈t.data.toList,Q.Ey c=true
 ·have e:Lib.parseUintB 64 t.data.toList=.ok (Q.N7 t.data.toList):=by
   unfold Lib.parseUintB;rw[if_neg d.1,(Dn t.data.toList 0 (by omega) (Ua (by decide))).1 d.2];simp
  refine (Tryz.strconv_ParseUint_10_at64_ok t (by omega) _ e w).mono ?_;rintro e F ⟨rfl,D⟩;refine⟨_,_,rfl,.inl ⟨rfl,d.1,d.2,rfl⟩,?_⟩
  rcases D with rfl|rfl
  ·exact Jj _ _
  exact Lib.bytesWorld_below _ _ _
 have e:Lib.parseUintB 64 t.data.toList=Lib.parseUintB 64 []:=by
  unfold Lib.parseUintB
  by_cases j:t.data.toList=[]
  ·rw[if_pos j];rfl
  rw[if_neg j];exact (Dn t.data.toList 0 (by omega) (Ua (by decide))).2 (fun h=>d ⟨j,h⟩)
 obtain⟨ev,E,hev⟩:=hev.1;refine (Tryz.strconv_ParseUint_10_at64_syntax t (by omega) e ev w E hev).mono ?_;rintro e F ⟨N,rfl,_,_,D⟩;exact⟨0,_,rfl,.inr ⟨⟨_,_,rfl⟩,rfl,d⟩,D⟩
end Go.Proofs.YtjjgilacnocigaaGreatDoor
namespace Go.Proofs.YtjjgilacnocigaaGreatDoor
open ChangeShapes WideShapes ChangeAt RowKit Proofs.Tryz
def AJ (w:World)(b:Nat)(f:List UInt8->Option Nat):Prop:=
 ∃ (n:Nat) (D:DataW Unit),n<=1000000/\w.ownsMap prog 9 (plainElem prog 3) b n D/\∀ s,Maps.has D (.string s)=(f s).isSome/\∀ i,f s=some i->D.atKey (.string s) (.lit (.int .i64 0))=.lit (.int .i64 (i:Nat))
theorem Q7 (own:List UInt8->Bool)(t:List UInt8):0<=(O3 own t).kind/\(O3 own t).kind<=5:=by
 unfold O3
 split
 ·exact⟨by decide,by decide⟩
 split
 ·exact⟨by decide,by decide⟩
 split
 ·exact⟨by decide,by decide⟩
 split
 ·exact⟨by show (0:Int)<=4;decide,by show (4:Int)<=5;decide⟩
 split
 ·split
  ·exact⟨by decide,by decide⟩
  exact⟨by decide,by decide⟩
 exact⟨by decide,by decide⟩
theorem Bg (own:List UInt8->Bool)(t:List UInt8):Ka (O3 own t)=true↔(O3 own t).kind≠0/\(O3 own t).kind≠1:=by
 have:=Q7 own t;simp only[Ka,Yd,Y7];omega
theorem Af {w w1:World}{ty:TypeId}{a0 a1 a2 a3:Value}(hb:Below (w.heap.size+1) (w.alloc (.cells #[a0,a1,a2,a3] ty)) w1):Bx w1 w.heap.size [a0,a1,a2,a3]:=(Ox w [a0,a1,a2,a3] ty).bl (N:=w.heap.size+1) (by omega) hb
theorem Lf (v:Value)(L:List (List UInt8))(s:ByteArray)(w:World)(h:Eu w v L)(hs:s.size<=1048576)(hn:¬ (8<s.data.toList.length/\s.data.toList.take 7=E4/\s.data.toList.getLast? = some 41)) :
 Calls prog 12 #[v,.string s] w fun e w'=>e=.returned (Hj (O3 (Kr L) s.data.toList))/\Up w w':=by
 have Z:=Hd h;have HN:=Hd hn;clear h hn
 go_in
 by_cases Y:8<s.size
 ·by_cases D:s.data.toList.take 7=E4
  case' pos=>
   have y1:((s.extract 0 7).toList==[40,65,114,114,97,121,32])=true:=by rw[Nh,D];rfl
   have y2:(((s[s.size - 1]'(by omega)).toNat:Int)==41)=false:=by
    rw[Jd];intro e;exact HN.o ⟨by rw[O6];exact Y,D,by rw[Xc (by omega),Gx (c:=s[s.size - 1]'(by omega)) (n:=41) (by omega)];rfl⟩
  case' neg=>
   have y1:((s.extract 0 7).toList==[40,65,114,114,97,121,32])=false:=by rw[Nh,Jd];exact D
  all_goals
   clear D
   go_wp2_with fail
   refine (Ib v L s _ (Z.o.bl (Oo _ _)) hs).mono ?_;obtain⟨X,H⟩:=O2 (O3 (Kr L) s.data.toList);have G:=Hd H;rw[H];clear H;rintro e K ⟨rfl,J⟩;have j:Below (w.heap.size+1) (w.alloc (.cells #[.int .i64 0,.int .i64 0,.string ⟨#[]⟩,.string ⟨#[]⟩] 37)) K:=TM J
   have d:=Af j;have F:=Hd d;have E:Hid (Up w K):=(Oo w _).trans (j.mono (by omega));obtain⟨c0,c1,c2,c3⟩:=d.c4;obtain⟨f0,f1,f2,f3⟩:=d.f4;clear J j d;unfold Hj
   go_wp2_with fail
   have I:=((((F.o.set 0 (.int .i64 X.kind)).set 1 (.int .i64 (X.width:Nat))).set 2 (.string (Oy X.index))).set 3 (.string (Oy X.elem)));obtain⟨O,T,U,V⟩:=I.c4;refine Jh (v:=.agg #[.int .i64 X.kind,.int .i64 (X.width:Nat),.string (Oy X.index),.string (Oy X.elem)]) ?_ rfl ⟨Ke (by rw[G.o];rfl),?_⟩
   ·clear c0 c1 c2 c3 f0 f1 f2 f3;simp[results,results12,go_sem,O,T,U,V]
   exact (((E.o.sc).sc).sc).sc
 go_wp2_with fail
 refine (Ib v L s _ (Z.o.bl (Oo _ _)) hs).mono ?_;obtain⟨X,H⟩:=O2 (O3 (Kr L) s.data.toList);have G:=Hd H;rw[H];clear H;rintro e K ⟨rfl,J⟩;have j:Below (w.heap.size+1) (w.alloc (.cells #[.int .i64 0,.int .i64 0,.string ⟨#[]⟩,.string ⟨#[]⟩] 37)) K:=TM J
 have d:=Af j;have F:=Hd d;have E:Hid (Up w K):=(Oo w _).trans (j.mono (by omega));obtain⟨c0,c1,c2,c3⟩:=d.c4;obtain⟨f0,f1,f2,f3⟩:=d.f4;clear J j d;unfold Hj
 go_wp2_with fail
 have I:=((((F.o.set 0 (.int .i64 X.kind)).set 1 (.int .i64 (X.width:Nat))).set 2 (.string (Oy X.index))).set 3 (.string (Oy X.elem)));obtain⟨O,T,U,V⟩:=I.c4;refine Jh (v:=.agg #[.int .i64 X.kind,.int .i64 (X.width:Nat),.string (Oy X.index),.string (Oy X.elem)]) ?_ rfl ⟨Ke (by rw[G.o];rfl),?_⟩
 ·clear c0 c1 c2 c3 f0 f1 f2 f3;simp[results,results12,go_sem,O,T,U,V]
 exact (((E.o.sc).sc).sc).sc
theorem ZI (s:ByteArray)(i:Nat)(x:Int)(w:World)(hx:x=(i:Nat))(hs:s.size<=maxLen)(hi:i<=maxLen) :
 Calls prog 34 #[.string s,.int .i64 x] w fun e w'=>e=.returned (.int .i64 (Nz s.data.toList i))/\w'=w:=by
 subst hx;exact Bc s i w hs hi
theorem UC {a b:Int}(h:a=b):@bne Int (@instBEqOfDecidableEq Int Int.instDecidableEq) a b=false:=by simp[h]
theorem Dm {a b:Int}(h:¬ a=b):@bne Int (@instBEqOfDecidableEq Int Int.instDecidableEq) a b=true:=by simp[h]
theorem Si {s:ByteArray}{k:Nat}(h:k<s.size):(s.data.toList.drop k).head? = some s[k]:=by
 rw[R9 (by rw[O6];exact h)];rfl
theorem XK {s:ByteArray}{k:Nat}(h:s.size<=k):(s.data.toList.drop k).head? = none:=by
 rw[Z0 (by rw[O6];exact h)];rfl
def VF (own:List UInt8->Bool)(t:List UInt8)(k:Nat):SI:=
 if (t.drop (7+k)).head? = some 32 then
  match Es (t.drop (7+k+1)) with
  | none=>SI.none
  | some m=>
    if 7+k+1+m+1=t.length then
     if Ka (O3 own ((t.drop 7).take k))&&Ka (O3 own ((t.drop (7+k+1)).take m)) then ⟨6,0,(t.drop 7).take k,(t.drop (7+k+1)).take m⟩ else SI.none
    else SI.none
 else SI.none
theorem FS {own:List UInt8->Bool}{t:List UInt8}(h:8<t.length/\t.take 7=E4/\t.getLast? = some 41):N1 own t=match Es (t.drop 7) with|none=>SI.none|some k=>VF own t k:=by
 unfold N1;rw[if_pos h];rfl
theorem Wk (v:Value)(L:List (List UInt8))(s:ByteArray)(w:World)(h:Eu w v L)(hs:s.size<=1048576)(hc:8<s.data.toList.length/\s.data.toList.take 7=E4/\s.data.toList.getLast? = some 41) :
 Calls prog 12 #[v,.string s] w fun e w'=>e=.returned (Hj (N1 (Kr L) s.data.toList))/\Up w w':=by
 have HS:=Hd h;have b8:=Hd (FS (own:=Kr L) hc);have g6:8<s.size:=by have:=hc.1;rw[O6] at this;exact this
 have y1:((s.extract 0 7).toList==[40,65,114,114,97,121,32])=true:=by rw[Nh,hc.2.1];rfl
 have hl:(s[s.size - 1]'(by omega)).toNat=41:=by have:=hc.2.2;rw[Xc (by omega)] at this;rw[Option.some.inj this];rfl
 have y2:(((s[s.size - 1]'(by omega)).toNat:Int)==41)=true:=by rw[Jw];omega
 clear h hc hl
 go_in
 go_wp2_with fail
 refine (Bc s 7 _ (by unfold maxLen;omega) (by unfold maxLen;omega)).mono ?_
 cases hk:Es (s.data.toList.drop 7) with
 | none=>
   have j:Hid (N1 (Kr L) s.data.toList=SI.none):=by unfold Hid;rw[b8.o,hk]
   have T:Nz s.data.toList 7 = -1:=by unfold Nz;rw[hk]
   rw[T];clear T hk;rintro e F ⟨rfl,rfl⟩
   go_wp2_with fail
   refine Jh (v:=.agg #[.int .i64 0,.int .i64 0,.string ⟨#[]⟩,.string ⟨#[]⟩]) ?_ rfl ⟨Ke (by rw[j.o];rfl),Oo _ _⟩;simp[results,results12,go_sem]
 | some k=>
   have b3:Hid (N1 (Kr L) s.data.toList=VF (Kr L) s.data.toList k):=by unfold Hid;rw[b8.o,hk]
   have O:=B3 hk;rw[Jr,O6] at O;obtain⟨A,hA⟩:=O2 (7+k);have HA:=Hd hA;have T:Nz s.data.toList 7=(A:Int):=by unfold Nz;rw[hk];simp only[];omega
   have g2:7<=A:=by omega
   have g4:A<=s.size:=by omega
   rw[T];clear T hk O hA;rintro e F ⟨rfl,rfl⟩
   by_cases e5:s.size<=A
   ·have j:Hid (N1 (Kr L) s.data.toList=SI.none):=by
     unfold Hid;rw[b3.o];unfold VF;rw[HA.o,XK e5];rfl
    have zl:decide ((s.size:Int)<=(A:Int))=true:=dT (by omega)
    go_wp2_with fail
    refine Jh (v:=.agg #[.int .i64 0,.int .i64 0,.string ⟨#[]⟩,.string ⟨#[]⟩]) ?_ rfl ⟨Ke (by rw[j.o];rfl),Oo _ _⟩;simp[results,results12,go_sem]
   have b7:A<s.size:=by omega
   by_cases c6:¬ s[A].toNat=32
   ·have j:Hid (N1 (Kr L) s.data.toList=SI.none):=by
     unfold Hid;rw[b3.o];unfold VF;rw[HA.o,Si b7,if_neg (fun e=>c6 (by rw[Option.some.inj e];rfl))]
    have x1:((s[A].toNat:Int)==32)=false:=by rw[Jd];omega
    have x2:¬ (s[A].toNat:Int)=32:=by omega
    have x3:=Dm x2;clear c6
    go_wp2_with fail
    refine Jh (v:=.agg #[.int .i64 0,.int .i64 0,.string ⟨#[]⟩,.string ⟨#[]⟩]) ?_ rfl ⟨Ke (by rw[j.o];rfl),Oo _ _⟩;simp[results,results12,go_sem]
   have b6:s[A].toNat=32:=by omega
   have b4:Hid (N1 (Kr L) s.data.toList=match Es (s.data.toList.drop (A+1)) with|none=>SI.none|some m=>if A+1+m+1=s.size then (if Ka (O3 (Kr L) (s.extract 7 A).data.toList)&&Ka (O3 (Kr L) ((s.data.toList.drop (A+1)).take m)) then ⟨6,0,(s.extract 7 A).data.toList,(s.data.toList.drop (A+1)).take m⟩ else SI.none) else SI.none):=by
    unfold Hid;rw[b3.o];unfold VF;rw[HA.o,Si b7,if_pos (by rw[Gx b6];rfl),O6];have e:(s.extract 7 A).data.toList=(s.data.toList.drop 7).take k:=by
     rw[I6,Ob]
     congr 1
     have:=HA.o;omega
    rw[e]
   have x1:((s[A].toNat:Int)==32)=true:=by rw[Jw];omega
   have e4:Hid ((s[A].toNat:Int)=32):=by unfold Hid;omega
   have x3:=UC e4.o;clear c6 b6 b8 b3
   go_wp2_with fail
   refine (ZI s (A+1) _ _ (by push_cast;rfl) (by unfold maxLen;omega) (by unfold maxLen;omega)).mono ?_
   cases hm:Es (s.data.toList.drop (A+1)) with
   | none=>
     have j:Hid (N1 (Kr L) s.data.toList=SI.none):=by unfold Hid;rw[b4.o,hm]
     have T:Nz s.data.toList (A+1) = -1:=by unfold Nz;rw[hm]
     rw[T];clear T hm;have x4:=Dm (a:=(-1:Int)) (b:=(s.size:Int) - 1) (by omega);rintro e F ⟨rfl,rfl⟩
     go_wp2_with fail
     refine Jh (v:=.agg #[.int .i64 0,.int .i64 0,.string ⟨#[]⟩,.string ⟨#[]⟩]) ?_ rfl ⟨Ke (by rw[j.o];rfl),Oo _ _⟩;simp[results,results12,go_sem]
   | some m=>
     have O:=B3 hm;rw[Jr,O6] at O;obtain⟨B,hB⟩:=O2 (A+1+m);have HB:=Hd hB;have T:Nz s.data.toList (A+1)=(B:Int):=by unfold Nz;rw[hm];simp only[];omega
     have g3:A+1<=B:=by omega
     have g5:B<=s.size:=by omega
     rw[T]
     by_cases c7:¬ B+1=s.size
     ·have j:Hid (N1 (Kr L) s.data.toList=SI.none):=by unfold Hid;rw[b4.o,hm];simp only[];rw[hB,if_neg c7]
      have x4:=Dm (a:=(B:Int)) (b:=(s.size:Int) - 1) (by omega);clear T hm O hB c7;rintro e F ⟨rfl,rfl⟩
      go_wp2_with fail
      refine Jh (v:=.agg #[.int .i64 0,.int .i64 0,.string ⟨#[]⟩,.string ⟨#[]⟩]) ?_ rfl ⟨Ke (by rw[j.o];rfl),Oo _ _⟩;simp[results,results12,go_sem]
     have x4:=UC (a:=(B:Int)) (b:=(s.size:Int) - 1) (by omega);have HE:Hid (N1 (Kr L) s.data.toList=if Ka (O3 (Kr L) (s.extract 7 A).data.toList)&&Ka (O3 (Kr L) (s.extract (A+1) B).data.toList) then ⟨6,0,(s.extract 7 A).data.toList,(s.extract (A+1) B).data.toList⟩ else SI.none):=by
      have e:(s.data.toList.drop (A+1)).take m=(s.extract (A+1) B).data.toList:=by
       rw[I6,Ob]
       congr 1
       omega
      unfold Hid;rw[b4.o,hm];simp only[];rw[hB,if_pos (by omega),e]
     clear T hm O hB c7 b4;rintro e F ⟨rfl,rfl⟩
     go_wp2_with fail
     have d6:(s.extract 7 A).size<=1048576:=by rw[Yj];omega
     have d5:(s.extract (A+1) B).size<=1048576:=by rw[Yj];omega
     generalize s.extract 7 A=G at HE d6 ⊢;generalize s.extract (A+1) B=SE at HE d5 ⊢;refine (Ib v L G _ (HS.o.bl (Oo _ _)) d6).mono ?_;have e7:=Q7 (Kr L) G.data.toList;have d1:=Bg (Kr L) G.data.toList;generalize O3 (Kr L) G.data.toList=X at HE e7 d1 ⊢;rintro e F ⟨rfl,hb⟩;have D:Below (w.heap.size+1) (w.alloc (.cells #[.int .i64 0,.int .i64 0,.string ⟨#[]⟩,.string ⟨#[]⟩] 37)) F:=TM hb
     have d3:=Hd (Af D);have U:Hid (Up w F):=(Oo w _).trans (D.mono (by omega));have f5:w.heap.size+1<=F.heap.size:=by have:=D.size;rw[J4] at this;exact this
     have Z:=Hd d1;clear hb D d1;unfold Hj
     go_wp2_with fail
     refine (Ib v L SE _ (HS.o.bl (U.o.trans ((Oo F _).mono U.o.size))) d5).mono ?_;have e6:=Q7 (Kr L) SE.data.toList;have d0:=Bg (Kr L) SE.data.toList;generalize O3 (Kr L) SE.data.toList=Y at HE e6 d0 ⊢;rintro e w2 ⟨rfl,hb⟩;have V:=Hd d0;have D:Below (F.heap.size+1) (F.alloc (.cells #[.int .i64 X.kind,.int .i64 (X.width:Nat),.string (Oy X.index),.string (Oy X.elem)] 37)) w2:=TM hb
     have d8:=Af D;have f7:F.heap.size+1<=w2.heap.size:=by have:=D.size;rw[J4] at this;exact this
     have a7:Up F w2:=(Oo F _).trans (D.mono (by omega));have b5:Bx w2 w.heap.size [.int .i64 0,.int .i64 0,.string ⟨#[]⟩,.string ⟨#[]⟩]:=d3.o.bl (N:=F.heap.size) (by omega) a7;have x0:=d8.cell 0;simp only[J6] at x0;have a6:=Hd b5;have E:=U.up a7;obtain⟨c0,c1,c2,c3⟩:=b5.c4;obtain⟨f0,f1,f2,f3⟩:=b5.f4;have g1:F.heap.size<w2.heap.size:=by omega
     have g0:w.heap.size<w2.heap.size:=by omega
     clear hb D d8 a7 b5 d0;unfold Hj
     by_cases k1:X.kind=0
     ·skip
      have j:Hid (N1 (Kr L) s.data.toList=SI.none):=by
       unfold Hid;rw[HE.o,if_neg];rw[Yd,Z.o,V.o];omega
      have z1:(X.kind==0)=true:=by rw[Jw];omega
      go_wp2_with fail
      have d:=((((a6.o.set 0 (.int .i64 0)).set 1 (.int .i64 0)).set 2 (.string ⟨#[]⟩)).set 3 (.string ⟨#[]⟩));have H:=fun o=>(d.alloc o).cell 0;have I:=fun o=>(d.alloc o).cell 1;have J:=fun o=>(d.alloc o).cell 2;have K:=fun o=>(d.alloc o).cell 3;simp only[Jc,Jb,J6,Yk] at H I J K;refine Jh (v:=.agg #[.int .i64 0,.int .i64 0,.string ⟨#[]⟩,.string ⟨#[]⟩]) ?_ rfl ⟨Ke (by rw[j.o];rfl),?_⟩
      ·clear c0 c1 c2 c3 f0 f1 f2 f3;simp[results,results12,go_sem,H,I,J,K]
      exact ((((E.o.sc).sc).sc).sc).alloc (by simp only[Uy];omega) _
     have z1:(X.kind==0)=false:=by rw[Jd];exact k1
     by_cases k2:Y.kind=0
     ·skip
      have j:Hid (N1 (Kr L) s.data.toList=SI.none):=by
       unfold Hid;rw[HE.o,if_neg];rw[Yd,Z.o,V.o];omega
      have z2:(Y.kind==0)=true:=by rw[Jw];omega
      go_wp2_with fail
      have d:=((((a6.o.set 0 (.int .i64 0)).set 1 (.int .i64 0)).set 2 (.string ⟨#[]⟩)).set 3 (.string ⟨#[]⟩));have H:=fun o=>(d.alloc o).cell 0;have I:=fun o=>(d.alloc o).cell 1;have J:=fun o=>(d.alloc o).cell 2;have K:=fun o=>(d.alloc o).cell 3;simp only[Jc,Jb,J6,Yk] at H I J K;refine Jh (v:=.agg #[.int .i64 0,.int .i64 0,.string ⟨#[]⟩,.string ⟨#[]⟩]) ?_ rfl ⟨Ke (by rw[j.o];rfl),?_⟩
      ·clear c0 c1 c2 c3 f0 f1 f2 f3;simp[results,results12,go_sem,H,I,J,K]
      exact ((((E.o.sc).sc).sc).sc).alloc (by simp only[Uy];omega) _
     have z2:(Y.kind==0)=false:=by rw[Jd];exact k2
     by_cases k3:X.kind=1
     ·skip
      have j:Hid (N1 (Kr L) s.data.toList=SI.none):=by
       unfold Hid;rw[HE.o,if_neg];rw[Yd,Z.o,V.o];omega
      have z3:(X.kind==1)=true:=by rw[Jw];omega
      go_wp2_with fail
      have d:=((((a6.o.set 0 (.int .i64 0)).set 1 (.int .i64 0)).set 2 (.string ⟨#[]⟩)).set 3 (.string ⟨#[]⟩));have H:=fun o=>(d.alloc o).cell 0;have I:=fun o=>(d.alloc o).cell 1;have J:=fun o=>(d.alloc o).cell 2;have K:=fun o=>(d.alloc o).cell 3;simp only[Jc,Jb,J6,Yk] at H I J K;refine Jh (v:=.agg #[.int .i64 0,.int .i64 0,.string ⟨#[]⟩,.string ⟨#[]⟩]) ?_ rfl ⟨Ke (by rw[j.o];rfl),?_⟩
      ·clear c0 c1 c2 c3 f0 f1 f2 f3;simp[results,results12,go_sem,H,I,J,K]
      exact ((((E.o.sc).sc).sc).sc).alloc (by simp only[Uy];omega) _
     have z3:(X.kind==1)=false:=by rw[Jd];exact k3
     by_cases k4:Y.kind=1
     ·skip
      have j:Hid (N1 (Kr L) s.data.toList=SI.none):=by
       unfold Hid;rw[HE.o,if_neg];rw[Yd,Z.o,V.o];omega
      have z4:(Y.kind==1)=true:=by rw[Jw];omega
      go_wp2_with fail
      have d:=((((a6.o.set 0 (.int .i64 0)).set 1 (.int .i64 0)).set 2 (.string ⟨#[]⟩)).set 3 (.string ⟨#[]⟩));have H:=fun o=>(d.alloc o).cell 0;have I:=fun o=>(d.alloc o).cell 1;have J:=fun o=>(d.alloc o).cell 2;have K:=fun o=>(d.alloc o).cell 3;simp only[Jc,Jb,J6,Yk] at H I J K;refine Jh (v:=.agg #[.int .i64 0,.int .i64 0,.string ⟨#[]⟩,.string ⟨#[]⟩]) ?_ rfl ⟨Ke (by rw[j.o];rfl),?_⟩
      ·clear c0 c1 c2 c3 f0 f1 f2 f3;simp[results,results12,go_sem,H,I,J,K]
      exact ((((E.o.sc).sc).sc).sc).alloc (by simp only[Uy];omega) _
     have z4:(Y.kind==1)=false:=by rw[Jd];exact k4
     have j:Hid (N1 (Kr L) s.data.toList=⟨6,0,G.data.toList,SE.data.toList⟩):=by
      unfold Hid;rw[HE.o,if_pos];rw[Yd,Z.o,V.o];exact⟨⟨k1,k3⟩,k2,k4⟩
     go_wp2_with fail
     have d:=((((a6.o.set 0 (.int .i64 6)).set 1 (.int .i64 0)).set 2 (.string G)).set 3 (.string SE));have H:=fun o=>(d.alloc o).cell 0;have I:=fun o=>(d.alloc o).cell 1;have J:=fun o=>(d.alloc o).cell 2;have K:=fun o=>(d.alloc o).cell 3;simp only[Jc,Jb,J6,Yk] at H I J K;refine Jh (v:=.agg #[.int .i64 6,.int .i64 0,.string G,.string SE]) ?_ rfl ⟨Ke (by rw[j.o];unfold Hj;rw[Nv,Nv];rfl),?_⟩
     ·clear c0 c1 c2 c3 f0 f1 f2 f3;simp[results,results12,go_sem,H,I,J,K]
     exact ((((E.o.sc).sc).sc).sc).alloc (by simp only[Uy];omega) _
theorem Pw (v:Value)(L:List (List UInt8))(s:ByteArray)(w:World)(h:Eu w v L)(hs:s.size<=1048576) :
 Calls prog 12 #[v,.string s] w fun e w'=>e=.returned (Hj (Ks (Kr L) s.data.toList))/\Up w w':=by
 by_cases d:8<s.data.toList.length/\s.data.toList.take 7=E4/\s.data.toList.getLast? = some 41
 ·rw[<-S8];exact Wk v L s w h hs d
 have e:Ks (Kr L) s.data.toList=O3 (Kr L) s.data.toList:=by rw[<-S8];unfold N1;rw[if_neg d]
 rw[e];exact Lf v L s w h hs d
end Go.Proofs.YtjjgilacnocigaaGreatDoor
