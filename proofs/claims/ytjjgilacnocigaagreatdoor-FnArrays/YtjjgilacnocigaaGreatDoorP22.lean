import Derived.Test.YtjjgilacnocigaaGreatDoorP21
import Derived.Lib.LaidTab
import Derived.Lib.ItoaMem
import Derived.Lib.AppendIntMem
import Derived.Lib.ItoaNum
set_option maxRecDepth 100000
set_option maxHeartbeats 104857600
namespace Go.Proofs.YtjjgilacnocigaaGreatDoor
open ChangeShapes WideShapes ChangeAt RowKit Proofs.Tryz
variable {n r:List UInt8}{s:ByteArray}{v:Value}{w w':World}
theorem S0 (n:List UInt8):N6 (Kj 2 n)=some n:=by
 cases d:K6 n
 ·have e:Kj 2 n=124::(n++[124]):=by simp[Kj,d]
  have j:(n++[124]).getLast? = some (124:UInt8):=Vp;rw[e];unfold N6;rw[S5];simp only[j,V3,d];rfl
 have e:Kj 2 n=n:=by simp[Kj,d]
 rw[e];unfold N6;rw[if_pos d]
theorem CC {t:List UInt8}(h:N6 t=some n):Kj 2 n=t:=by
 rcases Dk h with⟨d,rfl⟩|⟨d,rfl⟩
 ·simp[Kj,d]
 simp[Kj,d]
theorem RQ (h:Nx n=true):n≠[]/\∀ c∈n,c≠124:=by
 simp only[Nx,Yd,Y7] at h;exact⟨by rintro rfl;simp at h,fun c hc=>ON (Zt.1 h.2 c hc)⟩
theorem P6 (h:n≠[])(hn:∀ c∈n,c≠124):(n++r).dropWhile (fun b=>b==124)=n++r:=by
 cases n with
 | nil=>exact absurd rfl h
 | cons c n=>
   have:=hn c (by simp);simp[this]
theorem LD (h:Nx n=true):Lib.trimB (Kj 2 n) 124=n:=by
 obtain⟨d,hn⟩:=RQ h;have F:n.reverse≠[]:=by simpa using d
 have j:∀ c∈n.reverse,c≠124:=fun c hc=>hn c (by simpa using hc);have D:n.dropWhile (fun b=>b==124)=n:=by have:=P6 (r:=[]) d hn;simpa using this
 have J:n.reverse.dropWhile (fun b=>b==124)=n.reverse:=by have:=P6 (r:=[]) F j;simpa using this
 unfold Lib.trimB Lib.trimRightB Lib.trimLeftB
 cases E:K6 n
 ·have e:Kj 2 n=124::(n++[124]):=by simp[Kj,E]
  have G:(124::(n++[124])).reverse=124::(n.reverse++[(124:UInt8)]):=by simp
  rw[e,G];have H:List.dropWhile (fun b=>b==124) (124::(n.reverse++[(124:UInt8)]))=n.reverse++[124]:=by
   rw[List.dropWhile_cons_of_pos (by decide)];exact P6 F j
  rw[H];have I:(n.reverse++[(124:UInt8)]).reverse=124::n:=by simp
  rw[I,List.dropWhile_cons_of_pos (by decide),D]
 have e:Kj 2 n=n:=by simp[Kj,E]
 rw[e,J,List.reverse_reverse,D]
theorem DB (h:Pm n=true):n.length<=60:=by
 simp only[Pm,Nx,Yd,Y7] at h;exact h.1.1.2
def Eh (f:List UInt8->Option Nat)(n:List UInt8):Bool:=!R0 n&&(f n).isSome
theorem QW (f:List UInt8->Option Nat){t N:List UInt8}(h1:t≠He)(h2:t≠Rj)(h3:t≠Xv)(hw:N2 t=0)(hN:Lib.trimB t 124=N):O3 (Eh f) t=if Pm N&&decide (Kj 2 N=t)&&(f N).isSome then ⟨5,0,[],[]⟩ else SI.none:=by
 have F:O3 (Eh f) t=match N6 t with|some n=>if Nx n&&Eh f n then ⟨5,0,[],[]⟩ else SI.none|none=>SI.none:=by
  unfold O3;rw[if_neg h1,if_neg h2,if_neg h3,hw,if_neg (by omega)];rfl
 rw[F]
 cases hn:N6 t with
 | none=>
   simp only[];rw[if_neg];intro d;simp only[Yd,Y7] at d;have:=S0 N;rw[d.1.2,hn] at this
   cases this
 | some n=>
   simp only[];have E:=CC hn
   cases j:Nx n
   ·rw[if_neg (by simp),if_neg];intro d;simp only[Yd,Y7,Pm] at d;have:=S0 N;rw[d.1.2,hn] at this
    cases this
    rw[j] at d;simp at d
   have D:N=n:=by rw[<-hN,<-E];exact LD j
   subst D;have:(Nx N&&Eh f N)=(Pm N&&decide (Kj 2 N=t)&&(f N).isSome):=by
    rw[Jn E,j];simp[Eh,Pm,j]
   rw[j] at this;rw[this]
theorem AJ.bl {b N:Nat}{f:List UInt8->Option Nat}(h:AJ w b f)(hb:Below N w w')(hN:b<N):AJ w' b f:=by
 obtain⟨n,D,hn,⟨j,d,hm,F⟩,E⟩:=h;exact⟨n,D,hn,⟨j,d,(hb.block b hN).trans hm,F⟩,E⟩
theorem Hn (s:ByteArray)(w:World)(hs:s.size<=1048576) :
 Calls prog 156 #[.string s,.string ⟨#[124]⟩] w fun e w'=>e=.returned (.string (Oy (Lib.trimB s.data.toList 124)))/\Up w w':=by
 refine (Tryz.strings_Trim_one s 124 (by decide) w (by omega)).mono ?_;rintro e w' ⟨rfl,rfl|rfl⟩
 ·exact⟨rfl,Jj _ _⟩
 exact⟨rfl,⟨rfl,rfl,rfl,O1,fun _ _=>rfl⟩⟩
theorem LR (l:List UInt8)(c:UInt8):(Lib.trimB l c).length<=l.length:=by
 unfold Lib.trimB Lib.trimRightB Lib.trimLeftB;have d:=(List.dropWhile_sublist (p:=(·==c)) (l:=(l.reverse.dropWhile (·==c)).reverse)).length_le;have j:=(List.dropWhile_sublist (p:=(·==c)) (l:=l.reverse)).length_le;simp only[Un] at d j;omega
theorem Cu (c:UInt8):∀ l:List UInt8,Lib.indexByte l c=if Eg (fun x=>x != c) l<l.length then (Eg (fun x=>x != c) l:Int) else -1
 | []=>rfl
 | x::r=>by
   have E:=Cu c r
   by_cases d:x=c
   ·subst d
    have:Eg (fun y=>y != x) (x::r)=0:=by simp[Eg]
    rw[this]
    simp[Lib.indexByte]
   have j:Lib.indexByte (x::r) c=if Lib.indexByte r c == -1 then -1 else Lib.indexByte r c+1:=by simp[Lib.indexByte,d]
   have D:Eg (fun y=>y != c) (x::r)=Eg (fun y=>y != c) r+1:=by simp[Eg,d]
   rw[j,D,E,J8]
   by_cases hl:Eg (fun y=>y != c) r<r.length
   ·rw[if_pos hl,if_pos (show Eg (fun y=>y != c) r+1<r.length+1 by omega),if_neg (by rw[Jw];omega)];omega
   rw[if_neg hl,if_neg (show ¬ Eg (fun y=>y != c) r+1<r.length+1 by omega)];rfl
theorem KI (c:UInt8)(l:List UInt8) : -1<=Lib.indexByte l c/\Lib.indexByte l c<=(l.length:Int):=by
 rw[Cu]
 split<;>omega
theorem XO (t:List UInt8):Er t<=t.length:=by
 unfold Er
 split
 ·split
  ·simp only[J8];omega
  simp
 ·split
  ·omega
  simp
 split
 ·omega
 simp
theorem XY {t:List UInt8}(h:t.take 1=[124]):((Er t:Nat):Int)=Lib.indexByte (t.drop 1) 124+2:=by
 obtain⟨r,rfl⟩:∃ r,t=124::r:=by
  cases t with
  | nil=>simp at h
  | cons c r=>simp at h;exact⟨r,by rw[h]⟩
 rw[List.drop_one,List.tail_cons,Cu]
 show (((if Eg (· != 124) r<r.length then Eg (· != 124) r+2 else 1):Nat):Int)=_
 split<;>omega
theorem KN {t:List UInt8}(h:t.take 1=[40]):((Er t:Nat):Int)=Lib.indexByte t 41+1:=by
 obtain⟨r,rfl⟩:∃ r,t=40::r:=by
  cases t with
  | nil=>simp at h
  | cons c r=>simp at h;exact⟨r,by rw[h]⟩
 rw[Cu]
 show (((if Eg (· != 41) (40::r)<(40::r).length then Eg (· != 41) (40::r)+1 else 0):Nat):Int)=_
 split<;>omega
theorem KG {t:List UInt8}(h1:t.take 1≠[124])(h2:t.take 1≠[40]):((Er t:Nat):Int)=max (Lib.indexByte t 32) 0:=by
 rw[Cu];have e:Er t=if Eg (· != 32) t<t.length then Eg (· != 32) t else 0:=by
  unfold Er
  split
  ·exact absurd rfl h1
  ·exact absurd rfl h2
  rfl
 rw[e]
 split<;>omega
theorem Cz (s:ByteArray)(w:World)(hs:s.size<=1048576) :
 Calls prog 117 #[.string s] w fun e w'=>e=.returned (.int .i64 (Er s.data.toList:Nat))/\w'=w:=by
 by_cases F:s.data.toList.take 1=[124]
 ·have E:Hid (Lib.hasPrefix s.data.toList [124]=true):=by unfold Hid;rw[El];exact Jn F
  have D:=Hd (XY F);have T:1<=s.size:=by have:=congrArg List.length F;rw[Jm,O6] at this;simp at this;omega
  clear F
  go_in
  go_wp2_with fail
  refine (Tryz.strings_HasPrefix s ⟨#[124]⟩ _).mono ?_
  change ∀ (e:Ending) (w':World),(e=.returned (.bool (Lib.hasPrefix s.data.toList [124]))/\w'=w)->_
  rw[E.o];rintro e j ⟨rfl,rfl⟩
  go_wp2_with fail
  refine (Tryz.strings_IndexByte _ 124 _).mono ?_;have K:(s.extract 1 s.size).data.toList=s.data.toList.drop 1:=by rw[I6,Jf (by rw[O6];omega)]
  rw[K]
  change ∀ (e:Ending) (w':World),(e=.returned (.int .i64 (Lib.indexByte (s.data.toList.drop 1) 124))/\w'=j)->_
  have d:=KI 124 (s.data.toList.drop 1);rw[Jr,O6] at d;obtain⟨V,G⟩:=O2 (Lib.indexByte (s.data.toList.drop 1) 124);rw[G] at d D ⊢;clear G K;rintro e j ⟨rfl,rfl⟩
  go_wp2
  go_ret
  exact⟨Ev D.o.symm,rfl⟩
 have E:Hid (Lib.hasPrefix s.data.toList [124]=false):=by unfold Hid;rw[El];exact Jp F
 by_cases I:s.data.toList.take 1=[40]
 ·have H:Hid (Lib.hasPrefix s.data.toList [40]=true):=by unfold Hid;rw[El];exact Jn I
  have D:=Hd (KN I);clear F I
  go_in
  go_wp2_with fail
  refine (Tryz.strings_HasPrefix s ⟨#[124]⟩ _).mono ?_
  change ∀ (e:Ending) (w':World),(e=.returned (.bool (Lib.hasPrefix s.data.toList [124]))/\w'=w)->_
  rw[E.o];rintro e j ⟨rfl,rfl⟩
  go_wp2_with fail
  refine (Tryz.strings_HasPrefix s ⟨#[40]⟩ _).mono ?_
  change ∀ (e:Ending) (w':World),(e=.returned (.bool (Lib.hasPrefix s.data.toList [40]))/\w'=j)->_
  rw[H.o];rintro e j ⟨rfl,rfl⟩
  go_wp2_with fail
  refine (Tryz.strings_IndexByte _ 41 _).mono ?_
  change ∀ (e:Ending) (w':World),(e=.returned (.int .i64 (Lib.indexByte s.data.toList 41))/\w'=j)->_
  have d:=KI 41 s.data.toList;rw[O6] at d;obtain⟨V,G⟩:=O2 (Lib.indexByte s.data.toList 41);rw[G] at d D ⊢;clear G;rintro e j ⟨rfl,rfl⟩
  go_wp2
  go_ret
  exact⟨Ev D.o.symm,rfl⟩
 have H:Hid (Lib.hasPrefix s.data.toList [40]=false):=by unfold Hid;rw[El];exact Jp I
 have D:=Hd (KG F I);clear F I
 go_in
 go_wp2_with fail
 refine (Tryz.strings_HasPrefix s ⟨#[124]⟩ _).mono ?_
 change ∀ (e:Ending) (w':World),(e=.returned (.bool (Lib.hasPrefix s.data.toList [124]))/\w'=w)->_
 rw[E.o];rintro e j ⟨rfl,rfl⟩
 go_wp2_with fail
 refine (Tryz.strings_HasPrefix s ⟨#[40]⟩ _).mono ?_
 change ∀ (e:Ending) (w':World),(e=.returned (.bool (Lib.hasPrefix s.data.toList [40]))/\w'=j)->_
 rw[H.o];rintro e j ⟨rfl,rfl⟩
 go_wp2_with fail
 refine (Tryz.strings_IndexByte _ 32 _).mono ?_
 change ∀ (e:Ending) (w':World),(e=.returned (.int .i64 (Lib.indexByte s.data.toList 32))/\w'=j)->_
 have d:=KI 32 s.data.toList;rw[O6] at d;obtain⟨V,G⟩:=O2 (Lib.indexByte s.data.toList 32);rw[G] at d D ⊢;clear G;rintro e j ⟨rfl,rfl⟩
 by_cases O:0<=V
 ·have J:max V 0=V:=by omega
  go_wp2_with fail
  all_goals go_ret
  all_goals exact⟨Ev (by rw[D.o];omega),rfl⟩
 have J:max V 0=0:=by omega
 go_wp2_with fail
 all_goals go_ret
 all_goals exact⟨Ev (by rw[D.o];omega),rfl⟩
theorem EF (own:List UInt8->Bool)(t:List UInt8):(O3 own t).kind=0->O3 own t=SI.none:=by
 unfold O3
 split
 ·intro h;exact absurd h (by decide)
 split
 ·intro h;exact absurd h (by decide)
 split
 ·intro h;exact absurd h (by decide)
 split
 ·intro h;exact absurd h (by show ¬ (4:Int)=0;decide)
 split
 ·split
  ·intro h;exact absurd h (by decide)
  intro _;rfl
 intro _;rfl
theorem YA (w:World):Calls prog 118 #[Hj SI.none] w fun e w'=>e=.returned (.bool false)/\Below w.heap.size w w':=by
 show Calls prog 118 #[.agg #[.int .i64 0,.int .i64 0,.string ⟨#[]⟩,.string ⟨#[]⟩]] w _
 go_in
 go_wp2
 go_ret
 exact⟨rfl,Oo _ _⟩
theorem YS (X:SI)(w:World)(h0:¬ X.kind=0)(h:0<=X.kind/\X.kind<=5):Calls prog 118 #[Hj X] w fun e w'=>e=.returned (.bool (Ka X))/\Below w.heap.size w w':=by
 have j:Hid (Ka X=decide (¬ X.kind=1)):=by
  unfold Hid Ka;rw[Zj,Yd,J2,J2,J2];omega
 unfold Hj;have z0:(X.kind==0)=false:=by rw[Jd];exact h0
 have F:=Dm (a:=X.kind) (b:=6) (by omega);have E:¬ X.kind=6:=by omega
 by_cases d:X.kind=1
 ·have D:=UC d
  go_in
  go_wp2
  go_ret
  exact⟨O7 (by rw[j.o,Jp (by omega)]),Oo _ _⟩
 have D:=Dm d
 go_in
 go_wp2
 go_ret
 exact⟨O7 (by rw[j.o,Jn d]),Oo _ _⟩
theorem Bn (own:List UInt8->Bool)(t:List UInt8)(w:World):Calls prog 118 #[Hj (O3 own t)] w fun e w'=>e=.returned (.bool (Ka (O3 own t)))/\Below w.heap.size w w':=by
 by_cases h:(O3 own t).kind=0
 ·rw[EF own t h];exact YA w
 exact YS _ w h (Q7 own t)
theorem Xz (r:List UInt8)(c:UInt8):Lib.hasSuffix r [c]=decide (r.getLast? = some c):=by
 unfold Lib.hasSuffix;rw[Zj,J2,List.isSuffixOf_iff_suffix];constructor
 ·rintro⟨a,e⟩;rw[<-e];exact Vp
 intro h;obtain⟨d,e⟩:=Vg.1 h;exact⟨d,e.symm⟩
theorem Ai {c:UInt8}(h:r.getLast? = some c):Lib.trimSuffix r [c]=r.dropLast:=by
 unfold Lib.trimSuffix;rw[Xz,Jn h,List.dropLast_eq_take];rfl
theorem B7 (h:r.getLast? = some 41):(r.dropLast.take 1=[32])↔(r.head? = some 32/\2<=r.length):=by
 obtain⟨ys,rfl⟩:=Vg.1 h;rw[V3]
 cases ys with
 | nil=>simp
 | cons c ys=>simp
theorem EA {own:List UInt8->Bool}{t:List UInt8}(h:t.take 7≠E4):Ks own t=O3 own t:=by unfold Ks;rw[if_neg h]
theorem B9 {own:List UInt8->Bool}{t:List UInt8}(h:t.take 7=E4){I R:List UInt8}(hI:(t.drop 7).take (Er (t.drop 7))=I)(hR:(t.drop 7).drop (Er (t.drop 7))=R)(hc:¬ R.getLast? = some 41∨¬ R.dropLast.take 1=[32]):Ks own t=SI.none:=by
 unfold Ks;rw[if_pos h];simp only[hI,hR];rw[if_neg];rintro⟨d,j,h3⟩
 rcases hc with hc|hc
 ·exact hc h3
 exact hc ((B7 h3).2 ⟨d,j⟩)
theorem ES {own:List UInt8->Bool}{t:List UInt8}(h:t.take 7=E4){I R E:List UInt8}(hI:(t.drop 7).take (Er (t.drop 7))=I)(hR:(t.drop 7).drop (Er (t.drop 7))=R)(hc:R.getLast? = some 41)(hp:R.dropLast.take 1=[32])(hE:R.dropLast.drop 1=E):Ks own t=if Ka (O3 own I)&&Ka (O3 own E) then ⟨6,0,I,E⟩ else SI.none:=by
 unfold Ks;rw[if_pos h];simp only[hI,hR];have d:=(B7 hc).1 hp;rw[if_pos ⟨d.1,d.2,hc⟩];have e:(R.drop 1).dropLast=E:=by rw[<-hE];simp[List.dropLast_eq_take,List.drop_take]
 rw[e]
theorem RB {t:List UInt8}(h:t.take 7=E4):Lib.trimPrefix t E4=t.drop 7:=by
 unfold Lib.trimPrefix;rw[El,Jn (by exact h)];rfl
theorem Az (s:ByteArray)(w:World)(hs:s.size<=1048576) :
 Calls prog 119 #[.string s] w fun e w'=>e=.returned (.string s)/\Below w.heap.size w w':=by
 go_in
 go_wp2_with fail
 refine (Tryz.stringslite_Clone s _ (by omega)).mono ?_;rintro e D ⟨rfl,d⟩;have j:=Hd d;clear d
 go_wp2
 go_ret
 exact⟨rfl,j.o⟩
def BF (kb:Nat):Value:=.func (.func 76) #[] #[.pointer (some ⟨kb,0,none⟩)]
def C1 (w:World)(b:Nat)(f:List UInt8->Option Nat):Prop:=
 ∃ zs:List ByteArray,zs.length=2/\(∀ i,i<zs.length->w.cell? ⟨b,0+i,none⟩=some (.string (zs.getD i ByteArray.empty)))/\∀ s:ByteArray,(f s.data.toList).isSome=Lib.containsS zs s
theorem C1.bl {b N:Nat}{f:List UInt8->Option Nat}(h:C1 w b f)(hb:Below N w w')(hN:b<N):C1 w' b f:=by
 obtain⟨D,d,j,h3⟩:=h;exact⟨D,d,fun i hi=>(hb.cell (p:=⟨b,0+i,none⟩) hN).trans (j i hi),h3⟩
theorem FY (kb b:Nat)(f:List UInt8->Option Nat)(s:ByteArray)(w:World)(hc:w.cell? ⟨kb,0,none⟩=some (.slice (some ⟨b,0,none⟩) 2 2))(hm:C1 w b f)(_hs:s.size<=maxLen) :
 Calls prog 76 #[.string s,.pointer (some ⟨kb,0,none⟩)] w fun e w'=>e=.returned (.bool (f s.data.toList).isSome)/\w'=w:=by
 obtain⟨E,D,j,h3⟩:=hm;have H:=Tryz.slices_Contains_string b 0 2 2 E s w (by omega) (by decide) j;rw[Jf (by omega),<-h3 s] at H;have d:=Hd H;generalize (f s.data.toList).isSome=r at d ⊢;clear D j h3 H
 go_in
 go_wp2_with fail
 refine d.o.mono ?_;rintro e F ⟨rfl,rfl⟩
 go_wp2
 go_ret
 exact⟨rfl,rfl⟩
theorem A1 (kb b:Nat)(f:List UInt8->Option Nat)(s:ByteArray)(w:World)(hs:s.size<=1048576)(hev:EV w)(hc:w.cell? ⟨kb,0,none⟩=some (.slice (some ⟨b,0,none⟩) 2 2))(hm:C1 w b f)(hb:b<w.heap.size) :
 Calls prog 116 #[.string s,BF kb] w fun e w'=>e=.returned (Hj (O3 (Eh f) s.data.toList))/\Up w w':=by
 have d5:kb<w.heap.size:=Zb w _ hc;have d0:=Hd hev;have HC:=Hd hc;have HM:=Hd hm;have G:=B6 (Eh f);clear hev hc hm;unfold BF
 by_cases U:s.data.toList=He
 ·have F:Hid (O3 (Eh f) s.data.toList=⟨1,0,[],[]⟩):=by unfold Hid;rw[U];exact G.1
  have z:=Fi U;unfold He at z;clear U G
  go_in
  go_wp2_with fail
  refine Jh (v:=.agg #[.int .i64 1,.int .i64 0,.string ⟨#[]⟩,.string ⟨#[]⟩]) ?_ rfl ⟨Ke (by rw[F.o];rfl),Oo _ _⟩;simp[results,results116,go_sem]
 have z1:=Q9 U
 by_cases Y:s.data.toList=Rj
 ·have F:Hid (O3 (Eh f) s.data.toList=⟨2,0,[],[]⟩):=by unfold Hid;rw[Y];exact G.2.1
  have z:=Fi Y;unfold Rj at z;unfold He at z1;clear U Y G
  go_in
  go_wp2_with fail
  refine Jh (v:=.agg #[.int .i64 2,.int .i64 0,.string ⟨#[]⟩,.string ⟨#[]⟩]) ?_ rfl ⟨Ke (by rw[F.o];rfl),Oo _ _⟩;simp[results,results116,go_sem]
 have z2:=Q9 Y
 by_cases h3:s.data.toList=Xv
 ·have F:Hid (O3 (Eh f) s.data.toList=⟨3,0,[],[]⟩):=by unfold Hid;rw[h3];exact G.2.2
  have z:=Fi h3;unfold Xv at z;unfold He at z1;unfold Rj at z2;clear U Y h3 G
  go_in
  go_wp2_with fail
  refine Jh (v:=.agg #[.int .i64 3,.int .i64 0,.string ⟨#[]⟩,.string ⟨#[]⟩]) ?_ rfl ⟨Ke (by rw[F.o];rfl),Oo _ _⟩;simp[results,results116,go_sem]
 have z3:=Q9 h3;clear G;have b4:Hid (∀ N,N2 s.data.toList=0->Lib.trimB s.data.toList 124=N->O3 (Eh f) s.data.toList=if Pm N&&decide (Kj 2 N=s.data.toList)&&(f N).isSome then ⟨5,0,[],[]⟩ else SI.none):=fun N hw hN=>QW f U Y h3 hw hN;have b5:Hid (0<N2 s.data.toList->O3 (Eh f) s.data.toList=⟨4,N2 s.data.toList,[],[]⟩):=fun hw=>by
  unfold O3;rw[if_neg U,if_neg Y,if_neg h3,if_pos hw]
 unfold He at z1;unfold Rj at z2;unfold Xv at z3;clear U Y h3
 go_in
 go_wp2_with fail
 refine (UN s _ (by omega) (d0.o.next (Oo _ _))).mono ?_;obtain⟨W,hW⟩:=O2 (N2 s.data.toList);have d2:=Hd hW;rw[hW];rw[hW] at b4 b5;clear hW;rintro e w1 ⟨rfl,a6⟩;have E:Below (w.heap.size+1) (w.alloc (.cells #[.int .i64 0,.int .i64 0,.string ⟨#[]⟩,.string ⟨#[]⟩] 37)) w1:=TM a6
 by_cases b6:0<W
 ·have d:=Hd (Af E);have D:Hid (Up w w1):=(Oo w _).trans (E.mono (by omega));obtain⟨c0,c1,c2,c3⟩:=d.o.c4;obtain⟨f0,f1,f2,f3⟩:=d.o.f4;have I:Hid (O3 (Eh f) s.data.toList=⟨4,W,[],[]⟩):=b5.o b6;have e8:W<65:=by
   have e:=d2.o;have:=(Qh (t:=s.data.toList) (by omega)).2.2;omega
  clear a6 E
  go_wp2_with fail
  have j:=((((d.o.set 0 (.int .i64 4)).set 1 (.int .i64 (W:Nat))).set 2 (.string ⟨#[]⟩)).set 3 (.string ⟨#[]⟩));obtain⟨J,K,O,T⟩:=j.c4;refine Jh (v:=.agg #[.int .i64 4,.int .i64 (W:Nat),.string ⟨#[]⟩,.string ⟨#[]⟩]) ?_ rfl ⟨Ke (by rw[I.o];rfl),?_⟩
  ·clear c0 c1 c2 c3 f0 f1 f2 f3;simp[results,results116,go_sem,J,K,O,T]
  exact (((D.o.sc).sc).sc).sc
 obtain rfl:W=0:=by omega
 have a8:=Hd E;clear a6 E b6
 go_wp2_with fail
 refine (Hn s _ (by omega)).mono ?_;obtain⟨N,hN⟩:=O2 (Lib.trimB s.data.toList 124);have HP:=Hd (b4.o N (by first|rfl|trivial) hN);have d3:N.length<=1048576:=by rw[<-hN];have:=LR s.data.toList 124;rw[O6] at this;omega
 rw[hN];clear hN;rintro e w2 ⟨rfl,b7⟩;have H:Below (w.heap.size+1) (w.alloc (.cells #[.int .i64 0,.int .i64 0,.string ⟨#[]⟩,.string ⟨#[]⟩] 37)) w2:=a8.o.trans (b7.mono (by have:=a8.o.size;rw[J4] at this;exact this));have d:=Hd (Af H);have D:Hid (Up w w2):=(Oo w _).trans (H.mono (by omega));have c8:Hid (w2.cell? ⟨kb,0,none⟩=some (.slice (some ⟨b,0,none⟩) 2 2)):=(D.o.cell (p:=⟨kb,0,none⟩) d5).trans HC.o;have d1:Hid (C1 w2 b f):=HM.o.bl D.o hb;clear b7 H;obtain⟨S,hS⟩:=O2 (Oy N);have HS:Hid (S.data.toList=N):=by unfold Hid;rw[<-hS,O4]
 have e7:S.size<=1048576:=by rw[<-O6,HS.o];exact d3
 rw[hS];rw[<-HS.o] at HP;clear hS
 go_wp2_with fail
 refine (KP S _ (by unfold maxLen;omega)).mono ?_
 cases V:Pm S.data.toList
 ·have I:Hid (O3 (Eh f) s.data.toList=SI.none):=by unfold Hid;rw[HP.o,V];rfl
  rintro e w3 ⟨rfl,rfl⟩;obtain⟨c0,c1,c2,c3⟩:=d.o.c4;obtain⟨f0,f1,f2,f3⟩:=d.o.f4;clear V
  go_wp2_with fail
  have j:=((((d.o.set 0 (.int .i64 0)).set 1 (.int .i64 0)).set 2 (.string ⟨#[]⟩)).set 3 (.string ⟨#[]⟩));obtain⟨J,K,O,T⟩:=j.c4;refine Jh (v:=.agg #[.int .i64 0,.int .i64 0,.string ⟨#[]⟩,.string ⟨#[]⟩]) ?_ rfl ⟨Ke (by rw[I.o];rfl),?_⟩
  ·clear c0 c1 c2 c3 f0 f1 f2 f3;simp[results,results116,go_sem,J,K,O,T]
  exact (((D.o.sc).sc).sc).sc
 have Z:=Hd V;clear V;rintro e w3 ⟨rfl,rfl⟩
 go_wp2_with fail
 refine (T9 S _ (by have:=DB Z.o;rw[O6] at this;omega)).mono ?_;rintro e w3 ⟨rfl,rfl⟩
 by_cases ht:Kj 2 S.data.toList=s.data.toList
 ·have yt:((Oy (Kj 2 S.data.toList)).toList==s.toList)=true:=by rw[Je,Je,O4,ht];simp
  have HT:=Hd ht;clear ht;generalize Oy (Kj 2 S.data.toList)=X at yt ⊢
  go_wp2_with fail
  refine (FY kb b f S _ c8.o d1.o (by unfold maxLen;omega)).mono ?_
  cases hh:(f S.data.toList).isSome
  ·have I:Hid (O3 (Eh f) s.data.toList=SI.none):=by unfold Hid;rw[HP.o,hh,V0];rfl
   rintro e w3 ⟨rfl,rfl⟩;obtain⟨c0,c1,c2,c3⟩:=d.o.c4;obtain⟨f0,f1,f2,f3⟩:=d.o.f4;clear hh
   go_wp2_with fail
   have j:=((((d.o.set 0 (.int .i64 0)).set 1 (.int .i64 0)).set 2 (.string ⟨#[]⟩)).set 3 (.string ⟨#[]⟩));obtain⟨J,K,O,T⟩:=j.c4;refine Jh (v:=.agg #[.int .i64 0,.int .i64 0,.string ⟨#[]⟩,.string ⟨#[]⟩]) ?_ rfl ⟨Ke (by rw[I.o];rfl),?_⟩
   ·clear c0 c1 c2 c3 f0 f1 f2 f3;simp[results,results116,go_sem,J,K,O,T]
   exact (((D.o.sc).sc).sc).sc
  have I:Hid (O3 (Eh f) s.data.toList=⟨5,0,[],[]⟩):=by unfold Hid;rw[HP.o,Z.o,Jn HT.o,hh];rfl
  rintro e w3 ⟨rfl,rfl⟩;obtain⟨c0,c1,c2,c3⟩:=d.o.c4;obtain⟨f0,f1,f2,f3⟩:=d.o.f4;clear hh
  go_wp2_with fail
  have j:=((((d.o.set 0 (.int .i64 5)).set 1 (.int .i64 0)).set 2 (.string ⟨#[]⟩)).set 3 (.string ⟨#[]⟩));obtain⟨J,K,O,T⟩:=j.c4;refine Jh (v:=.agg #[.int .i64 5,.int .i64 0,.string ⟨#[]⟩,.string ⟨#[]⟩]) ?_ rfl ⟨Ke (by rw[I.o];rfl),?_⟩
  ·clear c0 c1 c2 c3 f0 f1 f2 f3;simp[results,results116,go_sem,J,K,O,T]
  exact (((D.o.sc).sc).sc).sc
 have yt:((Oy (Kj 2 S.data.toList)).toList==s.toList)=false:=by rw[Je,Je,O4,Jd];exact ht
 have I:Hid (O3 (Eh f) s.data.toList=SI.none):=by unfold Hid;rw[HP.o,Z.o,Jp ht];rfl
 clear ht;generalize Oy (Kj 2 S.data.toList)=X at yt ⊢;obtain⟨c0,c1,c2,c3⟩:=d.o.c4;obtain⟨f0,f1,f2,f3⟩:=d.o.f4
 go_wp2_with fail
 have j:=((((d.o.set 0 (.int .i64 0)).set 1 (.int .i64 0)).set 2 (.string ⟨#[]⟩)).set 3 (.string ⟨#[]⟩));obtain⟨J,K,O,T⟩:=j.c4;refine Jh (v:=.agg #[.int .i64 0,.int .i64 0,.string ⟨#[]⟩,.string ⟨#[]⟩]) ?_ rfl ⟨Ke (by rw[I.o];rfl),?_⟩
 ·clear c0 c1 c2 c3 f0 f1 f2 f3;simp[results,results116,go_sem,J,K,O,T]
 exact (((D.o.sc).sc).sc).sc
theorem A3 (kb b:Nat)(f:List UInt8->Option Nat)(s:ByteArray)(w:World)(hs:s.size<=1048576)(hev:EV w)(hc:w.cell? ⟨kb,0,none⟩=some (.slice (some ⟨b,0,none⟩) 2 2))(hm:C1 w b f)(hb:b<w.heap.size) :
 Calls prog 75 #[.string s,BF kb] w fun e w'=>e=.returned (Hj (Ks (Eh f) s.data.toList))/\Up w w':=by
 have g7:kb<w.heap.size:=Zb w _ hc;have g0:=Hd hev;have HC:=Hd hc;have HM:=Hd hm;clear hev hc hm;have HV:Hid (BF kb=.func (.func 76) #[] #[.pointer (some ⟨kb,0,none⟩)]):=rfl;have H:Hid (∀ (s':ByteArray) (W:World),s'.size<=1048576->Up w W->Calls prog 116 #[.string s',.func (.func 76) #[] #[.pointer (some ⟨kb,0,none⟩)]] W fun e w'=>e=.returned (Hj (O3 (Eh f) s'.data.toList))/\Up W w'):=fun s' W h1 h2=>
  A1 kb b f s' W h1 (g0.o.next h2) ((h2.cell (p:=⟨kb,0,none⟩) g7).trans HC.o) (HM.o.bl h2 hb) (Js hb h2.size)
 rw[HV.o];clear HV
 by_cases hp:s.data.toList.take 7=E4
 ·have c8:Hid (Lib.hasPrefix s.data.toList E4=true):=by unfold Hid;rw[El];exact Jn hp
  have g2:=Hd (RB hp);have d0:=Hd hp;clear hp
  go_in
  go_wp2_with fail
  refine (Tryz.strings_CutPrefix s ⟨#[40,65,114,114,97,121,32]⟩ _).mono ?_;generalize E:w.alloc (.cells #[.int .i64 0,.int .i64 0,.string ⟨#[]⟩,.string ⟨#[]⟩] 37)=W1
  change ∀ (e:Ending) (w':World),(e=.returned (.tuple #[.string ⟨(Lib.trimPrefix s.data.toList E4).toArray⟩,.bool (Lib.hasPrefix s.data.toList E4)])/\w'=W1)->_
  rw[c8.o,g2.o];rintro e V ⟨rfl,rfl⟩;subst E;obtain⟨D,hD⟩:∃ D:ByteArray,(⟨(s.data.toList.drop 7).toArray⟩:ByteArray)=D:=⟨_,rfl⟩;have HD:Hid (D.data.toList=s.data.toList.drop 7):=by unfold Hid;rw[<-hD]
  have i7:D.size<=1048576:=by rw[<-O6,HD.o,Jr,O6];omega
  rw[hD];clear hD
  go_wp2_with fail
  refine (Cz D _ (by omega)).mono ?_;obtain⟨k,hk⟩:=O2 (Er D.data.toList);have HK:=Hd hk;have j0:k<=D.size:=by rw[<-hk,<-O6];exact XO _
  rw[hk];clear hk;rintro e V ⟨rfl,rfl⟩
  go_wp2_with fail
  have d8:(D.extract 0 k).size<=1048576:=by rw[Yj];omega
  have HI:Hid ((s.data.toList.drop 7).take (Er (s.data.toList.drop 7))=(D.extract 0 k).data.toList):=by
   unfold Hid;rw[I6,Y9,<-HD.o,HK.o]
  have g5:(D.extract k D.size).size<=1048576:=by rw[Yj];omega
  have b7:Hid ((s.data.toList.drop 7).drop (Er (s.data.toList.drop 7))=(D.extract k D.size).data.toList):=by
   unfold Hid;rw[I6,Jf (by rw[O6];omega),<-HD.o,HK.o]
  generalize D.extract 0 k=j at HI d8 ⊢;generalize D.extract k D.size=R at b7 g5 ⊢;refine (Tryz.strings_CutSuffix R ⟨#[41]⟩ _ (by omega)).mono ?_;generalize E:w.alloc (.cells #[.int .i64 0,.int .i64 0,.string ⟨#[]⟩,.string ⟨#[]⟩] 37)=W1
  change ∀ (e:Ending) (w':World),(e=.returned (.tuple #[.string (Oy (Lib.trimSuffix R.data.toList [41])),.bool (Lib.hasSuffix R.data.toList [41])])/\w'=W1)->_
  by_cases I:R.data.toList.getLast? = some 41
  ·rw[Ai I,Xz,Jn I];rintro e V ⟨rfl,rfl⟩;subst E;have f7:=Hd I;clear I;obtain⟨Z,hZ⟩:=O2 (Oy R.data.toList.dropLast);have HZ:Hid (Z.data.toList=R.data.toList.dropLast):=by unfold Hid;rw[<-hZ,O4]
   have i8:Z.size<=1048576:=by rw[<-O6,HZ.o,List.length_dropLast,O6];omega
   rw[hZ];clear hZ
   go_wp2_with fail
   refine (Tryz.strings_CutPrefix Z ⟨#[32]⟩ _).mono ?_;generalize E:w.alloc (.cells #[.int .i64 0,.int .i64 0,.string ⟨#[]⟩,.string ⟨#[]⟩] 37)=W1
   change ∀ (e:Ending) (w':World),(e=.returned (.tuple #[.string (Oy (Lib.trimPrefix Z.data.toList [32])),.bool (Lib.hasPrefix Z.data.toList [32])])/\w'=W1)->_
   by_cases U:Z.data.toList.take 1=[32]
   ·have K:Lib.hasPrefix Z.data.toList [32]=true:=by rw[El];exact Jn U
    have e2:Lib.trimPrefix Z.data.toList [32]=Z.data.toList.drop 1:=by unfold Lib.trimPrefix;rw[K];rfl
    rw[K,e2];rintro e V ⟨rfl,rfl⟩;subst E;obtain⟨T,d3⟩:=O2 (Oy (Z.data.toList.drop 1));have d5:Hid (T.data.toList=Z.data.toList.drop 1):=by unfold Hid;rw[<-d3,O4]
    have g4:T.size<=1048576:=by rw[<-O6,d5.o,Jr,O6];omega
    have HE:Hid (Ks (Eh f) s.data.toList=if Ka (O3 (Eh f) j.data.toList)&&Ka (O3 (Eh f) T.data.toList) then ⟨6,0,j.data.toList,T.data.toList⟩ else SI.none):=ES d0.o HI.o b7.o f7.o (by rw[<-HZ.o];exact U) (by rw[d5.o,HZ.o]);rw[d3];clear d3 K e2 U
    go_wp2_with fail
    refine (H.o j _ d8 (Oo _ _)).mono ?_;rintro e V ⟨rfl,a6⟩;have b8:Hid (Below (w.heap.size+1) (w.alloc (.cells #[.int .i64 0,.int .i64 0,.string ⟨#[]⟩,.string ⟨#[]⟩] 37)) V):=TM a6
    clear a6
    go_wp2_with fail
    refine (Bn (Eh f) j.data.toList _).mono ?_
    cases c6:Ka (O3 (Eh f) j.data.toList)
    ·have HR:Hid (Ks (Eh f) s.data.toList=SI.none):=by unfold Hid;rw[HE.o,c6];rfl
     rintro e w2 ⟨rfl,a8⟩;have O:Hid (Below (w.heap.size+1) (w.alloc (.cells #[.int .i64 0,.int .i64 0,.string ⟨#[]⟩,.string ⟨#[]⟩] 37)) w2):=b8.o.trans (a8.mono (by have:=b8.o.size;rw[J4] at this;exact this));have d:=Hd (Af O.o);have G:Hid (Up w w2):=(Oo w _).trans (O.o.mono (by omega));obtain⟨c0,c1,c2,c3⟩:=d.o.c4;obtain⟨f0,f1,f2,f3⟩:=d.o.f4;clear a8 c6;generalize Hj (O3 (Eh f) j.data.toList)=V1
     go_wp2_with fail
     have J:=((((d.o.set 0 (.int .i64 0)).set 1 (.int .i64 0)).set 2 (.string ⟨#[]⟩)).set 3 (.string ⟨#[]⟩));obtain⟨e0,K,e2,e3⟩:=J.c4;refine Jh (v:=.agg #[.int .i64 0,.int .i64 0,.string ⟨#[]⟩,.string ⟨#[]⟩]) ?_ rfl ⟨Ke (by rw[HR.o];rfl),?_⟩
     ·clear c0 c1 c2 c3 f0 f1 f2 f3;simp[results,results75,go_sem,e0,K,e2,e3]
     exact (((G.o.sc).sc).sc).sc
    have g1:=Hd c6;rintro e w2 ⟨rfl,a8⟩;have O:Hid (Below (w.heap.size+1) (w.alloc (.cells #[.int .i64 0,.int .i64 0,.string ⟨#[]⟩,.string ⟨#[]⟩] 37)) w2):=b8.o.trans (a8.mono (by have:=b8.o.size;rw[J4] at this;exact this));clear a8 c6;generalize Hj (O3 (Eh f) j.data.toList)=V1
    go_wp2_with fail
    refine (H.o T _ g4 ((Oo w _).trans (O.o.mono (by omega)))).mono ?_;rintro e w3 ⟨rfl,d9⟩;have b9:Hid (Below (w.heap.size+1) (w.alloc (.cells #[.int .i64 0,.int .i64 0,.string ⟨#[]⟩,.string ⟨#[]⟩] 37)) w3):=O.o.trans (d9.mono (by have:=O.o.size;rw[J4] at this;exact this));clear d9
    go_wp2_with fail
    refine (Bn (Eh f) T.data.toList _).mono ?_
    cases c7:Ka (O3 (Eh f) T.data.toList)
    ·have HR:Hid (Ks (Eh f) s.data.toList=SI.none):=by unfold Hid;rw[HE.o,c7,V0];rfl
     rintro e w4 ⟨rfl,b3⟩;have Y:Hid (Below (w.heap.size+1) (w.alloc (.cells #[.int .i64 0,.int .i64 0,.string ⟨#[]⟩,.string ⟨#[]⟩] 37)) w4):=b9.o.trans (b3.mono (by have:=b9.o.size;rw[J4] at this;exact this));have d:=Hd (Af Y.o);have G:Hid (Up w w4):=(Oo w _).trans (Y.o.mono (by omega));obtain⟨c0,c1,c2,c3⟩:=d.o.c4;obtain⟨f0,f1,f2,f3⟩:=d.o.f4;clear b3 c7;generalize Hj (O3 (Eh f) T.data.toList)=V2
     go_wp2_with fail
     have J:=((((d.o.set 0 (.int .i64 0)).set 1 (.int .i64 0)).set 2 (.string ⟨#[]⟩)).set 3 (.string ⟨#[]⟩));obtain⟨e0,K,e2,e3⟩:=J.c4;refine Jh (v:=.agg #[.int .i64 0,.int .i64 0,.string ⟨#[]⟩,.string ⟨#[]⟩]) ?_ rfl ⟨Ke (by rw[HR.o];rfl),?_⟩
     ·clear c0 c1 c2 c3 f0 f1 f2 f3;simp[results,results75,go_sem,e0,K,e2,e3]
     exact (((G.o.sc).sc).sc).sc
    have HR:Hid (Ks (Eh f) s.data.toList=⟨6,0,j.data.toList,T.data.toList⟩):=by unfold Hid;rw[HE.o,g1.o,c7];rfl
    rintro e w4 ⟨rfl,b3⟩;have Y:Hid (Below (w.heap.size+1) (w.alloc (.cells #[.int .i64 0,.int .i64 0,.string ⟨#[]⟩,.string ⟨#[]⟩] 37)) w4):=b9.o.trans (b3.mono (by have:=b9.o.size;rw[J4] at this;exact this));clear b3 c7;generalize Hj (O3 (Eh f) T.data.toList)=V2
    go_wp2_with fail
    refine (Az j _ (by omega)).mono ?_;rintro e w5 ⟨rfl,e4⟩;have d6:Hid (Below (w.heap.size+1) (w.alloc (.cells #[.int .i64 0,.int .i64 0,.string ⟨#[]⟩,.string ⟨#[]⟩] 37)) w5):=Y.o.trans (e4.mono (by have:=Y.o.size;rw[J4] at this;exact this));clear e4
    go_wp2_with fail
    refine (Az T _ (by omega)).mono ?_;rintro e w6 ⟨rfl,e5⟩;have d7:Hid (Below (w.heap.size+1) (w.alloc (.cells #[.int .i64 0,.int .i64 0,.string ⟨#[]⟩,.string ⟨#[]⟩] 37)) w6):=d6.o.trans (e5.mono (by have:=d6.o.size;rw[J4] at this;exact this));have d:=Hd (Af d7.o);have G:Hid (Up w w6):=(Oo w _).trans (d7.o.mono (by omega));obtain⟨c0,c1,c2,c3⟩:=d.o.c4;obtain⟨f0,f1,f2,f3⟩:=d.o.f4;clear e5
    go_wp2_with fail
    have J:=((((d.o.set 0 (.int .i64 6)).set 1 (.int .i64 0)).set 2 (.string j)).set 3 (.string T));obtain⟨e0,K,e2,e3⟩:=J.c4;refine Jh (v:=.agg #[.int .i64 6,.int .i64 0,.string j,.string T]) ?_ rfl ⟨Ke (by rw[HR.o];unfold Hj;rw[Nv,Nv];rfl),?_⟩
    ·clear c0 c1 c2 c3 f0 f1 f2 f3;simp[results,results75,go_sem,e0,K,e2,e3]
    exact (((G.o.sc).sc).sc).sc
   have HR:Hid (Ks (Eh f) s.data.toList=SI.none):=B9 d0.o HI.o b7.o (.inr (by rw[<-HZ.o];exact U));have K:Lib.hasPrefix Z.data.toList [32]=false:=by rw[El];exact Jp U
   rw[K];rintro e V ⟨rfl,rfl⟩;subst E;clear K U;generalize Oy (Lib.trimPrefix Z.data.toList [32])=Z2
   go_wp2_with fail
   refine Jh (v:=.agg #[.int .i64 0,.int .i64 0,.string ⟨#[]⟩,.string ⟨#[]⟩]) ?_ rfl ⟨Ke (by rw[HR.o];rfl),Oo _ _⟩;simp[results,results75,go_sem]
  have HR:Hid (Ks (Eh f) s.data.toList=SI.none):=B9 d0.o HI.o b7.o (.inl I);have e0:Lib.hasSuffix R.data.toList [41]=false:=by rw[Xz];exact Jp I
  rw[e0];rintro e V ⟨rfl,rfl⟩;subst E;clear e0 I;generalize Oy (Lib.trimSuffix R.data.toList [41])=Z
  go_wp2_with fail
  refine (Tryz.strings_CutPrefix Z ⟨#[32]⟩ _).mono ?_;rintro e V ⟨rfl,rfl⟩;generalize Lib.hasPrefix Z.data.toList (ByteArray.mk #[32]).data.toList=B2;generalize (⟨(Lib.trimPrefix Z.data.toList (ByteArray.mk #[32]).data.toList).toArray⟩:ByteArray)=Z2
  go_wp2_with fail
  refine Jh (v:=.agg #[.int .i64 0,.int .i64 0,.string ⟨#[]⟩,.string ⟨#[]⟩]) ?_ rfl ⟨Ke (by rw[HR.o];rfl),Oo _ _⟩;simp[results,results75,go_sem]
 have F:Hid (Ks (Eh f) s.data.toList=O3 (Eh f) s.data.toList):=EA hp;have c8:Hid (Lib.hasPrefix s.data.toList E4=false):=by unfold Hid;rw[El];exact Jp hp
 clear hp
 go_in
 go_wp2_with fail
 refine (Tryz.strings_CutPrefix s ⟨#[40,65,114,114,97,121,32]⟩ _).mono ?_;generalize E:w.alloc (.cells #[.int .i64 0,.int .i64 0,.string ⟨#[]⟩,.string ⟨#[]⟩] 37)=W1
 change ∀ (e:Ending) (w':World),(e=.returned (.tuple #[.string ⟨(Lib.trimPrefix s.data.toList E4).toArray⟩,.bool (Lib.hasPrefix s.data.toList E4)])/\w'=W1)->_
 rw[c8.o];rintro e V ⟨rfl,rfl⟩;generalize (⟨(Lib.trimPrefix s.data.toList E4).toArray⟩:ByteArray)=D;subst E
 go_wp2_with fail
 refine (H.o s _ hs (Oo _ _)).mono ?_;obtain⟨X,hX⟩:=O2 (O3 (Eh f) s.data.toList);rw[hX] at F ⊢;clear hX;rintro e V ⟨rfl,a6⟩;have a7:Below (w.heap.size+1) (w.alloc (.cells #[.int .i64 0,.int .i64 0,.string ⟨#[]⟩,.string ⟨#[]⟩] 37)) V:=TM a6
 have d:=Hd (Af a7);have G:Hid (Up w V):=(Oo w _).trans (a7.mono (by omega));obtain⟨c0,c1,c2,c3⟩:=d.o.c4;obtain⟨f0,f1,f2,f3⟩:=d.o.f4;clear a6 a7;unfold Hj
 go_wp2_with fail
 have J:=((((d.o.set 0 (.int .i64 X.kind)).set 1 (.int .i64 (X.width:Nat))).set 2 (.string (Oy X.index))).set 3 (.string (Oy X.elem)));obtain⟨e0,K,e2,e3⟩:=J.c4;refine Jh (v:=.agg #[.int .i64 X.kind,.int .i64 (X.width:Nat),.string (Oy X.index),.string (Oy X.elem)]) ?_ rfl ⟨Ke (by rw[F.o];rfl),?_⟩
 ·clear c0 c1 c2 c3 f0 f1 f2 f3;simp[results,results75,go_sem,e0,K,e2,e3]
 exact (((G.o.sc).sc).sc).sc
theorem A2 (b:Nat)(f:List UInt8->Option Nat)(s:ByteArray)(w:World)(hs:s.size<=1048576)(hev:EV w)(hm:C1 w b f)(hb:b<w.heap.size) :
 Calls prog 41 #[.slice (some ⟨b,0,none⟩) 2 2,.string s] w fun e w'=>e=.returned (Hj (Ks (Eh f) s.data.toList))/\Up w w':=by
 have G:=Hd hev;have U:=Hd hm;clear hev hm;generalize J:Ks (Eh f) s.data.toList=R;have V:=Hd J;clear J
 go_in
 go_wp2_with fail
 generalize F:(w.alloc (.cells #[.slice (some ⟨b,0,none⟩) 2 2] 23)).alloc (.cells #[.int .i64 0,.int .i64 0,.string ⟨#[]⟩,.string ⟨#[]⟩] 37)=E;have d:Up w E:=by rw[<-F];exact (Oo _ _).trans ((Oo _ _).mono (by simp))
 have K:E.cell? ⟨w.heap.size,0,none⟩=some (.slice (some ⟨b,0,none⟩) 2 2):=by rw[<-F];simp
 have H:Bx E (w.heap.size+1) [.int .i64 0,.int .i64 0,.string ⟨#[]⟩,.string ⟨#[]⟩]:=by rw[<-F];rw[show w.heap.size+1=(w.alloc (.cells #[.slice (some ⟨b,0,none⟩) 2 2] 23)).heap.size from (by simp)];exact Ox _ [.int .i64 0,.int .i64 0,.string ⟨#[]⟩,.string ⟨#[]⟩] _
 have O:=H.lt;refine (A3 w.heap.size b f s E hs (G.o.next d) K (U.o.bl d hb) (by omega)).mono ?_;rintro e w2 ⟨rfl,j⟩;have D:=H.bl O j;have T:Hid (Up w w2):=d.trans (j.mono d.size);rw[V.o];clear d j K H O F;obtain⟨c0,c1,c2,c3⟩:=D.c4;obtain⟨f0,f1,f2,f3⟩:=D.f4;have I:=((((D.set 0 (.int .i64 R.kind)).set 1 (.int .i64 (R.width:Nat))).set 2 (.string (Oy R.index))).set 3 (.string (Oy R.elem)));unfold Hj
 go_wp2_with fail
 obtain⟨Y,Z,e2,e3⟩:=I.c4;refine Jh (v:=.agg #[.int .i64 R.kind,.int .i64 (R.width:Nat),.string (Oy R.index),.string (Oy R.elem)]) ?_ rfl ⟨rfl,?_⟩
 ·clear c0 c1 c2 c3 f0 f1 f2 f3;simp[results,results41,go_sem,Y,Z,e2,e3]
 exact (((T.o.setCell (p:=⟨w.heap.size+1,0,none⟩) (by simp) _).setCell (p:=⟨w.heap.size+1,1,none⟩) (by simp) _).setCell (p:=⟨w.heap.size+1,2,none⟩) (by simp) _).setCell (p:=⟨w.heap.size+1,3,none⟩) (by simp) _
structure VT (w:World):Prop where
 sp:Q.SP w
 ns:Q.NS w
 lt:Q.LT w
 ev:EV w
 ml:∃ m,w.cell? ⟨1,0,none⟩=some (.int .i64 m)
 pw:Lib.TabIs prog w "internal/strconv.uint64pow10" .u64 Lib.pow10Tab
 db:w.cell? ⟨10,1,none⟩=some (.int .u8 1)
theorem VT.next (h:VT w)(hb:Up w w'):VT w':=by
 refine⟨h.sp.bl hb,h.ns.bl hb,h.lt.bl hb,h.ev.next hb,?_,Lib.tabBelow_of_tabIs h.pw w' hb,(hb.cell (Zb w _ h.db)).trans h.db⟩;obtain⟨m,hm⟩:=h.ml;exact⟨m,(hb.cell (Zb w _ hm)).trans hm⟩
def PV (k:SK)(w:World)(v:Value)(s:ByteArray):Prop:=
 Kg k s/\(
 if k.kind=1 then v=.iface 83 (.bool (decide (s=trueB)))
 else if k.kind=2 then ∃ z,v=.iface 85 z/\Q.N8 0 w z (Q.K9 s) 300
 else if k.kind=3 then ∃ z m x y,v=.iface 89 z/\Q.Nq s m/\Q.Qx s m x y/\Q.Ip 0 w z x y 300
 else if k.kind=4 then v=.iface 93 (.agg #[.int .i64 (k.width:Nat),.int .u64 (bn 2 (s.data.toList.drop 2):Nat)])
 else v=.iface 96 (.int .i64 (Q.N7 (s.data.toList.drop 1):Nat)))
theorem PV.next {k:SK}(h:PV k w v s)(hb:Up w w'):PV k w' v s:=by
 obtain⟨F,d⟩:=h;refine⟨F,?_⟩
 split at d
 ·rw[if_pos ‹_›];exact d
 rw[if_neg ‹_›]
 split at d
 ·rw[if_pos ‹_›];obtain⟨z,e,j⟩:=d;exact⟨z,e,j.bl hb⟩
 rw[if_neg ‹_›]
 split at d
 ·rw[if_pos ‹_›];obtain⟨z,m,x,y,e,D,E,j⟩:=d;exact⟨z,m,x,y,e,D,E,j.bl hb⟩
 rw[if_neg ‹_›];exact d
theorem PV.iface {k:SK}(h:PV k w v s):MY v:=by
 obtain⟨_,d⟩:=h
 split at d
 ·exact .inr ⟨_,_,d⟩
 split at d
 ·obtain⟨z,e,_⟩:=d;exact .inr ⟨_,_,e⟩
 split at d
 ·obtain⟨z,m,x,y,e,_⟩:=d;exact .inr ⟨_,_,e⟩
 split at d<;>exact .inr ⟨_,_,d⟩
def AQ (k:SK)(s:ByteArray)(w:World)(v:Value)(ok:Bool):Prop:=MY v/\(ok=true↔Kg k s)/\(ok=true->PV k w v s)
theorem CZ (n:Int)(w:World)(h0 : -9223372036854775808<=n)(h1:n<=9223372036854775807)(ht:Lib.TabIs prog w "internal/strconv.uint64pow10" .u64 Lib.pow10Tab) :
 Calls prog 138 #[.int .i64 n] w fun e w'=>e=.returned (.string (Oy (Lib.itoa n)))/\Up w w':=
 (Tryz.strconv_Itoa n h0 h1 w ht).mono fun _ _ ⟨he,k,os,hw⟩=>⟨he,hw ▸ Lib.below_grow _ w O1 k os⟩
theorem DE:∀ (k u:Nat),u<10 ^ (k+1)->(∀ c∈Lib.decDigits u,Q.Ey c=true)/\Q.N7 (Lib.decDigits u)=u/\0<(Lib.decDigits u).length/\(Lib.decDigits u).length<=k+1/\((Lib.decDigits u).head? = some 48->u=0):=by
 have D:∀ d,d<10->Q.Ey (UInt8.ofNat (48+d))=true/\(UInt8.ofNat (48+d)).toNat=48+d:=fun d hd=>by
  have:(UInt8.ofNat (48+d)).toNat=48+d:=by rw[UInt8.toNat_ofNat'];omega
  refine⟨?_,this⟩;unfold Q.Ey;rw[this];exact Jn (by omega)
 have S:∀ u,u<10->(∀ c∈Lib.decDigits u,Q.Ey c=true)/\Q.N7 (Lib.decDigits u)=u/\0<(Lib.decDigits u).length/\(Lib.decDigits u).length=1/\((Lib.decDigits u).head? = some 48->u=0):=fun u hu=>by
  rw[Lib.decDigits_one hu];refine⟨fun c hc=>?_,?_,by simp,by simp,fun h=>?_⟩
  ·rcases Ye.1 hc with rfl;exact (D u hu).1
  ·rw[Xo,I3,(D u hu).2];omega
  have:=congrArg UInt8.toNat (Option.some.inj h);rw[(D u hu).2] at this;have:48+u=48:=this;omega
 intro k
 induction k with
 | zero=>intro u hu;obtain⟨a,b,c,d,e⟩:=S u (by simpa using hu);exact⟨a,b,c,by omega,e⟩
 | succ k ih=>
   intro u hu
   by_cases j:u<10
   ·obtain⟨a,b,c,d,e⟩:=S u j;exact⟨a,b,c,by omega,e⟩
   obtain⟨a,b,c,d,e⟩:=ih (u / 10) (by rw[Ju] at hu;omega);have hm:u % 10<10:=Zy _ (by decide);rw[Lib.decDigits,dif_neg j];refine⟨fun x hx=>?_,?_,by simp,by simp;omega,fun h=>?_⟩
   ·rcases J5.1 hx with hx|hx
    ·exact a x hx
    rcases Ye.1 hx with rfl;exact (D _ hm).1
   ·rw[Xo,Xb,I3,<-Xo,b,(D _ hm).2,Vk];omega
   cases E:Lib.decDigits (u / 10) with
   | nil=>rw[E] at c;simp at c
   | cons x r=>rw[E] at h;have:=e (by rw[E];simpa using h);omega
theorem Ci {n:Nat}(hn:n<=999999):C4 (Lib.itoa (n:Nat))/\Q.N7 (Lib.itoa (n:Nat))=n:=by
 have e:Lib.itoa (n:Nat)=Lib.decDigits n:=by unfold Lib.itoa;rw[if_neg (by omega)];rfl
 rw[e];obtain⟨a,b,c,d,f⟩:=DE 5 n (by omega);refine⟨⟨c,d,a,fun h=>?_⟩,b⟩;have:=f h;subst this;rw[Lib.decDigits_one (by decide)];rfl
theorem QR {l:List UInt8}(h:C4 l):ownP (64::l):=⟨rfl,h⟩
theorem ZT (h:ownP s.data.toList):Oy (64::Lib.itoa (Q.N7 (s.data.toList.drop 1):Nat))=s/\Q.N7 (s.data.toList.drop 1)<=999999:=by
 obtain⟨d,j⟩:=h;have h3:=Pp _ (dec6_dig j);have h4:10 ^ (s.data.toList.drop 1).length<=10 ^ 6:=J3 (by decide) j.2.1;have h5:Q.N7 (s.data.toList.drop 1)<=999999:=by rw[Xo];omega
 refine⟨Kz ?_,h5⟩;rw[O4];have e:=OT (Ci h5).1 j (Ci h5).2;rw[e]
 cases hl:s.data.toList with
 | nil=>rw[hl] at d;cases d
 | cons c r=>rw[hl] at d;simp only[List.head?_cons,Option.some.injEq] at d;subst d;rfl
theorem D9 (n:Nat)(w:World)(hn:n<=999999)(ht:VT w) :
 Calls prog 91 #[.int .i64 (n:Nat)] w fun e w'=>e=.returned (.string (Oy (64::Lib.itoa (n:Nat))))/\Up w w':=by
 have G:=Hd ht.pw;have hl:=(Ci hn).1.2.1;clear ht;obtain⟨x,D⟩:∃ x:Int,x=(n:Nat):=⟨_,rfl⟩;rw[<-D] at hl ⊢;have H : -9223372036854775808<=x:=by omega
 have I:x<=9223372036854775807:=by omega
 clear D
 go_in
 go_wp2_with fail
 refine (CZ x _ H I G.o).mono ?_;rintro e K ⟨rfl,j⟩;have E:=Hd j;clear j;obtain⟨S,d⟩:=O2 (Oy (Lib.itoa x));have F:Hid ((⟨#[64]⟩:ByteArray)++S=Oy (64::Lib.itoa x)):=by
  unfold Hid;rw[<-d];refine Kz ?_;rw[Vj,Zr,O4,O4];rfl
 have J:S.size<=6:=by rw[<-d];exact hl
 rw[d];clear d hl
 go_wp2
 go_ret
 exact⟨congrArg (fun x=>Ending.returned (.string x)) F.o,E.o⟩
theorem P4 (s p:ByteArray)(w:World) :
 Calls prog 42 #[.string s,.string p] w fun e w'=>∃ T b,e=.returned (.tuple #[.string T,.bool b])/\w'=w/\T.size<=s.size/\Hid (b=decide (s.data.toList.take p.data.toList.length=p.data.toList)/\(b=true->T.data.toList=s.data.toList.drop p.data.toList.length)):=by
 refine (Tryz.strings_CutPrefix s p w).mono ?_;rintro e d ⟨rfl,rfl⟩;refine⟨_,_,rfl,rfl,?_,?_,?_⟩
 ·show (Lib.trimPrefix s.data.toList p.data.toList).length<=s.data.toList.length
  unfold Lib.trimPrefix
  split
  ·rw[Jr];omega
  omega
 ·exact El _ _
 intro h
 show Lib.trimPrefix s.data.toList p.data.toList=_
 unfold Lib.trimPrefix;rw[if_pos h]
theorem UA (s:ByteArray)(c:UInt8)(w:World)(hs:s.size<=1048576) :
 Calls prog 43 #[.string s,.string ⟨#[c]⟩] w fun e w'=>∃ T b,e=.returned (.tuple #[.string T,.bool b])/\w'=w/\T.size<=s.size/\Hid (b=decide (s.data.toList.getLast? = some c)/\(b=true->T.data.toList=s.data.toList.dropLast)):=by
 refine (Tryz.strings_CutSuffix s ⟨#[c]⟩ w (by omega)).mono ?_;rintro e j ⟨rfl,rfl⟩;refine⟨_,_,rfl,rfl,?_,?_,?_⟩
 ·exact Te _ _
 ·exact Xz _ _
 intro h;have d:Lib.hasSuffix s.data.toList [c]=true:=h;rw[Xz] at d;exact Ai (of_decide_eq_true d)
def Sd:Value->Bool|.nilIface=>true|_=>false
theorem XX:Sd v=true↔v=.nilIface:=by cases v<;>simp[Sd]
theorem PC {wd:Nat}{T:ByteArray}{b:Bool}{n:Int}{ev:Value}(hw:wd<=64)(hb:b=decide (s.data.toList.take 2=[35,98])/\(b=true->T.data.toList=s.data.toList.drop 2))(hp:JF T.data.toList n ev)(ok:Bool)(hok:ok=(b&&decide (T.size=wd)&&Sd ev)):(ok=true↔0<wd/\bitsP wd s.data.toList)/\(ok=true->n=(bn 2 (s.data.toList.drop 2):Nat)):=by
 have I:T.data.toList.length=T.size:=rfl;subst hok;simp only[Yd,Y7,XX];constructor
 ·constructor
  ·rintro⟨⟨d,F⟩,rfl⟩;rw[hb.1] at d;have E:=of_decide_eq_true d;have h3:=hb.2 (hb.1.trans d)
   rcases hp with⟨_,j,G,H⟩|⟨⟨_,_,j⟩,_⟩
   ·have h4:0<T.data.toList.length:=Zz.2 j;have h5:s.data.toList.length=wd+2:=by
     have:=congrArg List.length h3;rw[Jr] at this;omega
    refine⟨by omega,E,h5,?_⟩;rw[<-h3];exact G
   cases j
  rintro⟨J,d,F,h3⟩;have D:b=true:=by rw[hb.1];exact Jn d
  have h4:=hb.2 D;have h5:T.data.toList.length=wd:=by rw[h4,Jr];omega
  refine⟨⟨D,by omega⟩,?_⟩
  rcases hp with⟨p,_⟩|⟨_,p⟩
  ·exact p
  exfalso
  rcases p with p|p
  ·exact p ⟨fun e=>by rw[e] at h5;simp at h5;omega,by rw[h4];exact h3⟩
  omega
 rintro⟨⟨d,F⟩,rfl⟩
 rcases hp with⟨_,j,G,H⟩|⟨⟨_,_,j⟩,_⟩
 ·rw[H (by omega),hb.2 d]
 cases j
theorem Wv (wd:Nat)(s:ByteArray)(w:World)(hs:s.size<=2000)(hw:wd<=64)(hw0:0<wd)(ht:VT w) :
 Calls prog 49 #[.int .i64 (wd:Nat),.string s] w fun e w'=>∃ n ok,e=.returned (.tuple #[.agg #[.int .i64 (wd:Nat),.int .u64 n],.bool ok])/\(ok=true↔bitsP wd s.data.toList)/\(ok=true->n=(bn 2 (s.data.toList.drop 2):Nat))/\Up w w':=by
 have K:=Hd ht.ev;clear ht
 go_in
 go_wp2_with fail
 refine (P4 s ⟨#[35,98]⟩ _).mono ?_;rintro e Z ⟨T,b,rfl,rfl,b3,G⟩;have O:=Hd G.o
 go_wp2_with fail
 refine (ED T (by omega) _ (K.o.next (Oo _ _))).mono ?_;rintro e Z ⟨n,ev,rfl,Y,U⟩;have HP:=Hd Y;have H:=(Ox w [.int .i64 0,.int .u64 0] 93).bl (by simp) U;have HB:Hid (Up w Z):=(Oo _ _).trans (U.mono (by simp));have c0:=H.cell 0;have c1:=H.cell 1;obtain⟨f0,f1⟩:=H.f2;have I:=(H.set 0 (.int .i64 (wd:Nat))).set 1 (.int .u64 n);obtain⟨j,D⟩:=I.drew.c2;have HE:=Hd (And.intro j D);obtain⟨ok,d⟩:∃ ok,ok=(b&&decide (T.size=wd)&&Sd ev):=⟨_,rfl⟩;have F:=Hd d;have J:Hid ((ok=true↔bitsP wd s.data.toList)/\(ok=true->n=(bn 2 (s.data.toList.drop 2):Nat))):=by
  have:=PC hw O.o HP.o ok d;exact⟨this.1.trans ⟨fun h=>h.2,fun h=>⟨hw0,h⟩⟩,this.2⟩
 have E:Hid (Up w ((Z.setCell ⟨w.heap.size,0,none⟩ (.int .i64 (wd:Nat))).setCell ⟨w.heap.size,1,none⟩ (.int .u64 n)).drew):=(HB.o.sc).sc |>.drew;have V:Hid (ev=.nilIface∨∃ t x,ev=.iface t x):=by
  rcases Y with⟨p,_⟩|⟨p,_⟩
  ·exact .inl p
  exact .inr p
 clear Y U G H I j D d;have b5:T.size<=2000:=by omega
 rcases V.o with rfl|⟨te,xe,rfl⟩
 all_goals (
  cases b
  all_goals (
   by_cases hl:T.size=wd
   ·subst hl
    go_wp2
    go_region
    go_wp2_with fail
    obtain⟨j,D⟩:=HE.o;refine Jh ?_ rfl ⟨n,ok,rfl,J.o.1,J.o.2,E.o⟩;rw[F.o];simp[results,results49,go_sem,j,D,Sd]
   have b4:((T.size:Int)==(wd:Int))=false:=by rw[Jd];omega
   go_wp2
   go_region
   go_wp2_with fail
   obtain⟨j,D⟩:=HE.o;refine Jh ?_ rfl ⟨n,ok,rfl,J.o.1,J.o.2,E.o⟩;rw[F.o];simp[results,results49,go_sem,j,D,Sd,hl]))
theorem BL {T:ByteArray}{b:Bool}(hb:b=decide (s.data.toList.take 1=[64])/\(b=true->T.data.toList=s.data.toList.drop 1)):(b=true/\C4 T.data.toList)↔ownP s.data.toList:=by
 have d:(s.data.toList.take 1=[64])↔s.data.toList.head? = some 64:=by cases s.data.toList<;>simp
 constructor
 ·rintro⟨rfl,h⟩;exact⟨d.1 (of_decide_eq_true hb.1.symm),by rw[<-hb.2 rfl];exact h⟩
 rintro⟨j,D⟩;have e:b=true:=by rw[hb.1];exact Jn (d.2 j)
 exact⟨e,by rw[hb.2 e];exact D⟩
theorem Lc (s:ByteArray)(w:World)(_hs:s.size<=2000)(ht:VT w) :
 Calls prog 50 #[.string s] w fun e w'=>∃ (n:Nat) (ok:Bool),e=.returned (.tuple #[.int .i64 (n:Nat),.bool ok])/\(ok=true↔ownP s.data.toList)/\(ok=true->n=Q.N7 (s.data.toList.drop 1))/\Up w w':=by
 have HT:=Hd ht;clear ht
 go_in
 go_wp2_with fail
 refine (P4 s ⟨#[64]⟩ _).mono ?_;rintro e w0 ⟨T,b,rfl,rfl,b8,d⟩;have U:=Hd (BL d.o);have V:=Hd d.o.2;clear d
 cases b
 ·have E:Hid (¬ ownP s.data.toList):=fun h=>by have:=U.o.2 h;exact absurd this.1 (by decide)
  go_wp2
  go_ret2
  exact⟨0,false,rfl,⟨fun h=>(by cases h),fun h=>absurd h E.o⟩,fun h=>(by cases h),Jj _ _⟩
 by_cases h6:6<T.size
 ·have E:Hid (¬ ownP s.data.toList):=fun h=>by have:=(U.o.2 h).2.2.1;have e1:T.data.toList.length=T.size:=rfl;omega
  go_wp2
  go_ret2
  exact⟨0,false,rfl,⟨fun h=>(by cases h),fun h=>absurd h E.o⟩,fun h=>(by cases h),Jj _ _⟩
 have H:T.size<=6:=by omega
 go_wp2_with fail
 refine (ZJ T H _ HT.o.ev).mono ?_;rintro e w1 ⟨n,ev,rfl,hp,Z⟩;have K:=Hd Z
 rcases hp with⟨rfl,p1,D,p3⟩|⟨⟨te,xe,rfl⟩,p1,D⟩
 ·have hn:n<=999999:=by
   have h1:=Pp (b:=10) T.data.toList (fun c hc=>by
    have:=D c hc;unfold Q.Ey at this;have:=of_decide_eq_true this;exact⟨this.1,by omega⟩)
   have h2:10 ^ T.data.toList.length<=10 ^ 6:=J3 (by decide) H;rw[p3,Xo];omega
  have HP:=Hd (And.intro D p3);clear p1 D p3 Z;obtain⟨x,hx⟩:∃ x:Int,x=(n:Nat):=⟨_,rfl⟩;rw[<-hx];have c6:0<=x:=by omega
  have c7:x<=999999:=by omega
  have j:=Hd hx;clear hx
  go_wp2_with fail
  rw[j.o];refine (D9 n _ hn (HT.o.next K.o)).mono ?_;rintro e w2 ⟨rfl,I⟩;rw[<-j.o];have O:=K.up I;obtain⟨X,J⟩:=O2 (Oy (64::Lib.itoa (n:Nat)));rw[<-j.o] at J;rw[J];have G:=Hd J;clear I J;have F:Hid (((X.toList==s.toList)=true↔ownP s.data.toList)/\((X.toList==s.toList)=true->n=Q.N7 (s.data.toList.drop 1))):=by
   rw[Q.toList_inj];have hl:=Hd (V.o trivial);constructor
   ·rw[Y7];constructor
    ·intro e;rw[<-e,<-G.o,j.o,O4];exact QR (Ci hn).1
    intro h;obtain⟨h1,h2⟩:=ZT h;rw[<-G.o,j.o,HP.o.2];have Y:T.data.toList=s.data.toList.drop 1:=hl.o;rw[Y];exact h1
   intro _;have Y:T.data.toList=s.data.toList.drop 1:=hl.o;rw[HP.o.2,Y]
  go_wp2
  go_ret2
  exact⟨n,(X.toList==s.toList),(by rw[<-j.o];rfl),F.o.1,F.o.2,O.o⟩
 have E:Hid (¬ ownP s.data.toList):=fun h=>by
  have:=(U.o.2 h).2;exact D ⟨fun e=>by have h0:=this.1;rw[e] at h0;simp at h0,this.2.2.1⟩
 subst p1;clear D Z
 go_wp2
 go_ret2
 exact⟨0,false,rfl,⟨fun h=>(by cases h),fun h=>absurd h E.o⟩,fun h=>(by cases h),K.o⟩
end Go.Proofs.YtjjgilacnocigaaGreatDoor
