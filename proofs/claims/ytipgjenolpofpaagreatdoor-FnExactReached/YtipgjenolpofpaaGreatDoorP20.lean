import Derived.Test.YtipgjenolpofpaaGreatDoorP19
import Derived.Deep.QuietTactic
import Derived.BigQuiet
import Derived.Laws.Bits64b
import Derived.Deep.RegionWith
set_option maxRecDepth 100000
set_option maxHeartbeats 104857600
namespace Go.Proofs.YtipgjenolpofpaaGreatDoor
open ChangeShapes WideShapes ChangeAt RowKit Proofs.Tryz
theorem ZN (own:List UInt8->Bool)(t:List UInt8):(Od own t).kind=0->Od own t=SI.none:=by
 unfold Od
 split
 ·intro h;exact absurd h (by decide)
 split
 ·intro h;exact absurd h (by decide)
 split
 ·intro h;exact absurd h (by decide)
 split
 ·intro h;exact absurd h (by show ¬ (4:Int)=0;decide)
 split
 ·split
  ·intro h;exact absurd h (by decide)
  intro _;rfl
 intro _;rfl
theorem Dc (w:World):Calls prog 97 #[N9 SI.none] w fun e w'=>e=.returned (.bool false)/\Below w.heap.size w w':=by
 show Calls prog 97 #[.agg #[.int .i64 0,.int .i64 0,.string ⟨#[]⟩,.string ⟨#[]⟩]] w _
 go_in
 go_wp2
 go_ret
 exact⟨rfl,Oy _ _⟩
theorem Df (X:SI)(w:World)(h0:¬ X.kind=0)(h:0<=X.kind/\X.kind<=5):Calls prog 97 #[N9 X] w fun e w'=>e=.returned (.bool (O0 X))/\Below w.heap.size w w':=by
 have j:Hid (O0 X=decide (¬ X.kind=1)):=by
  unfold Hid O0;rw[Yb,J3,Js,Js,Js];omega
 unfold N9;have z0:(X.kind==0)=false:=by rw[Jc];exact h0
 have G:=Eo (a:=X.kind) (b:=6) (by omega);have E:¬ X.kind=6:=by omega
 by_cases d:X.kind=1
 ·have A:=N3 d
  go_in
  go_wp2
  go_ret
  exact⟨Oz (by rw[j.o,Jg (by omega)]),Oy _ _⟩
 have A:=Eo d
 go_in
 go_wp2
 go_ret
 exact⟨Oz (by rw[j.o,Jb d]),Oy _ _⟩
theorem C8 (own:List UInt8->Bool)(t:List UInt8)(w:World):Calls prog 97 #[N9 (Od own t)] w fun e w'=>e=.returned (.bool (O0 (Od own t)))/\Below w.heap.size w w':=by
 by_cases h:(Od own t).kind=0
 ·rw[ZN own t h];exact Dc w
 exact Df _ w h (H8 own t)
theorem Rn (r:List UInt8)(c:UInt8):Lib.hasSuffix r [c]=decide (r.getLast? = some c):=by
 unfold Lib.hasSuffix;rw[Yb,Js,List.isSuffixOf_iff_suffix];constructor
 ·rintro⟨a,e⟩;rw[<-e];exact Vd
 intro h;obtain⟨d,e⟩:=Zs.1 h;exact⟨d,e.symm⟩
theorem VM {r:List UInt8}{c:UInt8}(h:r.getLast? = some c):Lib.trimSuffix r [c]=r.dropLast:=by
 unfold Lib.trimSuffix;rw[Rn,Jb h,List.dropLast_eq_take];rfl
theorem Fc {r:List UInt8}(h:r.getLast? = some 41):(r.dropLast.take 1=[32])↔(r.head? = some 32/\2<=r.length):=by
 obtain⟨ys,rfl⟩:=Zs.1 h;rw[Vc]
 cases ys with
 | nil=>simp
 | cons c ys=>simp
theorem ZI {own:List UInt8->Bool}{t:List UInt8}(h:t.take 7≠K4):Ov own t=Od own t:=by unfold Ov;rw[if_neg h]
theorem Fb {own:List UInt8->Bool}{t:List UInt8}(h:t.take 7=K4){I R:List UInt8}(hI:(t.drop 7).take (K3 (t.drop 7))=I)(hR:(t.drop 7).drop (K3 (t.drop 7))=R)(hc:¬ R.getLast? = some 41∨¬ R.dropLast.take 1=[32]):Ov own t=SI.none:=by
 unfold Ov;rw[if_pos h];simp only[hI,hR];rw[if_neg];rintro⟨d,j,h3⟩
 rcases hc with hc|hc
 ·exact hc h3
 exact hc ((Fc h3).2 ⟨d,j⟩)
theorem ZX {own:List UInt8->Bool}{t:List UInt8}(h:t.take 7=K4){I R E:List UInt8}(hI:(t.drop 7).take (K3 (t.drop 7))=I)(hR:(t.drop 7).drop (K3 (t.drop 7))=R)(hc:R.getLast? = some 41)(hp:R.dropLast.take 1=[32])(hE:R.dropLast.drop 1=E):Ov own t=if O0 (Od own I)&&O0 (Od own E) then ⟨6,0,I,E⟩ else SI.none:=by
 unfold Ov;rw[if_pos h];simp only[hI,hR];have d:=(Fc hc).1 hp;rw[if_pos ⟨d.1,d.2,hc⟩];have e:(R.drop 1).dropLast=E:=by rw[<-hE];simp[List.dropLast_eq_take,List.drop_take]
 rw[e]
theorem GC {t:List UInt8}(h:t.take 7=K4):Lib.trimPrefix t K4=t.drop 7:=by
 unfold Lib.trimPrefix;rw[Ei,Jb (by exact h)];rfl
theorem K9 (s:ByteArray)(w:World)(hs:s.size<=1048576) :
 Calls prog 76 #[.string s] w fun e w'=>e=.returned (.string s)/\Below w.heap.size w w':=by
 go_in
 go_wp2_with fail
 refine (Tryz.stringslite_Clone s _ (by omega)).mono ?_;rintro e h ⟨rfl,hb⟩;have d:=Hd hb;clear hb
 go_wp2
 go_ret
 exact⟨rfl,d.o⟩
theorem L4 (kb b:Nat)(f:List UInt8->Option Nat)(s:ByteArray)(w:World)(hs:s.size<=1048576)(hev:EV w)(hc:w.cell? ⟨kb,3,none⟩=some (.map (some b)))(hm:G0 w b f)(hb:b<w.heap.size) :
 Calls prog 115 #[.string s,PN kb] w fun e w'=>e=.returned (N9 (Ov (Oh f) s.data.toList))/\Below w.heap.size w w':=by
 have g8:kb<w.heap.size:=Ye w _ hc;have g1:=Hd hev;have HC:=Hd hc;have HM:=Hd hm;clear hev hc hm;have HV:Hid (PN kb=.func (.func 116) #[.pointer (some ⟨kb,0,none⟩)] #[]):=rfl;have E:Hid (∀ (s':ByteArray) (W:World),s'.size<=1048576->Below w.heap.size w W->Calls prog 135 #[.string s',.func (.func 116) #[.pointer (some ⟨kb,0,none⟩)] #[]] W fun e w'=>e=.returned (N9 (Od (Oh f) s'.data.toList))/\Below W.heap.size W w'):=fun s' W h1 h2=>
  Ak kb b f s' W h1 (g1.o.next h2) ((h2.cell (p:=⟨kb,3,none⟩) g8).trans HC.o) (HM.o.bl h2 hb) (Jz hb h2.size)
 rw[HV.o];clear HV
 by_cases hp:s.data.toList.take 7=K4
 ·have d0:Hid (Lib.hasPrefix s.data.toList K4=true):=by unfold Hid;rw[Ei];exact Jb hp
  have g3:=Hd (GC hp);have d1:=Hd hp;clear hp
  go_in
  go_wp2_with fail
  refine (Tryz.strings_CutPrefix s ⟨#[40,65,114,114,97,121,32]⟩ _).mono ?_;generalize j:w.alloc (.cells #[.int .i64 0,.int .i64 0,.string ⟨#[]⟩,.string ⟨#[]⟩] 110)=W1
  change ∀ (e:Ending) (w':World),(e=.returned (.tuple #[.string ⟨(Lib.trimPrefix s.data.toList K4).toArray⟩,.bool (Lib.hasPrefix s.data.toList K4)])/\w'=W1)->_
  rw[d0.o,g3.o];rintro e U ⟨rfl,rfl⟩;subst j;obtain⟨D,hD⟩:∃ D:ByteArray,(⟨(s.data.toList.drop 7).toArray⟩:ByteArray)=D:=⟨_,rfl⟩;have HD:Hid (D.data.toList=s.data.toList.drop 7):=by unfold Hid;rw[<-hD]
  have i8:D.size<=1048576:=by rw[<-Ol,HD.o,Zb,Ol];omega
  rw[hD];clear hD
  go_wp2_with fail
  refine (Rt D _ (by omega)).mono ?_;obtain⟨k,hk⟩:=O1 (K3 D.data.toList);have HK:=Hd hk;have j1:k<=D.size:=by rw[<-hk,<-Ol];exact KF _
  rw[hk];clear hk;rintro e U ⟨rfl,rfl⟩
  go_wp2_with fail
  have d9:(D.extract 0 k).size<=1048576:=by rw[Ym];omega
  have HI:Hid ((s.data.toList.drop 7).take (K3 (s.data.toList.drop 7))=(D.extract 0 k).data.toList):=by
   unfold Hid;rw[Hj,Y5,<-HD.o,HK.o]
  have g6:(D.extract k D.size).size<=1048576:=by rw[Ym];omega
  have b7:Hid ((s.data.toList.drop 7).drop (K3 (s.data.toList.drop 7))=(D.extract k D.size).data.toList):=by
   unfold Hid;rw[Hj,Jn (by rw[Ol];omega),<-HD.o,HK.o]
  generalize D.extract 0 k=h at HI d9 ⊢;generalize D.extract k D.size=R at b7 g6 ⊢;refine (Tryz.strings_CutSuffix R ⟨#[41]⟩ _ (by omega)).mono ?_;generalize j:w.alloc (.cells #[.int .i64 0,.int .i64 0,.string ⟨#[]⟩,.string ⟨#[]⟩] 110)=W1
  change ∀ (e:Ending) (w':World),(e=.returned (.tuple #[.string (Oo (Lib.trimSuffix R.data.toList [41])),.bool (Lib.hasSuffix R.data.toList [41])])/\w'=W1)->_
  by_cases G:R.data.toList.getLast? = some 41
  ·rw[VM G,Rn,Jb G];rintro e U ⟨rfl,rfl⟩;subst j;have f8:=Hd G;clear G;obtain⟨Z,hZ⟩:=O1 (Oo R.data.toList.dropLast);have HZ:Hid (Z.data.toList=R.data.toList.dropLast):=by unfold Hid;rw[<-hZ,Ou]
   have j0:Z.size<=1048576:=by rw[<-Ol,HZ.o,List.length_dropLast,Ol];omega
   rw[hZ];clear hZ
   go_wp2_with fail
   refine (Tryz.strings_CutPrefix Z ⟨#[32]⟩ _).mono ?_;generalize j:w.alloc (.cells #[.int .i64 0,.int .i64 0,.string ⟨#[]⟩,.string ⟨#[]⟩] 110)=W1
   change ∀ (e:Ending) (w':World),(e=.returned (.tuple #[.string (Oo (Lib.trimPrefix Z.data.toList [32])),.bool (Lib.hasPrefix Z.data.toList [32])])/\w'=W1)->_
   by_cases O:Z.data.toList.take 1=[32]
   ·have J:Lib.hasPrefix Z.data.toList [32]=true:=by rw[Ei];exact Jb O
    have e2:Lib.trimPrefix Z.data.toList [32]=Z.data.toList.drop 1:=by unfold Lib.trimPrefix;rw[J];rfl
    rw[J,e2];rintro e U ⟨rfl,rfl⟩;subst j;obtain⟨M,d4⟩:=O1 (Oo (Z.data.toList.drop 1));have d6:Hid (M.data.toList=Z.data.toList.drop 1):=by unfold Hid;rw[<-d4,Ou]
    have g5:M.size<=1048576:=by rw[<-Ol,d6.o,Zb,Ol];omega
    have HE:Hid (Ov (Oh f) s.data.toList=if O0 (Od (Oh f) h.data.toList)&&O0 (Od (Oh f) M.data.toList) then ⟨6,0,h.data.toList,M.data.toList⟩ else SI.none):=ZX d1.o HI.o b7.o f8.o (by rw[<-HZ.o];exact O) (by rw[d6.o,HZ.o]);rw[d4];clear d4 J e2 O
    go_wp2_with fail
    refine (E.o h _ d9 (Oy _ _)).mono ?_;rintro e U ⟨rfl,Y⟩;have b8:Hid (Below (w.heap.size+1) (w.alloc (.cells #[.int .i64 0,.int .i64 0,.string ⟨#[]⟩,.string ⟨#[]⟩] 110)) U):=CC Y
    clear Y
    go_wp2_with fail
    refine (C8 (Oh f) h.data.toList _).mono ?_
    cases c6:O0 (Od (Oh f) h.data.toList)
    ·have HR:Hid (Ov (Oh f) s.data.toList=SI.none):=by unfold Hid;rw[HE.o,c6];rfl
     rintro e w2 ⟨rfl,a8⟩;have K:Hid (Below (w.heap.size+1) (w.alloc (.cells #[.int .i64 0,.int .i64 0,.string ⟨#[]⟩,.string ⟨#[]⟩] 110)) w2):=b8.o.trans (a8.mono (by have:=b8.o.size;rw[Ji] at this;exact this));have d:=Hd (Lr K.o);have A:Hid (Below w.heap.size w w2):=(Oy w _).trans (K.o.mono (by omega));obtain⟨c0,c1,c2,c3⟩:=d.o.c4;obtain⟨f0,f1,f2,f3⟩:=d.o.f4;clear a8 c6;generalize N9 (Od (Oh f) h.data.toList)=V1
     go_wp2_with fail
     have I:=((((d.o.set 0 (.int .i64 0)).set 1 (.int .i64 0)).set 2 (.string ⟨#[]⟩)).set 3 (.string ⟨#[]⟩));obtain⟨e0,J,e2,e3⟩:=I.c4;refine Jj (v:=.agg #[.int .i64 0,.int .i64 0,.string ⟨#[]⟩,.string ⟨#[]⟩]) ?_ rfl ⟨O4 (by rw[HR.o];rfl),?_⟩
     ·clear c0 c1 c2 c3 f0 f1 f2 f3;simp[results,results115,go_sem,e0,J,e2,e3]
     exact (((A.o.sc).sc).sc).sc
    have g2:=Hd c6;rintro e w2 ⟨rfl,a8⟩;have K:Hid (Below (w.heap.size+1) (w.alloc (.cells #[.int .i64 0,.int .i64 0,.string ⟨#[]⟩,.string ⟨#[]⟩] 110)) w2):=b8.o.trans (a8.mono (by have:=b8.o.size;rw[Ji] at this;exact this));clear a8 c6;generalize N9 (Od (Oh f) h.data.toList)=V1
    go_wp2_with fail
    refine (E.o M _ g5 ((Oy w _).trans (K.o.mono (by omega)))).mono ?_;rintro e w3 ⟨rfl,e4⟩;have b9:Hid (Below (w.heap.size+1) (w.alloc (.cells #[.int .i64 0,.int .i64 0,.string ⟨#[]⟩,.string ⟨#[]⟩] 110)) w3):=K.o.trans (e4.mono (by have:=K.o.size;rw[Ji] at this;exact this));clear e4
    go_wp2_with fail
    refine (C8 (Oh f) M.data.toList _).mono ?_
    cases c8:O0 (Od (Oh f) M.data.toList)
    ·have HR:Hid (Ov (Oh f) s.data.toList=SI.none):=by unfold Hid;rw[HE.o,c8,Y0];rfl
     rintro e w4 ⟨rfl,b3⟩;have V:Hid (Below (w.heap.size+1) (w.alloc (.cells #[.int .i64 0,.int .i64 0,.string ⟨#[]⟩,.string ⟨#[]⟩] 110)) w4):=b9.o.trans (b3.mono (by have:=b9.o.size;rw[Ji] at this;exact this));have d:=Hd (Lr V.o);have A:Hid (Below w.heap.size w w4):=(Oy w _).trans (V.o.mono (by omega));obtain⟨c0,c1,c2,c3⟩:=d.o.c4;obtain⟨f0,f1,f2,f3⟩:=d.o.f4;clear b3 c8;generalize N9 (Od (Oh f) M.data.toList)=V2
     go_wp2_with fail
     have I:=((((d.o.set 0 (.int .i64 0)).set 1 (.int .i64 0)).set 2 (.string ⟨#[]⟩)).set 3 (.string ⟨#[]⟩));obtain⟨e0,J,e2,e3⟩:=I.c4;refine Jj (v:=.agg #[.int .i64 0,.int .i64 0,.string ⟨#[]⟩,.string ⟨#[]⟩]) ?_ rfl ⟨O4 (by rw[HR.o];rfl),?_⟩
     ·clear c0 c1 c2 c3 f0 f1 f2 f3;simp[results,results115,go_sem,e0,J,e2,e3]
     exact (((A.o.sc).sc).sc).sc
    have HR:Hid (Ov (Oh f) s.data.toList=⟨6,0,h.data.toList,M.data.toList⟩):=by unfold Hid;rw[HE.o,g2.o,c8];rfl
    rintro e w4 ⟨rfl,b3⟩;have V:Hid (Below (w.heap.size+1) (w.alloc (.cells #[.int .i64 0,.int .i64 0,.string ⟨#[]⟩,.string ⟨#[]⟩] 110)) w4):=b9.o.trans (b3.mono (by have:=b9.o.size;rw[Ji] at this;exact this));clear b3 c8;generalize N9 (Od (Oh f) M.data.toList)=V2
    go_wp2_with fail
    refine (K9 h _ (by omega)).mono ?_;rintro e w5 ⟨rfl,e5⟩;have d7:Hid (Below (w.heap.size+1) (w.alloc (.cells #[.int .i64 0,.int .i64 0,.string ⟨#[]⟩,.string ⟨#[]⟩] 110)) w5):=V.o.trans (e5.mono (by have:=V.o.size;rw[Ji] at this;exact this));clear e5
    go_wp2_with fail
    refine (K9 M _ (by omega)).mono ?_;rintro e w6 ⟨rfl,e6⟩;have d8:Hid (Below (w.heap.size+1) (w.alloc (.cells #[.int .i64 0,.int .i64 0,.string ⟨#[]⟩,.string ⟨#[]⟩] 110)) w6):=d7.o.trans (e6.mono (by have:=d7.o.size;rw[Ji] at this;exact this));have d:=Hd (Lr d8.o);have A:Hid (Below w.heap.size w w6):=(Oy w _).trans (d8.o.mono (by omega));obtain⟨c0,c1,c2,c3⟩:=d.o.c4;obtain⟨f0,f1,f2,f3⟩:=d.o.f4;clear e6
    go_wp2_with fail
    have I:=((((d.o.set 0 (.int .i64 6)).set 1 (.int .i64 0)).set 2 (.string h)).set 3 (.string M));obtain⟨e0,J,e2,e3⟩:=I.c4;refine Jj (v:=.agg #[.int .i64 6,.int .i64 0,.string h,.string M]) ?_ rfl ⟨O4 (by rw[HR.o];unfold N9;rw[Ko,Ko];rfl),?_⟩
    ·clear c0 c1 c2 c3 f0 f1 f2 f3;simp[results,results115,go_sem,e0,J,e2,e3]
    exact (((A.o.sc).sc).sc).sc
   have HR:Hid (Ov (Oh f) s.data.toList=SI.none):=Fb d1.o HI.o b7.o (.inr (by rw[<-HZ.o];exact O));have J:Lib.hasPrefix Z.data.toList [32]=false:=by rw[Ei];exact Jg O
   rw[J];rintro e U ⟨rfl,rfl⟩;subst j;clear J O;generalize Oo (Lib.trimPrefix Z.data.toList [32])=Z2
   go_wp2_with fail
   refine Jj (v:=.agg #[.int .i64 0,.int .i64 0,.string ⟨#[]⟩,.string ⟨#[]⟩]) ?_ rfl ⟨O4 (by rw[HR.o];rfl),Oy _ _⟩;simp[results,results115,go_sem]
  have HR:Hid (Ov (Oh f) s.data.toList=SI.none):=Fb d1.o HI.o b7.o (.inl G);have e0:Lib.hasSuffix R.data.toList [41]=false:=by rw[Rn];exact Jg G
  rw[e0];rintro e U ⟨rfl,rfl⟩;subst j;clear e0 G;generalize Oo (Lib.trimSuffix R.data.toList [41])=Z
  go_wp2_with fail
  refine (Tryz.strings_CutPrefix Z ⟨#[32]⟩ _).mono ?_;rintro e U ⟨rfl,rfl⟩;generalize Lib.hasPrefix Z.data.toList (ByteArray.mk #[32]).data.toList=B2;generalize (⟨(Lib.trimPrefix Z.data.toList (ByteArray.mk #[32]).data.toList).toArray⟩:ByteArray)=Z2
  go_wp2_with fail
  refine Jj (v:=.agg #[.int .i64 0,.int .i64 0,.string ⟨#[]⟩,.string ⟨#[]⟩]) ?_ rfl ⟨O4 (by rw[HR.o];rfl),Oy _ _⟩;simp[results,results115,go_sem]
 have F:Hid (Ov (Oh f) s.data.toList=Od (Oh f) s.data.toList):=ZI hp;have d0:Hid (Lib.hasPrefix s.data.toList K4=false):=by unfold Hid;rw[Ei];exact Jg hp
 clear hp
 go_in
 go_wp2_with fail
 refine (Tryz.strings_CutPrefix s ⟨#[40,65,114,114,97,121,32]⟩ _).mono ?_;generalize j:w.alloc (.cells #[.int .i64 0,.int .i64 0,.string ⟨#[]⟩,.string ⟨#[]⟩] 110)=W1
 change ∀ (e:Ending) (w':World),(e=.returned (.tuple #[.string ⟨(Lib.trimPrefix s.data.toList K4).toArray⟩,.bool (Lib.hasPrefix s.data.toList K4)])/\w'=W1)->_
 rw[d0.o];rintro e U ⟨rfl,rfl⟩;generalize (⟨(Lib.trimPrefix s.data.toList K4).toArray⟩:ByteArray)=D;subst j
 go_wp2_with fail
 refine (E.o s _ hs (Oy _ _)).mono ?_;obtain⟨X,hX⟩:=O1 (Od (Oh f) s.data.toList);rw[hX] at F ⊢;clear hX;rintro e U ⟨rfl,Y⟩;have a7:Below (w.heap.size+1) (w.alloc (.cells #[.int .i64 0,.int .i64 0,.string ⟨#[]⟩,.string ⟨#[]⟩] 110)) U:=CC Y
 have d:=Hd (Lr a7);have A:Hid (Below w.heap.size w U):=(Oy w _).trans (a7.mono (by omega));obtain⟨c0,c1,c2,c3⟩:=d.o.c4;obtain⟨f0,f1,f2,f3⟩:=d.o.f4;clear Y a7;unfold N9
 go_wp2_with fail
 have I:=((((d.o.set 0 (.int .i64 X.kind)).set 1 (.int .i64 (X.width:Nat))).set 2 (.string (Oo X.index))).set 3 (.string (Oo X.elem)));obtain⟨e0,J,e2,e3⟩:=I.c4;refine Jj (v:=.agg #[.int .i64 X.kind,.int .i64 (X.width:Nat),.string (Oo X.index),.string (Oo X.elem)]) ?_ rfl ⟨O4 (by rw[F.o];rfl),?_⟩
 ·clear c0 c1 c2 c3 f0 f1 f2 f3;simp[results,results115,go_sem,e0,J,e2,e3]
 exact (((A.o.sc).sc).sc).sc
end Go.Proofs.YtipgjenolpofpaaGreatDoor
namespace Go.Proofs.YtipgjenolpofpaaGreatDoor
open ChangeShapes WideShapes ChangeAt RowKit
theorem K5 {k:IntKind}{a b:Int}(h:a=b):Ending.returned (.int k a)=.returned (.int k b):=by rw[h]
structure Bar (g:Nat)(w w':World):Prop where
 os:w'.os=w.os
 tape:w'.tape=w.tape
 output:w'.output=w.output
 size:w.heap.size<=w'.heap.size
 block:∀ k,k<w.heap.size->k≠g->w'.heap[k]? = w.heap[k]?
theorem Bar.refl (g:Nat)(w:World):Bar g w w:=⟨rfl,rfl,rfl,Of,fun _ _ _=>rfl⟩
theorem Bar.trans {g:Nat}{a b c:World}(h:Bar g a b)(k:Bar g b c):Bar g a c:=
 ⟨k.os.trans h.os,k.tape.trans h.tape,k.output.trans h.output,Yk h.size k.size,fun i hi hg=>(k.block i (Jz hi h.size) hg).trans (h.block i hi hg)⟩
theorem Bar.of {g:Nat}{w w':World}(h:Up w w'):Bar g w w':=⟨h.os,h.tape,h.output,h.size,fun k hk _=>h.block k hk⟩
theorem Bar.bl {g N:Nat}{w w':World}(h:Bar g w w')(hN:N<=g)(hw:N<=w.heap.size):Below N w w':=⟨h.os,h.tape,h.output,h.size,fun k hk=>h.block k (by omega) (by omega)⟩
theorem Bar.setCell (g i:Nat)(w:World)(v:Value):Bar g w (w.setCell ⟨g,i,none⟩ v):=
 ⟨rfl,rfl,rfl,by simp[World.setCell],fun k _ hk=>Jq _ _ _ _ hk⟩
theorem Bar.drew {g:Nat}{w w':World}(h:Bar g w w'):Bar g w w'.drew:=⟨h.os,h.tape,h.output,h.size,h.block⟩
theorem Bar.cell {g:Nat}{w w':World}(h:Bar g w w'){p:Addr}(hp:p.block<w.heap.size)(hg:p.block≠g):w'.cell? p=w.cell? p:=by
 unfold World.cell?;rw[h.block p.block hp hg]
def Be (g N:Nat)(w:World)(a:Option Addr)(n cap:Nat):Prop:=n<=cap/\cap<=maxLen/\∀ i,i<n->∃ b off v:Nat,a=some ⟨b,off,none⟩/\b≠g/\b<N/\v<256/\w.cell? ⟨b,off+i,none⟩=some (.int .u8 v)
theorem Be.bar {g N:Nat}{w w':World}{a:Option Addr}{n cap:Nat}(h:Be g N w a n cap)(hN:N<=w.heap.size)(hb:Bar g w w'):Be g N w' a n cap:=
 ⟨h.1,h.2.1,fun i hi=>by
  obtain⟨b,d,v,e,j,A,h3,h4⟩:=h.2.2 i hi
  exact⟨b,d,v,e,j,A,h3,(hb.cell (p:=⟨b,d+i,none⟩) (Jz A hN) j).trans h4⟩⟩
def GT (g N:Nat)(w:World)(k:Nat):Prop:=g<N/\N<=w.heap.size/\∃ a n cap sd,Bx w g [.slice a n cap,.int .i64 (k:Nat),.int .u64 (sd:Nat)]/\sd<18446744073709551616/\Be g N w a n cap
theorem GT.bl {g N k:Nat}{w w':World}(h:GT g N w k)(hb:Below N w w'):GT g N w' k:=by
 obtain⟨A,J,a,n,cap,O,M,K,hc⟩:=h;refine⟨A,Yk J hb.size,a,n,cap,O,M.bl A hb,K,hc.1,hc.2.1,fun i hi=>?_⟩;obtain⟨b,d,v,e,E,j,G,I⟩:=hc.2.2 i hi;exact⟨b,d,v,e,E,j,G,(hb.cell (p:=⟨b,d+i,none⟩) j).trans I⟩
theorem Bar.grownBy {g:Nat}{w w':World}(h:Bar g w w'):w.grownBy w' (some g):=⟨h.os,h.tape,h.output,h.size,fun k hk hne=>h.block k hk (fun e=>hne (by rw[e]))⟩
theorem Bar.then {g:Nat}{w a b:World}(h:Bar g w a)(k:Below w.heap.size a b):Bar g w b:=
 ⟨k.os.trans h.os,k.tape.trans h.tape,k.output.trans h.output,Yk h.size k.size,fun i hi hg=>(k.block i hi).trans (h.block i hi hg)⟩
theorem Bx.bar {W W':World}{b g:Nat}{l:List Value}(h:Bx W b l)(hb:Bar g W W')(hg:b≠g):Bx W' b l:=by
 obtain⟨t,h⟩:=h;exact⟨t,(hb.block b (J1.1 h).1 hg).trans h⟩
def Bk (w:World)(a:Option Addr)(n cap:Nat):Prop:=n<=cap/\cap<=maxLen/\∀ i,i<n->∃ b off v:Nat,a=some ⟨b,off,none⟩/\b<w.heap.size/\v<256/\w.cell? ⟨b,off+i,none⟩=some (.int .u8 v)
theorem Bk.bl {w w':World}{a:Option Addr}{n cap:Nat}(h:Bk w a n cap)(hb:Up w w'):Bk w' a n cap:=
 ⟨h.1,h.2.1,fun i hi=>by
  obtain⟨b,d,v,e,j,A,h3⟩:=h.2.2 i hi
  exact⟨b,d,v,e,Jz j hb.size,A,(hb.cell (p:=⟨b,d+i,none⟩) j).trans h3⟩⟩
end Go.Proofs.YtipgjenolpofpaaGreatDoor
namespace Go.Proofs.YtipgjenolpofpaaGreatDoor
open ChangeShapes WideShapes ChangeAt RowKit Proofs.Tryz
def KM (w:World)(b n:Nat)(g:List UInt8->Option SI):Prop:=
 ∃ D:DataW Unit,w.ownsMap prog 9 X9 b n D/\∀ s,Maps.has D (.string s)=(g s).isSome/\D.atKey (.string s) (GS SI.none)=GS ((g s).getD SI.none)
def DZ (g:List UInt8->Option SI)(s:List UInt8)(x:SI):List UInt8->Option SI:=fun t=>if t=s then some x else g t
theorem Xk {s:List UInt8}:WideAt.IsKeyLit (.string s):=by simp[WideAt.IsKeyLit]
theorem KM.put {w:World}{b n:Nat}{g:List UInt8->Option SI}{D:DataW Unit}(hD:∀ s,Maps.has D (.string s)=(g s).isSome/\D.atKey (.string s) (GS SI.none)=GS ((g s).getD SI.none))(hm:Maps.IsMap D){s:List UInt8}{x:SI}(hown:w.ownsMap prog 9 X9 b n (D.put (.string s) (GS x))):KM w b n (DZ g s x):=by
 refine⟨_,hown,fun t=>?_⟩;unfold DZ
 by_cases h:t=s
 ·subst h;rw[if_pos rfl];exact⟨Maps.has_put_same hm Xk _,Maps.atKey_put_same hm Xk _ _⟩
 rw[if_neg h];have d:(Lit.string t)≠Lit.string s:=fun e=>h (by cases e;rfl);rw[Maps.has_put_other d,Maps.atKey_put_other d];exact hD t
theorem KM.bar {w w':World}{b n c:Nat}{g:List UInt8->Option SI}(h:KM w b n g)(hb:Bar c w w')(hc:b≠c):KM w' b n g:=by
 obtain⟨D,⟨E,A,j,I⟩,G⟩:=h;have d:b<w.heap.size:=(J1.1 j).1;exact⟨D,⟨E,A,(hb.block b d hc).trans j,I⟩,G⟩
theorem KM.lt {w:World}{b n:Nat}{g:List UInt8->Option SI}(h:KM w b n g):b<w.heap.size:=by
 obtain⟨D,⟨A,j,d,G⟩,E⟩:=h;exact (J1.1 d).1
theorem UW {b:Nat}{w w1 w':World}(h:Bar b w w1)(hg:w1.grownBy w' (some b)):Bar b w w':=
 ⟨hg.os.trans h.os,hg.tape.trans h.tape,hg.output.trans h.output,Yk h.size hg.size,fun k hk hne=>(hg.block k (Jz hk h.size) (by intro e;exact hne (Option.some.inj e))).trans (h.block k hk hne)⟩
theorem KM.low {w w':World}{b n N:Nat}{g:List UInt8->Option SI}(h:KM w b n g)(hb:Below N w w')(hN:b<N):KM w' b n g:=by
 obtain⟨D,⟨j,d,G,E⟩,A⟩:=h;exact⟨D,⟨j,d,(hb.block b hN).trans G,E⟩,A⟩
theorem KM.more {w:World}{b n:Nat}{g:List UInt8->Option SI}(h:KM w b n g):KM w b (n+1) g:=by
 obtain⟨D,j,d⟩:=h;exact⟨D,j.mono (by omega),d⟩
theorem Cm {w w':World}{b c:Nat}{l:List Value}(h:Bx w b l)(hg:w.grownBy w' (some c))(hne:b≠c):Bx w' b l:=by
 have d:=h.lt;obtain⟨t,h⟩:=h;exact⟨t,(hg.block b d (by intro e;exact hne (Option.some.inj e))).trans h⟩
def VT (f:List UInt8->Option Nat)(g:List UInt8->Option SI):Prop:=∀ s x,g s=some x->x=Ov (Oh f) s
theorem Ai (kb gb n:Nat)(f:List UInt8->Option Nat)(g:List UInt8->Option SI)(s:ByteArray)(x:SI)(w:World)(hs:s.size<=1048576)(hc6:w.cell? ⟨kb,6,none⟩=some (.map (some gb)))(hk:KM w gb n g)(hok:VT f g)(hg:g s.data.toList=some x) :
 Calls prog 98 #[.pointer (some ⟨kb,0,none⟩),.string s] w fun e w'=>e=.returned (N9 (Ov (Oh f) s.data.toList))/\Up w w':=by
 have O:kb<w.heap.size:=Ye w _ hc6;have M:Hid (x=Ov (Oh f) s.data.toList):=hok _ _ hg;obtain⟨D,d,J⟩:=hk;have j:=Hd (d.alloc (.cells #[.int .i64 0,.int .i64 0,.string ⟨#[]⟩,.string ⟨#[]⟩] 110));have I:=Hd J;have K:=Hd hg;clear d J hok hg
 go_in
 go_wp2_with (at_lookup;refine wpList_lookup_own_ok _ rfl _ _ 88 rfl 9 110 Il underlying88 X9 (z:=N9 SI.none) ?z (GS SI.none) [] (P2 _) gb n D rfl j.o _ _ rfl (N0 s (by unfold maxLen;omega)) ?_)
 case z=>rfl
 intro v U G;have E:=(I.o s.data.toList).1;have h:=(I.o s.data.toList).2;rw[K.o] at E h;rw[h] at G;have A:=F4 G;rw[E,A,show N9 ((some x:Option SI).getD SI.none)=Value.agg #[.int .i64 x.kind,.int .i64 (x.width:Nat),.string (Oo x.index),.string (Oo x.elem)] from rfl,show (some x:Option SI).isSome=true from rfl];clear G h A E
 go_wp2_with fail
 refine Jj (v:=.agg #[.int .i64 x.kind,.int .i64 (x.width:Nat),.string (Oo x.index),.string (Oo x.elem)]) ?_ rfl ⟨O4 (by rw[<-M.o];rfl),((Jh _ _).alloc Of _).alloc (by rw[Ji];omega) _⟩;simp[results,results98,go_sem]
theorem VO (kb sb gb n:Nat)(f:List UInt8->Option Nat)(g:List UInt8->Option SI)(s:ByteArray)(w:World)(hs:s.size<=1048576)(hn:n<=1000000000)(hev:EV w)(hc3:w.cell? ⟨kb,3,none⟩=some (.map (some sb)))(hc6:w.cell? ⟨kb,6,none⟩=some (.map (some gb)))(hm:G0 w sb f)(hsb:sb<w.heap.size)(hk:KM w gb n g)(hok:VT f g)(hg:g s.data.toList=none) :
 Calls prog 98 #[.pointer (some ⟨kb,0,none⟩),.string s] w fun e w'=>∃ g',e=.returned (N9 (Ov (Oh f) s.data.toList))/\KM w' gb (n+1) g'/\VT f g'/\Bar gb w w':=by
 have d9:kb<w.heap.size:=Ye w _ hc6;have b5:gb<w.heap.size:=hk.lt;obtain⟨D,V,hD⟩:=hk;have A:=Hd V;have f5:=Hd (V.alloc (.cells #[.int .i64 0,.int .i64 0,.string ⟨#[]⟩,.string ⟨#[]⟩] 110));have HD:=Hd hD;have HG:=Hd hg;have e8:=Hd hok;have i6:=Hd hev;have HM:=Hd hm;have i1:=Hd hc3;clear V hD hok hg hev hm hc3
 go_in
 go_wp2_with (at_lookup;refine wpList_lookup_own_ok _ rfl _ _ 88 rfl 9 110 Il underlying88 X9 (z:=N9 SI.none) ?z (GS SI.none) [] (P2 _) gb n D rfl f5.o _ _ rfl (N0 s (by unfold maxLen;omega)) ?_)
 case z=>rfl
 intro v ps hv;have hh:=(HD.o s.data.toList).1;have e4:=(HD.o s.data.toList).2;rw[HG.o] at hh e4;rw[e4] at hv;have g8:=F4 hv;rw[hh,g8,show N9 ((none:Option SI).getD SI.none)=Value.agg #[.int .i64 0,.int .i64 0,.string ⟨#[]⟩,.string ⟨#[]⟩] from rfl,show (none:Option SI).isSome=false from rfl];clear hv e4 g8 hh
 go_wp2_with fail
 have J:Hid (Up w ((w.alloc (.cells #[.int .i64 0,.int .i64 0,.string ⟨#[]⟩,.string ⟨#[]⟩] 110)).alloc (.cells #[.int .i64 0,.int .i64 0,.string ⟨#[]⟩,.string ⟨#[]⟩] 110))):=((Jh _ _).alloc Of _).alloc (by rw[Ji];omega) _;refine (L4 kb sb f s _ hs (i6.o.next J.o) ((J.o.cell (p:=⟨kb,3,none⟩) d9).trans i1.o) (HM.o.bl J.o hsb) (Jz hsb J.o.size)).mono ?_;obtain⟨X,hX⟩:=O1 (Ov (Oh f) s.data.toList);have HX:=Hd hX;rw[hX];clear hX;rintro e w1 ⟨rfl,d8⟩;have j:Below (w.heap.size+2) ((w.alloc (.cells #[.int .i64 0,.int .i64 0,.string ⟨#[]⟩,.string ⟨#[]⟩] 110)).alloc (.cells #[.int .i64 0,.int .i64 0,.string ⟨#[]⟩,.string ⟨#[]⟩] 110)) w1:=by rw[Ji,Ji] at d8;exact d8
 have b4:Bx w1 w.heap.size [.int .i64 0,.int .i64 0,.string ⟨#[]⟩,.string ⟨#[]⟩]:=((Oi w [.int .i64 0,.int .i64 0,.string ⟨#[]⟩,.string ⟨#[]⟩] 110).alloc _).bl (N:=w.heap.size+2) (by omega) j;have O:=Oi (w.alloc (.cells #[.int .i64 0,.int .i64 0,.string ⟨#[]⟩,.string ⟨#[]⟩] 110)) [.int .i64 0,.int .i64 0,.string ⟨#[]⟩,.string ⟨#[]⟩] 110;rw[Ji] at O;have b3:Bx w1 (w.heap.size+1) [.int .i64 0,.int .i64 0,.string ⟨#[]⟩,.string ⟨#[]⟩]:=O.bl (N:=w.heap.size+2) (by omega) j;have b8:Up w w1:=J.o.trans (j.mono (by omega));have k0:w.heap.size+2<=w1.heap.size:=by have:=j.size;rw[Ji,Ji] at this;exact this
 clear d8 j O;obtain⟨r0,r1,r2,r3⟩:=b4.c4;obtain⟨q0,q1,q2,q3⟩:=b4.f4;obtain⟨c0,c1,c2,c3⟩:=b3.c4;obtain⟨f0,f1,f2,f3⟩:=b3.f4;have b6:=((((b3.set 0 (.int .i64 X.kind)).set 1 (.int .i64 (X.width:Nat))).set 2 (.string (Oo X.index))).set 3 (.string (Oo X.elem)));have b9:Up w ((((w1.setCell ⟨w.heap.size+1,0,none⟩ (.int .i64 X.kind)).setCell ⟨w.heap.size+1,1,none⟩ (.int .i64 (X.width:Nat))).setCell ⟨w.heap.size+1,2,none⟩ (.string (Oo X.index))).setCell ⟨w.heap.size+1,3,none⟩ (.string (Oo X.elem))):=(((b8.setCell (p:=⟨w.heap.size+1,0,none⟩) (by show w.heap.size<=w.heap.size+1;omega) _).setCell (p:=⟨w.heap.size+1,1,none⟩) (by show w.heap.size<=w.heap.size+1;omega) _).setCell (p:=⟨w.heap.size+1,2,none⟩) (by show w.heap.size<=w.heap.size+1;omega) _).setCell (p:=⟨w.heap.size+1,3,none⟩) (by show w.heap.size<=w.heap.size+1;omega) _;have b7:Bx ((((w1.setCell ⟨w.heap.size+1,0,none⟩ (.int .i64 X.kind)).setCell ⟨w.heap.size+1,1,none⟩ (.int .i64 (X.width:Nat))).setCell ⟨w.heap.size+1,2,none⟩ (.string (Oo X.index))).setCell ⟨w.heap.size+1,3,none⟩ (.string (Oo X.elem))) w.heap.size [.int .i64 0,.int .i64 0,.string ⟨#[]⟩,.string ⟨#[]⟩]:=
  b4.bl (N:=w.heap.size+1) (by omega) ((((Jh _ _).sc).sc).sc |>.sc)
 have a7:=Hd b6;have a8:=Hd b7;have d:=Hd b9;clear b3 b4 b6 b7 b8 b9;unfold N9
 by_cases G:X.kind=0
 ·have x0:(X.kind==0)=true:=by rw[Yc];exact G
  have x1:=N3 G;clear G
  go_wp2_with fail
  have e5:=((((a8.o.set 0 (.int .i64 X.kind)).set 1 (.int .i64 (X.width:Nat))).set 2 (.string (Oo X.index))).set 3 (.string (Oo X.elem)));obtain⟨e0,e1,e2,e3⟩:=e5.c4;have M:Up w _:=(((d.o.setCell (p:=⟨w.heap.size,0,none⟩) Of (.int .i64 X.kind)).setCell (p:=⟨w.heap.size,1,none⟩) Of (.int .i64 (X.width:Nat))).setCell (p:=⟨w.heap.size,2,none⟩) Of (.string (Oo X.index))).setCell (p:=⟨w.heap.size,3,none⟩) Of (.string (Oo X.elem));refine Jj (v:=.agg #[.int .i64 X.kind,.int .i64 (X.width:Nat),.string (Oo X.index),.string (Oo X.elem)]) ?_ rfl ⟨g,O4 (by rw[HX.o];rfl),?_,e8.o,Bar.of M⟩
  ·clear c0 c1 c2 c3 f0 f1 f2 f3 r0 r1 r2 r3 q0 q1 q2 q3;simp[results,results98,go_sem,e0,e1,e2,e3]
  obtain⟨es,cl,hm,hf⟩:=A.o.mono (n':=n+1) (by omega);exact⟨D,⟨es,cl,(M.block gb b5).trans hm,hf⟩,HD.o⟩
 have x0:(X.kind==0)=false:=by rw[Jc];exact G
 have x1:=Eo G;clear G
 go_wp2_with fail
 clear c0 c1 c2 c3 f0 f1 f2 f3 r0 r1 r2 r3 q0 q1 q2 q3;generalize ((((w1.setCell ⟨w.heap.size+1,0,none⟩ (.int .i64 X.kind)).setCell ⟨w.heap.size+1,1,none⟩ (.int .i64 (X.width:Nat))).setCell ⟨w.heap.size+1,2,none⟩ (.string (Oo X.index))).setCell ⟨w.heap.size+1,3,none⟩ (.string (Oo X.elem)))=W2 at a7 a8 d ⊢;have k6:W2.cell? ⟨kb,6,none⟩=some (.map (some gb)):=(d.o.cell (p:=⟨kb,6,none⟩) d9).trans hc6;have e9:Hid (W2.ownsMap prog 9 X9 gb n D):=by
  obtain⟨es,cl,hm,hf⟩:=A.o;exact⟨es,cl,(d.o.block gb b5).trans hm,hf⟩
 obtain⟨d0,d1,d2,d3⟩:=a7.o.c4;have i7:Hid (∀ w3,Up W2 w3->w3.cell? ⟨kb,6,none⟩=some (.map (some gb))/\Bx w3 (w.heap.size+1) [.int .i64 X.kind,.int .i64 (X.width:Nat),.string (Oo X.index),.string (Oo X.elem)]/\w3.ownsMap prog 9 X9 gb n D):=fun w3 h3=>
  ⟨(h3.cell (p:=⟨kb,6,none⟩) (Jz d9 d.o.size)).trans k6,a7.o.bl (a7.o.lt) h3,by
   obtain⟨es,cl,hm,hf⟩:=e9.o;exact⟨es,cl,(h3.block gb (Jz b5 d.o.size)).trans hm,hf⟩⟩
 go_region_with (go_at_call 76;refine (K9 s _ (by omega)).mono ?_;rintro e w3 ⟨rfl,I⟩;have K:Up W2 w3:=⟨I.os,I.tape,I.output,I.size,I.block⟩;obtain⟨j8,U,d4⟩:=i7.o w3 K;obtain⟨g0,g1,g2,g3⟩:=U.c4;obtain⟨w4,Z,Y,c6⟩:=d4.update Il underlying88 (by unfold maxLen;omega) (N0 s (by unfold maxLen;omega)) (P2 X);unfold N9 at Z;have e6:=Hd K;have i8:=Hd Y;have d7:=Hd c6;have e7:=Hd U;clear I K d4 Y c6 U)
 all_goals (
  have d5:Bx w3 w.heap.size [.int .i64 0,.int .i64 0,.string ⟨#[]⟩,.string ⟨#[]⟩]:=a8.o.bl a8.o.lt e6.o;have E:=Cm d5 d7.o (by omega);have c8:=Cm e7.o d7.o (by omega);obtain⟨r0,r1,r2,r3⟩:=E.c4;obtain⟨q0,q1,q2,q3⟩:=E.f4;obtain⟨t0,t1,t2,t3⟩:=c8.c4;have f8:=Hd E;have h9:Hid (Bar gb w w4):=UW (Bar.of (d.o.trans (e6.o.mono d.o.size))) d7.o;clear d5 E c8 Z g0 g1 g2 g3 d0 d1 d2 d3 k6 j8
  go_wp2_with fail
  have e5:=((((f8.o.set 0 (.int .i64 X.kind)).set 1 (.int .i64 (X.width:Nat))).set 2 (.string (Oo X.index))).set 3 (.string (Oo X.elem)));obtain⟨e0,e1,e2,e3⟩:=e5.c4;have M:Below w.heap.size w4 _:=((((Jh _ _).setCell (p:=⟨w.heap.size,0,none⟩) Of (.int .i64 X.kind)).setCell (p:=⟨w.heap.size,1,none⟩) Of (.int .i64 (X.width:Nat))).setCell (p:=⟨w.heap.size,2,none⟩) Of (.string (Oo X.index))).setCell (p:=⟨w.heap.size,3,none⟩) Of (.string (Oo X.elem));refine Jj (v:=.agg #[.int .i64 X.kind,.int .i64 (X.width:Nat),.string (Oo X.index),.string (Oo X.elem)]) ?_ rfl ⟨DZ g s.data.toList X,O4 (by rw[HX.o];rfl),?_,?_,h9.o.then M⟩
  ·clear r0 r1 r2 r3 q0 q1 q2 q3 t0 t1 t2 t3;simp[results,results98,go_sem,e0,e1,e2,e3]
  ·have g6:=KM.put HD.o A.o.isMap i8.o;exact g6.low M b5
  intro t x ht;unfold DZ at ht
  by_cases h:t=s.data.toList
  ·rw[if_pos h] at ht;cases ht;rw[h];exact HX.o.symm
  rw[if_neg h] at ht;exact e8.o t x ht)
theorem F5 (kb sb gb n:Nat)(f:List UInt8->Option Nat)(g:List UInt8->Option SI)(s:ByteArray)(w:World)(hs:s.size<=1048576)(hn:n<=1000000000)(hev:EV w)(hc3:w.cell? ⟨kb,3,none⟩=some (.map (some sb)))(hc6:w.cell? ⟨kb,6,none⟩=some (.map (some gb)))(hm:G0 w sb f)(hsb:sb<w.heap.size)(hk:KM w gb n g)(hok:VT f g) :
 Calls prog 98 #[.pointer (some ⟨kb,0,none⟩),.string s] w fun e w'=>∃ g',e=.returned (N9 (Ov (Oh f) s.data.toList))/\KM w' gb (n+1) g'/\VT f g'/\Bar gb w w':=by
 cases d:g s.data.toList with
 | none=>exact VO kb sb gb n f g s w hs hn hev hc3 hc6 hm hsb hk hok d
 | some x=>
   refine (Ai kb gb n f g s x w hs hc6 hk hok d).mono ?_;rintro e w' ⟨rfl,hb⟩;exact⟨g,rfl,(hk.more).low hb hk.lt,hok,Bar.of hb⟩
def Nh (f1 f2:List UInt8->Option Nat)(n:List UInt8):Bool:=(f1 n).isSome||(f2 n).isSome||!E5 n
def Hk (f1 f2:List UInt8->Option Nat)(n:List UInt8):Int:=if Nh f1 f2 n then 2 else 0
theorem N7 (kb sb fb:Nat)(f1 f2:List UInt8->Option Nat)(s:ByteArray)(w:World)(hc3:w.cell? ⟨kb,3,none⟩=some (.map (some sb)))(hc4:w.cell? ⟨kb,4,none⟩=some (.map (some fb)))(hm1:G0 w sb f1)(hm2:G0 w fb f2)(hs:s.size<=1048576) :
 Calls prog 74 #[.pointer (some ⟨kb,0,none⟩),.string s] w fun e w'=>e=.returned (.int .i64 (Hk f1 f2 s.data.toList))/\w'=w:=by
 obtain⟨n,D,hn,j,Y⟩:=hm1;obtain⟨n2,D2,b3,d,I⟩:=hm2;have G:=Hd j;have HD:=Hd Y;have A:=Hd d;have O:=Hd I;clear j Y d I;have Z:=N0 s (by unfold maxLen;omega);have h:Hid (Hk f1 f2 s.data.toList=if (f1 s.data.toList).isSome||(f2 s.data.toList).isSome||!E5 s.data.toList then 2 else 0):=rfl
 go_in
 go_wp2_with (at_lookup;refine wpList_lookup_own_ok_int _ rfl _ _ 86 rfl 9 3 .i64 Il underlying86 underlying3 ?z sb n D rfl G.o _ _ rfl Z ?_)
 case z=>rfl
 intro c U V;rw[(HD.o s.data.toList).1];clear U V
 go_wp2_with (at_lookup;refine wpList_lookup_own_ok_int _ rfl _ _ 86 rfl 9 3 .i64 Il underlying86 underlying3 ?z2 fb n2 D2 rfl A.o _ _ rfl Z ?_)
 case z2=>rfl
 intro c2 J K;rw[(O.o s.data.toList).1];clear J K
 cases E:(f1 s.data.toList).isSome
 ·cases M:(f2 s.data.toList).isSome
  ·rw[E,M] at h;clear E M
   go_wp2_with fail
   refine (C3 s _ (by unfold maxLen;omega)).mono ?_
   cases h3:E5 s.data.toList
   ·rw[h3] at h;rintro e w1 ⟨rfl,rfl⟩;clear h3
    go_wp2
    go_ret
    exact⟨U9 (by rw[h.o];rfl),rfl⟩
   rw[h3] at h;rintro e w1 ⟨rfl,rfl⟩;clear h3
   go_wp2
   go_ret
   exact⟨U9 (by rw[h.o];rfl),rfl⟩
  rw[E,M] at h;clear E M
  go_wp2
  go_ret
  exact⟨U9 (by rw[h.o];rfl),rfl⟩
 rw[E] at h;clear E;generalize (f2 s.data.toList).isSome=B2 at h ⊢
 go_wp2
 go_ret
 exact⟨U9 (by rw[h.o];simp),rfl⟩
theorem Q3 (kb:Nat)(p q:Option Addr)(n c m d:Nat)(w:World)(h0:w.cell? ⟨kb,0,none⟩=some (.slice p n c))(h1:w.cell? ⟨kb,1,none⟩=some (.slice q m d))(hn:n<=1000000)(hm:m<=1000000) :
 Calls prog 75 #[.pointer (some ⟨kb,0,none⟩)] w fun e w'=>e=.returned (.bool (decide (300<=n+m)))/\Up w w':=by
 have F:Hid (decide (300<=n+m)=decide ((300:Int)<=(n:Int)+(m:Int))):=by unfold Hid;rw[Yb,Js,Js];omega
 go_in
 go_wp2
 go_region
 all_goals (go_wp2_with fail)
 all_goals go_ret
 all_goals exact⟨Oz (by rw[F.o]),⟨rfl,rfl,rfl,Of,fun _ _=>rfl⟩⟩
structure Fn where
 name:List UInt8
 args:List (List UInt8)
 sort:List UInt8
structure Tm where
 op:Int
 sort:List UInt8
 text:List UInt8
 a:Int
 b:Int
 kids:List Int
 deriving DecidableEq
theorem Xx (own:List UInt8->Bool)(t:List UInt8):0<=(Ov own t).kind/\(Ov own t).kind<=6:=by
 by_cases d:t.take 7=K4
 ·rcases Ir own d with h|⟨i,e,_,h⟩
  ·rw[h];exact⟨by decide,by decide⟩
  rw[h];exact⟨by show (0:Int)<=6;decide,by show (6:Int)<=6;decide⟩
 have:=H8 own t;unfold Ov;rw[if_neg d];omega
theorem ZW (X:SI)(W:World):(Instr.field 110 (.agg #[.int .i64 X.kind,.int .i64 (X.width:Nat),.string (Oo X.index),.string (Oo X.elem)]) 0).run prog W=.ok (.int .i64 X.kind) W:=by
 unfold Instr.field
 go_simp
 rfl
def Kj (own:List UInt8->Bool)(f:Fn):Bool:=decide (f.args.length<=5)&&f.args.all (fun a=>O0 (Ov own a))&&decide ((Ov own f.sort).kind≠0)&&(decide ((Ov own f.sort).kind≠6)||decide (f.args.length=0))
theorem Th (v va:Value)(L:List (List UInt8))(f:Fn)(w:World)(h:O8 w v L)(ha:O8 w va f.args)(hz:∀ a∈f.args,a.length<=1048576)(hzs:f.sort.length<=1048576) :
 Calls prog 58 #[v,.agg #[.string (Oo f.name),va,.string (Oo f.sort)]] w fun e w'=>e=.returned (.bool (Kj (On L) f))/\Up w w':=by
 have HS:=Hd h;obtain⟨p,c,rfl,h1,h2,h3⟩:=ha;have HA:=Hd h3;have HZ:=Hd hz;unfold maxLen at h2;clear h h3 hz
 by_cases h5:5<f.args.length
 ·have F:Hid (Kj (On L) f=false):=by unfold Hid Kj;rw[Jg (by omega)];rfl
  go_in
  go_wp2
  go_ret
  exact⟨Oz F.o.symm,Oy _ _⟩
 have HF:Hid (Kj (On L) f=(f.args.all (fun a=>O0 (Ov (On L) a))&&(decide ((Ov (On L) f.sort).kind≠0)&&(decide ((Ov (On L) f.sort).kind≠6)||decide (f.args.length=0))))):=by
  unfold Hid Kj;rw[Jb (by omega),Za,Uw]
 go_in
 go_wp2_with fail
 obtain⟨W1,J⟩:=O1 (w.alloc (.cells #[.string (Oo f.name),.slice p f.args.length c,.string (Oo f.sort)] 47));have d1:Hid (Up w W1):=by unfold Hid;rw[<-J];exact Oy _ _
 have b7:Hid (W1.heap.size=w.heap.size+1):=by unfold Hid;rw[<-J];simp
 have b8:Hid (Bx W1 w.heap.size [.string (Oo f.name),.slice p f.args.length c,.string (Oo f.sort)]):=by unfold Hid;rw[<-J];exact Oi w _ _
 rw[J];clear J
 go_loopw [16] (fun i wr=>∃ k:Nat,k<=f.args.length/\i=.int .i64 (k:Nat)/\(∀ j (h:j<f.args.length),j<k->O0 (Ov (On L) f.args[j])=true)/\Below (w.heap.size+1) W1 wr) (fun i _=>f.args.length - (intOf i).toNat)
 case atStart=>exact⟨0,Jy _,rfl,fun j _ h=>absurd h (J2 _),Jh _ _⟩
 obtain⟨k,hk,rfl,hp,V⟩:=hrel;have HP:=Hd hp;have O:=Hd V;have G:Hid (Up w wr):=d1.o.trans (V.mono (by omega));have M:=b8.o.bl (N:=w.heap.size+1) (by omega) V;obtain⟨b0,b1,b2⟩:=M.c3;clear hp V M
 by_cases K:k<f.args.length
 ·rcases HA.o with h0|⟨b,rfl,hb,c6⟩
  ·rw[h0] at K;simp at K
  have hc:=(G.o.cell (p:=⟨b,k,none⟩) hb).trans (c6 k K);clear c6;have Y:(Oo f.args[k]).size<=1048576:=by rw[<-Ol,Ou];exact HZ.o _ (Jw K)
  obtain⟨S,hS⟩:=O1 (Oo f.args[k]);have U:Hid (S.data.toList=f.args[k]):=by unfold Hid;rw[<-hS,Ou]
  rw[hS] at hc Y;clear hS
  go_wp2_with fail
  refine (Kz v L S _ (HS.o.bl G.o) Y).mono ?_;have a7:=Xx (On L) S.data.toList;have hq:O0 (Ov (On L) f.args[k])=O0 (Ov (On L) S.data.toList):=by rw[U.o]
  have HQ:=Hd hq;clear hq;generalize Ov (On L) S.data.toList=X at a7 HQ ⊢;rintro e w2 ⟨rfl,A⟩;have Z:Hid (Below (w.heap.size+1) W1 w2):=O.o.trans (A.mono (by have:=O.o.size;have:=b7.o;omega));have d:=G.up A;clear A;unfold N9;have c8:=ZW X w2
  by_cases E:X.kind=0∨X.kind=1∨X.kind=6
  ·have HR:Hid (Kj (On L) f=false):=by
    unfold Hid;rw[HF.o];have:f.args.all (fun a=>O0 (Ov (On L) a))=false:=by
     rw[J9];intro h;have h2:=Ju.1 h f.args[k] (Jw K);rw[HQ.o] at h2;simp only[O0,J3,Yg] at h2;omega
    rw[this];rfl
   rcases E with E|E|E
   ·have x0:(X.kind==0)=true:=by rw[Yc];exact E
    clear E
    go_wp2
    go_ret
    exact⟨Oz HR.o.symm,d.o⟩
   ·have x0:(X.kind==0)=false:=by rw[Jc];omega
    have x1:(X.kind==1)=true:=by rw[Yc];exact E
    clear E
    go_wp2
    go_ret
    exact⟨Oz HR.o.symm,d.o⟩
   have x0:(X.kind==0)=false:=by rw[Jc];omega
   have x1:(X.kind==1)=false:=by rw[Jc];omega
   have x6:(X.kind==6)=true:=by rw[Yc];exact E
   clear E
   go_wp2
   go_ret
   exact⟨Oz HR.o.symm,d.o⟩
  have x0:(X.kind==0)=false:=by rw[Jc];omega
  have x1:(X.kind==1)=false:=by rw[Jc];omega
  have x6:(X.kind==6)=false:=by rw[Jc];omega
  have e4:=Hd E;have b6:Hid (O0 (Ov (On L) f.args[k])=true):=by
   unfold Hid;rw[HQ.o];simp only[O0,J3,Yg];omega
  clear E
  go_wp2
  go_roundw
  case rel=>exact⟨k+1,by omega,by go_num,fun j hj h2=>by
   rcases J0.1 h2 with h|rfl
   ·exact HP.o j hj h
   exact b6.o,Z.o⟩
  simp[intOf];omega
 have b5:Hid (f.args.all (fun a=>O0 (Ov (On L) a))=true):=by
  unfold Hid;rw[Ju];intro a ha;obtain⟨j,hj,rfl⟩:=Ya ha;exact HP.o j hj (by omega)
 obtain⟨S,hS⟩:=O1 (Oo f.sort);have U:Hid (S.data.toList=f.sort):=by unfold Hid;rw[<-hS,Ou]
 have Y:S.size<=1048576:=by rw[<-Ol,U.o];exact hzs
 rw[hS] at b2;have z:decide ((k:Int)<(f.args.length:Int))=false:=dF (by omega)
 go_wp2_with fail
 refine (Kz v L S _ (HS.o.bl G.o) Y).mono ?_;have a7:=Xx (On L) S.data.toList;have I:Hid (Kj (On L) f=(decide ((Ov (On L) S.data.toList).kind≠0)&&(decide ((Ov (On L) S.data.toList).kind≠6)||decide (f.args.length=0)))):=by
  unfold Hid;rw[HF.o,b5.o,U.o];rfl
 generalize Ov (On L) S.data.toList=X at a7 I ⊢;rintro e w2 ⟨rfl,A⟩;have Z:Hid (Below (w.heap.size+1) W1 w2):=O.o.trans (A.mono (by have:=O.o.size;have:=b7.o;omega));have d:=G.up A;have M:=b8.o.bl (N:=w.heap.size+1) (by omega) Z.o;obtain⟨n0,n1,n2⟩:=M.c3;clear A M b0 b1 b2;unfold N9;have c8:=ZW X w2
 by_cases k0:X.kind=0
 ·have y0:=N3 k0;have K0:=Hd k0;clear k0
  go_wp2
  go_ret
  exact⟨Oz (by have:=K0.o;rw[I.o,Jg (by omega)];rfl),d.o⟩
 have y0:=Eo k0;have K0:=Hd k0;have p0:=k0;clear k0
 by_cases k6:X.kind=6
 ·have y6:=N3 k6;have K6:=Hd k6;clear k6
  by_cases kn:f.args.length=0
  ·have yn:((f.args.length:Int)==0)=true:=by rw[Yc];omega
   go_wp2
   go_ret
   exact⟨Oz (by rw[I.o,Jb K0.o,Jb kn];simp),d.o⟩
  have yn:((f.args.length:Int)==0)=false:=by rw[Jc];omega
  go_wp2
  go_ret
  exact⟨Oz (by have:=K6.o;rw[I.o,Jb K0.o,Jg kn,Jg (by omega)];rfl),d.o⟩
 have y6:=Eo k6;have K6:=Hd k6
 go_wp2
 go_ret
 exact⟨Oz (by rw[I.o,Jb K0.o,Jb K6.o];rfl),d.o⟩
def Eh (w:World)(v:Value)(F:List Fn):Prop:=
 ∃ p c,v=.slice p F.length c/\F.length<=c/\c<=maxLen/\(F=[]∨∃ b,p=some ⟨b,0,none⟩/\b<w.heap.size/\∀ i (h:i<F.length),w.cell? ⟨b,i*3,none⟩=some (.string (Oo F[i].name))/\(∃ va,w.cell? ⟨b,i*3+1,none⟩=some va/\O8 w va F[i].args)/\w.cell? ⟨b,i*3+2,none⟩=some (.string (Oo F[i].sort)))
theorem Eh.bl {w w':World}{v:Value}{F:List Fn}(h:Eh w v F)(hb:Up w w'):Eh w' v F:=by
 obtain⟨p,c,rfl,d,j,h3⟩:=h;refine⟨p,c,rfl,d,j,?_⟩
 rcases h3 with h3|⟨b,e,hl,hc⟩
 ·exact .inl h3
 refine .inr ⟨b,e,Jz hl hb.size,fun i hi=>?_⟩;obtain⟨A,⟨G,E,ha⟩,k2⟩:=hc i hi;exact⟨(hb.cell (p:=⟨b,i*3,none⟩) hl).trans A,⟨G,(hb.cell (p:=⟨b,i*3+1,none⟩) hl).trans E,ha.bl hb⟩,(hb.cell (p:=⟨b,i*3+2,none⟩) hl).trans k2⟩
def U5 (w:World)(v:Value)(L:List Int):Prop:=
 ∃ p c,v=.slice p L.length c/\L.length<=c/\c<=maxLen/\(L=[]∨∃ b,p=some ⟨b,0,none⟩/\b<w.heap.size/\∀ i (h:i<L.length),w.cell? ⟨b,i,none⟩=some (.int .i64 L[i]))
theorem U5.bl {w w':World}{v:Value}{L:List Int}(h:U5 w v L)(hb:Up w w'):U5 w' v L:=by
 obtain⟨p,c,rfl,d,j,h3⟩:=h;refine⟨p,c,rfl,d,j,?_⟩
 rcases h3 with h3|⟨b,e,hl,hc⟩
 ·exact .inl h3
 exact .inr ⟨b,e,Jz hl hb.size,fun i hi=>(hb.cell (p:=⟨b,i,none⟩) hl).trans (hc i hi)⟩
def Km (w:World)(v:Value)(T:List Tm):Prop:=
 ∃ p c,v=.slice p T.length c/\T.length<=c/\c<=maxLen/\(T=[]∨∃ b,p=some ⟨b,0,none⟩/\b<w.heap.size/\∀ i (h:i<T.length),w.cell? ⟨b,i*6,none⟩=some (.int .i64 T[i].op)/\w.cell? ⟨b,i*6+1,none⟩=some (.string (Oo T[i].sort))/\w.cell? ⟨b,i*6+2,none⟩=some (.string (Oo T[i].text))/\w.cell? ⟨b,i*6+3,none⟩=some (.int .i64 T[i].a)/\w.cell? ⟨b,i*6+4,none⟩=some (.int .i64 T[i].b)/\∃ va,w.cell? ⟨b,i*6+5,none⟩=some va/\U5 w va T[i].kids)
theorem Km.bl {w w':World}{v:Value}{T:List Tm}(h:Km w v T)(hb:Up w w'):Km w' v T:=by
 obtain⟨p,c,rfl,d,j,h3⟩:=h;refine⟨p,c,rfl,d,j,?_⟩
 rcases h3 with h3|⟨b,e,hl,hc⟩
 ·exact .inl h3
 refine .inr ⟨b,e,Jz hl hb.size,fun i hi=>?_⟩;obtain⟨A,E,k2,k3,k4,G,k5,ha⟩:=hc i hi;exact⟨(hb.cell (p:=⟨b,i*6,none⟩) hl).trans A,(hb.cell (p:=⟨b,i*6+1,none⟩) hl).trans E,(hb.cell (p:=⟨b,i*6+2,none⟩) hl).trans k2,(hb.cell (p:=⟨b,i*6+3,none⟩) hl).trans k3,(hb.cell (p:=⟨b,i*6+4,none⟩) hl).trans k4,G,(hb.cell (p:=⟨b,i*6+5,none⟩) hl).trans k5,ha.bl hb⟩
def Oq (F:List Fn)(n:List UInt8):Option Nat:=F.findIdx? (fun f=>decide (f.name=n))
def Xw (F:List Fn)(n:List UInt8):Int:=match Oq F n with|none => -1|some i=>(i:Int)
theorem ON {F:List Fn}{n:List UInt8}(h:∀ j (hj:j<F.length),F[j].name≠n):Xw F n = -1:=by
 unfold Xw Oq;rw[List.findIdx?_eq_none_iff.2];intro x d;obtain⟨j,hj,rfl⟩:=Ya d
 simpa using h j hj
theorem OG {F:List Fn}{n:List UInt8}{k:Nat}(hk:k<F.length)(h:F[k].name=n)(hb:∀ j (hj:j<F.length),j<k->F[j].name≠n):Xw F n=(k:Int):=by
 unfold Xw Oq;rw[Zk.2 ⟨hk,by simpa using h,fun j hj=>by simpa using hb j (by omega) hj⟩]
theorem YQ (vs vf vt:Value)(F:List Fn)(s:ByteArray)(w:World)(h:Eh w vf F) :
 Calls prog 70 #[.agg #[vs,vf,vt],.string s] w fun e w'=>e=.returned (.int .i64 (Xw F s.data.toList))/\Up w w':=by
 obtain⟨p,c,rfl,h1,h2,h3⟩:=h;have Y:=Hd h3;unfold maxLen at h2;clear h3
 go_in
 go_wp2_with fail
 obtain⟨U,d⟩:=O1 (w.alloc (.cells #[vs,.slice p F.length c,vt] 32));have E:Hid (Up w U):=by unfold Hid;rw[<-d];exact Oy _ _
 have K:Bx U w.heap.size [vs,.slice p F.length c,vt]:=by rw[<-d];exact Oi w _ _
 obtain⟨b0,b1,b2⟩:=K.c3;rw[d];clear d K
 go_loop [9] (fun i=>∃ k:Nat,k<=F.length/\i=.int .i64 (k:Nat)/\∀ j (h:j<F.length),j<k->F[j].name≠s.data.toList) (fun i=>F.length - (intOf i).toNat)
 case atStart=>exact⟨0,Jy _,rfl,fun j _ h=>absurd h (J2 _)⟩
 obtain⟨k,hk,rfl,V⟩:=hrel;have M:=Hd V;clear V
 by_cases A:k<F.length
 ·rcases Y.o with h0|⟨b,rfl,hb,J⟩
  ·rw[h0] at A;simp at A
  have hc:=(E.o.cell (p:=⟨b,k*3,none⟩) hb).trans (J k A).1;clear J
  by_cases I:F[k].name=s.data.toList
  ·have O:Hid (Xw F s.data.toList=(k:Int)):=OG A I M.o;rw[I,Ko] at hc;clear I
   go_wp2
   go_ret
   exact⟨U9 O.o.symm,E.o⟩
  have Z:=Hd I;have G:Oo F[k].name≠s:=fun e=>I (by rw[<-e,Ou]);generalize Oo F[k].name=X at hc G;have zz:=P6 G;clear I G
  go_wp2
  go_round
  case rel=>exact⟨k+1,by omega,by go_num,fun j hj h2=>by
   rcases J0.1 h2 with h|rfl
   ·exact M.o j hj h
   exact Z.o⟩
  simp[intOf];omega
 have O:Hid (Xw F s.data.toList = -1):=ON fun j hj=>M.o j hj (by omega);have z:decide ((k:Int)<(F.length:Int))=false:=dF (by omega)
 go_wp2
 go_ret
 exact⟨U9 O.o.symm,E.o⟩
def K1 (L:List (List UInt8))(s:List UInt8):Bool:=L.all (fun x=>decide (x=s))
theorem Kv (v:Value)(L:List (List UInt8))(s:ByteArray)(w:World)(h:O8 w v L) :
 Calls prog 69 #[v,.string s] w fun e w'=>e=.returned (.bool (K1 L s.data.toList))/\w'=w:=by
 obtain⟨p,c,rfl,Y,V,h3⟩:=h;have O:=Hd h3;unfold maxLen at V;clear h3
 go_in
 go_wp2
 go_loop [9] (fun i=>∃ k:Nat,k<=L.length/\i=.int .i64 k/\∀ j (h:j<L.length),j<k->L[j]=s.data.toList) (fun i=>L.length - (intOf i).toNat)
 case atStart=>exact⟨0,Jy _,rfl,fun j _ hj=>absurd hj (J2 _)⟩
 obtain⟨k,Z,rfl,K⟩:=hrel;have J:=Hd K;clear K
 by_cases A:k<L.length
 ·rcases O.o with U|⟨b,rfl,hb,G⟩
  ·subst U;simp at A
  have hc:=G k A;clear G
  by_cases d:L[k]=s.data.toList
  ·have M:=Hd d;rw[d,Ko] at hc;clear d
   go_wp2
   go_round
   case rel=>exact⟨k+1,by omega,by go_num,fun j hj hj2=>by
    rcases J0.1 hj2 with h|rfl
    ·exact J.o j hj h
    exact M.o⟩
   simp[intOf];omega
  have I:Hid (K1 L s.data.toList=false):=by
   unfold Hid K1;rw[J9];intro h;exact d (by simpa using Ju.1 h L[k] (Jw A))
  have E:Oo L[k]≠s:=fun e=>d (by rw[<-e,Ou]);generalize Oo L[k]=X at hc E;have zz:=P6 E;clear d E
  go_wp2
  go_ret
  exact⟨Oz I.o.symm,rfl⟩
 have I:Hid (K1 L s.data.toList=true):=by
  unfold Hid K1;rw[Ju];intro x d;obtain⟨j,hj,rfl⟩:=Ya d
  simpa using J.o j hj (by omega)
 go_wp2
 go_ret
 exact⟨Oz I.o.symm,rfl⟩
theorem YR (v1 v2:Value)(L M:List Int)(w:World)(h:U5 w v1 L)(h':U5 w v2 M) :
 Calls prog 92 #[v1,v2] w fun e w'=>e=.returned (.bool (decide (L=M)))/\Up w w':=by
 obtain⟨p,c,rfl,h1,h2,h3⟩:=h;obtain⟨p',c',rfl,c6,V,J⟩:=h';have HX:=Hd h3;have HY:=Hd J;unfold maxLen at h2 V;clear h3 J
 by_cases hl:L.length=M.length
 ·have z:((L.length:Int)==(M.length:Int))=true:=by rw[Yc];omega
  have HL:=Hd hl;have zn:=N3 (a:=(L.length:Int)) (b:=(M.length:Int)) (by omega);clear hl
  go_in
  go_wp2
  go_loopw [13] (fun i wr=>∃ k:Nat,k<=L.length/\i=.int .i64 (k:Nat)/\(∀ j (h:j<L.length) (h':j<M.length),j<k->L[j]=M[j])/\Up w wr) (fun i _=>L.length - (intOf i).toNat)
  case atStart=>exact⟨0,Jy _,rfl,fun j _ _ h=>absurd h (J2 _),Jh _ _⟩
  obtain⟨k,hk,rfl,hp,K⟩:=hrel;have HP:=Hd hp;have d:=Hd K;clear hp K
  by_cases I:k<L.length
  ·have A:k<M.length:=by have:=HL.o;omega
   rcases HX.o with U|⟨b,rfl,hb,O⟩
   ·rw[U] at I;simp at I
   rcases HY.o with U|⟨b',rfl,Z,E⟩
   ·rw[U] at A;simp at A
   have c1:=(d.o.cell (p:=⟨b,k,none⟩) hb).trans (O k I);have c2:=(d.o.cell (p:=⟨b',k,none⟩) Z).trans (E k A);clear O E
   by_cases G:L[k]=M[k]
   ·have HN:=Hd G;rw[G] at c1;clear G;generalize M[k]=X at c1 c2;have i0:(0:Int)<=(k:Int):=by omega
    have i1:(k:Int)<(L.length:Int):=by omega
    have i2:(k:Int)<(M.length:Int):=by omega
    go_wp2
    go_region
    all_goals (go_wp2_with fail)
    all_goals go_roundw
    all_goals (try (case rel=>exact⟨k+1,by omega,by go_num,fun j hj hj' h2=>by
     rcases J0.1 h2 with h|rfl
     ·exact HP.o j hj hj' h
     exact HN.o,⟨d.o.os,d.o.tape,d.o.output,d.o.size,d.o.block⟩⟩))
    all_goals (try (case measure=>simp[intOf];omega))
   have F:Hid (decide (L=M)=false):=by
    unfold Hid;rw[Jm];rintro rfl;exact G rfl
   have x1:=Eo G;have x2:(L[k]==M[k])=false:=by rw[Jc];exact G
   have i0:(0:Int)<=(k:Int):=by omega
   have i1:(k:Int)<(L.length:Int):=by omega
   have i2:(k:Int)<(M.length:Int):=by omega
   generalize L[k]=X at c1 G x1 x2;generalize M[k]=Y at c2 G x1 x2
   go_wp2
   go_region
   all_goals (go_wp2_with fail)
   all_goals go_ret
   all_goals exact⟨Oz F.o.symm,⟨d.o.os,d.o.tape,d.o.output,d.o.size,d.o.block⟩⟩
  have F:Hid (decide (L=M)=true):=by
   unfold Hid;rw[Js];exact Ul HL.o (fun j h1 h2=>HP.o j h1 h2 (by omega))
  have z3:decide ((k:Int)<(L.length:Int))=false:=dF (by omega)
  go_wp2
  go_ret
  exact⟨Oz F.o.symm,d.o⟩
 have zn:=Eo (a:=(L.length:Int)) (b:=(M.length:Int)) (by omega);have z:((L.length:Int)==(M.length:Int))=false:=by rw[Jc];omega
 have F:Hid (decide (L=M)=false):=by unfold Hid;rw[Jm];rintro rfl;exact hl rfl
 go_in
 go_wp2
 go_ret
 exact⟨Oz F.o.symm,Jh _ _⟩
end Go.Proofs.YtipgjenolpofpaaGreatDoor
