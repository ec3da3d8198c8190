import Derived.Test.YtdmdmgfjpomdbaaGreatDoorP19
import Derived.Deep.QuietTactic
import Derived.BigQuiet
import Derived.Laws.Bits64b
import Derived.Deep.RegionWith
set_option maxRecDepth 100000
set_option maxHeartbeats 104857600
namespace Go.Proofs.YtdmdmgfjpomdbaaGreatDoor
open ChangeShapes WideShapes ChangeAt RowKit Proofs.Tryz
theorem KE (own:List UInt8->Bool)(t:List UInt8):(Of own t).kind=0->Of own t=SI.none:=by
 unfold Of
 split
 ·intro h;exact absurd h (by decide)
 split
 ·intro h;exact absurd h (by decide)
 split
 ·intro h;exact absurd h (by decide)
 split
 ·intro h;exact absurd h (by show ¬ (4:Int)=0;decide)
 split
 ·split
  ·intro h;exact absurd h (by decide)
  intro _;rfl
 intro _;rfl
theorem C4 (w:World):Calls prog 83 #[Gw SI.none] w fun e w'=>e=.returned (.bool false)/\Below w.heap.size w w':=by
 show Calls prog 83 #[.agg #[.int .i64 0,.int .i64 0,.string ⟨#[]⟩,.string ⟨#[]⟩]] w _
 go_in
 go_wp2
 go_ret
 exact⟨rfl,Oz _ _⟩
theorem C5 (X:SI)(w:World)(h0:¬ X.kind=0)(h:0<=X.kind/\X.kind<=5):Calls prog 83 #[Gw X] w fun e w'=>e=.returned (.bool (O1 X))/\Below w.heap.size w w':=by
 have j:Hid (O1 X=decide (¬ X.kind=1)):=by
  unfold Hid O1;rw[Yd,J3,Ju,Ju,Ju];omega
 unfold Gw;have z0:(X.kind==0)=false:=by rw[Jb];exact h0
 have G:=K3 (a:=X.kind) (b:=6) (by omega);have E:¬ X.kind=6:=by omega
 by_cases d:X.kind=1
 ·have A:=Nr d
  go_in
  go_wp2
  go_ret
  exact⟨Oy (by rw[j.o,Jc (by omega)]),Oz _ _⟩
 have A:=K3 d
 go_in
 go_wp2
 go_ret
 exact⟨Oy (by rw[j.o,Ja d]),Oz _ _⟩
theorem Lj (own:List UInt8->Bool)(t:List UInt8)(w:World):Calls prog 83 #[Gw (Of own t)] w fun e w'=>e=.returned (.bool (O1 (Of own t)))/\Below w.heap.size w w':=by
 by_cases h:(Of own t).kind=0
 ·rw[KE own t h];exact C4 w
 exact C5 _ w h (I4 own t)
theorem Pr (r:List UInt8)(c:UInt8):Lib.hasSuffix r [c]=decide (r.getLast? = some c):=by
 unfold Lib.hasSuffix;rw[Yd,Ju,List.isSuffixOf_iff_suffix];constructor
 ·rintro⟨a,e⟩;rw[<-e];exact Vm
 intro h;obtain⟨d,e⟩:=Z0.1 h;exact⟨d,e.symm⟩
theorem EB {r:List UInt8}{c:UInt8}(h:r.getLast? = some c):Lib.trimSuffix r [c]=r.dropLast:=by
 unfold Lib.trimSuffix;rw[Pr,Ja h,List.dropLast_eq_take];rfl
theorem Mm {r:List UInt8}(h:r.getLast? = some 41):(r.dropLast.take 1=[32])↔(r.head? = some 32/\2<=r.length):=by
 obtain⟨ys,rfl⟩:=Z0.1 h;rw[Vl]
 cases ys with
 | nil=>simp
 | cons c ys=>simp
theorem KH {own:List UInt8->Bool}{t:List UInt8}(h:t.take 7≠Eh):Ov own t=Of own t:=by unfold Ov;rw[if_neg h]
theorem Mt {own:List UInt8->Bool}{t:List UInt8}(h:t.take 7=Eh){I R:List UInt8}(hI:(t.drop 7).take (Eg (t.drop 7))=I)(hR:(t.drop 7).drop (Eg (t.drop 7))=R)(hc:¬ R.getLast? = some 41∨¬ R.dropLast.take 1=[32]):Ov own t=SI.none:=by
 unfold Ov;rw[if_pos h];simp only[hI,hR];rw[if_neg];rintro⟨d,h2,h3⟩
 rcases hc with hc|hc
 ·exact hc h3
 exact hc ((Mm h3).2 ⟨d,h2⟩)
theorem KI {own:List UInt8->Bool}{t:List UInt8}(h:t.take 7=Eh){I R E:List UInt8}(hI:(t.drop 7).take (Eg (t.drop 7))=I)(hR:(t.drop 7).drop (Eg (t.drop 7))=R)(hc:R.getLast? = some 41)(hp:R.dropLast.take 1=[32])(hE:R.dropLast.drop 1=E):Ov own t=if O1 (Of own I)&&O1 (Of own E) then ⟨6,0,I,E⟩ else SI.none:=by
 unfold Ov;rw[if_pos h];simp only[hI,hR];have h2:=(Mm hc).1 hp;rw[if_pos ⟨h2.1,h2.2,hc⟩];have e:(R.drop 1).dropLast=E:=by rw[<-hE];simp[List.dropLast_eq_take,List.drop_take]
 rw[e]
theorem QM {t:List UInt8}(h:t.take 7=Eh):Lib.trimPrefix t Eh=t.drop 7:=by
 unfold Lib.trimPrefix;rw[Ew,Ja (by exact h)];rfl
theorem N5 (s:ByteArray)(w:World)(hs:s.size<=1048576) :
 Calls prog 62 #[.string s] w fun e w'=>e=.returned (.string s)/\Below w.heap.size w w':=by
 go_in
 go_wp2_with fail
 refine (Tryz.stringslite_Clone s _ (by omega)).mono ?_;rintro e h ⟨rfl,hb⟩;have d:=Hd hb;clear hb
 go_wp2
 go_ret
 exact⟨rfl,d.o⟩
theorem Av (kb b:Nat)(f:List UInt8->Option Nat)(s:ByteArray)(w:World)(hs:s.size<=1048576)(hev:EV w)(hc:w.cell? ⟨kb,3,none⟩=some (.map (some b)))(hm:Hm w b f)(hb:b<w.heap.size) :
 Calls prog 101 #[.string s,FP kb] w fun e w'=>e=.returned (Gw (Ov (Oc f) s.data.toList))/\Below w.heap.size w w':=by
 have g6:kb<w.heap.size:=J5 w _ hc;have f9:=Hd hev;have HC:=Hd hc;have HM:=Hd hm;clear hev hc hm;have HV:Hid (FP kb=.func (.func 102) #[.pointer (some ⟨kb,0,none⟩)] #[]):=rfl;have E:Hid (∀ (s':ByteArray) (W:World),s'.size<=1048576->Below w.heap.size w W->Calls prog 120 #[.string s',.func (.func 102) #[.pointer (some ⟨kb,0,none⟩)] #[]] W fun e w'=>e=.returned (Gw (Of (Oc f) s'.data.toList))/\Below W.heap.size W w'):=fun s' W h1 h2=>
  Tn kb b f s' W h1 (f9.o.next h2) ((h2.cell (p:=⟨kb,3,none⟩) g6).trans HC.o) (HM.o.bl h2 hb) (Jq hb h2.size)
 rw[HV.o];clear HV
 by_cases hp:s.data.toList.take 7=Eh
 ·have c6:Hid (Lib.hasPrefix s.data.toList Eh=true):=by unfold Hid;rw[Ew];exact Ja hp
  have g1:=Hd (QM hp);have c8:=Hd hp;clear hp
  go_in
  go_wp2_with fail
  refine (Tryz.strings_CutPrefix s ⟨#[40,65,114,114,97,121,32]⟩ _).mono ?_;generalize j:w.alloc (.cells #[.int .i64 0,.int .i64 0,.string ⟨#[]⟩,.string ⟨#[]⟩] 101)=W1
  change ∀ (e:Ending) (w':World),(e=.returned (.tuple #[.string ⟨(Lib.trimPrefix s.data.toList Eh).toArray⟩,.bool (Lib.hasPrefix s.data.toList Eh)])/\w'=W1)->_
  rw[c6.o,g1.o];rintro e U ⟨rfl,rfl⟩;subst j;obtain⟨D,hD⟩:∃ D:ByteArray,(⟨(s.data.toList.drop 7).toArray⟩:ByteArray)=D:=⟨_,rfl⟩;have HD:Hid (D.data.toList=s.data.toList.drop 7):=by unfold Hid;rw[<-hD]
  have i6:D.size<=1048576:=by rw[<-Om,HD.o,Zf,Om];omega
  rw[hD];clear hD
  go_wp2_with fail
  refine (P3 D _ (by omega)).mono ?_;obtain⟨k,hk⟩:=Oa (Eg D.data.toList);have HK:=Hd hk;have i8:k<=D.size:=by rw[<-hk,<-Om];exact GJ _
  rw[hk];clear hk;rintro e U ⟨rfl,rfl⟩
  go_wp2_with fail
  have d7:(D.extract 0 k).size<=1048576:=by rw[Yo];omega
  have HI:Hid ((s.data.toList.drop 7).take (Eg (s.data.toList.drop 7))=(D.extract 0 k).data.toList):=by
   unfold Hid;rw[Iw,Y9,<-HD.o,HK.o]
  have g4:(D.extract k D.size).size<=1048576:=by rw[Yo];omega
  have b5:Hid ((s.data.toList.drop 7).drop (Eg (s.data.toList.drop 7))=(D.extract k D.size).data.toList):=by
   unfold Hid;rw[Iw,Jl (by rw[Om];omega),<-HD.o,HK.o]
  generalize D.extract 0 k=h at HI d7 ⊢;generalize D.extract k D.size=R at b5 g4 ⊢;refine (Tryz.strings_CutSuffix R ⟨#[41]⟩ _ (by omega)).mono ?_;generalize j:w.alloc (.cells #[.int .i64 0,.int .i64 0,.string ⟨#[]⟩,.string ⟨#[]⟩] 101)=W1
  change ∀ (e:Ending) (w':World),(e=.returned (.tuple #[.string (Oo (Lib.trimSuffix R.data.toList [41])),.bool (Lib.hasSuffix R.data.toList [41])])/\w'=W1)->_
  by_cases G:R.data.toList.getLast? = some 41
  ·rw[EB G,Pr,Ja G];rintro e U ⟨rfl,rfl⟩;subst j;have e8:=Hd G;clear G;obtain⟨Z,hZ⟩:=Oa (Oo R.data.toList.dropLast);have HZ:Hid (Z.data.toList=R.data.toList.dropLast):=by unfold Hid;rw[<-hZ,Ou]
   have i7:Z.size<=1048576:=by rw[<-Om,HZ.o,List.length_dropLast,Om];omega
   rw[hZ];clear hZ
   go_wp2_with fail
   refine (Tryz.strings_CutPrefix Z ⟨#[32]⟩ _).mono ?_;generalize j:w.alloc (.cells #[.int .i64 0,.int .i64 0,.string ⟨#[]⟩,.string ⟨#[]⟩] 101)=W1
   change ∀ (e:Ending) (w':World),(e=.returned (.tuple #[.string (Oo (Lib.trimPrefix Z.data.toList [32])),.bool (Lib.hasPrefix Z.data.toList [32])])/\w'=W1)->_
   by_cases O:Z.data.toList.take 1=[32]
   ·have J:Lib.hasPrefix Z.data.toList [32]=true:=by rw[Ew];exact Ja O
    have e2:Lib.trimPrefix Z.data.toList [32]=Z.data.toList.drop 1:=by unfold Lib.trimPrefix;rw[J];rfl
    rw[J,e2];rintro e U ⟨rfl,rfl⟩;subst j;obtain⟨M,d2⟩:=Oa (Oo (Z.data.toList.drop 1));have d4:Hid (M.data.toList=Z.data.toList.drop 1):=by unfold Hid;rw[<-d2,Ou]
    have g3:M.size<=1048576:=by rw[<-Om,d4.o,Zf,Om];omega
    have HE:Hid (Ov (Oc f) s.data.toList=if O1 (Of (Oc f) h.data.toList)&&O1 (Of (Oc f) M.data.toList) then ⟨6,0,h.data.toList,M.data.toList⟩ else SI.none):=KI c8.o HI.o b5.o e8.o (by rw[<-HZ.o];exact O) (by rw[d4.o,HZ.o]);rw[d2];clear d2 J e2 O
    go_wp2_with fail
    refine (E.o h _ d7 (Oz _ _)).mono ?_;rintro e U ⟨rfl,Y⟩;have b6:Hid (Below (w.heap.size+1) (w.alloc (.cells #[.int .i64 0,.int .i64 0,.string ⟨#[]⟩,.string ⟨#[]⟩] 101)) U):=BO Y
    clear Y
    go_wp2_with fail
    refine (Lj (Oc f) h.data.toList _).mono ?_
    cases b8:O1 (Of (Oc f) h.data.toList)
    ·have HR:Hid (Ov (Oc f) s.data.toList=SI.none):=by unfold Hid;rw[HE.o,b8];rfl
     rintro e w2 ⟨rfl,hb2⟩;have K:Hid (Below (w.heap.size+1) (w.alloc (.cells #[.int .i64 0,.int .i64 0,.string ⟨#[]⟩,.string ⟨#[]⟩] 101)) w2):=b6.o.trans (hb2.mono (by have:=b6.o.size;rw[Jf] at this;exact this));have d:=Hd (Bw K.o);have A:Hid (Below w.heap.size w w2):=(Oz w _).trans (K.o.mono (by omega));obtain⟨c0,c1,c2,c3⟩:=d.o.c4;obtain⟨f0,f1,f2,f3⟩:=d.o.f4;clear hb2 b8;generalize Gw (Of (Oc f) h.data.toList)=V1
     go_wp2_with fail
     have I:=((((d.o.set 0 (.int .i64 0)).set 1 (.int .i64 0)).set 2 (.string ⟨#[]⟩)).set 3 (.string ⟨#[]⟩));obtain⟨e0,J,e2,e3⟩:=I.c4;refine Jg (v:=.agg #[.int .i64 0,.int .i64 0,.string ⟨#[]⟩,.string ⟨#[]⟩]) ?_ rfl ⟨O6 (by rw[HR.o];rfl),?_⟩
     ·clear c0 c1 c2 c3 f0 f1 f2 f3;simp[results,results101,go_sem,e0,J,e2,e3]
     exact (((A.o.sc).sc).sc).sc
    have g0:=Hd b8;rintro e w2 ⟨rfl,hb2⟩;have K:Hid (Below (w.heap.size+1) (w.alloc (.cells #[.int .i64 0,.int .i64 0,.string ⟨#[]⟩,.string ⟨#[]⟩] 101)) w2):=b6.o.trans (hb2.mono (by have:=b6.o.size;rw[Jf] at this;exact this));clear hb2 b8;generalize Gw (Of (Oc f) h.data.toList)=V1
    go_wp2_with fail
    refine (E.o M _ g3 ((Oz w _).trans (K.o.mono (by omega)))).mono ?_;rintro e w3 ⟨rfl,d8⟩;have b7:Hid (Below (w.heap.size+1) (w.alloc (.cells #[.int .i64 0,.int .i64 0,.string ⟨#[]⟩,.string ⟨#[]⟩] 101)) w3):=K.o.trans (d8.mono (by have:=K.o.size;rw[Jf] at this;exact this));clear d8
    go_wp2_with fail
    refine (Lj (Oc f) M.data.toList _).mono ?_
    cases b9:O1 (Of (Oc f) M.data.toList)
    ·have HR:Hid (Ov (Oc f) s.data.toList=SI.none):=by unfold Hid;rw[HE.o,b9,Y1];rfl
     rintro e w4 ⟨rfl,a8⟩;have V:Hid (Below (w.heap.size+1) (w.alloc (.cells #[.int .i64 0,.int .i64 0,.string ⟨#[]⟩,.string ⟨#[]⟩] 101)) w4):=b7.o.trans (a8.mono (by have:=b7.o.size;rw[Jf] at this;exact this));have d:=Hd (Bw V.o);have A:Hid (Below w.heap.size w w4):=(Oz w _).trans (V.o.mono (by omega));obtain⟨c0,c1,c2,c3⟩:=d.o.c4;obtain⟨f0,f1,f2,f3⟩:=d.o.f4;clear a8 b9;generalize Gw (Of (Oc f) M.data.toList)=V2
     go_wp2_with fail
     have I:=((((d.o.set 0 (.int .i64 0)).set 1 (.int .i64 0)).set 2 (.string ⟨#[]⟩)).set 3 (.string ⟨#[]⟩));obtain⟨e0,J,e2,e3⟩:=I.c4;refine Jg (v:=.agg #[.int .i64 0,.int .i64 0,.string ⟨#[]⟩,.string ⟨#[]⟩]) ?_ rfl ⟨O6 (by rw[HR.o];rfl),?_⟩
     ·clear c0 c1 c2 c3 f0 f1 f2 f3;simp[results,results101,go_sem,e0,J,e2,e3]
     exact (((A.o.sc).sc).sc).sc
    have HR:Hid (Ov (Oc f) s.data.toList=⟨6,0,h.data.toList,M.data.toList⟩):=by unfold Hid;rw[HE.o,g0.o,b9];rfl
    rintro e w4 ⟨rfl,a8⟩;have V:Hid (Below (w.heap.size+1) (w.alloc (.cells #[.int .i64 0,.int .i64 0,.string ⟨#[]⟩,.string ⟨#[]⟩] 101)) w4):=b7.o.trans (a8.mono (by have:=b7.o.size;rw[Jf] at this;exact this));clear a8 b9;generalize Gw (Of (Oc f) M.data.toList)=V2
    go_wp2_with fail
    refine (N5 h _ (by omega)).mono ?_;rintro e w5 ⟨rfl,d9⟩;have d5:Hid (Below (w.heap.size+1) (w.alloc (.cells #[.int .i64 0,.int .i64 0,.string ⟨#[]⟩,.string ⟨#[]⟩] 101)) w5):=V.o.trans (d9.mono (by have:=V.o.size;rw[Jf] at this;exact this));clear d9
    go_wp2_with fail
    refine (N5 M _ (by omega)).mono ?_;rintro e w6 ⟨rfl,e4⟩;have d6:Hid (Below (w.heap.size+1) (w.alloc (.cells #[.int .i64 0,.int .i64 0,.string ⟨#[]⟩,.string ⟨#[]⟩] 101)) w6):=d5.o.trans (e4.mono (by have:=d5.o.size;rw[Jf] at this;exact this));have d:=Hd (Bw d6.o);have A:Hid (Below w.heap.size w w6):=(Oz w _).trans (d6.o.mono (by omega));obtain⟨c0,c1,c2,c3⟩:=d.o.c4;obtain⟨f0,f1,f2,f3⟩:=d.o.f4;clear e4
    go_wp2_with fail
    have I:=((((d.o.set 0 (.int .i64 6)).set 1 (.int .i64 0)).set 2 (.string h)).set 3 (.string M));obtain⟨e0,J,e2,e3⟩:=I.c4;refine Jg (v:=.agg #[.int .i64 6,.int .i64 0,.string h,.string M]) ?_ rfl ⟨O6 (by rw[HR.o];unfold Gw;rw[Kq,Kq];rfl),?_⟩
    ·clear c0 c1 c2 c3 f0 f1 f2 f3;simp[results,results101,go_sem,e0,J,e2,e3]
    exact (((A.o.sc).sc).sc).sc
   have HR:Hid (Ov (Oc f) s.data.toList=SI.none):=Mt c8.o HI.o b5.o (.inr (by rw[<-HZ.o];exact O));have J:Lib.hasPrefix Z.data.toList [32]=false:=by rw[Ew];exact Jc O
   rw[J];rintro e U ⟨rfl,rfl⟩;subst j;clear J O;generalize Oo (Lib.trimPrefix Z.data.toList [32])=Z2
   go_wp2_with fail
   refine Jg (v:=.agg #[.int .i64 0,.int .i64 0,.string ⟨#[]⟩,.string ⟨#[]⟩]) ?_ rfl ⟨O6 (by rw[HR.o];rfl),Oz _ _⟩;simp[results,results101,go_sem]
  have HR:Hid (Ov (Oc f) s.data.toList=SI.none):=Mt c8.o HI.o b5.o (.inl G);have e0:Lib.hasSuffix R.data.toList [41]=false:=by rw[Pr];exact Jc G
  rw[e0];rintro e U ⟨rfl,rfl⟩;subst j;clear e0 G;generalize Oo (Lib.trimSuffix R.data.toList [41])=Z
  go_wp2_with fail
  refine (Tryz.strings_CutPrefix Z ⟨#[32]⟩ _).mono ?_;rintro e U ⟨rfl,rfl⟩;generalize Lib.hasPrefix Z.data.toList (ByteArray.mk #[32]).data.toList=B2;generalize (⟨(Lib.trimPrefix Z.data.toList (ByteArray.mk #[32]).data.toList).toArray⟩:ByteArray)=Z2
  go_wp2_with fail
  refine Jg (v:=.agg #[.int .i64 0,.int .i64 0,.string ⟨#[]⟩,.string ⟨#[]⟩]) ?_ rfl ⟨O6 (by rw[HR.o];rfl),Oz _ _⟩;simp[results,results101,go_sem]
 have F:Hid (Ov (Oc f) s.data.toList=Of (Oc f) s.data.toList):=KH hp;have c6:Hid (Lib.hasPrefix s.data.toList Eh=false):=by unfold Hid;rw[Ew];exact Jc hp
 clear hp
 go_in
 go_wp2_with fail
 refine (Tryz.strings_CutPrefix s ⟨#[40,65,114,114,97,121,32]⟩ _).mono ?_;generalize j:w.alloc (.cells #[.int .i64 0,.int .i64 0,.string ⟨#[]⟩,.string ⟨#[]⟩] 101)=W1
 change ∀ (e:Ending) (w':World),(e=.returned (.tuple #[.string ⟨(Lib.trimPrefix s.data.toList Eh).toArray⟩,.bool (Lib.hasPrefix s.data.toList Eh)])/\w'=W1)->_
 rw[c6.o];rintro e U ⟨rfl,rfl⟩;generalize (⟨(Lib.trimPrefix s.data.toList Eh).toArray⟩:ByteArray)=D;subst j
 go_wp2_with fail
 refine (E.o s _ hs (Oz _ _)).mono ?_;obtain⟨X,hX⟩:=Oa (Of (Oc f) s.data.toList);rw[hX] at F ⊢;clear hX;rintro e U ⟨rfl,Y⟩;have a7:Below (w.heap.size+1) (w.alloc (.cells #[.int .i64 0,.int .i64 0,.string ⟨#[]⟩,.string ⟨#[]⟩] 101)) U:=BO Y
 have d:=Hd (Bw a7);have A:Hid (Below w.heap.size w U):=(Oz w _).trans (a7.mono (by omega));obtain⟨c0,c1,c2,c3⟩:=d.o.c4;obtain⟨f0,f1,f2,f3⟩:=d.o.f4;clear Y a7;unfold Gw
 go_wp2_with fail
 have I:=((((d.o.set 0 (.int .i64 X.kind)).set 1 (.int .i64 (X.width:Nat))).set 2 (.string (Oo X.index))).set 3 (.string (Oo X.elem)));obtain⟨e0,J,e2,e3⟩:=I.c4;refine Jg (v:=.agg #[.int .i64 X.kind,.int .i64 (X.width:Nat),.string (Oo X.index),.string (Oo X.elem)]) ?_ rfl ⟨O6 (by rw[F.o];rfl),?_⟩
 ·clear c0 c1 c2 c3 f0 f1 f2 f3;simp[results,results101,go_sem,e0,J,e2,e3]
 exact (((A.o.sc).sc).sc).sc
end Go.Proofs.YtdmdmgfjpomdbaaGreatDoor
namespace Go.Proofs.YtdmdmgfjpomdbaaGreatDoor
open ChangeShapes WideShapes ChangeAt RowKit
variable {N g:Nat}{w w':World}
theorem Eo {k:IntKind}{a b:Int}(h:a=b):Ending.returned (.int k a)=.returned (.int k b):=by rw[h]
structure Bar (g:Nat)(w w':World):Prop where
 os:w'.os=w.os
 tape:w'.tape=w.tape
 output:w'.output=w.output
 size:w.heap.size<=w'.heap.size
 block:∀ k,k<w.heap.size->k≠g->w'.heap[k]? = w.heap[k]?
theorem Bar.refl (g:Nat)(w:World):Bar g w w:=⟨rfl,rfl,rfl,leR,fun _ _ _=>rfl⟩
theorem Bar.trans {a b c:World}(h:Bar g a b)(k:Bar g b c):Bar g a c:=
 ⟨k.os.trans h.os,k.tape.trans h.tape,k.output.trans h.output,Yc h.size k.size,fun i hi hg=>(k.block i (Jq hi h.size) hg).trans (h.block i hi hg)⟩
theorem Bar.of (h:Up w w'):Bar g w w':=⟨h.os,h.tape,h.output,h.size,fun k hk _=>h.block k hk⟩
theorem Bar.bl (h:Bar g w w')(hN:N<=g)(hw:N<=w.heap.size):Below N w w':=⟨h.os,h.tape,h.output,h.size,fun k hk=>h.block k (by omega) (by omega)⟩
theorem Bar.setCell (g i:Nat)(w:World)(v:Value):Bar g w (w.setCell ⟨g,i,none⟩ v):=
 ⟨rfl,rfl,rfl,by simp[World.setCell],fun k _ hk=>Jh _ _ _ _ hk⟩
theorem Bar.drew (h:Bar g w w'):Bar g w w'.drew:=⟨h.os,h.tape,h.output,h.size,h.block⟩
theorem Bar.cell (h:Bar g w w'){p:Addr}(hp:p.block<w.heap.size)(hg:p.block≠g):w'.cell? p=w.cell? p:=by
 unfold World.cell?;rw[h.block p.block hp hg]
def Sx (g N:Nat)(w:World)(a:Option Addr)(n cap:Nat):Prop:=n<=cap/\cap<=maxLen/\∀ i,i<n->∃ b off v:Nat,a=some ⟨b,off,none⟩/\b≠g/\b<N/\v<256/\w.cell? ⟨b,off+i,none⟩=some (.int .u8 v)
theorem Sx.bar {a:Option Addr}{n cap:Nat}(h:Sx g N w a n cap)(hN:N<=w.heap.size)(hb:Bar g w w'):Sx g N w' a n cap:=
 ⟨h.1,h.2.1,fun i hi=>by
  obtain⟨b,d,v,e,j,h2,h3,h4⟩:=h.2.2 i hi
  exact⟨b,d,v,e,j,h2,h3,(hb.cell (p:=⟨b,d+i,none⟩) (Jq h2 hN) j).trans h4⟩⟩
def RO (g N:Nat)(w:World)(k:Nat):Prop:=g<N/\N<=w.heap.size/\∃ a n cap sd,Bx w g [.slice a n cap,.int .i64 (k:Nat),.int .u64 (sd:Nat)]/\sd<18446744073709551616/\Sx g N w a n cap
theorem RO.bl {k:Nat}(h:RO g N w k)(hb:Below N w w'):RO g N w' k:=by
 obtain⟨j,h2,a,n,cap,K,J,I,hc⟩:=h;refine⟨j,Yc h2 hb.size,a,n,cap,K,J.bl j hb,I,hc.1,hc.2.1,fun i hi=>?_⟩;obtain⟨b,d,v,e,A,e2,E,G⟩:=hc.2.2 i hi;exact⟨b,d,v,e,A,e2,E,(hb.cell (p:=⟨b,d+i,none⟩) e2).trans G⟩
theorem Bar.grownBy (h:Bar g w w'):w.grownBy w' (some g):=⟨h.os,h.tape,h.output,h.size,fun k hk hne=>h.block k hk (fun e=>hne (by rw[e]))⟩
theorem Bar.then {a b:World}(h:Bar g w a)(k:Below w.heap.size a b):Bar g w b:=
 ⟨k.os.trans h.os,k.tape.trans h.tape,k.output.trans h.output,Yc h.size k.size,fun i hi hg=>(k.block i hi).trans (h.block i hi hg)⟩
theorem Bx.bar {W W':World}{b:Nat}{l:List Value}(h:Bx W b l)(hb:Bar g W W')(hg:b≠g):Bx W' b l:=by
 obtain⟨t,h⟩:=h;exact⟨t,(hb.block b (Jv.1 h).1 hg).trans h⟩
def Si (w:World)(a:Option Addr)(n cap:Nat):Prop:=n<=cap/\cap<=maxLen/\∀ i,i<n->∃ b off v:Nat,a=some ⟨b,off,none⟩/\b<w.heap.size/\v<256/\w.cell? ⟨b,off+i,none⟩=some (.int .u8 v)
theorem Si.bl {a:Option Addr}{n cap:Nat}(h:Si w a n cap)(hb:Up w w'):Si w' a n cap:=
 ⟨h.1,h.2.1,fun i hi=>by
  obtain⟨b,d,v,e,j,h2,h3⟩:=h.2.2 i hi
  exact⟨b,d,v,e,Jq j hb.size,h2,(hb.cell (p:=⟨b,d+i,none⟩) j).trans h3⟩⟩
end Go.Proofs.YtdmdmgfjpomdbaaGreatDoor
namespace Go.Proofs.YtdmdmgfjpomdbaaGreatDoor
open ChangeShapes WideShapes ChangeAt RowKit Proofs.Tryz
variable {F:List Fn}{b n:Nat}{g:List UInt8->Option SI}{v:Value}{w w':World}
def KM (w:World)(b n:Nat)(g:List UInt8->Option SI):Prop:=
 ∃ D:DataW Unit,w.ownsMap prog 9 Rk b n D/\∀ s,Maps.has D (.string s)=(g s).isSome/\D.atKey (.string s) (QJ SI.none)=QJ ((g s).getD SI.none)
def LX (g:List UInt8->Option SI)(s:List UInt8)(x:SI):List UInt8->Option SI:=fun t=>if t=s then some x else g t
theorem Qg {s:List UInt8}:WideAt.IsKeyLit (.string s):=by simp[WideAt.IsKeyLit]
theorem KM.put {D:DataW Unit}(hD:∀ s,Maps.has D (.string s)=(g s).isSome/\D.atKey (.string s) (QJ SI.none)=QJ ((g s).getD SI.none))(hm:Maps.IsMap D){s:List UInt8}{x:SI}(hown:w.ownsMap prog 9 Rk b n (D.put (.string s) (QJ x))):KM w b n (LX g s x):=by
 refine⟨_,hown,fun t=>?_⟩;unfold LX
 by_cases h:t=s
 ·subst h;rw[if_pos rfl];exact⟨Maps.has_put_same hm Qg _,Maps.atKey_put_same hm Qg _ _⟩
 rw[if_neg h];have d:(Lit.string t)≠Lit.string s:=fun e=>h (by cases e;rfl);rw[Maps.has_put_other d,Maps.atKey_put_other d];exact hD t
theorem KM.bar {c:Nat}(h:KM w b n g)(hb:Bar c w w')(hc:b≠c):KM w' b n g:=by
 obtain⟨D,⟨E,A,j,I⟩,G⟩:=h;have d:b<w.heap.size:=(Jv.1 j).1;exact⟨D,⟨E,A,(hb.block b d hc).trans j,I⟩,G⟩
theorem KM.lt (h:KM w b n g):b<w.heap.size:=by
 obtain⟨D,⟨A,j,d,G⟩,E⟩:=h;exact (Jv.1 d).1
theorem GZ {w1:World}(h:Bar b w w1)(hg:w1.grownBy w' (some b)):Bar b w w':=
 ⟨hg.os.trans h.os,hg.tape.trans h.tape,hg.output.trans h.output,Yc h.size hg.size,fun k hk hne=>(hg.block k (Jq hk h.size) (by intro e;exact hne (Option.some.inj e))).trans (h.block k hk hne)⟩
theorem KM.low {N:Nat}(h:KM w b n g)(hb:Below N w w')(hN:b<N):KM w' b n g:=by
 obtain⟨D,⟨j,d,G,E⟩,A⟩:=h;exact⟨D,⟨j,d,(hb.block b hN).trans G,E⟩,A⟩
theorem KM.more (h:KM w b n g):KM w b (n+1) g:=by
 obtain⟨D,j,d⟩:=h;exact⟨D,j.mono (by omega),d⟩
theorem Ly {c:Nat}{l:List Value}(h:Bx w b l)(hg:w.grownBy w' (some c))(hne:b≠c):Bx w' b l:=by
 have d:=h.lt;obtain⟨t,h⟩:=h;exact⟨t,(hg.block b d (by intro e;exact hne (Option.some.inj e))).trans h⟩
def ZM (f:List UInt8->Option Nat)(g:List UInt8->Option SI):Prop:=∀ s x,g s=some x->x=Ov (Oc f) s
theorem Tq (kb gb n:Nat)(f:List UInt8->Option Nat)(g:List UInt8->Option SI)(s:ByteArray)(x:SI)(w:World)(hs:s.size<=1048576)(hc6:w.cell? ⟨kb,6,none⟩=some (.map (some gb)))(hk:KM w gb n g)(hok:ZM f g)(hg:g s.data.toList=some x) :
 Calls prog 84 #[.pointer (some ⟨kb,0,none⟩),.string s] w fun e w'=>e=.returned (Gw (Ov (Oc f) s.data.toList))/\Up w w':=by
 have O:kb<w.heap.size:=J5 w _ hc6;have M:Hid (x=Ov (Oc f) s.data.toList):=hok _ _ hg;obtain⟨D,d,J⟩:=hk;have j:=Hd (d.alloc (.cells #[.int .i64 0,.int .i64 0,.string ⟨#[]⟩,.string ⟨#[]⟩] 101));have I:=Hd J;have K:=Hd hg;clear d J hok hg
 go_in
 go_wp2_with (at_lookup;refine wpList_lookup_own_ok _ rfl _ _ 77 rfl 9 101 Xc underlying77 Rk (z:=Gw SI.none) ?z (QJ SI.none) [] (Cz _) gb n D rfl j.o _ _ rfl (Gl s (by unfold maxLen;omega)) ?_)
 case z=>rfl
 intro v U G;have E:=(I.o s.data.toList).1;have h:=(I.o s.data.toList).2;rw[K.o] at E h;rw[h] at G;have A:=Bz G;rw[E,A,show Gw ((some x:Option SI).getD SI.none)=Value.agg #[.int .i64 x.kind,.int .i64 (x.width:Nat),.string (Oo x.index),.string (Oo x.elem)] from rfl,show (some x:Option SI).isSome=true from rfl];clear G h A E
 go_wp2_with fail
 refine Jg (v:=.agg #[.int .i64 x.kind,.int .i64 (x.width:Nat),.string (Oo x.index),.string (Oo x.elem)]) ?_ rfl ⟨O6 (by rw[<-M.o];rfl),((Je _ _).alloc leR _).alloc (by rw[Jf];omega) _⟩;simp[results,results84,go_sem]
theorem EZ (kb sb gb n:Nat)(f:List UInt8->Option Nat)(g:List UInt8->Option SI)(s:ByteArray)(w:World)(hs:s.size<=1048576)(hn:n<=1000000000)(hev:EV w)(hc3:w.cell? ⟨kb,3,none⟩=some (.map (some sb)))(hc6:w.cell? ⟨kb,6,none⟩=some (.map (some gb)))(hm:Hm w sb f)(hsb:sb<w.heap.size)(hk:KM w gb n g)(hok:ZM f g)(hg:g s.data.toList=none) :
 Calls prog 84 #[.pointer (some ⟨kb,0,none⟩),.string s] w fun e w'=>∃ g',e=.returned (Gw (Ov (Oc f) s.data.toList))/\KM w' gb (n+1) g'/\ZM f g'/\Bar gb w w':=by
 have d9:kb<w.heap.size:=J5 w _ hc6;have b5:gb<w.heap.size:=hk.lt;obtain⟨D,V,hD⟩:=hk;have A:=Hd V;have f8:=Hd (V.alloc (.cells #[.int .i64 0,.int .i64 0,.string ⟨#[]⟩,.string ⟨#[]⟩] 101));have HD:=Hd hD;have HG:=Hd hg;have e8:=Hd hok;have i8:=Hd hev;have HM:=Hd hm;have i7:=Hd hc3;clear V hD hok hg hev hm hc3
 go_in
 go_wp2_with (at_lookup;refine wpList_lookup_own_ok _ rfl _ _ 77 rfl 9 101 Xc underlying77 Rk (z:=Gw SI.none) ?z (QJ SI.none) [] (Cz _) gb n D rfl f8.o _ _ rfl (Gl s (by unfold maxLen;omega)) ?_)
 case z=>rfl
 intro v ps hv;have hh:=(HD.o s.data.toList).1;have e4:=(HD.o s.data.toList).2;rw[HG.o] at hh e4;rw[e4] at hv;have g9:=Bz hv;rw[hh,g9,show Gw ((none:Option SI).getD SI.none)=Value.agg #[.int .i64 0,.int .i64 0,.string ⟨#[]⟩,.string ⟨#[]⟩] from rfl,show (none:Option SI).isSome=false from rfl];clear hv e4 g9 hh
 go_wp2_with fail
 have J:Hid (Up w ((w.alloc (.cells #[.int .i64 0,.int .i64 0,.string ⟨#[]⟩,.string ⟨#[]⟩] 101)).alloc (.cells #[.int .i64 0,.int .i64 0,.string ⟨#[]⟩,.string ⟨#[]⟩] 101))):=((Je _ _).alloc leR _).alloc (by rw[Jf];omega) _;refine (Av kb sb f s _ hs (i8.o.next J.o) ((J.o.cell (p:=⟨kb,3,none⟩) d9).trans i7.o) (HM.o.bl J.o hsb) (Jq hsb J.o.size)).mono ?_;obtain⟨X,hX⟩:=Oa (Ov (Oc f) s.data.toList);have HX:=Hd hX;rw[hX];clear hX;rintro e w1 ⟨rfl,d8⟩;have j:Below (w.heap.size+2) ((w.alloc (.cells #[.int .i64 0,.int .i64 0,.string ⟨#[]⟩,.string ⟨#[]⟩] 101)).alloc (.cells #[.int .i64 0,.int .i64 0,.string ⟨#[]⟩,.string ⟨#[]⟩] 101)) w1:=by rw[Jf,Jf] at d8;exact d8
 have b4:Bx w1 w.heap.size [.int .i64 0,.int .i64 0,.string ⟨#[]⟩,.string ⟨#[]⟩]:=((Oi w [.int .i64 0,.int .i64 0,.string ⟨#[]⟩,.string ⟨#[]⟩] 101).alloc _).bl (N:=w.heap.size+2) (by omega) j;have O:=Oi (w.alloc (.cells #[.int .i64 0,.int .i64 0,.string ⟨#[]⟩,.string ⟨#[]⟩] 101)) [.int .i64 0,.int .i64 0,.string ⟨#[]⟩,.string ⟨#[]⟩] 101;rw[Jf] at O;have b3:Bx w1 (w.heap.size+1) [.int .i64 0,.int .i64 0,.string ⟨#[]⟩,.string ⟨#[]⟩]:=O.bl (N:=w.heap.size+2) (by omega) j;have b8:Up w w1:=J.o.trans (j.mono (by omega));have k1:w.heap.size+2<=w1.heap.size:=by have:=j.size;rw[Jf,Jf] at this;exact this
 clear d8 j O;obtain⟨r0,r1,r2,r3⟩:=b4.c4;obtain⟨q0,q1,q2,q3⟩:=b4.f4;obtain⟨c0,c1,c2,c3⟩:=b3.c4;obtain⟨f0,f1,f2,f3⟩:=b3.f4;have b6:=((((b3.set 0 (.int .i64 X.kind)).set 1 (.int .i64 (X.width:Nat))).set 2 (.string (Oo X.index))).set 3 (.string (Oo X.elem)));have b9:Up w ((((w1.setCell ⟨w.heap.size+1,0,none⟩ (.int .i64 X.kind)).setCell ⟨w.heap.size+1,1,none⟩ (.int .i64 (X.width:Nat))).setCell ⟨w.heap.size+1,2,none⟩ (.string (Oo X.index))).setCell ⟨w.heap.size+1,3,none⟩ (.string (Oo X.elem))):=(((b8.setCell (p:=⟨w.heap.size+1,0,none⟩) (by show w.heap.size<=w.heap.size+1;omega) _).setCell (p:=⟨w.heap.size+1,1,none⟩) (by show w.heap.size<=w.heap.size+1;omega) _).setCell (p:=⟨w.heap.size+1,2,none⟩) (by show w.heap.size<=w.heap.size+1;omega) _).setCell (p:=⟨w.heap.size+1,3,none⟩) (by show w.heap.size<=w.heap.size+1;omega) _;have b7:Bx ((((w1.setCell ⟨w.heap.size+1,0,none⟩ (.int .i64 X.kind)).setCell ⟨w.heap.size+1,1,none⟩ (.int .i64 (X.width:Nat))).setCell ⟨w.heap.size+1,2,none⟩ (.string (Oo X.index))).setCell ⟨w.heap.size+1,3,none⟩ (.string (Oo X.elem))) w.heap.size [.int .i64 0,.int .i64 0,.string ⟨#[]⟩,.string ⟨#[]⟩]:=
  b4.bl (N:=w.heap.size+1) (by omega) ((((Je _ _).sc).sc).sc |>.sc)
 have a7:=Hd b6;have a8:=Hd b7;have d:=Hd b9;clear b3 b4 b6 b7 b8 b9;unfold Gw
 by_cases G:X.kind=0
 ·have x0:(X.kind==0)=true:=by rw[Yf];exact G
  have x1:=Nr G;clear G
  go_wp2_with fail
  have e5:=((((a8.o.set 0 (.int .i64 X.kind)).set 1 (.int .i64 (X.width:Nat))).set 2 (.string (Oo X.index))).set 3 (.string (Oo X.elem)));obtain⟨e0,e1,e2,e3⟩:=e5.c4;have M:Up w _:=(((d.o.setCell (p:=⟨w.heap.size,0,none⟩) leR (.int .i64 X.kind)).setCell (p:=⟨w.heap.size,1,none⟩) leR (.int .i64 (X.width:Nat))).setCell (p:=⟨w.heap.size,2,none⟩) leR (.string (Oo X.index))).setCell (p:=⟨w.heap.size,3,none⟩) leR (.string (Oo X.elem));refine Jg (v:=.agg #[.int .i64 X.kind,.int .i64 (X.width:Nat),.string (Oo X.index),.string (Oo X.elem)]) ?_ rfl ⟨g,O6 (by rw[HX.o];rfl),?_,e8.o,Bar.of M⟩
  ·clear c0 c1 c2 c3 f0 f1 f2 f3 r0 r1 r2 r3 q0 q1 q2 q3;simp[results,results84,go_sem,e0,e1,e2,e3]
  obtain⟨es,cl,hm,hf⟩:=A.o.mono (n':=n+1) (by omega);exact⟨D,⟨es,cl,(M.block gb b5).trans hm,hf⟩,HD.o⟩
 have x0:(X.kind==0)=false:=by rw[Jb];exact G
 have x1:=K3 G;clear G
 go_wp2_with fail
 clear c0 c1 c2 c3 f0 f1 f2 f3 r0 r1 r2 r3 q0 q1 q2 q3;generalize ((((w1.setCell ⟨w.heap.size+1,0,none⟩ (.int .i64 X.kind)).setCell ⟨w.heap.size+1,1,none⟩ (.int .i64 (X.width:Nat))).setCell ⟨w.heap.size+1,2,none⟩ (.string (Oo X.index))).setCell ⟨w.heap.size+1,3,none⟩ (.string (Oo X.elem)))=W2 at a7 a8 d ⊢;have k6:W2.cell? ⟨kb,6,none⟩=some (.map (some gb)):=(d.o.cell (p:=⟨kb,6,none⟩) d9).trans hc6;have e9:Hid (W2.ownsMap prog 9 Rk gb n D):=by
  obtain⟨es,cl,hm,hf⟩:=A.o;exact⟨es,cl,(d.o.block gb b5).trans hm,hf⟩
 obtain⟨d0,d1,d2,d3⟩:=a7.o.c4;have j0:Hid (∀ w3,Up W2 w3->w3.cell? ⟨kb,6,none⟩=some (.map (some gb))/\Bx w3 (w.heap.size+1) [.int .i64 X.kind,.int .i64 (X.width:Nat),.string (Oo X.index),.string (Oo X.elem)]/\w3.ownsMap prog 9 Rk gb n D):=fun w3 h3=>
  ⟨(h3.cell (p:=⟨kb,6,none⟩) (Jq d9 d.o.size)).trans k6,a7.o.bl (a7.o.lt) h3,by
   obtain⟨es,cl,hm,hf⟩:=e9.o;exact⟨es,cl,(h3.block gb (Jq b5 d.o.size)).trans hm,hf⟩⟩
 go_region_with (go_at_call 62;refine (N5 s _ (by omega)).mono ?_;rintro e w3 ⟨rfl,I⟩;have K:Up W2 w3:=⟨I.os,I.tape,I.output,I.size,I.block⟩;obtain⟨j9,U,d4⟩:=j0.o w3 K;obtain⟨g0,g1,g2,g3⟩:=U.c4;obtain⟨w4,Z,Y,c6⟩:=d4.update Xc underlying77 (by unfold maxLen;omega) (Gl s (by unfold maxLen;omega)) (Cz X);unfold Gw at Z;have e6:=Hd K;have j1:=Hd Y;have d7:=Hd c6;have e7:=Hd U;clear I K d4 Y c6 U)
 all_goals (
  have d5:Bx w3 w.heap.size [.int .i64 0,.int .i64 0,.string ⟨#[]⟩,.string ⟨#[]⟩]:=a8.o.bl a8.o.lt e6.o;have E:=Ly d5 d7.o (by omega);have c8:=Ly e7.o d7.o (by omega);obtain⟨r0,r1,r2,r3⟩:=E.c4;obtain⟨q0,q1,q2,q3⟩:=E.f4;obtain⟨t0,t1,t2,t3⟩:=c8.c4;have f9:=Hd E;have i6:Hid (Bar gb w w4):=GZ (Bar.of (d.o.trans (e6.o.mono d.o.size))) d7.o;clear d5 E c8 Z g0 g1 g2 g3 d0 d1 d2 d3 k6 j9
  go_wp2_with fail
  have e5:=((((f9.o.set 0 (.int .i64 X.kind)).set 1 (.int .i64 (X.width:Nat))).set 2 (.string (Oo X.index))).set 3 (.string (Oo X.elem)));obtain⟨e0,e1,e2,e3⟩:=e5.c4;have M:Below w.heap.size w4 _:=((((Je _ _).setCell (p:=⟨w.heap.size,0,none⟩) leR (.int .i64 X.kind)).setCell (p:=⟨w.heap.size,1,none⟩) leR (.int .i64 (X.width:Nat))).setCell (p:=⟨w.heap.size,2,none⟩) leR (.string (Oo X.index))).setCell (p:=⟨w.heap.size,3,none⟩) leR (.string (Oo X.elem));refine Jg (v:=.agg #[.int .i64 X.kind,.int .i64 (X.width:Nat),.string (Oo X.index),.string (Oo X.elem)]) ?_ rfl ⟨LX g s.data.toList X,O6 (by rw[HX.o];rfl),?_,?_,i6.o.then M⟩
  ·clear r0 r1 r2 r3 q0 q1 q2 q3 t0 t1 t2 t3;simp[results,results84,go_sem,e0,e1,e2,e3]
  ·have g7:=KM.put HD.o A.o.isMap j1.o;exact g7.low M b5
  intro t x ht;unfold LX at ht
  by_cases h:t=s.data.toList
  ·rw[if_pos h] at ht;cases ht;rw[h];exact HX.o.symm
  rw[if_neg h] at ht;exact e8.o t x ht)
theorem Bu (kb sb gb n:Nat)(f:List UInt8->Option Nat)(g:List UInt8->Option SI)(s:ByteArray)(w:World)(hs:s.size<=1048576)(hn:n<=1000000000)(hev:EV w)(hc3:w.cell? ⟨kb,3,none⟩=some (.map (some sb)))(hc6:w.cell? ⟨kb,6,none⟩=some (.map (some gb)))(hm:Hm w sb f)(hsb:sb<w.heap.size)(hk:KM w gb n g)(hok:ZM f g) :
 Calls prog 84 #[.pointer (some ⟨kb,0,none⟩),.string s] w fun e w'=>∃ g',e=.returned (Gw (Ov (Oc f) s.data.toList))/\KM w' gb (n+1) g'/\ZM f g'/\Bar gb w w':=by
 cases d:g s.data.toList with
 | none=>exact EZ kb sb gb n f g s w hs hn hev hc3 hc6 hm hsb hk hok d
 | some x=>
   refine (Tq kb gb n f g s x w hs hc6 hk hok d).mono ?_;rintro e w' ⟨rfl,hb⟩;exact⟨g,rfl,(hk.more).low hb hk.lt,hok,Bar.of hb⟩
def Ee (f1 f2:List UInt8->Option Nat)(n:List UInt8):Bool:=(f1 n).isSome||(f2 n).isSome||!Ni n
def Hg (f1 f2:List UInt8->Option Nat)(n:List UInt8):Int:=if Ee f1 f2 n then 2 else 0
theorem Gv (kb sb fb:Nat)(f1 f2:List UInt8->Option Nat)(s:ByteArray)(w:World)(hc3:w.cell? ⟨kb,3,none⟩=some (.map (some sb)))(hc4:w.cell? ⟨kb,4,none⟩=some (.map (some fb)))(hm1:Hm w sb f1)(hm2:Hm w fb f2)(hs:s.size<=1048576) :
 Calls prog 60 #[.pointer (some ⟨kb,0,none⟩),.string s] w fun e w'=>e=.returned (.int .i64 (Hg f1 f2 s.data.toList))/\w'=w:=by
 obtain⟨n,D,hn,j,V⟩:=hm1;obtain⟨n2,Z,hn2,d,I⟩:=hm2;have G:=Hd j;have HD:=Hd V;have A:=Hd d;have M:=Hd I;clear j V d I;have Y:=Gl s (by unfold maxLen;omega);have h:Hid (Hg f1 f2 s.data.toList=if (f1 s.data.toList).isSome||(f2 s.data.toList).isSome||!Ni s.data.toList then 2 else 0):=rfl
 go_in
 go_wp2_with (at_lookup;refine wpList_lookup_own_ok_int _ rfl _ _ 75 rfl 9 3 .i64 Xc underlying75 underlying3 ?z sb n D rfl G.o _ _ rfl Y ?_)
 case z=>rfl
 intro c O U;rw[(HD.o s.data.toList).1];clear O U
 go_wp2_with (at_lookup;refine wpList_lookup_own_ok_int _ rfl _ _ 75 rfl 9 3 .i64 Xc underlying75 underlying3 ?z2 fb n2 Z rfl A.o _ _ rfl Y ?_)
 case z2=>rfl
 intro c2 J K;rw[(M.o s.data.toList).1];clear J K
 cases E:(f1 s.data.toList).isSome
 ·cases h2:(f2 s.data.toList).isSome
  ·rw[E,h2] at h;clear E h2
   go_wp2_with fail
   refine (Ll s _ (by unfold maxLen;omega)).mono ?_
   cases h3:Ni s.data.toList
   ·rw[h3] at h;rintro e w1 ⟨rfl,rfl⟩;clear h3
    go_wp2
    go_ret
    exact⟨Kx (by rw[h.o];rfl),rfl⟩
   rw[h3] at h;rintro e w1 ⟨rfl,rfl⟩;clear h3
   go_wp2
   go_ret
   exact⟨Kx (by rw[h.o];rfl),rfl⟩
  rw[E,h2] at h;clear E h2
  go_wp2
  go_ret
  exact⟨Kx (by rw[h.o];rfl),rfl⟩
 rw[E] at h;clear E;generalize (f2 s.data.toList).isSome=B2 at h ⊢
 go_wp2
 go_ret
 exact⟨Kx (by rw[h.o];simp),rfl⟩
theorem Xd (kb:Nat)(p q:Option Addr)(n c m d:Nat)(w:World)(h0:w.cell? ⟨kb,0,none⟩=some (.slice p n c))(h1:w.cell? ⟨kb,1,none⟩=some (.slice q m d))(hn:n<=1000000)(hm:m<=1000000) :
 Calls prog 61 #[.pointer (some ⟨kb,0,none⟩)] w fun e w'=>e=.returned (.bool (decide (300<=n+m)))/\Up w w':=by
 have F:Hid (decide (300<=n+m)=decide ((300:Int)<=(n:Int)+(m:Int))):=by unfold Hid;rw[Yd,Ju,Ju];omega
 go_in
 go_wp2
 go_region
 all_goals (go_wp2_with fail)
 all_goals go_ret
 all_goals exact⟨Oy (by rw[F.o]),⟨rfl,rfl,rfl,leR,fun _ _=>rfl⟩⟩
structure Fn where
 name:List UInt8
 args:List (List UInt8)
 sort:List UInt8
structure Tm where
 op:Int
 sort:List UInt8
 text:List UInt8
 a:Int
 b:Int
 kids:List Int
theorem Qp (own:List UInt8->Bool)(t:List UInt8):0<=(Ov own t).kind/\(Ov own t).kind<=6:=by
 by_cases d:t.take 7=Eh
 ·rcases Xh own d with h|⟨i,e,_,h⟩
  ·rw[h];exact⟨by decide,by decide⟩
  rw[h];exact⟨by show (0:Int)<=6;decide,by show (6:Int)<=6;decide⟩
 have:=I4 own t;unfold Ov;rw[if_neg d];omega
theorem EO (X:SI)(W:World):(Instr.field 101 (.agg #[.int .i64 X.kind,.int .i64 (X.width:Nat),.string (Oo X.index),.string (Oo X.elem)]) 0).run prog W=.ok (.int .i64 X.kind) W:=by
 unfold Instr.field
 go_simp
 rfl
def K4 (own:List UInt8->Bool)(f:Fn):Bool:=decide (f.args.length<=5)&&f.args.all (fun a=>O1 (Ov own a))&&decide ((Ov own f.sort).kind≠0)&&(decide ((Ov own f.sort).kind≠6)||decide (f.args.length=0))
theorem C9 (v va:Value)(L:List (List UInt8))(f:Fn)(w:World)(h:O3 w v L)(ha:O3 w va f.args)(hz:∀ a∈f.args,a.length<=1048576)(hzs:f.sort.length<=1048576) :
 Calls prog 46 #[v,.agg #[.string (Oo f.name),va,.string (Oo f.sort)]] w fun e w'=>e=.returned (.bool (K4 (Ok L) f))/\Up w w':=by
 have HS:=Hd h;obtain⟨p,c,rfl,h1,h2,h3⟩:=ha;have HA:=Hd h3;have HZ:=Hd hz;unfold maxLen at h2;clear h h3 hz
 by_cases h5:5<f.args.length
 ·have F:Hid (K4 (Ok L) f=false):=by unfold Hid K4;rw[Jc (by omega)];rfl
  go_in
  go_wp2
  go_ret
  exact⟨Oy F.o.symm,Oz _ _⟩
 have HF:Hid (K4 (Ok L) f=(f.args.all (fun a=>O1 (Ov (Ok L) a))&&(decide ((Ov (Ok L) f.sort).kind≠0)&&(decide ((Ov (Ok L) f.sort).kind≠6)||decide (f.args.length=0))))):=by
  unfold Hid K4;rw[Ja (by omega),Zd,U0]
 go_in
 go_wp2_with fail
 obtain⟨W1,I⟩:=Oa (w.alloc (.cells #[.string (Oo f.name),.slice p f.args.length c,.string (Oo f.sort)] 45));have c8:Hid (Up w W1):=by unfold Hid;rw[<-I];exact Oz _ _
 have b6:Hid (W1.heap.size=w.heap.size+1):=by unfold Hid;rw[<-I];simp
 have b7:Hid (Bx W1 w.heap.size [.string (Oo f.name),.slice p f.args.length c,.string (Oo f.sort)]):=by unfold Hid;rw[<-I];exact Oi w _ _
 rw[I];clear I
 go_loopw [16] (fun i wr=>∃ k:Nat,k<=f.args.length/\i=.int .i64 (k:Nat)/\(∀ j (h:j<f.args.length),j<k->O1 (Ov (Ok L) f.args[j])=true)/\Below (w.heap.size+1) W1 wr) (fun i _=>f.args.length - (intOf i).toNat)
 case atStart=>exact⟨0,Jr _,rfl,fun j _ h=>absurd h (J2 _),Je _ _⟩
 obtain⟨k,hk,rfl,hp,U⟩:=hrel;have HP:=Hd hp;have M:=Hd U;have E:Hid (Up w wr):=c8.o.trans (U.mono (by omega));have K:=b7.o.bl (N:=w.heap.size+1) (by omega) U;obtain⟨b0,b1,b2⟩:=K.c3;clear hp U K
 by_cases J:k<f.args.length
 ·rcases HA.o with h0|⟨b,rfl,hb,b9⟩
  ·rw[h0] at J;simp at J
  have hc:=(E.o.cell (p:=⟨b,k,none⟩) hb).trans (b9 k J);clear b9;have V:(Oo f.args[k]).size<=1048576:=by rw[<-Om,Ou];exact HZ.o _ (Jo J)
  obtain⟨S,hS⟩:=Oa (Oo f.args[k]);have O:Hid (S.data.toList=f.args[k]):=by unfold Hid;rw[<-hS,Ou]
  rw[hS] at hc V;clear hS
  go_wp2_with fail
  refine (Kv v L S _ (HS.o.bl E.o) V).mono ?_;have Z:=Qp (Ok L) S.data.toList;have hq:O1 (Ov (Ok L) f.args[k])=O1 (Ov (Ok L) S.data.toList):=by rw[O.o]
  have HQ:=Hd hq;clear hq;generalize Ov (Ok L) S.data.toList=X at Z HQ ⊢;rintro e w2 ⟨rfl,hb2⟩;have Y:Hid (Below (w.heap.size+1) W1 w2):=M.o.trans (hb2.mono (by have:=M.o.size;have:=b6.o;omega));have d:=E.up hb2;clear hb2;unfold Gw;have c6:=EO X w2
  by_cases A:X.kind=0∨X.kind=1∨X.kind=6
  ·have HR:Hid (K4 (Ok L) f=false):=by
    unfold Hid;rw[HF.o];have:f.args.all (fun a=>O1 (Ov (Ok L) a))=false:=by
     rw[J8];intro h;have h2:=Jt.1 h f.args[k] (Jo J);rw[HQ.o] at h2;simp only[O1,J3,Yi] at h2;omega
    rw[this];rfl
   rcases A with A|A|A
   ·have x0:(X.kind==0)=true:=by rw[Yf];exact A
    clear A
    go_wp2
    go_ret
    exact⟨Oy HR.o.symm,d.o⟩
   ·have x0:(X.kind==0)=false:=by rw[Jb];omega
    have x1:(X.kind==1)=true:=by rw[Yf];exact A
    clear A
    go_wp2
    go_ret
    exact⟨Oy HR.o.symm,d.o⟩
   have x0:(X.kind==0)=false:=by rw[Jb];omega
   have x1:(X.kind==1)=false:=by rw[Jb];omega
   have x6:(X.kind==6)=true:=by rw[Yf];exact A
   clear A
   go_wp2
   go_ret
   exact⟨Oy HR.o.symm,d.o⟩
  have x0:(X.kind==0)=false:=by rw[Jb];omega
  have x1:(X.kind==1)=false:=by rw[Jb];omega
  have x6:(X.kind==6)=false:=by rw[Jb];omega
  have e3:=Hd A;have b5:Hid (O1 (Ov (Ok L) f.args[k])=true):=by
   unfold Hid;rw[HQ.o];simp only[O1,J3,Yi];omega
  clear A
  go_wp2
  go_roundw
  case rel=>exact⟨k+1,by omega,by go_num,fun j hj h2=>by
   rcases J1.1 h2 with h|rfl
   ·exact HP.o j hj h
   exact b5.o,Y.o⟩
  simp[intOf];omega
 have b4:Hid (f.args.all (fun a=>O1 (Ov (Ok L) a))=true):=by
  unfold Hid;rw[Jt];intro a ha;obtain⟨j,hj,rfl⟩:=J6 ha;exact HP.o j hj (by omega)
 obtain⟨S,hS⟩:=Oa (Oo f.sort);have O:Hid (S.data.toList=f.sort):=by unfold Hid;rw[<-hS,Ou]
 have V:S.size<=1048576:=by rw[<-Om,O.o];exact hzs
 rw[hS] at b2;have z:decide ((k:Int)<(f.args.length:Int))=false:=dF (by omega)
 go_wp2_with fail
 refine (Kv v L S _ (HS.o.bl E.o) V).mono ?_;have Z:=Qp (Ok L) S.data.toList;have G:Hid (K4 (Ok L) f=(decide ((Ov (Ok L) S.data.toList).kind≠0)&&(decide ((Ov (Ok L) S.data.toList).kind≠6)||decide (f.args.length=0)))):=by
  unfold Hid;rw[HF.o,b4.o,O.o];rfl
 generalize Ov (Ok L) S.data.toList=X at Z G ⊢;rintro e w2 ⟨rfl,hb2⟩;have Y:Hid (Below (w.heap.size+1) W1 w2):=M.o.trans (hb2.mono (by have:=M.o.size;have:=b6.o;omega));have d:=E.up hb2;have K:=b7.o.bl (N:=w.heap.size+1) (by omega) Y.o;obtain⟨n0,n1,n2⟩:=K.c3;clear hb2 K b0 b1 b2;unfold Gw;have c6:=EO X w2
 by_cases k0:X.kind=0
 ·have y0:=Nr k0;have K0:=Hd k0;clear k0
  go_wp2
  go_ret
  exact⟨Oy (by have:=K0.o;rw[G.o,Jc (by omega)];rfl),d.o⟩
 have y0:=K3 k0;have K0:=Hd k0;have p0:=k0;clear k0
 by_cases k6:X.kind=6
 ·have y6:=Nr k6;have K6:=Hd k6;clear k6
  by_cases kn:f.args.length=0
  ·have yn:((f.args.length:Int)==0)=true:=by rw[Yf];omega
   go_wp2
   go_ret
   exact⟨Oy (by rw[G.o,Ja K0.o,Ja kn];simp),d.o⟩
  have yn:((f.args.length:Int)==0)=false:=by rw[Jb];omega
  go_wp2
  go_ret
  exact⟨Oy (by have:=K6.o;rw[G.o,Ja K0.o,Jc kn,Jc (by omega)];rfl),d.o⟩
 have y6:=K3 k6;have K6:=Hd k6
 go_wp2
 go_ret
 exact⟨Oy (by rw[G.o,Ja K0.o,Ja K6.o];rfl),d.o⟩
def E9 (w:World)(v:Value)(F:List Fn):Prop:=
 ∃ p c,v=.slice p F.length c/\F.length<=c/\c<=maxLen/\(F=[]∨∃ b,p=some ⟨b,0,none⟩/\b<w.heap.size/\∀ i (h:i<F.length),w.cell? ⟨b,i*3,none⟩=some (.string (Oo F[i].name))/\(∃ va,w.cell? ⟨b,i*3+1,none⟩=some va/\O3 w va F[i].args)/\w.cell? ⟨b,i*3+2,none⟩=some (.string (Oo F[i].sort)))
theorem E9.bl (h:E9 w v F)(hb:Up w w'):E9 w' v F:=by
 obtain⟨p,c,rfl,d,h2,h3⟩:=h;refine⟨p,c,rfl,d,h2,?_⟩
 rcases h3 with h3|⟨b,e,hl,hc⟩
 ·exact .inl h3
 refine .inr ⟨b,e,Jq hl hb.size,fun i hi=>?_⟩;obtain⟨j,⟨va,A,ha⟩,k2⟩:=hc i hi;exact⟨(hb.cell (p:=⟨b,i*3,none⟩) hl).trans j,⟨va,(hb.cell (p:=⟨b,i*3+1,none⟩) hl).trans A,ha.bl hb⟩,(hb.cell (p:=⟨b,i*3+2,none⟩) hl).trans k2⟩
def Kg (w:World)(v:Value)(L:List Int):Prop:=
 ∃ p c,v=.slice p L.length c/\L.length<=c/\c<=maxLen/\(L=[]∨∃ b,p=some ⟨b,0,none⟩/\b<w.heap.size/\∀ i (h:i<L.length),w.cell? ⟨b,i,none⟩=some (.int .i64 L[i]))
theorem Kg.bl {L:List Int}(h:Kg w v L)(hb:Up w w'):Kg w' v L:=by
 obtain⟨p,c,rfl,d,h2,h3⟩:=h;refine⟨p,c,rfl,d,h2,?_⟩
 rcases h3 with h3|⟨b,e,hl,hc⟩
 ·exact .inl h3
 exact .inr ⟨b,e,Jq hl hb.size,fun i hi=>(hb.cell (p:=⟨b,i,none⟩) hl).trans (hc i hi)⟩
def K9 (w:World)(v:Value)(T:List Tm):Prop:=
 ∃ p c,v=.slice p T.length c/\T.length<=c/\c<=maxLen/\(T=[]∨∃ b,p=some ⟨b,0,none⟩/\b<w.heap.size/\∀ i (h:i<T.length),w.cell? ⟨b,i*6,none⟩=some (.int .i64 T[i].op)/\w.cell? ⟨b,i*6+1,none⟩=some (.string (Oo T[i].sort))/\w.cell? ⟨b,i*6+2,none⟩=some (.string (Oo T[i].text))/\w.cell? ⟨b,i*6+3,none⟩=some (.int .i64 T[i].a)/\w.cell? ⟨b,i*6+4,none⟩=some (.int .i64 T[i].b)/\∃ va,w.cell? ⟨b,i*6+5,none⟩=some va/\Kg w va T[i].kids)
theorem K9.bl {T:List Tm}(h:K9 w v T)(hb:Up w w'):K9 w' v T:=by
 obtain⟨p,c,rfl,d,h2,h3⟩:=h;refine⟨p,c,rfl,d,h2,?_⟩
 rcases h3 with h3|⟨b,e,hl,hc⟩
 ·exact .inl h3
 refine .inr ⟨b,e,Jq hl hb.size,fun i hi=>?_⟩;obtain⟨j,A,k2,k3,k4,va,k5,ha⟩:=hc i hi;exact⟨(hb.cell (p:=⟨b,i*6,none⟩) hl).trans j,(hb.cell (p:=⟨b,i*6+1,none⟩) hl).trans A,(hb.cell (p:=⟨b,i*6+2,none⟩) hl).trans k2,(hb.cell (p:=⟨b,i*6+3,none⟩) hl).trans k3,(hb.cell (p:=⟨b,i*6+4,none⟩) hl).trans k4,va,(hb.cell (p:=⟨b,i*6+5,none⟩) hl).trans k5,ha.bl hb⟩
def Od (F:List Fn)(n:List UInt8):Option Nat:=F.findIdx? (fun f=>decide (f.name=n))
def Hc (F:List Fn)(n:List UInt8):Int:=match Od F n with|none => -1|some i=>(i:Int)
theorem VR {n:List UInt8}(h:∀ j (hj:j<F.length),F[j].name≠n):Hc F n = -1:=by
 unfold Hc Od;rw[List.findIdx?_eq_none_iff.2];intro x d;obtain⟨j,hj,rfl⟩:=J6 d
 simpa using h j hj
theorem VP {n:List UInt8}{k:Nat}(hk:k<F.length)(h:F[k].name=n)(hb:∀ j (hj:j<F.length),j<k->F[j].name≠n):Hc F n=(k:Int):=by
 unfold Hc Od;rw[Zk.2 ⟨hk,by simpa using h,fun j hj=>by simpa using hb j (by omega) hj⟩]
theorem Ph (vs vf vt:Value)(F:List Fn)(s:ByteArray)(w:World)(h:E9 w vf F) :
 Calls prog 59 #[.agg #[vs,vf,vt],.string s] w fun e w'=>e=.returned (.int .i64 (Hc F s.data.toList))/\Up w w':=by
 obtain⟨p,c,rfl,h1,h2,h3⟩:=h;have Y:=Hd h3;unfold maxLen at h2;clear h3
 go_in
 go_wp2_with fail
 obtain⟨U,d⟩:=Oa (w.alloc (.cells #[vs,.slice p F.length c,vt] 31));have E:Hid (Up w U):=by unfold Hid;rw[<-d];exact Oz _ _
 have K:Bx U w.heap.size [vs,.slice p F.length c,vt]:=by rw[<-d];exact Oi w _ _
 obtain⟨b0,b1,b2⟩:=K.c3;rw[d];clear d K
 go_loop [9] (fun i=>∃ k:Nat,k<=F.length/\i=.int .i64 (k:Nat)/\∀ j (h:j<F.length),j<k->F[j].name≠s.data.toList) (fun i=>F.length - (intOf i).toNat)
 case atStart=>exact⟨0,Jr _,rfl,fun j _ h=>absurd h (J2 _)⟩
 obtain⟨k,hk,rfl,V⟩:=hrel;have M:=Hd V;clear V
 by_cases A:k<F.length
 ·rcases Y.o with h0|⟨b,rfl,hb,J⟩
  ·rw[h0] at A;simp at A
  have hc:=(E.o.cell (p:=⟨b,k*3,none⟩) hb).trans (J k A).1;clear J
  by_cases I:F[k].name=s.data.toList
  ·have O:Hid (Hc F s.data.toList=(k:Int)):=VP A I M.o;rw[I,Kq] at hc;clear I
   go_wp2
   go_ret
   exact⟨Kx O.o.symm,E.o⟩
  have Z:=Hd I;have G:Oo F[k].name≠s:=fun e=>I (by rw[<-e,Ou]);generalize Oo F[k].name=X at hc G;have zz:=Ck G;clear I G
  go_wp2
  go_round
  case rel=>exact⟨k+1,by omega,by go_num,fun j hj h2=>by
   rcases J1.1 h2 with h|rfl
   ·exact M.o j hj h
   exact Z.o⟩
  simp[intOf];omega
 have O:Hid (Hc F s.data.toList = -1):=VR fun j hj=>M.o j hj (by omega);have z:decide ((k:Int)<(F.length:Int))=false:=dF (by omega)
 go_wp2
 go_ret
 exact⟨Kx O.o.symm,E.o⟩
def Kk (L:List (List UInt8))(s:List UInt8):Bool:=L.all (fun x=>decide (x=s))
theorem Ow (v:Value)(L:List (List UInt8))(s:ByteArray)(w:World)(h:O3 w v L) :
 Calls prog 71 #[v,.string s] w fun e w'=>e=.returned (.bool (Kk L s.data.toList))/\w'=w:=by
 obtain⟨p,c,rfl,V,h2,h3⟩:=h;have O:=Hd h3;unfold maxLen at h2;clear h3
 go_in
 go_wp2
 go_loop [9] (fun i=>∃ k:Nat,k<=L.length/\i=.int .i64 k/\∀ j (h:j<L.length),j<k->L[j]=s.data.toList) (fun i=>L.length - (intOf i).toNat)
 case atStart=>exact⟨0,Jr _,rfl,fun j _ hj=>absurd hj (J2 _)⟩
 obtain⟨k,Y,rfl,K⟩:=hrel;have J:=Hd K;clear K
 by_cases A:k<L.length
 ·rcases O.o with U|⟨b,rfl,hb,G⟩
  ·subst U;simp at A
  have hc:=G k A;clear G
  by_cases d:L[k]=s.data.toList
  ·have M:=Hd d;rw[d,Kq] at hc;clear d
   go_wp2
   go_round
   case rel=>exact⟨k+1,by omega,by go_num,fun j hj hj2=>by
    rcases J1.1 hj2 with h|rfl
    ·exact J.o j hj h
    exact M.o⟩
   simp[intOf];omega
  have I:Hid (Kk L s.data.toList=false):=by
   unfold Hid Kk;rw[J8];intro h;exact d (by simpa using Jt.1 h L[k] (Jo A))
  have E:Oo L[k]≠s:=fun e=>d (by rw[<-e,Ou]);generalize Oo L[k]=X at hc E;have Z:=Ck E;clear d E
  go_wp2
  go_ret
  exact⟨Oy I.o.symm,rfl⟩
 have I:Hid (Kk L s.data.toList=true):=by
  unfold Hid Kk;rw[Jt];intro x d;obtain⟨j,hj,rfl⟩:=J6 d
  simpa using J.o j hj (by omega)
 go_wp2
 go_ret
 exact⟨Oy I.o.symm,rfl⟩
theorem UB (v1 v2:Value)(L M:List Int)(w:World)(h:Kg w v1 L)(h':Kg w v2 M) :
 Calls prog 89 #[v1,v2] w fun e w'=>e=.returned (.bool (decide (L=M)))/\Up w w':=by
 obtain⟨p,c,rfl,h1,h2,h3⟩:=h;obtain⟨p',c',rfl,c6,V,J⟩:=h';have HX:=Hd h3;have HY:=Hd J;unfold maxLen at h2 V;clear h3 J
 by_cases hl:L.length=M.length
 ·have z:((L.length:Int)==(M.length:Int))=true:=by rw[Yf];omega
  have HL:=Hd hl;have zn:=Nr (a:=(L.length:Int)) (b:=(M.length:Int)) (by omega);clear hl
  go_in
  go_wp2
  go_loopw [13] (fun i wr=>∃ k:Nat,k<=L.length/\i=.int .i64 (k:Nat)/\(∀ j (h:j<L.length) (h':j<M.length),j<k->L[j]=M[j])/\Up w wr) (fun i _=>L.length - (intOf i).toNat)
  case atStart=>exact⟨0,Jr _,rfl,fun j _ _ h=>absurd h (J2 _),Je _ _⟩
  obtain⟨k,hk,rfl,hp,K⟩:=hrel;have HP:=Hd hp;have d:=Hd K;clear hp K
  by_cases I:k<L.length
  ·have A:k<M.length:=by have:=HL.o;omega
   rcases HX.o with U|⟨b,rfl,hb,O⟩
   ·rw[U] at I;simp at I
   rcases HY.o with U|⟨b',rfl,Z,E⟩
   ·rw[U] at A;simp at A
   have c1:=(d.o.cell (p:=⟨b,k,none⟩) hb).trans (O k I);have c2:=(d.o.cell (p:=⟨b',k,none⟩) Z).trans (E k A);clear O E
   by_cases G:L[k]=M[k]
   ·have HN:=Hd G;rw[G] at c1;clear G;generalize M[k]=X at c1 c2;have i0:(0:Int)<=(k:Int):=by omega
    have i1:(k:Int)<(L.length:Int):=by omega
    have i2:(k:Int)<(M.length:Int):=by omega
    go_wp2
    go_region
    all_goals (go_wp2_with fail)
    all_goals go_roundw
    all_goals (try (case rel=>exact⟨k+1,by omega,by go_num,fun j hj hj' h2=>by
     rcases J1.1 h2 with h|rfl
     ·exact HP.o j hj hj' h
     exact HN.o,⟨d.o.os,d.o.tape,d.o.output,d.o.size,d.o.block⟩⟩))
    all_goals (try (case measure=>simp[intOf];omega))
   have F:Hid (decide (L=M)=false):=by
    unfold Hid;rw[Jj];rintro rfl;exact G rfl
   have x1:=K3 G;have x2:(L[k]==M[k])=false:=by rw[Jb];exact G
   have i0:(0:Int)<=(k:Int):=by omega
   have i1:(k:Int)<(L.length:Int):=by omega
   have i2:(k:Int)<(M.length:Int):=by omega
   generalize L[k]=X at c1 G x1 x2;generalize M[k]=Y at c2 G x1 x2
   go_wp2
   go_region
   all_goals (go_wp2_with fail)
   all_goals go_ret
   all_goals exact⟨Oy F.o.symm,⟨d.o.os,d.o.tape,d.o.output,d.o.size,d.o.block⟩⟩
  have F:Hid (decide (L=M)=true):=by
   unfold Hid;rw[Ju];exact Ue HL.o (fun j h1 h2=>HP.o j h1 h2 (by omega))
  have z3:decide ((k:Int)<(L.length:Int))=false:=dF (by omega)
  go_wp2
  go_ret
  exact⟨Oy F.o.symm,d.o⟩
 have zn:=K3 (a:=(L.length:Int)) (b:=(M.length:Int)) (by omega);have z:((L.length:Int)==(M.length:Int))=false:=by rw[Jb];omega
 have F:Hid (decide (L=M)=false):=by unfold Hid;rw[Jj];rintro rfl;exact hl rfl
 go_in
 go_wp2
 go_ret
 exact⟨Oy F.o.symm,Je _ _⟩
end Go.Proofs.YtdmdmgfjpomdbaaGreatDoor
