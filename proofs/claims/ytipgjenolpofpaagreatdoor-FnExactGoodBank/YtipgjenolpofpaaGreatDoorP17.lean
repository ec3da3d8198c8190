import Derived.Test.YtipgjenolpofpaaGreatDoorP16
set_option maxRecDepth 100000
set_option maxHeartbeats 2000000
namespace Go.Proofs.YtipgjenolpofpaaGreatDoor
open Go.ChangeShapes Go.WideShapes Go.ChangeAt Go.RowKit Go.Proofs.Tryz
theorem E3 (s:ByteArray)(k:Nat):(s.extract 0 k).toList=s.data.toList.take k:=by
 rw[Jl,Y9];simp
theorem H5 (s:ByteArray)(i k:Nat):(s.extract i k).data.toList=(s.data.toList.take k).drop i:=by
 rw[Y9];simp[Array.toList_extract,List.drop_take]
theorem Ic {s:ByteArray}(h:0<s.size):s.data.toList.getLast? = some (s[s.size - 1]'(by omega)):=by
 rw[List.getLast?_eq_getElem?,Ol,Jf (by rw[Ol];omega)];rfl
theorem Pt {s:ByteArray}{l:List UInt8}(h:s.data.toList=l):(s.toList==l)=true:=by rw[Jl,h];simp
theorem Xg {s:ByteArray}{l:List UInt8}(h:s.data.toList≠l):(s.toList==l)=false:=by rw[Jl,Jc];exact h
theorem O4 {a b:Value}(h:a=b):Ending.returned a=.returned b:=by rw[h]
def Az (t:List UInt8):Prop:=∀ n,t≠124::(n++[124])
theorem Ml (r:List UInt8):Kr (124::r)=false:=by
 have:E6 124=false:=by decide
 simp[Kr,this]
theorem NK {t n:List UInt8}(h:t=124::(n++[124]))(own:List UInt8->Bool) :
 (match No t with|some n=>if E2 n&&own n then (⟨5,0,[],[]⟩:SI) else SI.none|none=>SI.none)=if E2 n&&decide (Ke 2 n=t)&&own n then ⟨5,0,[],[]⟩ else SI.none:=by
 subst h;have j:(n++[124]).getLast? = some (124:UInt8):=Vc;have A:No (124::(n++[124]))=if Kr n=false then some n else none:=by
  unfold No;rw[Ml];simp only[j,Vd,true_and];rfl
 rw[A]
 cases d:Kr n
 ·have:Ke 2 n=124::(n++[124]):=by simp[Ke,d]
  simp[this]
 have:Ke 2 n≠124::(n++[124]):=by
  have e:Ke 2 n=n:=by simp[Ke,d]
  rw[e];intro h;have:=congrArg List.length h;simp at this;omega
 simp[this]
theorem Q8 {t:List UInt8}(h:Az t)(own:List UInt8->Bool) :
 (match No t with|some n=>if E2 n&&own n then (⟨5,0,[],[]⟩:SI) else SI.none|none=>SI.none)=if E2 t&&decide (Ke 2 t=t)&&own t then ⟨5,0,[],[]⟩ else SI.none:=by
 cases d:Kr t
 ·have e:Ke 2 t≠t:=by
   have e:Ke 2 t=124::(t++[124]):=by simp[Ke,d]
   rw[e];intro h;have:=congrArg List.length h;simp at this;omega
  have A:No t=none:=by
   cases hn:No t with
   | none=>rfl
   | some n=>
     rcases Xv hn with⟨j,_⟩|⟨_,j⟩
     ·rw[d] at j;cases j
     ·exact absurd j (h n)
  rw[A];simp[e]
 have e:Ke 2 t=t:=by simp[Ke,d]
 have A:No t=some t:=by unfold No;rw[if_pos d]
 rw[A];simp[e]
theorem YG {s:ByteArray}(h:¬ 2<=s.size):Az s.data.toList:=fun n e=>by
 have:=congrArg List.length e
 rw[Ol] at this
 simp at this
 omega
theorem ZO {s:ByteArray}(h2:2<=s.size)(h:¬ (s[0]'(by omega)).toNat=124):Az s.data.toList:=fun n e=>by
 have d:=N2 s (by omega)
 rw[e] at d
 have:=Option.some.inj d
 exact h (by rw[<-this];rfl)
theorem KI {s:ByteArray}(h2:2<=s.size)(h:¬ (s[s.size - 1]'(by omega)).toNat=124):Az s.data.toList:=fun n e=>by
 have d:=Ic (s:=s) (by omega)
 rw[e,<-Yv,Vc] at d
 have:=Option.some.inj d
 exact h (by rw[<-this];rfl)
theorem PM {s:ByteArray}(h2:2<=s.size)(h0:(s[0]'(by omega)).toNat=124)(hl:(s[s.size - 1]'(by omega)).toNat=124):s.data.toList=124::((s.extract 1 (s.size - 1)).data.toList++[124]):=by
 have h:=N2 s (by omega);have A:=Ic (s:=s) (by omega);rw[Nt h0] at h;rw[Nt hl] at A;rw[H5];obtain⟨j,e⟩:=Zr.1 A;have d:j.length=s.size - 1:=by
  have:=congrArg List.length e;rw[Ol] at this;simp at this;omega
 cases j with
 | nil=>simp at d;omega
 | cons c r=>
   rw[e] at h ⊢;have hc:c=124:=by simpa using h
   subst hc;rw[<-d,List.take_left];rfl
theorem Hx (v:Value)(L:List (List UInt8))(s:ByteArray)(w:World)(h:O8 w v L)(hs:s.size<=1048576) :
 Calls prog 96 #[v,.string s] w fun e w'=>e=.returned (Gy (Od (On L) s.data.toList))/\Up w w':=by
 have HS:=Hd h;clear h;have O:=C3 (On L)
 by_cases h1:s.data.toList=Oc
 ·have F:Hid (Od (On L) s.data.toList=⟨1,0,[],[]⟩):=by unfold Hid;rw[h1];exact O.1
  have z:=Pt h1;unfold Oc at z;clear h1 O
  go_enter func96,ntmps96
  go_wp2_with fail
  refine Jj (v:=.agg #[.int .i64 1,.int .i64 0,.string ⟨#[]⟩,.string ⟨#[]⟩]) ?_ rfl ⟨O4 (by rw[F.o];rfl),Oy _ _⟩;simp[results,results96,go_sem]
 have z1:=Xg h1
 by_cases h2:s.data.toList=Kn
 ·have F:Hid (Od (On L) s.data.toList=⟨2,0,[],[]⟩):=by unfold Hid;rw[h2];exact O.2.1
  have z:=Pt h2;unfold Kn at z;unfold Oc at z1;clear h1 h2 O
  go_enter func96,ntmps96
  go_wp2_with fail
  refine Jj (v:=.agg #[.int .i64 2,.int .i64 0,.string ⟨#[]⟩,.string ⟨#[]⟩]) ?_ rfl ⟨O4 (by rw[F.o];rfl),Oy _ _⟩;simp[results,results96,go_sem]
 have z2:=Xg h2
 by_cases h3:s.data.toList=Ki
 ·have F:Hid (Od (On L) s.data.toList=⟨3,0,[],[]⟩):=by unfold Hid;rw[h3];exact O.2.2
  have z:=Pt h3;unfold Ki at z;unfold Oc at z1;unfold Kn at z2;clear h1 h2 h3 O
  go_enter func96,ntmps96
  go_wp2_with fail
  refine Jj (v:=.agg #[.int .i64 3,.int .i64 0,.string ⟨#[]⟩,.string ⟨#[]⟩]) ?_ rfl ⟨O4 (by rw[F.o];rfl),Oy _ _⟩;simp[results,results96,go_sem]
 have z3:=Xg h3;clear O
 by_cases hb:I8 s.data.toList
 ·have d6:11<s.size:=by have:=hb.1;rw[Ol] at this;exact this
  have y1:((s.extract 0 10).toList==[40,95,32,66,105,116,86,101,99,32])=true:=by rw[E3];have:=hb.2.1;rw[this];rfl
  have hl:(s[s.size - 1]'(by omega)).toNat=41:=by have:=hb.2.2;rw[Ic (by omega)] at this;rw[Option.some.inj this];rfl
  unfold Oc at z1;unfold Kn at z2;unfold Ki at z3;have HM:Hid ((s.extract 10 (s.size - 1)).data.toList=D6 s.data.toList):=by
   unfold Hid D6;rw[H5,List.dropLast_eq_take,Zb,Ol,Uk]
   congr 1
  have HB:=Hd hb;clear h1 h2 h3 hb
  go_enter func96,ntmps96
  go_wp2_with fail
  refine (KG _ _ (by unfold maxLen;rw[Yn];omega)).mono ?_;rw[HM.o];rintro e I ⟨rfl,rfl⟩;obtain⟨D,hD⟩:=O1 (I7 (D6 s.data.toList));have HD:=Hd hD;rw[hD];clear hD
  by_cases hd:1<=D/\D<=64
  ·have b8:=hd.1;have b7:=hd.2;have F:Hid (Od (On L) s.data.toList=⟨4,D.toNat,[],[]⟩):=EH _ HB.o (by rw[HD.o];omega) (by omega) (by omega);clear hd
   go_wp2_with fail
   refine Jj (v:=.agg #[.int .i64 4,.int .i64 D,.string ⟨#[]⟩,.string ⟨#[]⟩]) ?_ rfl ⟨O4 (by rw[F.o];show _=Value.agg #[.int .i64 4,.int .i64 (D.toNat:Nat),.string ⟨#[]⟩,.string ⟨#[]⟩];rw[Int.toNat_of_nonneg (by omega)]),Oy _ _⟩;simp[results,results96,go_sem]
  have F:Hid (Od (On L) s.data.toList=SI.none):=Wz _ HB.o (by rw[HD.o];exact hd)
  by_cases b8:1<=D
  case' pos=>
   have b7:64<D:=by omega
   clear hd
  case' neg=>
   have b7:D<1:=by omega
   clear hd b8
  all_goals
   go_wp2_with fail
   refine Jj (v:=.agg #[.int .i64 0,.int .i64 0,.string ⟨#[]⟩,.string ⟨#[]⟩]) ?_ rfl ⟨O4 (by rw[F.o];rfl),Oy _ _⟩;simp[results,results96,go_sem]
 have Y:Hid (Od (On L) s.data.toList=match No s.data.toList with|some n=>if E2 n&&On L n then ⟨5,0,[],[]⟩ else SI.none|none=>SI.none):=KQ _ h1 h2 h3 hb;have b4:=Hd hb;unfold Oc at z1;unfold Kn at z2;unfold Ki at z3;clear h1 h2 h3 hb
 by_cases n2:2<=s.size
 ·by_cases n0:s[0].toNat=124
  ·have x0:((s[0].toNat:Int)==124)=true:=by rw[Yc];omega
   by_cases nl:(s[s.size - 1]'(by omega)).toNat=124
   ·have x1:(((s[s.size - 1]'(by omega)).toNat:Int)==124)=true:=by rw[Yc];omega
    have j:Hid (Od (On L) s.data.toList=if E2 (s.extract 1 (s.size - 1)).data.toList&&decide (Ke 2 (s.extract 1 (s.size - 1)).data.toList=s.data.toList)&&On L (s.extract 1 (s.size - 1)).data.toList then ⟨5,0,[],[]⟩ else SI.none):=by
     unfold Hid;rw[Y.o];exact NK (PM n2 n0 nl) _
    have Z:(s.extract 1 (s.size - 1)).size<=1048576:=by rw[Yn];omega
    clear n0 nl
    go_enter func96,ntmps96
    by_cases V:11<s.size
    ·by_cases K:(s.data.toList.take 10)=Lg
     case' pos=>
      have y1:((s.extract 0 10).toList==[40,95,32,66,105,116,86,101,99,32])=true:=by rw[E3,K];rfl
      have y2:(((s[s.size - 1]'(by omega)).toNat:Int)==41)=false:=by
       rw[Jc];intro e;exact b4.o ⟨by rw[Ol];exact V,K,by rw[Ic (by omega),Nt (c:=s[s.size - 1]'(by omega)) (n:=41) (by omega)];rfl⟩
     case' neg=>
      have y1:((s.extract 0 10).toList==[40,95,32,66,105,116,86,101,99,32])=false:=by rw[E3,Jc];exact K
     all_goals
      clear K
      go_wp2_with fail
      refine (Ew (s.extract 1 (s.size - 1)) _ (by unfold maxLen;have:=Z;omega)).mono ?_
      cases d:E2 ((s.extract 1 (s.size - 1))).data.toList
      ·have A:Hid (Od (On L) s.data.toList=SI.none):=by unfold Hid;rw[j.o,d];rfl
       rintro e I ⟨rfl,rfl⟩;clear d
       go_wp2_with fail
       refine Jj (v:=.agg #[.int .i64 0,.int .i64 0,.string ⟨#[]⟩,.string ⟨#[]⟩]) ?_ rfl ⟨O4 (by rw[A.o];rfl),Oy _ _⟩;simp[results,results96,go_sem]
      have G:=Hd d;clear d;rintro e I ⟨rfl,rfl⟩
      go_wp2_with fail
      refine (E4 (s.extract 1 (s.size - 1)) _ (by have:=Z;omega)).mono ?_;rintro e I ⟨rfl,rfl⟩
      by_cases E:Ke 2 ((s.extract 1 (s.size - 1))).data.toList=s.data.toList
      ·have M:((Oo (Ke 2 ((s.extract 1 (s.size - 1))).data.toList)).toList==s.toList)=true:=by rw[Jl,Jl,Ou,E];simp
       have U:=Hd E;clear E;generalize Oo (Ke 2 ((s.extract 1 (s.size - 1))).data.toList)=X at M ⊢
       go_wp2_with fail
       refine (Gn v L (s.extract 1 (s.size - 1)) _ (HS.o.below (Oy _ _))).mono ?_
       cases J:On L ((s.extract 1 (s.size - 1))).data.toList
       ·have A:Hid (Od (On L) s.data.toList=SI.none):=by unfold Hid;rw[j.o,J,Y0];rfl
        rintro e I ⟨rfl,rfl⟩;clear J
        go_wp2_with fail
        refine Jj (v:=.agg #[.int .i64 0,.int .i64 0,.string ⟨#[]⟩,.string ⟨#[]⟩]) ?_ rfl ⟨O4 (by rw[A.o];rfl),Oy _ _⟩;simp[results,results96,go_sem]
       have A:Hid (Od (On L) s.data.toList=⟨5,0,[],[]⟩):=by unfold Hid;rw[j.o,G.o,Jb U.o,J];rfl
       rintro e I ⟨rfl,rfl⟩;clear J
       go_wp2_with fail
       refine Jj (v:=.agg #[.int .i64 5,.int .i64 0,.string ⟨#[]⟩,.string ⟨#[]⟩]) ?_ rfl ⟨O4 (by rw[A.o];rfl),Oy _ _⟩;simp[results,results96,go_sem]
      have M:((Oo (Ke 2 ((s.extract 1 (s.size - 1))).data.toList)).toList==s.toList)=false:=by rw[Jl,Jl,Ou,Jc];exact E
      have A:Hid (Od (On L) s.data.toList=SI.none):=by unfold Hid;rw[j.o,G.o,Jg E];rfl
      clear E;generalize Oo (Ke 2 ((s.extract 1 (s.size - 1))).data.toList)=X at M ⊢
      go_wp2_with fail
      refine Jj (v:=.agg #[.int .i64 0,.int .i64 0,.string ⟨#[]⟩,.string ⟨#[]⟩]) ?_ rfl ⟨O4 (by rw[A.o];rfl),Oy _ _⟩;simp[results,results96,go_sem]
    go_wp2_with fail
    refine (Ew (s.extract 1 (s.size - 1)) _ (by unfold maxLen;have:=Z;omega)).mono ?_
    cases d:E2 ((s.extract 1 (s.size - 1))).data.toList
    ·have A:Hid (Od (On L) s.data.toList=SI.none):=by unfold Hid;rw[j.o,d];rfl
     rintro e I ⟨rfl,rfl⟩;clear d
     go_wp2_with fail
     refine Jj (v:=.agg #[.int .i64 0,.int .i64 0,.string ⟨#[]⟩,.string ⟨#[]⟩]) ?_ rfl ⟨O4 (by rw[A.o];rfl),Oy _ _⟩;simp[results,results96,go_sem]
    have G:=Hd d;clear d;rintro e I ⟨rfl,rfl⟩
    go_wp2_with fail
    refine (E4 (s.extract 1 (s.size - 1)) _ (by have:=Z;omega)).mono ?_;rintro e I ⟨rfl,rfl⟩
    by_cases E:Ke 2 ((s.extract 1 (s.size - 1))).data.toList=s.data.toList
    ·have M:((Oo (Ke 2 ((s.extract 1 (s.size - 1))).data.toList)).toList==s.toList)=true:=by rw[Jl,Jl,Ou,E];simp
     have U:=Hd E;clear E;generalize Oo (Ke 2 ((s.extract 1 (s.size - 1))).data.toList)=X at M ⊢
     go_wp2_with fail
     refine (Gn v L (s.extract 1 (s.size - 1)) _ (HS.o.below (Oy _ _))).mono ?_
     cases J:On L ((s.extract 1 (s.size - 1))).data.toList
     ·have A:Hid (Od (On L) s.data.toList=SI.none):=by unfold Hid;rw[j.o,J,Y0];rfl
      rintro e I ⟨rfl,rfl⟩;clear J
      go_wp2_with fail
      refine Jj (v:=.agg #[.int .i64 0,.int .i64 0,.string ⟨#[]⟩,.string ⟨#[]⟩]) ?_ rfl ⟨O4 (by rw[A.o];rfl),Oy _ _⟩;simp[results,results96,go_sem]
     have A:Hid (Od (On L) s.data.toList=⟨5,0,[],[]⟩):=by unfold Hid;rw[j.o,G.o,Jb U.o,J];rfl
     rintro e I ⟨rfl,rfl⟩;clear J
     go_wp2_with fail
     refine Jj (v:=.agg #[.int .i64 5,.int .i64 0,.string ⟨#[]⟩,.string ⟨#[]⟩]) ?_ rfl ⟨O4 (by rw[A.o];rfl),Oy _ _⟩;simp[results,results96,go_sem]
    have M:((Oo (Ke 2 ((s.extract 1 (s.size - 1))).data.toList)).toList==s.toList)=false:=by rw[Jl,Jl,Ou,Jc];exact E
    have A:Hid (Od (On L) s.data.toList=SI.none):=by unfold Hid;rw[j.o,G.o,Jg E];rfl
    clear E;generalize Oo (Ke 2 ((s.extract 1 (s.size - 1))).data.toList)=X at M ⊢
    go_wp2_with fail
    refine Jj (v:=.agg #[.int .i64 0,.int .i64 0,.string ⟨#[]⟩,.string ⟨#[]⟩]) ?_ rfl ⟨O4 (by rw[A.o];rfl),Oy _ _⟩;simp[results,results96,go_sem]
   have x1:(((s[s.size - 1]'(by omega)).toNat:Int)==124)=false:=by rw[Jc];omega
   have j:Hid (Od (On L) s.data.toList=if E2 s.data.toList&&decide (Ke 2 s.data.toList=s.data.toList)&&On L s.data.toList then ⟨5,0,[],[]⟩ else SI.none):=by
    unfold Hid;rw[Y.o];exact Q8 (KI n2 nl) _
   clear n0 nl
   go_enter func96,ntmps96
   by_cases V:11<s.size
   ·by_cases K:(s.data.toList.take 10)=Lg
    case' pos=>
     have y1:((s.extract 0 10).toList==[40,95,32,66,105,116,86,101,99,32])=true:=by rw[E3,K];rfl
     have y2:(((s[s.size - 1]'(by omega)).toNat:Int)==41)=false:=by
      rw[Jc];intro e;exact b4.o ⟨by rw[Ol];exact V,K,by rw[Ic (by omega),Nt (c:=s[s.size - 1]'(by omega)) (n:=41) (by omega)];rfl⟩
    case' neg=>
     have y1:((s.extract 0 10).toList==[40,95,32,66,105,116,86,101,99,32])=false:=by rw[E3,Jc];exact K
    all_goals
     clear K
     go_wp2_with fail
     refine (Ew s _ (by unfold maxLen;have:=hs;omega)).mono ?_
     cases d:E2 (s).data.toList
     ·have A:Hid (Od (On L) s.data.toList=SI.none):=by unfold Hid;rw[j.o,d];rfl
      rintro e I ⟨rfl,rfl⟩;clear d
      go_wp2_with fail
      refine Jj (v:=.agg #[.int .i64 0,.int .i64 0,.string ⟨#[]⟩,.string ⟨#[]⟩]) ?_ rfl ⟨O4 (by rw[A.o];rfl),Oy _ _⟩;simp[results,results96,go_sem]
     have G:=Hd d;clear d;rintro e I ⟨rfl,rfl⟩
     go_wp2_with fail
     refine (E4 s _ (by have:=hs;omega)).mono ?_;rintro e I ⟨rfl,rfl⟩
     by_cases E:Ke 2 (s).data.toList=s.data.toList
     ·have M:((Oo (Ke 2 (s).data.toList)).toList==s.toList)=true:=by rw[Jl,Jl,Ou,E];simp
      have U:=Hd E;clear E;generalize Oo (Ke 2 (s).data.toList)=X at M ⊢
      go_wp2_with fail
      refine (Gn v L s _ (HS.o.below (Oy _ _))).mono ?_
      cases J:On L (s).data.toList
      ·have A:Hid (Od (On L) s.data.toList=SI.none):=by unfold Hid;rw[j.o,J,Y0];rfl
       rintro e I ⟨rfl,rfl⟩;clear J
       go_wp2_with fail
       refine Jj (v:=.agg #[.int .i64 0,.int .i64 0,.string ⟨#[]⟩,.string ⟨#[]⟩]) ?_ rfl ⟨O4 (by rw[A.o];rfl),Oy _ _⟩;simp[results,results96,go_sem]
      have A:Hid (Od (On L) s.data.toList=⟨5,0,[],[]⟩):=by unfold Hid;rw[j.o,G.o,Jb U.o,J];rfl
      rintro e I ⟨rfl,rfl⟩;clear J
      go_wp2_with fail
      refine Jj (v:=.agg #[.int .i64 5,.int .i64 0,.string ⟨#[]⟩,.string ⟨#[]⟩]) ?_ rfl ⟨O4 (by rw[A.o];rfl),Oy _ _⟩;simp[results,results96,go_sem]
     have M:((Oo (Ke 2 (s).data.toList)).toList==s.toList)=false:=by rw[Jl,Jl,Ou,Jc];exact E
     have A:Hid (Od (On L) s.data.toList=SI.none):=by unfold Hid;rw[j.o,G.o,Jg E];rfl
     clear E;generalize Oo (Ke 2 (s).data.toList)=X at M ⊢
     go_wp2_with fail
     refine Jj (v:=.agg #[.int .i64 0,.int .i64 0,.string ⟨#[]⟩,.string ⟨#[]⟩]) ?_ rfl ⟨O4 (by rw[A.o];rfl),Oy _ _⟩;simp[results,results96,go_sem]
   go_wp2_with fail
   refine (Ew s _ (by unfold maxLen;have:=hs;omega)).mono ?_
   cases d:E2 (s).data.toList
   ·have A:Hid (Od (On L) s.data.toList=SI.none):=by unfold Hid;rw[j.o,d];rfl
    rintro e I ⟨rfl,rfl⟩;clear d
    go_wp2_with fail
    refine Jj (v:=.agg #[.int .i64 0,.int .i64 0,.string ⟨#[]⟩,.string ⟨#[]⟩]) ?_ rfl ⟨O4 (by rw[A.o];rfl),Oy _ _⟩;simp[results,results96,go_sem]
   have G:=Hd d;clear d;rintro e I ⟨rfl,rfl⟩
   go_wp2_with fail
   refine (E4 s _ (by have:=hs;omega)).mono ?_;rintro e I ⟨rfl,rfl⟩
   by_cases E:Ke 2 (s).data.toList=s.data.toList
   ·have M:((Oo (Ke 2 (s).data.toList)).toList==s.toList)=true:=by rw[Jl,Jl,Ou,E];simp
    have U:=Hd E;clear E;generalize Oo (Ke 2 (s).data.toList)=X at M ⊢
    go_wp2_with fail
    refine (Gn v L s _ (HS.o.below (Oy _ _))).mono ?_
    cases J:On L (s).data.toList
    ·have A:Hid (Od (On L) s.data.toList=SI.none):=by unfold Hid;rw[j.o,J,Y0];rfl
     rintro e I ⟨rfl,rfl⟩;clear J
     go_wp2_with fail
     refine Jj (v:=.agg #[.int .i64 0,.int .i64 0,.string ⟨#[]⟩,.string ⟨#[]⟩]) ?_ rfl ⟨O4 (by rw[A.o];rfl),Oy _ _⟩;simp[results,results96,go_sem]
    have A:Hid (Od (On L) s.data.toList=⟨5,0,[],[]⟩):=by unfold Hid;rw[j.o,G.o,Jb U.o,J];rfl
    rintro e I ⟨rfl,rfl⟩;clear J
    go_wp2_with fail
    refine Jj (v:=.agg #[.int .i64 5,.int .i64 0,.string ⟨#[]⟩,.string ⟨#[]⟩]) ?_ rfl ⟨O4 (by rw[A.o];rfl),Oy _ _⟩;simp[results,results96,go_sem]
   have M:((Oo (Ke 2 (s).data.toList)).toList==s.toList)=false:=by rw[Jl,Jl,Ou,Jc];exact E
   have A:Hid (Od (On L) s.data.toList=SI.none):=by unfold Hid;rw[j.o,G.o,Jg E];rfl
   clear E;generalize Oo (Ke 2 (s).data.toList)=X at M ⊢
   go_wp2_with fail
   refine Jj (v:=.agg #[.int .i64 0,.int .i64 0,.string ⟨#[]⟩,.string ⟨#[]⟩]) ?_ rfl ⟨O4 (by rw[A.o];rfl),Oy _ _⟩;simp[results,results96,go_sem]
  have x0:((s[0].toNat:Int)==124)=false:=by rw[Jc];omega
  have j:Hid (Od (On L) s.data.toList=if E2 s.data.toList&&decide (Ke 2 s.data.toList=s.data.toList)&&On L s.data.toList then ⟨5,0,[],[]⟩ else SI.none):=by
   unfold Hid;rw[Y.o];exact Q8 (ZO n2 n0) _
  clear n0
  go_enter func96,ntmps96
  by_cases V:11<s.size
  ·by_cases K:(s.data.toList.take 10)=Lg
   case' pos=>
    have y1:((s.extract 0 10).toList==[40,95,32,66,105,116,86,101,99,32])=true:=by rw[E3,K];rfl
    have y2:(((s[s.size - 1]'(by omega)).toNat:Int)==41)=false:=by
     rw[Jc];intro e;exact b4.o ⟨by rw[Ol];exact V,K,by rw[Ic (by omega),Nt (c:=s[s.size - 1]'(by omega)) (n:=41) (by omega)];rfl⟩
   case' neg=>
    have y1:((s.extract 0 10).toList==[40,95,32,66,105,116,86,101,99,32])=false:=by rw[E3,Jc];exact K
   all_goals
    clear K
    go_wp2_with fail
    refine (Ew s _ (by unfold maxLen;have:=hs;omega)).mono ?_
    cases d:E2 (s).data.toList
    ·have A:Hid (Od (On L) s.data.toList=SI.none):=by unfold Hid;rw[j.o,d];rfl
     rintro e I ⟨rfl,rfl⟩;clear d
     go_wp2_with fail
     refine Jj (v:=.agg #[.int .i64 0,.int .i64 0,.string ⟨#[]⟩,.string ⟨#[]⟩]) ?_ rfl ⟨O4 (by rw[A.o];rfl),Oy _ _⟩;simp[results,results96,go_sem]
    have G:=Hd d;clear d;rintro e I ⟨rfl,rfl⟩
    go_wp2_with fail
    refine (E4 s _ (by have:=hs;omega)).mono ?_;rintro e I ⟨rfl,rfl⟩
    by_cases E:Ke 2 (s).data.toList=s.data.toList
    ·have M:((Oo (Ke 2 (s).data.toList)).toList==s.toList)=true:=by rw[Jl,Jl,Ou,E];simp
     have U:=Hd E;clear E;generalize Oo (Ke 2 (s).data.toList)=X at M ⊢
     go_wp2_with fail
     refine (Gn v L s _ (HS.o.below (Oy _ _))).mono ?_
     cases J:On L (s).data.toList
     ·have A:Hid (Od (On L) s.data.toList=SI.none):=by unfold Hid;rw[j.o,J,Y0];rfl
      rintro e I ⟨rfl,rfl⟩;clear J
      go_wp2_with fail
      refine Jj (v:=.agg #[.int .i64 0,.int .i64 0,.string ⟨#[]⟩,.string ⟨#[]⟩]) ?_ rfl ⟨O4 (by rw[A.o];rfl),Oy _ _⟩;simp[results,results96,go_sem]
     have A:Hid (Od (On L) s.data.toList=⟨5,0,[],[]⟩):=by unfold Hid;rw[j.o,G.o,Jb U.o,J];rfl
     rintro e I ⟨rfl,rfl⟩;clear J
     go_wp2_with fail
     refine Jj (v:=.agg #[.int .i64 5,.int .i64 0,.string ⟨#[]⟩,.string ⟨#[]⟩]) ?_ rfl ⟨O4 (by rw[A.o];rfl),Oy _ _⟩;simp[results,results96,go_sem]
    have M:((Oo (Ke 2 (s).data.toList)).toList==s.toList)=false:=by rw[Jl,Jl,Ou,Jc];exact E
    have A:Hid (Od (On L) s.data.toList=SI.none):=by unfold Hid;rw[j.o,G.o,Jg E];rfl
    clear E;generalize Oo (Ke 2 (s).data.toList)=X at M ⊢
    go_wp2_with fail
    refine Jj (v:=.agg #[.int .i64 0,.int .i64 0,.string ⟨#[]⟩,.string ⟨#[]⟩]) ?_ rfl ⟨O4 (by rw[A.o];rfl),Oy _ _⟩;simp[results,results96,go_sem]
  go_wp2_with fail
  refine (Ew s _ (by unfold maxLen;have:=hs;omega)).mono ?_
  cases d:E2 (s).data.toList
  ·have A:Hid (Od (On L) s.data.toList=SI.none):=by unfold Hid;rw[j.o,d];rfl
   rintro e I ⟨rfl,rfl⟩;clear d
   go_wp2_with fail
   refine Jj (v:=.agg #[.int .i64 0,.int .i64 0,.string ⟨#[]⟩,.string ⟨#[]⟩]) ?_ rfl ⟨O4 (by rw[A.o];rfl),Oy _ _⟩;simp[results,results96,go_sem]
  have G:=Hd d;clear d;rintro e I ⟨rfl,rfl⟩
  go_wp2_with fail
  refine (E4 s _ (by have:=hs;omega)).mono ?_;rintro e I ⟨rfl,rfl⟩
  by_cases E:Ke 2 (s).data.toList=s.data.toList
  ·have M:((Oo (Ke 2 (s).data.toList)).toList==s.toList)=true:=by rw[Jl,Jl,Ou,E];simp
   have U:=Hd E;clear E;generalize Oo (Ke 2 (s).data.toList)=X at M ⊢
   go_wp2_with fail
   refine (Gn v L s _ (HS.o.below (Oy _ _))).mono ?_
   cases J:On L (s).data.toList
   ·have A:Hid (Od (On L) s.data.toList=SI.none):=by unfold Hid;rw[j.o,J,Y0];rfl
    rintro e I ⟨rfl,rfl⟩;clear J
    go_wp2_with fail
    refine Jj (v:=.agg #[.int .i64 0,.int .i64 0,.string ⟨#[]⟩,.string ⟨#[]⟩]) ?_ rfl ⟨O4 (by rw[A.o];rfl),Oy _ _⟩;simp[results,results96,go_sem]
   have A:Hid (Od (On L) s.data.toList=⟨5,0,[],[]⟩):=by unfold Hid;rw[j.o,G.o,Jb U.o,J];rfl
   rintro e I ⟨rfl,rfl⟩;clear J
   go_wp2_with fail
   refine Jj (v:=.agg #[.int .i64 5,.int .i64 0,.string ⟨#[]⟩,.string ⟨#[]⟩]) ?_ rfl ⟨O4 (by rw[A.o];rfl),Oy _ _⟩;simp[results,results96,go_sem]
  have M:((Oo (Ke 2 (s).data.toList)).toList==s.toList)=false:=by rw[Jl,Jl,Ou,Jc];exact E
  have A:Hid (Od (On L) s.data.toList=SI.none):=by unfold Hid;rw[j.o,G.o,Jg E];rfl
  clear E;generalize Oo (Ke 2 (s).data.toList)=X at M ⊢
  go_wp2_with fail
  refine Jj (v:=.agg #[.int .i64 0,.int .i64 0,.string ⟨#[]⟩,.string ⟨#[]⟩]) ?_ rfl ⟨O4 (by rw[A.o];rfl),Oy _ _⟩;simp[results,results96,go_sem]
 have j:Hid (Od (On L) s.data.toList=if E2 s.data.toList&&decide (Ke 2 s.data.toList=s.data.toList)&&On L s.data.toList then ⟨5,0,[],[]⟩ else SI.none):=by
  unfold Hid;rw[Y.o];exact Q8 (YG n2) _
 have V:¬ 11<s.size:=by omega
 go_enter func96,ntmps96
 go_wp2_with fail
 refine (Ew s _ (by unfold maxLen;have:=hs;omega)).mono ?_
 cases d:E2 (s).data.toList
 ·have A:Hid (Od (On L) s.data.toList=SI.none):=by unfold Hid;rw[j.o,d];rfl
  rintro e I ⟨rfl,rfl⟩;clear d
  go_wp2_with fail
  refine Jj (v:=.agg #[.int .i64 0,.int .i64 0,.string ⟨#[]⟩,.string ⟨#[]⟩]) ?_ rfl ⟨O4 (by rw[A.o];rfl),Oy _ _⟩;simp[results,results96,go_sem]
 have G:=Hd d;clear d;rintro e I ⟨rfl,rfl⟩
 go_wp2_with fail
 refine (E4 s _ (by have:=hs;omega)).mono ?_;rintro e I ⟨rfl,rfl⟩
 by_cases E:Ke 2 (s).data.toList=s.data.toList
 ·have M:((Oo (Ke 2 (s).data.toList)).toList==s.toList)=true:=by rw[Jl,Jl,Ou,E];simp
  have U:=Hd E;clear E;generalize Oo (Ke 2 (s).data.toList)=X at M ⊢
  go_wp2_with fail
  refine (Gn v L s _ (HS.o.below (Oy _ _))).mono ?_
  cases J:On L (s).data.toList
  ·have A:Hid (Od (On L) s.data.toList=SI.none):=by unfold Hid;rw[j.o,J,Y0];rfl
   rintro e I ⟨rfl,rfl⟩;clear J
   go_wp2_with fail
   refine Jj (v:=.agg #[.int .i64 0,.int .i64 0,.string ⟨#[]⟩,.string ⟨#[]⟩]) ?_ rfl ⟨O4 (by rw[A.o];rfl),Oy _ _⟩;simp[results,results96,go_sem]
  have A:Hid (Od (On L) s.data.toList=⟨5,0,[],[]⟩):=by unfold Hid;rw[j.o,G.o,Jb U.o,J];rfl
  rintro e I ⟨rfl,rfl⟩;clear J
  go_wp2_with fail
  refine Jj (v:=.agg #[.int .i64 5,.int .i64 0,.string ⟨#[]⟩,.string ⟨#[]⟩]) ?_ rfl ⟨O4 (by rw[A.o];rfl),Oy _ _⟩;simp[results,results96,go_sem]
 have M:((Oo (Ke 2 (s).data.toList)).toList==s.toList)=false:=by rw[Jl,Jl,Ou,Jc];exact E
 have A:Hid (Od (On L) s.data.toList=SI.none):=by unfold Hid;rw[j.o,G.o,Jg E];rfl
 clear E;generalize Oo (Ke 2 (s).data.toList)=X at M ⊢
 go_wp2_with fail
 refine Jj (v:=.agg #[.int .i64 0,.int .i64 0,.string ⟨#[]⟩,.string ⟨#[]⟩]) ?_ rfl ⟨O4 (by rw[A.o];rfl),Oy _ _⟩;simp[results,results96,go_sem]
end Go.Proofs.YtipgjenolpofpaaGreatDoor
