import Derived.Test.YtipgjenolpofpaaGreatDoorP16
set_option maxRecDepth 100000
set_option maxHeartbeats 2000000
namespace Go.Proofs.YtipgjenolpofpaaGreatDoor
open ChangeShapes WideShapes ChangeAt RowKit Proofs.Tryz
theorem E0 (s:ByteArray)(k:Nat):(s.extract 0 k).toList=s.data.toList.take k:=by
 rw[Jl,Y9];simp
theorem Hj (s:ByteArray)(i k:Nat):(s.extract i k).data.toList=(s.data.toList.take k).drop i:=by
 rw[Y9];simp[Array.toList_extract,List.drop_take]
theorem Ix {s:ByteArray}(h:0<s.size):s.data.toList.getLast? = some (s[s.size - 1]'(by omega)):=by
 rw[List.getLast?_eq_getElem?,Ol,Jf (by rw[Ol];omega)];rfl
theorem P5 {s:ByteArray}{l:List UInt8}(h:s.data.toList=l):(s.toList==l)=true:=by rw[Jl,h];simp
theorem Xq {s:ByteArray}{l:List UInt8}(h:s.data.toList≠l):(s.toList==l)=false:=by rw[Jl,Jc];exact h
theorem O4 {a b:Value}(h:a=b):Ending.returned a=.returned b:=by rw[h]
def B8 (t:List UInt8):Prop:=∀ n,t≠124::(n++[124])
theorem Mj (r:List UInt8):Kr (124::r)=false:=by
 have:E6 124=false:=by decide
 simp[Kr,this]
theorem ET {t n:List UInt8}(h:t=124::(n++[124]))(own:List UInt8->Bool) :
 (match Ny t with|some n=>if E3 n&&own n then (⟨5,0,[],[]⟩:SI) else SI.none|none=>SI.none)=if E3 n&&decide (Ke 2 n=t)&&own n then ⟨5,0,[],[]⟩ else SI.none:=by
 subst h;have A:(n++[124]).getLast? = some (124:UInt8):=Vd;have j:Ny (124::(n++[124]))=if Kr n=false then some n else none:=by
  unfold Ny;rw[Mj];simp only[A,Vc,true_and];rfl
 rw[j]
 cases d:Kr n
 ·have:Ke 2 n=124::(n++[124]):=by simp[Ke,d]
  simp[this]
 have:Ke 2 n≠124::(n++[124]):=by
  have e:Ke 2 n=n:=by simp[Ke,d]
  rw[e];intro h;have:=congrArg List.length h;simp at this;omega
 simp[this]
theorem Rk {t:List UInt8}(h:B8 t)(own:List UInt8->Bool) :
 (match Ny t with|some n=>if E3 n&&own n then (⟨5,0,[],[]⟩:SI) else SI.none|none=>SI.none)=if E3 t&&decide (Ke 2 t=t)&&own t then ⟨5,0,[],[]⟩ else SI.none:=by
 cases j:Kr t
 ·have e:Ke 2 t≠t:=by
   have e:Ke 2 t=124::(t++[124]):=by simp[Ke,j]
   rw[e];intro h;have:=congrArg List.length h;simp at this;omega
  have A:Ny t=none:=by
   cases hn:Ny t with
   | none=>rfl
   | some n=>
     rcases Xh hn with⟨d,_⟩|⟨_,d⟩
     ·rw[j] at d;cases d
     exact absurd d (h n)
  rw[A];simp[e]
 have e:Ke 2 t=t:=by simp[Ke,j]
 have A:Ny t=some t:=by unfold Ny;rw[if_pos j]
 rw[A];simp[e]
theorem Wa {s:ByteArray}(h:¬ 2<=s.size):B8 s.data.toList:=fun n e=>by
 have:=congrArg List.length e
 rw[Ol] at this
 simp at this
 omega
theorem Wb {s:ByteArray}(h2:2<=s.size)(h:¬ (s[0]'(by omega)).toNat=124):B8 s.data.toList:=fun n e=>by
 have d:=Nj s (by omega)
 rw[e] at d
 have:=Option.some.inj d
 exact h (by rw[<-this];rfl)
theorem UJ {s:ByteArray}(h2:2<=s.size)(h:¬ (s[s.size - 1]'(by omega)).toNat=124):B8 s.data.toList:=fun n e=>by
 have d:=Ix (s:=s) (by omega)
 rw[e,<-Yu,Vd] at d
 have:=Option.some.inj d
 exact h (by rw[<-this];rfl)
theorem RM {s:ByteArray}(h2:2<=s.size)(h0:(s[0]'(by omega)).toNat=124)(hl:(s[s.size - 1]'(by omega)).toNat=124):s.data.toList=124::((s.extract 1 (s.size - 1)).data.toList++[124]):=by
 have h:=Nj s (by omega);have j:=Ix (s:=s) (by omega);rw[Nw h0] at h;rw[Nw hl] at j;rw[Hj];obtain⟨A,e⟩:=Zs.1 j;have d:A.length=s.size - 1:=by
  have:=congrArg List.length e;rw[Ol] at this;simp at this;omega
 cases A with
 | nil=>simp at d;omega
 | cons c r=>
   rw[e] at h ⊢;have hc:c=124:=by simpa using h
   subst hc;rw[<-d,List.take_left];rfl
theorem Hx (v:Value)(L:List (List UInt8))(s:ByteArray)(w:World)(h:O8 w v L)(hs:s.size<=1048576) :
 Calls prog 96 #[v,.string s] w fun e w'=>e=.returned (N9 (Od (On L) s.data.toList))/\Up w w':=by
 have HS:=Hd h;clear h;have O:=Fd (On L)
 by_cases Z:s.data.toList=Oc
 ·have F:Hid (Od (On L) s.data.toList=⟨1,0,[],[]⟩):=by unfold Hid;rw[Z];exact O.1
  have z:=P5 Z;unfold Oc at z;clear Z O
  go_in
  go_wp2_with fail
  refine Jj (v:=.agg #[.int .i64 1,.int .i64 0,.string ⟨#[]⟩,.string ⟨#[]⟩]) ?_ rfl ⟨O4 (by rw[F.o];rfl),Oy _ _⟩;simp[results,results96,go_sem]
 have z1:=Xq Z
 by_cases h2:s.data.toList=Kn
 ·have F:Hid (Od (On L) s.data.toList=⟨2,0,[],[]⟩):=by unfold Hid;rw[h2];exact O.2.1
  have z:=P5 h2;unfold Kn at z;unfold Oc at z1;clear Z h2 O
  go_in
  go_wp2_with fail
  refine Jj (v:=.agg #[.int .i64 2,.int .i64 0,.string ⟨#[]⟩,.string ⟨#[]⟩]) ?_ rfl ⟨O4 (by rw[F.o];rfl),Oy _ _⟩;simp[results,results96,go_sem]
 have z2:=Xq h2
 by_cases h3:s.data.toList=Ki
 ·have F:Hid (Od (On L) s.data.toList=⟨3,0,[],[]⟩):=by unfold Hid;rw[h3];exact O.2.2
  have z:=P5 h3;unfold Ki at z;unfold Oc at z1;unfold Kn at z2;clear Z h2 h3 O
  go_in
  go_wp2_with fail
  refine Jj (v:=.agg #[.int .i64 3,.int .i64 0,.string ⟨#[]⟩,.string ⟨#[]⟩]) ?_ rfl ⟨O4 (by rw[F.o];rfl),Oy _ _⟩;simp[results,results96,go_sem]
 have z3:=Xq h3;clear O
 by_cases hb:I9 s.data.toList
 ·have d6:11<s.size:=by have:=hb.1;rw[Ol] at this;exact this
  have y1:((s.extract 0 10).toList==[40,95,32,66,105,116,86,101,99,32])=true:=by rw[E0];have:=hb.2.1;rw[this];rfl
  have hl:(s[s.size - 1]'(by omega)).toNat=41:=by have:=hb.2.2;rw[Ix (by omega)] at this;rw[Option.some.inj this];rfl
  unfold Oc at z1;unfold Kn at z2;unfold Ki at z3;have HM:Hid ((s.extract 10 (s.size - 1)).data.toList=D7 s.data.toList):=by
   unfold Hid D7;rw[Hj,List.dropLast_eq_take,Zb,Ol,Uk]
   congr 1
  have HB:=Hd hb;clear Z h2 h3 hb
  go_in
  go_wp2_with fail
  refine (EF _ _ (by unfold maxLen;rw[Ym];omega)).mono ?_;rw[HM.o];rintro e I ⟨rfl,rfl⟩;obtain⟨D,hD⟩:=O1 (Xo (D7 s.data.toList));have HD:=Hd hD;rw[hD];clear hD
  by_cases hd:1<=D/\D<=64
  ·have b7:=hd.1;have b8:=hd.2;have F:Hid (Od (On L) s.data.toList=⟨4,D.toNat,[],[]⟩):=NH _ HB.o (by rw[HD.o];omega) (by omega) (by omega);clear hd
   go_wp2_with fail
   refine Jj (v:=.agg #[.int .i64 4,.int .i64 D,.string ⟨#[]⟩,.string ⟨#[]⟩]) ?_ rfl ⟨O4 (by rw[F.o];show _=Value.agg #[.int .i64 4,.int .i64 (D.toNat:Nat),.string ⟨#[]⟩,.string ⟨#[]⟩];rw[Int.toNat_of_nonneg (by omega)]),Oy _ _⟩;simp[results,results96,go_sem]
  have F:Hid (Od (On L) s.data.toList=SI.none):=Tt _ HB.o (by rw[HD.o];exact hd)
  by_cases b7:1<=D
  case' pos=>
   have b8:64<D:=by omega
   clear hd
  case' neg=>
   have b8:D<1:=by omega
   clear hd b7
  all_goals
   go_wp2_with fail
   refine Jj (v:=.agg #[.int .i64 0,.int .i64 0,.string ⟨#[]⟩,.string ⟨#[]⟩]) ?_ rfl ⟨O4 (by rw[F.o];rfl),Oy _ _⟩;simp[results,results96,go_sem]
 have Y:Hid (Od (On L) s.data.toList=match Ny s.data.toList with|some n=>if E3 n&&On L n then ⟨5,0,[],[]⟩ else SI.none|none=>SI.none):=NI _ Z h2 h3 hb;have b3:=Hd hb;unfold Oc at z1;unfold Kn at z2;unfold Ki at z3;clear Z h2 h3 hb
 by_cases n2:2<=s.size
 ·by_cases n0:s[0].toNat=124
  ·have x0:((s[0].toNat:Int)==124)=true:=by rw[Yc];omega
   by_cases nl:(s[s.size - 1]'(by omega)).toNat=124
   ·have x1:(((s[s.size - 1]'(by omega)).toNat:Int)==124)=true:=by rw[Yc];omega
    have j:Hid (Od (On L) s.data.toList=if E3 (s.extract 1 (s.size - 1)).data.toList&&decide (Ke 2 (s.extract 1 (s.size - 1)).data.toList=s.data.toList)&&On L (s.extract 1 (s.size - 1)).data.toList then ⟨5,0,[],[]⟩ else SI.none):=by
     unfold Hid;rw[Y.o];exact ET (RM n2 n0 nl) _
    have a7:(s.extract 1 (s.size - 1)).size<=1048576:=by rw[Ym];omega
    clear n0 nl
    go_in
    by_cases V:11<s.size
    ·by_cases K:(s.data.toList.take 10)=Lg
     case' pos=>
      have y1:((s.extract 0 10).toList==[40,95,32,66,105,116,86,101,99,32])=true:=by rw[E0,K];rfl
      have y2:(((s[s.size - 1]'(by omega)).toNat:Int)==41)=false:=by
       rw[Jc];intro e;exact b3.o ⟨by rw[Ol];exact V,K,by rw[Ix (by omega),Nw (c:=s[s.size - 1]'(by omega)) (n:=41) (by omega)];rfl⟩
     case' neg=>
      have y1:((s.extract 0 10).toList==[40,95,32,66,105,116,86,101,99,32])=false:=by rw[E0,Jc];exact K
     all_goals
      clear K
      go_wp2_with fail
      refine (Ej (s.extract 1 (s.size - 1)) _ (by unfold maxLen;have:=a7;omega)).mono ?_
      cases d:E3 ((s.extract 1 (s.size - 1))).data.toList
      ·have A:Hid (Od (On L) s.data.toList=SI.none):=by unfold Hid;rw[j.o,d];rfl
       rintro e I ⟨rfl,rfl⟩;clear d
       go_wp2_with fail
       refine Jj (v:=.agg #[.int .i64 0,.int .i64 0,.string ⟨#[]⟩,.string ⟨#[]⟩]) ?_ rfl ⟨O4 (by rw[A.o];rfl),Oy _ _⟩;simp[results,results96,go_sem]
      have G:=Hd d;clear d;rintro e I ⟨rfl,rfl⟩
      go_wp2_with fail
      refine (E2 (s.extract 1 (s.size - 1)) _ (by have:=a7;omega)).mono ?_;rintro e I ⟨rfl,rfl⟩
      by_cases E:Ke 2 ((s.extract 1 (s.size - 1))).data.toList=s.data.toList
      ·have M:((Oo (Ke 2 ((s.extract 1 (s.size - 1))).data.toList)).toList==s.toList)=true:=by rw[Jl,Jl,Ou,E];simp
       have U:=Hd E;clear E;generalize Oo (Ke 2 ((s.extract 1 (s.size - 1))).data.toList)=X at M ⊢
       go_wp2_with fail
       refine (Gk v L (s.extract 1 (s.size - 1)) _ (HS.o.bl (Oy _ _))).mono ?_
       cases J:On L ((s.extract 1 (s.size - 1))).data.toList
       ·have A:Hid (Od (On L) s.data.toList=SI.none):=by unfold Hid;rw[j.o,J,Y0];rfl
        rintro e I ⟨rfl,rfl⟩;clear J
        go_wp2_with fail
        refine Jj (v:=.agg #[.int .i64 0,.int .i64 0,.string ⟨#[]⟩,.string ⟨#[]⟩]) ?_ rfl ⟨O4 (by rw[A.o];rfl),Oy _ _⟩;simp[results,results96,go_sem]
       have A:Hid (Od (On L) s.data.toList=⟨5,0,[],[]⟩):=by unfold Hid;rw[j.o,G.o,Jb U.o,J];rfl
       rintro e I ⟨rfl,rfl⟩;clear J
       go_wp2_with fail
       refine Jj (v:=.agg #[.int .i64 5,.int .i64 0,.string ⟨#[]⟩,.string ⟨#[]⟩]) ?_ rfl ⟨O4 (by rw[A.o];rfl),Oy _ _⟩;simp[results,results96,go_sem]
      have M:((Oo (Ke 2 ((s.extract 1 (s.size - 1))).data.toList)).toList==s.toList)=false:=by rw[Jl,Jl,Ou,Jc];exact E
      have A:Hid (Od (On L) s.data.toList=SI.none):=by unfold Hid;rw[j.o,G.o,Jg E];rfl
      clear E;generalize Oo (Ke 2 ((s.extract 1 (s.size - 1))).data.toList)=X at M ⊢
      go_wp2_with fail
      refine Jj (v:=.agg #[.int .i64 0,.int .i64 0,.string ⟨#[]⟩,.string ⟨#[]⟩]) ?_ rfl ⟨O4 (by rw[A.o];rfl),Oy _ _⟩;simp[results,results96,go_sem]
    go_wp2_with fail
    refine (Ej (s.extract 1 (s.size - 1)) _ (by unfold maxLen;have:=a7;omega)).mono ?_
    cases d:E3 ((s.extract 1 (s.size - 1))).data.toList
    ·have A:Hid (Od (On L) s.data.toList=SI.none):=by unfold Hid;rw[j.o,d];rfl
     rintro e I ⟨rfl,rfl⟩;clear d
     go_wp2_with fail
     refine Jj (v:=.agg #[.int .i64 0,.int .i64 0,.string ⟨#[]⟩,.string ⟨#[]⟩]) ?_ rfl ⟨O4 (by rw[A.o];rfl),Oy _ _⟩;simp[results,results96,go_sem]
    have G:=Hd d;clear d;rintro e I ⟨rfl,rfl⟩
    go_wp2_with fail
    refine (E2 (s.extract 1 (s.size - 1)) _ (by have:=a7;omega)).mono ?_;rintro e I ⟨rfl,rfl⟩
    by_cases E:Ke 2 ((s.extract 1 (s.size - 1))).data.toList=s.data.toList
    ·have M:((Oo (Ke 2 ((s.extract 1 (s.size - 1))).data.toList)).toList==s.toList)=true:=by rw[Jl,Jl,Ou,E];simp
     have U:=Hd E;clear E;generalize Oo (Ke 2 ((s.extract 1 (s.size - 1))).data.toList)=X at M ⊢
     go_wp2_with fail
     refine (Gk v L (s.extract 1 (s.size - 1)) _ (HS.o.bl (Oy _ _))).mono ?_
     cases J:On L ((s.extract 1 (s.size - 1))).data.toList
     ·have A:Hid (Od (On L) s.data.toList=SI.none):=by unfold Hid;rw[j.o,J,Y0];rfl
      rintro e I ⟨rfl,rfl⟩;clear J
      go_wp2_with fail
      refine Jj (v:=.agg #[.int .i64 0,.int .i64 0,.string ⟨#[]⟩,.string ⟨#[]⟩]) ?_ rfl ⟨O4 (by rw[A.o];rfl),Oy _ _⟩;simp[results,results96,go_sem]
     have A:Hid (Od (On L) s.data.toList=⟨5,0,[],[]⟩):=by unfold Hid;rw[j.o,G.o,Jb U.o,J];rfl
     rintro e I ⟨rfl,rfl⟩;clear J
     go_wp2_with fail
     refine Jj (v:=.agg #[.int .i64 5,.int .i64 0,.string ⟨#[]⟩,.string ⟨#[]⟩]) ?_ rfl ⟨O4 (by rw[A.o];rfl),Oy _ _⟩;simp[results,results96,go_sem]
    have M:((Oo (Ke 2 ((s.extract 1 (s.size - 1))).data.toList)).toList==s.toList)=false:=by rw[Jl,Jl,Ou,Jc];exact E
    have A:Hid (Od (On L) s.data.toList=SI.none):=by unfold Hid;rw[j.o,G.o,Jg E];rfl
    clear E;generalize Oo (Ke 2 ((s.extract 1 (s.size - 1))).data.toList)=X at M ⊢
    go_wp2_with fail
    refine Jj (v:=.agg #[.int .i64 0,.int .i64 0,.string ⟨#[]⟩,.string ⟨#[]⟩]) ?_ rfl ⟨O4 (by rw[A.o];rfl),Oy _ _⟩;simp[results,results96,go_sem]
   have x1:(((s[s.size - 1]'(by omega)).toNat:Int)==124)=false:=by rw[Jc];omega
   have j:Hid (Od (On L) s.data.toList=if E3 s.data.toList&&decide (Ke 2 s.data.toList=s.data.toList)&&On L s.data.toList then ⟨5,0,[],[]⟩ else SI.none):=by
    unfold Hid;rw[Y.o];exact Rk (UJ n2 nl) _
   clear n0 nl
   go_in
   by_cases V:11<s.size
   ·by_cases K:(s.data.toList.take 10)=Lg
    case' pos=>
     have y1:((s.extract 0 10).toList==[40,95,32,66,105,116,86,101,99,32])=true:=by rw[E0,K];rfl
     have y2:(((s[s.size - 1]'(by omega)).toNat:Int)==41)=false:=by
      rw[Jc];intro e;exact b3.o ⟨by rw[Ol];exact V,K,by rw[Ix (by omega),Nw (c:=s[s.size - 1]'(by omega)) (n:=41) (by omega)];rfl⟩
    case' neg=>
     have y1:((s.extract 0 10).toList==[40,95,32,66,105,116,86,101,99,32])=false:=by rw[E0,Jc];exact K
    all_goals
     clear K
     go_wp2_with fail
     refine (Ej s _ (by unfold maxLen;have:=hs;omega)).mono ?_
     cases d:E3 (s).data.toList
     ·have A:Hid (Od (On L) s.data.toList=SI.none):=by unfold Hid;rw[j.o,d];rfl
      rintro e I ⟨rfl,rfl⟩;clear d
      go_wp2_with fail
      refine Jj (v:=.agg #[.int .i64 0,.int .i64 0,.string ⟨#[]⟩,.string ⟨#[]⟩]) ?_ rfl ⟨O4 (by rw[A.o];rfl),Oy _ _⟩;simp[results,results96,go_sem]
     have G:=Hd d;clear d;rintro e I ⟨rfl,rfl⟩
     go_wp2_with fail
     refine (E2 s _ (by have:=hs;omega)).mono ?_;rintro e I ⟨rfl,rfl⟩
     by_cases E:Ke 2 (s).data.toList=s.data.toList
     ·have M:((Oo (Ke 2 (s).data.toList)).toList==s.toList)=true:=by rw[Jl,Jl,Ou,E];simp
      have U:=Hd E;clear E;generalize Oo (Ke 2 (s).data.toList)=X at M ⊢
      go_wp2_with fail
      refine (Gk v L s _ (HS.o.bl (Oy _ _))).mono ?_
      cases J:On L (s).data.toList
      ·have A:Hid (Od (On L) s.data.toList=SI.none):=by unfold Hid;rw[j.o,J,Y0];rfl
       rintro e I ⟨rfl,rfl⟩;clear J
       go_wp2_with fail
       refine Jj (v:=.agg #[.int .i64 0,.int .i64 0,.string ⟨#[]⟩,.string ⟨#[]⟩]) ?_ rfl ⟨O4 (by rw[A.o];rfl),Oy _ _⟩;simp[results,results96,go_sem]
      have A:Hid (Od (On L) s.data.toList=⟨5,0,[],[]⟩):=by unfold Hid;rw[j.o,G.o,Jb U.o,J];rfl
      rintro e I ⟨rfl,rfl⟩;clear J
      go_wp2_with fail
      refine Jj (v:=.agg #[.int .i64 5,.int .i64 0,.string ⟨#[]⟩,.string ⟨#[]⟩]) ?_ rfl ⟨O4 (by rw[A.o];rfl),Oy _ _⟩;simp[results,results96,go_sem]
     have M:((Oo (Ke 2 (s).data.toList)).toList==s.toList)=false:=by rw[Jl,Jl,Ou,Jc];exact E
     have A:Hid (Od (On L) s.data.toList=SI.none):=by unfold Hid;rw[j.o,G.o,Jg E];rfl
     clear E;generalize Oo (Ke 2 (s).data.toList)=X at M ⊢
     go_wp2_with fail
     refine Jj (v:=.agg #[.int .i64 0,.int .i64 0,.string ⟨#[]⟩,.string ⟨#[]⟩]) ?_ rfl ⟨O4 (by rw[A.o];rfl),Oy _ _⟩;simp[results,results96,go_sem]
   go_wp2_with fail
   refine (Ej s _ (by unfold maxLen;have:=hs;omega)).mono ?_
   cases d:E3 (s).data.toList
   ·have A:Hid (Od (On L) s.data.toList=SI.none):=by unfold Hid;rw[j.o,d];rfl
    rintro e I ⟨rfl,rfl⟩;clear d
    go_wp2_with fail
    refine Jj (v:=.agg #[.int .i64 0,.int .i64 0,.string ⟨#[]⟩,.string ⟨#[]⟩]) ?_ rfl ⟨O4 (by rw[A.o];rfl),Oy _ _⟩;simp[results,results96,go_sem]
   have G:=Hd d;clear d;rintro e I ⟨rfl,rfl⟩
   go_wp2_with fail
   refine (E2 s _ (by have:=hs;omega)).mono ?_;rintro e I ⟨rfl,rfl⟩
   by_cases E:Ke 2 (s).data.toList=s.data.toList
   ·have M:((Oo (Ke 2 (s).data.toList)).toList==s.toList)=true:=by rw[Jl,Jl,Ou,E];simp
    have U:=Hd E;clear E;generalize Oo (Ke 2 (s).data.toList)=X at M ⊢
    go_wp2_with fail
    refine (Gk v L s _ (HS.o.bl (Oy _ _))).mono ?_
    cases J:On L (s).data.toList
    ·have A:Hid (Od (On L) s.data.toList=SI.none):=by unfold Hid;rw[j.o,J,Y0];rfl
     rintro e I ⟨rfl,rfl⟩;clear J
     go_wp2_with fail
     refine Jj (v:=.agg #[.int .i64 0,.int .i64 0,.string ⟨#[]⟩,.string ⟨#[]⟩]) ?_ rfl ⟨O4 (by rw[A.o];rfl),Oy _ _⟩;simp[results,results96,go_sem]
    have A:Hid (Od (On L) s.data.toList=⟨5,0,[],[]⟩):=by unfold Hid;rw[j.o,G.o,Jb U.o,J];rfl
    rintro e I ⟨rfl,rfl⟩;clear J
    go_wp2_with fail
    refine Jj (v:=.agg #[.int .i64 5,.int .i64 0,.string ⟨#[]⟩,.string ⟨#[]⟩]) ?_ rfl ⟨O4 (by rw[A.o];rfl),Oy _ _⟩;simp[results,results96,go_sem]
   have M:((Oo (Ke 2 (s).data.toList)).toList==s.toList)=false:=by rw[Jl,Jl,Ou,Jc];exact E
   have A:Hid (Od (On L) s.data.toList=SI.none):=by unfold Hid;rw[j.o,G.o,Jg E];rfl
   clear E;generalize Oo (Ke 2 (s).data.toList)=X at M ⊢
   go_wp2_with fail
   refine Jj (v:=.agg #[.int .i64 0,.int .i64 0,.string ⟨#[]⟩,.string ⟨#[]⟩]) ?_ rfl ⟨O4 (by rw[A.o];rfl),Oy _ _⟩;simp[results,results96,go_sem]
  have x0:((s[0].toNat:Int)==124)=false:=by rw[Jc];omega
  have j:Hid (Od (On L) s.data.toList=if E3 s.data.toList&&decide (Ke 2 s.data.toList=s.data.toList)&&On L s.data.toList then ⟨5,0,[],[]⟩ else SI.none):=by
   unfold Hid;rw[Y.o];exact Rk (Wb n2 n0) _
  clear n0
  go_in
  by_cases V:11<s.size
  ·by_cases K:(s.data.toList.take 10)=Lg
   case' pos=>
    have y1:((s.extract 0 10).toList==[40,95,32,66,105,116,86,101,99,32])=true:=by rw[E0,K];rfl
    have y2:(((s[s.size - 1]'(by omega)).toNat:Int)==41)=false:=by
     rw[Jc];intro e;exact b3.o ⟨by rw[Ol];exact V,K,by rw[Ix (by omega),Nw (c:=s[s.size - 1]'(by omega)) (n:=41) (by omega)];rfl⟩
   case' neg=>
    have y1:((s.extract 0 10).toList==[40,95,32,66,105,116,86,101,99,32])=false:=by rw[E0,Jc];exact K
   all_goals
    clear K
    go_wp2_with fail
    refine (Ej s _ (by unfold maxLen;have:=hs;omega)).mono ?_
    cases d:E3 (s).data.toList
    ·have A:Hid (Od (On L) s.data.toList=SI.none):=by unfold Hid;rw[j.o,d];rfl
     rintro e I ⟨rfl,rfl⟩;clear d
     go_wp2_with fail
     refine Jj (v:=.agg #[.int .i64 0,.int .i64 0,.string ⟨#[]⟩,.string ⟨#[]⟩]) ?_ rfl ⟨O4 (by rw[A.o];rfl),Oy _ _⟩;simp[results,results96,go_sem]
    have G:=Hd d;clear d;rintro e I ⟨rfl,rfl⟩
    go_wp2_with fail
    refine (E2 s _ (by have:=hs;omega)).mono ?_;rintro e I ⟨rfl,rfl⟩
    by_cases E:Ke 2 (s).data.toList=s.data.toList
    ·have M:((Oo (Ke 2 (s).data.toList)).toList==s.toList)=true:=by rw[Jl,Jl,Ou,E];simp
     have U:=Hd E;clear E;generalize Oo (Ke 2 (s).data.toList)=X at M ⊢
     go_wp2_with fail
     refine (Gk v L s _ (HS.o.bl (Oy _ _))).mono ?_
     cases J:On L (s).data.toList
     ·have A:Hid (Od (On L) s.data.toList=SI.none):=by unfold Hid;rw[j.o,J,Y0];rfl
      rintro e I ⟨rfl,rfl⟩;clear J
      go_wp2_with fail
      refine Jj (v:=.agg #[.int .i64 0,.int .i64 0,.string ⟨#[]⟩,.string ⟨#[]⟩]) ?_ rfl ⟨O4 (by rw[A.o];rfl),Oy _ _⟩;simp[results,results96,go_sem]
     have A:Hid (Od (On L) s.data.toList=⟨5,0,[],[]⟩):=by unfold Hid;rw[j.o,G.o,Jb U.o,J];rfl
     rintro e I ⟨rfl,rfl⟩;clear J
     go_wp2_with fail
     refine Jj (v:=.agg #[.int .i64 5,.int .i64 0,.string ⟨#[]⟩,.string ⟨#[]⟩]) ?_ rfl ⟨O4 (by rw[A.o];rfl),Oy _ _⟩;simp[results,results96,go_sem]
    have M:((Oo (Ke 2 (s).data.toList)).toList==s.toList)=false:=by rw[Jl,Jl,Ou,Jc];exact E
    have A:Hid (Od (On L) s.data.toList=SI.none):=by unfold Hid;rw[j.o,G.o,Jg E];rfl
    clear E;generalize Oo (Ke 2 (s).data.toList)=X at M ⊢
    go_wp2_with fail
    refine Jj (v:=.agg #[.int .i64 0,.int .i64 0,.string ⟨#[]⟩,.string ⟨#[]⟩]) ?_ rfl ⟨O4 (by rw[A.o];rfl),Oy _ _⟩;simp[results,results96,go_sem]
  go_wp2_with fail
  refine (Ej s _ (by unfold maxLen;have:=hs;omega)).mono ?_
  cases d:E3 (s).data.toList
  ·have A:Hid (Od (On L) s.data.toList=SI.none):=by unfold Hid;rw[j.o,d];rfl
   rintro e I ⟨rfl,rfl⟩;clear d
   go_wp2_with fail
   refine Jj (v:=.agg #[.int .i64 0,.int .i64 0,.string ⟨#[]⟩,.string ⟨#[]⟩]) ?_ rfl ⟨O4 (by rw[A.o];rfl),Oy _ _⟩;simp[results,results96,go_sem]
  have G:=Hd d;clear d;rintro e I ⟨rfl,rfl⟩
  go_wp2_with fail
  refine (E2 s _ (by have:=hs;omega)).mono ?_;rintro e I ⟨rfl,rfl⟩
  by_cases E:Ke 2 (s).data.toList=s.data.toList
  ·have M:((Oo (Ke 2 (s).data.toList)).toList==s.toList)=true:=by rw[Jl,Jl,Ou,E];simp
   have U:=Hd E;clear E;generalize Oo (Ke 2 (s).data.toList)=X at M ⊢
   go_wp2_with fail
   refine (Gk v L s _ (HS.o.bl (Oy _ _))).mono ?_
   cases J:On L (s).data.toList
   ·have A:Hid (Od (On L) s.data.toList=SI.none):=by unfold Hid;rw[j.o,J,Y0];rfl
    rintro e I ⟨rfl,rfl⟩;clear J
    go_wp2_with fail
    refine Jj (v:=.agg #[.int .i64 0,.int .i64 0,.string ⟨#[]⟩,.string ⟨#[]⟩]) ?_ rfl ⟨O4 (by rw[A.o];rfl),Oy _ _⟩;simp[results,results96,go_sem]
   have A:Hid (Od (On L) s.data.toList=⟨5,0,[],[]⟩):=by unfold Hid;rw[j.o,G.o,Jb U.o,J];rfl
   rintro e I ⟨rfl,rfl⟩;clear J
   go_wp2_with fail
   refine Jj (v:=.agg #[.int .i64 5,.int .i64 0,.string ⟨#[]⟩,.string ⟨#[]⟩]) ?_ rfl ⟨O4 (by rw[A.o];rfl),Oy _ _⟩;simp[results,results96,go_sem]
  have M:((Oo (Ke 2 (s).data.toList)).toList==s.toList)=false:=by rw[Jl,Jl,Ou,Jc];exact E
  have A:Hid (Od (On L) s.data.toList=SI.none):=by unfold Hid;rw[j.o,G.o,Jg E];rfl
  clear E;generalize Oo (Ke 2 (s).data.toList)=X at M ⊢
  go_wp2_with fail
  refine Jj (v:=.agg #[.int .i64 0,.int .i64 0,.string ⟨#[]⟩,.string ⟨#[]⟩]) ?_ rfl ⟨O4 (by rw[A.o];rfl),Oy _ _⟩;simp[results,results96,go_sem]
 have j:Hid (Od (On L) s.data.toList=if E3 s.data.toList&&decide (Ke 2 s.data.toList=s.data.toList)&&On L s.data.toList then ⟨5,0,[],[]⟩ else SI.none):=by
  unfold Hid;rw[Y.o];exact Rk (Wa n2) _
 have V:¬ 11<s.size:=by omega
 go_in
 go_wp2_with fail
 refine (Ej s _ (by unfold maxLen;have:=hs;omega)).mono ?_
 cases d:E3 (s).data.toList
 ·have A:Hid (Od (On L) s.data.toList=SI.none):=by unfold Hid;rw[j.o,d];rfl
  rintro e I ⟨rfl,rfl⟩;clear d
  go_wp2_with fail
  refine Jj (v:=.agg #[.int .i64 0,.int .i64 0,.string ⟨#[]⟩,.string ⟨#[]⟩]) ?_ rfl ⟨O4 (by rw[A.o];rfl),Oy _ _⟩;simp[results,results96,go_sem]
 have G:=Hd d;clear d;rintro e I ⟨rfl,rfl⟩
 go_wp2_with fail
 refine (E2 s _ (by have:=hs;omega)).mono ?_;rintro e I ⟨rfl,rfl⟩
 by_cases E:Ke 2 (s).data.toList=s.data.toList
 ·have M:((Oo (Ke 2 (s).data.toList)).toList==s.toList)=true:=by rw[Jl,Jl,Ou,E];simp
  have U:=Hd E;clear E;generalize Oo (Ke 2 (s).data.toList)=X at M ⊢
  go_wp2_with fail
  refine (Gk v L s _ (HS.o.bl (Oy _ _))).mono ?_
  cases J:On L (s).data.toList
  ·have A:Hid (Od (On L) s.data.toList=SI.none):=by unfold Hid;rw[j.o,J,Y0];rfl
   rintro e I ⟨rfl,rfl⟩;clear J
   go_wp2_with fail
   refine Jj (v:=.agg #[.int .i64 0,.int .i64 0,.string ⟨#[]⟩,.string ⟨#[]⟩]) ?_ rfl ⟨O4 (by rw[A.o];rfl),Oy _ _⟩;simp[results,results96,go_sem]
  have A:Hid (Od (On L) s.data.toList=⟨5,0,[],[]⟩):=by unfold Hid;rw[j.o,G.o,Jb U.o,J];rfl
  rintro e I ⟨rfl,rfl⟩;clear J
  go_wp2_with fail
  refine Jj (v:=.agg #[.int .i64 5,.int .i64 0,.string ⟨#[]⟩,.string ⟨#[]⟩]) ?_ rfl ⟨O4 (by rw[A.o];rfl),Oy _ _⟩;simp[results,results96,go_sem]
 have M:((Oo (Ke 2 (s).data.toList)).toList==s.toList)=false:=by rw[Jl,Jl,Ou,Jc];exact E
 have A:Hid (Od (On L) s.data.toList=SI.none):=by unfold Hid;rw[j.o,G.o,Jg E];rfl
 clear E;generalize Oo (Ke 2 (s).data.toList)=X at M ⊢
 go_wp2_with fail
 refine Jj (v:=.agg #[.int .i64 0,.int .i64 0,.string ⟨#[]⟩,.string ⟨#[]⟩]) ?_ rfl ⟨O4 (by rw[A.o];rfl),Oy _ _⟩;simp[results,results96,go_sem]
end Go.Proofs.YtipgjenolpofpaaGreatDoor
