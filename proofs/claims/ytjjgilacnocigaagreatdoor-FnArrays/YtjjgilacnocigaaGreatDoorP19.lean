import Derived.Test.YtjjgilacnocigaaGreatDoorP18
set_option maxRecDepth 100000
set_option maxHeartbeats 2000000
namespace Go.Proofs.YtjjgilacnocigaaGreatDoor
open ChangeShapes WideShapes ChangeAt RowKit Proofs.Tryz
variable {s:ByteArray}
theorem Nh (s:ByteArray)(k:Nat):(s.extract 0 k).toList=s.data.toList.take k:=by
 rw[Je,Y6];simp
theorem I6 (s:ByteArray)(i k:Nat):(s.extract i k).data.toList=(s.data.toList.take k).drop i:=by
 rw[Y6];simp[Array.toList_extract,List.drop_take]
theorem Xc (h:0<s.size):s.data.toList.getLast? = some (s[s.size - 1]'(by omega)):=by
 rw[Uc,O6,Jl (by rw[O6];omega)];rfl
theorem Fi {l:List UInt8}(h:s.data.toList=l):(s.toList==l)=true:=by rw[Je,h];simp
theorem Q9 {l:List UInt8}(h:s.data.toList≠l):(s.toList==l)=false:=by rw[Je,Jd];exact h
theorem Ke {a b:Value}(h:a=b):Ending.returned a=.returned b:=by rw[h]
def Wo (t:List UInt8):Prop:=∀ n,t≠124::(n++[124])
theorem S5 (r:List UInt8):K6 (124::r)=false:=by
 have:Nn 124=false:=by decide
 simp[K6,this]
theorem QU {t n:List UInt8}(h:t=124::(n++[124]))(own:List UInt8->Bool) :
 (match N6 t with|some n=>if Nx n&&own n then (⟨5,0,[],[]⟩:SI) else SI.none|none=>SI.none)=if Nx n&&decide (Kj 2 n=t)&&own n then ⟨5,0,[],[]⟩ else SI.none:=by
 subst h;have D:(n++[124]).getLast? = some (124:UInt8):=Vp;have j:N6 (124::(n++[124]))=if K6 n=false then some n else none:=by
  unfold N6;rw[S5];simp only[D,V3,true_and];rfl
 rw[j]
 cases d:K6 n
 ·have:Kj 2 n=124::(n++[124]):=by simp[Kj,d]
  simp[this]
 have:Kj 2 n≠124::(n++[124]):=by
  have e:Kj 2 n=n:=by simp[Kj,d]
  rw[e];intro h;have:=congrArg List.length h;simp at this;omega
 simp[this]
theorem De {t:List UInt8}(h:Wo t)(own:List UInt8->Bool) :
 (match N6 t with|some n=>if Nx n&&own n then (⟨5,0,[],[]⟩:SI) else SI.none|none=>SI.none)=if Nx t&&decide (Kj 2 t=t)&&own t then ⟨5,0,[],[]⟩ else SI.none:=by
 cases j:K6 t
 ·have e:Kj 2 t≠t:=by
   have e:Kj 2 t=124::(t++[124]):=by simp[Kj,j]
   rw[e];intro h;have:=congrArg List.length h;simp at this;omega
  have D:N6 t=none:=by
   cases hn:N6 t with
   | none=>rfl
   | some n=>
     rcases Dk hn with⟨d,_⟩|⟨_,d⟩
     ·rw[j] at d;cases d
     exact absurd d (h n)
  rw[D];simp[e]
 have e:Kj 2 t=t:=by simp[Kj,j]
 have D:N6 t=some t:=by unfold N6;rw[if_pos j]
 rw[D];simp[e]
theorem UP (h:¬ 2<=s.size):Wo s.data.toList:=fun n e=>by
 have:=congrArg List.length e
 rw[O6] at this
 simp at this
 omega
theorem UR (h2:2<=s.size)(h:¬ (s[0]'(by omega)).toNat=124):Wo s.data.toList:=fun n e=>by
 have d:=Ns s (by omega)
 rw[e] at d
 have:=Option.some.inj d
 exact h (by rw[<-this];rfl)
theorem GS (h2:2<=s.size)(h:¬ (s[s.size - 1]'(by omega)).toNat=124):Wo s.data.toList:=fun n e=>by
 have d:=Xc (s:=s) (by omega)
 rw[e,<-Yf,Vp] at d
 have:=Option.some.inj d
 exact h (by rw[<-this];rfl)
theorem MU (h2:2<=s.size)(h0:(s[0]'(by omega)).toNat=124)(hl:(s[s.size - 1]'(by omega)).toNat=124):s.data.toList=124::((s.extract 1 (s.size - 1)).data.toList++[124]):=by
 have j:=Ns s (by omega);have D:=Xc (s:=s) (by omega);rw[Gx h0] at j;rw[Gx hl] at D;rw[I6];obtain⟨E,e⟩:=Vg.1 D;have d:E.length=s.size - 1:=by
  have:=congrArg List.length e;rw[O6] at this;simp at this;omega
 cases E with
 | nil=>simp at d;omega
 | cons c r=>
   rw[e] at j ⊢;have F:c=124:=by simpa using j
   subst F;rw[<-d,List.take_left];rfl
theorem Ib (v:Value)(L:List (List UInt8))(s:ByteArray)(w:World)(h:Eu w v L)(hs:s.size<=1048576) :
 Calls prog 35 #[v,.string s] w fun e w'=>e=.returned (Hj (O3 (Kr L) s.data.toList))/\Up w w':=by
 have HS:=Hd h;clear h;have T:=B6 (Kr L)
 by_cases Z:s.data.toList=He
 ·have F:Hid (O3 (Kr L) s.data.toList=⟨1,0,[],[]⟩):=by unfold Hid;rw[Z];exact T.1
  have z:=Fi Z;unfold He at z;clear Z T
  go_in
  go_wp2_with fail
  refine Jh (v:=.agg #[.int .i64 1,.int .i64 0,.string ⟨#[]⟩,.string ⟨#[]⟩]) ?_ rfl ⟨Ke (by rw[F.o];rfl),Oo _ _⟩;simp[results,results35,go_sem]
 have z1:=Q9 Z
 by_cases h2:s.data.toList=Rj
 ·have F:Hid (O3 (Kr L) s.data.toList=⟨2,0,[],[]⟩):=by unfold Hid;rw[h2];exact T.2.1
  have z:=Fi h2;unfold Rj at z;unfold He at z1;clear Z h2 T
  go_in
  go_wp2_with fail
  refine Jh (v:=.agg #[.int .i64 2,.int .i64 0,.string ⟨#[]⟩,.string ⟨#[]⟩]) ?_ rfl ⟨Ke (by rw[F.o];rfl),Oo _ _⟩;simp[results,results35,go_sem]
 have z2:=Q9 h2
 by_cases h3:s.data.toList=Xv
 ·have F:Hid (O3 (Kr L) s.data.toList=⟨3,0,[],[]⟩):=by unfold Hid;rw[h3];exact T.2.2
  have z:=Fi h3;unfold Xv at z;unfold He at z1;unfold Rj at z2;clear Z h2 h3 T
  go_in
  go_wp2_with fail
  refine Jh (v:=.agg #[.int .i64 3,.int .i64 0,.string ⟨#[]⟩,.string ⟨#[]⟩]) ?_ rfl ⟨Ke (by rw[F.o];rfl),Oo _ _⟩;simp[results,results35,go_sem]
 have z3:=Q9 h3;clear T
 by_cases hb:Qr s.data.toList
 ·have d5:11<s.size:=by have:=hb.1;rw[O6] at this;exact this
  have y1:((s.extract 0 10).toList==[40,95,32,66,105,116,86,101,99,32])=true:=by rw[Nh];have:=hb.2.1;rw[this];rfl
  have hl:(s[s.size - 1]'(by omega)).toNat=41:=by have:=hb.2.2;rw[Xc (by omega)] at this;rw[Option.some.inj this];rfl
  unfold He at z1;unfold Rj at z2;unfold Xv at z3;have HM:Hid ((s.extract 10 (s.size - 1)).data.toList=Ld s.data.toList):=by
   unfold Hid Ld;rw[I6,List.dropLast_eq_take,Jr,O6,Ob]
   congr 1
  have HB:=Hd hb;clear Z h2 h3 hb
  go_in
  go_wp2_with fail
  refine (Pv _ _ (by unfold maxLen;rw[Yj];omega)).mono ?_;rw[HM.o];rintro e I ⟨rfl,rfl⟩;obtain⟨D,hD⟩:=O2 (Ik (Ld s.data.toList));have HD:=Hd hD;rw[hD];clear hD
  by_cases hd:1<=D/\D<=64
  ·have b7:=hd.1;have b8:=hd.2;have F:Hid (O3 (Kr L) s.data.toList=⟨4,D.toNat,[],[]⟩):=QL _ HB.o (by rw[HD.o];omega) (by omega) (by omega);clear hd
   go_wp2_with fail
   refine Jh (v:=.agg #[.int .i64 4,.int .i64 D,.string ⟨#[]⟩,.string ⟨#[]⟩]) ?_ rfl ⟨Ke (by rw[F.o];show _=Value.agg #[.int .i64 4,.int .i64 (D.toNat:Nat),.string ⟨#[]⟩,.string ⟨#[]⟩];rw[Int.toNat_of_nonneg (by omega)]),Oo _ _⟩;simp[results,results35,go_sem]
  have F:Hid (O3 (Kr L) s.data.toList=SI.none):=VY _ HB.o (by rw[HD.o];exact hd)
  by_cases b7:1<=D
  case' pos=>
   have b8:64<D:=by omega
   clear hd
  case' neg=>
   have b8:D<1:=by omega
   clear hd b7
  all_goals
   go_wp2_with fail
   refine Jh (v:=.agg #[.int .i64 0,.int .i64 0,.string ⟨#[]⟩,.string ⟨#[]⟩]) ?_ rfl ⟨Ke (by rw[F.o];rfl),Oo _ _⟩;simp[results,results35,go_sem]
 have Y:Hid (O3 (Kr L) s.data.toList=match N6 s.data.toList with|some n=>if Nx n&&Kr L n then ⟨5,0,[],[]⟩ else SI.none|none=>SI.none):=QM _ Z h2 h3 hb;have b3:=Hd hb;unfold He at z1;unfold Rj at z2;unfold Xv at z3;clear Z h2 h3 hb
 by_cases n2:2<=s.size
 ·by_cases n0:s[0].toNat=124
  ·have x0:((s[0].toNat:Int)==124)=true:=by rw[Jw];omega
   by_cases nl:(s[s.size - 1]'(by omega)).toNat=124
   ·have x1:(((s[s.size - 1]'(by omega)).toNat:Int)==124)=true:=by rw[Jw];omega
    have j:Hid (O3 (Kr L) s.data.toList=if Nx (s.extract 1 (s.size - 1)).data.toList&&decide (Kj 2 (s.extract 1 (s.size - 1)).data.toList=s.data.toList)&&Kr L (s.extract 1 (s.size - 1)).data.toList then ⟨5,0,[],[]⟩ else SI.none):=by
     unfold Hid;rw[Y.o];exact QU (MU n2 n0 nl) _
    have a6:(s.extract 1 (s.size - 1)).size<=1048576:=by rw[Yj];omega
    clear n0 nl
    go_in
    by_cases V:11<s.size
    ·by_cases K:(s.data.toList.take 10)=A7
     case' pos=>
      have y1:((s.extract 0 10).toList==[40,95,32,66,105,116,86,101,99,32])=true:=by rw[Nh,K];rfl
      have y2:(((s[s.size - 1]'(by omega)).toNat:Int)==41)=false:=by
       rw[Jd];intro e;exact b3.o ⟨by rw[O6];exact V,K,by rw[Xc (by omega),Gx (c:=s[s.size - 1]'(by omega)) (n:=41) (by omega)];rfl⟩
     case' neg=>
      have y1:((s.extract 0 10).toList==[40,95,32,66,105,116,86,101,99,32])=false:=by rw[Nh,Jd];exact K
     all_goals
      clear K
      go_wp2_with fail
      refine (Nw (s.extract 1 (s.size - 1)) _ (by unfold maxLen;have:=a6;omega)).mono ?_
      cases d:Nx ((s.extract 1 (s.size - 1))).data.toList
      ·have E:Hid (O3 (Kr L) s.data.toList=SI.none):=by unfold Hid;rw[j.o,d];rfl
       rintro e I ⟨rfl,rfl⟩;clear d
       go_wp2_with fail
       refine Jh (v:=.agg #[.int .i64 0,.int .i64 0,.string ⟨#[]⟩,.string ⟨#[]⟩]) ?_ rfl ⟨Ke (by rw[E.o];rfl),Oo _ _⟩;simp[results,results35,go_sem]
      have H:=Hd d;clear d;rintro e I ⟨rfl,rfl⟩
      go_wp2_with fail
      refine (Ni (s.extract 1 (s.size - 1)) _ (by have:=a6;omega)).mono ?_;rintro e I ⟨rfl,rfl⟩
      by_cases G:Kj 2 ((s.extract 1 (s.size - 1))).data.toList=s.data.toList
      ·have O:((Oy (Kj 2 ((s.extract 1 (s.size - 1))).data.toList)).toList==s.toList)=true:=by rw[Je,Je,O4,G];simp
       have U:=Hd G;clear G;generalize Oy (Kj 2 ((s.extract 1 (s.size - 1))).data.toList)=X at O ⊢
       go_wp2_with fail
       refine (Hf v L (s.extract 1 (s.size - 1)) _ (HS.o.bl (Oo _ _))).mono ?_
       cases J:Kr L ((s.extract 1 (s.size - 1))).data.toList
       ·have E:Hid (O3 (Kr L) s.data.toList=SI.none):=by unfold Hid;rw[j.o,J,V0];rfl
        rintro e I ⟨rfl,rfl⟩;clear J
        go_wp2_with fail
        refine Jh (v:=.agg #[.int .i64 0,.int .i64 0,.string ⟨#[]⟩,.string ⟨#[]⟩]) ?_ rfl ⟨Ke (by rw[E.o];rfl),Oo _ _⟩;simp[results,results35,go_sem]
       have E:Hid (O3 (Kr L) s.data.toList=⟨5,0,[],[]⟩):=by unfold Hid;rw[j.o,H.o,Jn U.o,J];rfl
       rintro e I ⟨rfl,rfl⟩;clear J
       go_wp2_with fail
       refine Jh (v:=.agg #[.int .i64 5,.int .i64 0,.string ⟨#[]⟩,.string ⟨#[]⟩]) ?_ rfl ⟨Ke (by rw[E.o];rfl),Oo _ _⟩;simp[results,results35,go_sem]
      have O:((Oy (Kj 2 ((s.extract 1 (s.size - 1))).data.toList)).toList==s.toList)=false:=by rw[Je,Je,O4,Jd];exact G
      have E:Hid (O3 (Kr L) s.data.toList=SI.none):=by unfold Hid;rw[j.o,H.o,Jp G];rfl
      clear G;generalize Oy (Kj 2 ((s.extract 1 (s.size - 1))).data.toList)=X at O ⊢
      go_wp2_with fail
      refine Jh (v:=.agg #[.int .i64 0,.int .i64 0,.string ⟨#[]⟩,.string ⟨#[]⟩]) ?_ rfl ⟨Ke (by rw[E.o];rfl),Oo _ _⟩;simp[results,results35,go_sem]
    go_wp2_with fail
    refine (Nw (s.extract 1 (s.size - 1)) _ (by unfold maxLen;have:=a6;omega)).mono ?_
    cases d:Nx ((s.extract 1 (s.size - 1))).data.toList
    ·have E:Hid (O3 (Kr L) s.data.toList=SI.none):=by unfold Hid;rw[j.o,d];rfl
     rintro e I ⟨rfl,rfl⟩;clear d
     go_wp2_with fail
     refine Jh (v:=.agg #[.int .i64 0,.int .i64 0,.string ⟨#[]⟩,.string ⟨#[]⟩]) ?_ rfl ⟨Ke (by rw[E.o];rfl),Oo _ _⟩;simp[results,results35,go_sem]
    have H:=Hd d;clear d;rintro e I ⟨rfl,rfl⟩
    go_wp2_with fail
    refine (Ni (s.extract 1 (s.size - 1)) _ (by have:=a6;omega)).mono ?_;rintro e I ⟨rfl,rfl⟩
    by_cases G:Kj 2 ((s.extract 1 (s.size - 1))).data.toList=s.data.toList
    ·have O:((Oy (Kj 2 ((s.extract 1 (s.size - 1))).data.toList)).toList==s.toList)=true:=by rw[Je,Je,O4,G];simp
     have U:=Hd G;clear G;generalize Oy (Kj 2 ((s.extract 1 (s.size - 1))).data.toList)=X at O ⊢
     go_wp2_with fail
     refine (Hf v L (s.extract 1 (s.size - 1)) _ (HS.o.bl (Oo _ _))).mono ?_
     cases J:Kr L ((s.extract 1 (s.size - 1))).data.toList
     ·have E:Hid (O3 (Kr L) s.data.toList=SI.none):=by unfold Hid;rw[j.o,J,V0];rfl
      rintro e I ⟨rfl,rfl⟩;clear J
      go_wp2_with fail
      refine Jh (v:=.agg #[.int .i64 0,.int .i64 0,.string ⟨#[]⟩,.string ⟨#[]⟩]) ?_ rfl ⟨Ke (by rw[E.o];rfl),Oo _ _⟩;simp[results,results35,go_sem]
     have E:Hid (O3 (Kr L) s.data.toList=⟨5,0,[],[]⟩):=by unfold Hid;rw[j.o,H.o,Jn U.o,J];rfl
     rintro e I ⟨rfl,rfl⟩;clear J
     go_wp2_with fail
     refine Jh (v:=.agg #[.int .i64 5,.int .i64 0,.string ⟨#[]⟩,.string ⟨#[]⟩]) ?_ rfl ⟨Ke (by rw[E.o];rfl),Oo _ _⟩;simp[results,results35,go_sem]
    have O:((Oy (Kj 2 ((s.extract 1 (s.size - 1))).data.toList)).toList==s.toList)=false:=by rw[Je,Je,O4,Jd];exact G
    have E:Hid (O3 (Kr L) s.data.toList=SI.none):=by unfold Hid;rw[j.o,H.o,Jp G];rfl
    clear G;generalize Oy (Kj 2 ((s.extract 1 (s.size - 1))).data.toList)=X at O ⊢
    go_wp2_with fail
    refine Jh (v:=.agg #[.int .i64 0,.int .i64 0,.string ⟨#[]⟩,.string ⟨#[]⟩]) ?_ rfl ⟨Ke (by rw[E.o];rfl),Oo _ _⟩;simp[results,results35,go_sem]
   have x1:(((s[s.size - 1]'(by omega)).toNat:Int)==124)=false:=by rw[Jd];omega
   have j:Hid (O3 (Kr L) s.data.toList=if Nx s.data.toList&&decide (Kj 2 s.data.toList=s.data.toList)&&Kr L s.data.toList then ⟨5,0,[],[]⟩ else SI.none):=by
    unfold Hid;rw[Y.o];exact De (GS n2 nl) _
   clear n0 nl
   go_in
   by_cases V:11<s.size
   ·by_cases K:(s.data.toList.take 10)=A7
    case' pos=>
     have y1:((s.extract 0 10).toList==[40,95,32,66,105,116,86,101,99,32])=true:=by rw[Nh,K];rfl
     have y2:(((s[s.size - 1]'(by omega)).toNat:Int)==41)=false:=by
      rw[Jd];intro e;exact b3.o ⟨by rw[O6];exact V,K,by rw[Xc (by omega),Gx (c:=s[s.size - 1]'(by omega)) (n:=41) (by omega)];rfl⟩
    case' neg=>
     have y1:((s.extract 0 10).toList==[40,95,32,66,105,116,86,101,99,32])=false:=by rw[Nh,Jd];exact K
    all_goals
     clear K
     go_wp2_with fail
     refine (Nw s _ (by unfold maxLen;have:=hs;omega)).mono ?_
     cases d:Nx (s).data.toList
     ·have E:Hid (O3 (Kr L) s.data.toList=SI.none):=by unfold Hid;rw[j.o,d];rfl
      rintro e I ⟨rfl,rfl⟩;clear d
      go_wp2_with fail
      refine Jh (v:=.agg #[.int .i64 0,.int .i64 0,.string ⟨#[]⟩,.string ⟨#[]⟩]) ?_ rfl ⟨Ke (by rw[E.o];rfl),Oo _ _⟩;simp[results,results35,go_sem]
     have H:=Hd d;clear d;rintro e I ⟨rfl,rfl⟩
     go_wp2_with fail
     refine (Ni s _ (by have:=hs;omega)).mono ?_;rintro e I ⟨rfl,rfl⟩
     by_cases G:Kj 2 (s).data.toList=s.data.toList
     ·have O:((Oy (Kj 2 (s).data.toList)).toList==s.toList)=true:=by rw[Je,Je,O4,G];simp
      have U:=Hd G;clear G;generalize Oy (Kj 2 (s).data.toList)=X at O ⊢
      go_wp2_with fail
      refine (Hf v L s _ (HS.o.bl (Oo _ _))).mono ?_
      cases J:Kr L (s).data.toList
      ·have E:Hid (O3 (Kr L) s.data.toList=SI.none):=by unfold Hid;rw[j.o,J,V0];rfl
       rintro e I ⟨rfl,rfl⟩;clear J
       go_wp2_with fail
       refine Jh (v:=.agg #[.int .i64 0,.int .i64 0,.string ⟨#[]⟩,.string ⟨#[]⟩]) ?_ rfl ⟨Ke (by rw[E.o];rfl),Oo _ _⟩;simp[results,results35,go_sem]
      have E:Hid (O3 (Kr L) s.data.toList=⟨5,0,[],[]⟩):=by unfold Hid;rw[j.o,H.o,Jn U.o,J];rfl
      rintro e I ⟨rfl,rfl⟩;clear J
      go_wp2_with fail
      refine Jh (v:=.agg #[.int .i64 5,.int .i64 0,.string ⟨#[]⟩,.string ⟨#[]⟩]) ?_ rfl ⟨Ke (by rw[E.o];rfl),Oo _ _⟩;simp[results,results35,go_sem]
     have O:((Oy (Kj 2 (s).data.toList)).toList==s.toList)=false:=by rw[Je,Je,O4,Jd];exact G
     have E:Hid (O3 (Kr L) s.data.toList=SI.none):=by unfold Hid;rw[j.o,H.o,Jp G];rfl
     clear G;generalize Oy (Kj 2 (s).data.toList)=X at O ⊢
     go_wp2_with fail
     refine Jh (v:=.agg #[.int .i64 0,.int .i64 0,.string ⟨#[]⟩,.string ⟨#[]⟩]) ?_ rfl ⟨Ke (by rw[E.o];rfl),Oo _ _⟩;simp[results,results35,go_sem]
   go_wp2_with fail
   refine (Nw s _ (by unfold maxLen;have:=hs;omega)).mono ?_
   cases d:Nx (s).data.toList
   ·have E:Hid (O3 (Kr L) s.data.toList=SI.none):=by unfold Hid;rw[j.o,d];rfl
    rintro e I ⟨rfl,rfl⟩;clear d
    go_wp2_with fail
    refine Jh (v:=.agg #[.int .i64 0,.int .i64 0,.string ⟨#[]⟩,.string ⟨#[]⟩]) ?_ rfl ⟨Ke (by rw[E.o];rfl),Oo _ _⟩;simp[results,results35,go_sem]
   have H:=Hd d;clear d;rintro e I ⟨rfl,rfl⟩
   go_wp2_with fail
   refine (Ni s _ (by have:=hs;omega)).mono ?_;rintro e I ⟨rfl,rfl⟩
   by_cases G:Kj 2 (s).data.toList=s.data.toList
   ·have O:((Oy (Kj 2 (s).data.toList)).toList==s.toList)=true:=by rw[Je,Je,O4,G];simp
    have U:=Hd G;clear G;generalize Oy (Kj 2 (s).data.toList)=X at O ⊢
    go_wp2_with fail
    refine (Hf v L s _ (HS.o.bl (Oo _ _))).mono ?_
    cases J:Kr L (s).data.toList
    ·have E:Hid (O3 (Kr L) s.data.toList=SI.none):=by unfold Hid;rw[j.o,J,V0];rfl
     rintro e I ⟨rfl,rfl⟩;clear J
     go_wp2_with fail
     refine Jh (v:=.agg #[.int .i64 0,.int .i64 0,.string ⟨#[]⟩,.string ⟨#[]⟩]) ?_ rfl ⟨Ke (by rw[E.o];rfl),Oo _ _⟩;simp[results,results35,go_sem]
    have E:Hid (O3 (Kr L) s.data.toList=⟨5,0,[],[]⟩):=by unfold Hid;rw[j.o,H.o,Jn U.o,J];rfl
    rintro e I ⟨rfl,rfl⟩;clear J
    go_wp2_with fail
    refine Jh (v:=.agg #[.int .i64 5,.int .i64 0,.string ⟨#[]⟩,.string ⟨#[]⟩]) ?_ rfl ⟨Ke (by rw[E.o];rfl),Oo _ _⟩;simp[results,results35,go_sem]
   have O:((Oy (Kj 2 (s).data.toList)).toList==s.toList)=false:=by rw[Je,Je,O4,Jd];exact G
   have E:Hid (O3 (Kr L) s.data.toList=SI.none):=by unfold Hid;rw[j.o,H.o,Jp G];rfl
   clear G;generalize Oy (Kj 2 (s).data.toList)=X at O ⊢
   go_wp2_with fail
   refine Jh (v:=.agg #[.int .i64 0,.int .i64 0,.string ⟨#[]⟩,.string ⟨#[]⟩]) ?_ rfl ⟨Ke (by rw[E.o];rfl),Oo _ _⟩;simp[results,results35,go_sem]
  have x0:((s[0].toNat:Int)==124)=false:=by rw[Jd];omega
  have j:Hid (O3 (Kr L) s.data.toList=if Nx s.data.toList&&decide (Kj 2 s.data.toList=s.data.toList)&&Kr L s.data.toList then ⟨5,0,[],[]⟩ else SI.none):=by
   unfold Hid;rw[Y.o];exact De (UR n2 n0) _
  clear n0
  go_in
  by_cases V:11<s.size
  ·by_cases K:(s.data.toList.take 10)=A7
   case' pos=>
    have y1:((s.extract 0 10).toList==[40,95,32,66,105,116,86,101,99,32])=true:=by rw[Nh,K];rfl
    have y2:(((s[s.size - 1]'(by omega)).toNat:Int)==41)=false:=by
     rw[Jd];intro e;exact b3.o ⟨by rw[O6];exact V,K,by rw[Xc (by omega),Gx (c:=s[s.size - 1]'(by omega)) (n:=41) (by omega)];rfl⟩
   case' neg=>
    have y1:((s.extract 0 10).toList==[40,95,32,66,105,116,86,101,99,32])=false:=by rw[Nh,Jd];exact K
   all_goals
    clear K
    go_wp2_with fail
    refine (Nw s _ (by unfold maxLen;have:=hs;omega)).mono ?_
    cases d:Nx (s).data.toList
    ·have E:Hid (O3 (Kr L) s.data.toList=SI.none):=by unfold Hid;rw[j.o,d];rfl
     rintro e I ⟨rfl,rfl⟩;clear d
     go_wp2_with fail
     refine Jh (v:=.agg #[.int .i64 0,.int .i64 0,.string ⟨#[]⟩,.string ⟨#[]⟩]) ?_ rfl ⟨Ke (by rw[E.o];rfl),Oo _ _⟩;simp[results,results35,go_sem]
    have H:=Hd d;clear d;rintro e I ⟨rfl,rfl⟩
    go_wp2_with fail
    refine (Ni s _ (by have:=hs;omega)).mono ?_;rintro e I ⟨rfl,rfl⟩
    by_cases G:Kj 2 (s).data.toList=s.data.toList
    ·have O:((Oy (Kj 2 (s).data.toList)).toList==s.toList)=true:=by rw[Je,Je,O4,G];simp
     have U:=Hd G;clear G;generalize Oy (Kj 2 (s).data.toList)=X at O ⊢
     go_wp2_with fail
     refine (Hf v L s _ (HS.o.bl (Oo _ _))).mono ?_
     cases J:Kr L (s).data.toList
     ·have E:Hid (O3 (Kr L) s.data.toList=SI.none):=by unfold Hid;rw[j.o,J,V0];rfl
      rintro e I ⟨rfl,rfl⟩;clear J
      go_wp2_with fail
      refine Jh (v:=.agg #[.int .i64 0,.int .i64 0,.string ⟨#[]⟩,.string ⟨#[]⟩]) ?_ rfl ⟨Ke (by rw[E.o];rfl),Oo _ _⟩;simp[results,results35,go_sem]
     have E:Hid (O3 (Kr L) s.data.toList=⟨5,0,[],[]⟩):=by unfold Hid;rw[j.o,H.o,Jn U.o,J];rfl
     rintro e I ⟨rfl,rfl⟩;clear J
     go_wp2_with fail
     refine Jh (v:=.agg #[.int .i64 5,.int .i64 0,.string ⟨#[]⟩,.string ⟨#[]⟩]) ?_ rfl ⟨Ke (by rw[E.o];rfl),Oo _ _⟩;simp[results,results35,go_sem]
    have O:((Oy (Kj 2 (s).data.toList)).toList==s.toList)=false:=by rw[Je,Je,O4,Jd];exact G
    have E:Hid (O3 (Kr L) s.data.toList=SI.none):=by unfold Hid;rw[j.o,H.o,Jp G];rfl
    clear G;generalize Oy (Kj 2 (s).data.toList)=X at O ⊢
    go_wp2_with fail
    refine Jh (v:=.agg #[.int .i64 0,.int .i64 0,.string ⟨#[]⟩,.string ⟨#[]⟩]) ?_ rfl ⟨Ke (by rw[E.o];rfl),Oo _ _⟩;simp[results,results35,go_sem]
  go_wp2_with fail
  refine (Nw s _ (by unfold maxLen;have:=hs;omega)).mono ?_
  cases d:Nx (s).data.toList
  ·have E:Hid (O3 (Kr L) s.data.toList=SI.none):=by unfold Hid;rw[j.o,d];rfl
   rintro e I ⟨rfl,rfl⟩;clear d
   go_wp2_with fail
   refine Jh (v:=.agg #[.int .i64 0,.int .i64 0,.string ⟨#[]⟩,.string ⟨#[]⟩]) ?_ rfl ⟨Ke (by rw[E.o];rfl),Oo _ _⟩;simp[results,results35,go_sem]
  have H:=Hd d;clear d;rintro e I ⟨rfl,rfl⟩
  go_wp2_with fail
  refine (Ni s _ (by have:=hs;omega)).mono ?_;rintro e I ⟨rfl,rfl⟩
  by_cases G:Kj 2 (s).data.toList=s.data.toList
  ·have O:((Oy (Kj 2 (s).data.toList)).toList==s.toList)=true:=by rw[Je,Je,O4,G];simp
   have U:=Hd G;clear G;generalize Oy (Kj 2 (s).data.toList)=X at O ⊢
   go_wp2_with fail
   refine (Hf v L s _ (HS.o.bl (Oo _ _))).mono ?_
   cases J:Kr L (s).data.toList
   ·have E:Hid (O3 (Kr L) s.data.toList=SI.none):=by unfold Hid;rw[j.o,J,V0];rfl
    rintro e I ⟨rfl,rfl⟩;clear J
    go_wp2_with fail
    refine Jh (v:=.agg #[.int .i64 0,.int .i64 0,.string ⟨#[]⟩,.string ⟨#[]⟩]) ?_ rfl ⟨Ke (by rw[E.o];rfl),Oo _ _⟩;simp[results,results35,go_sem]
   have E:Hid (O3 (Kr L) s.data.toList=⟨5,0,[],[]⟩):=by unfold Hid;rw[j.o,H.o,Jn U.o,J];rfl
   rintro e I ⟨rfl,rfl⟩;clear J
   go_wp2_with fail
   refine Jh (v:=.agg #[.int .i64 5,.int .i64 0,.string ⟨#[]⟩,.string ⟨#[]⟩]) ?_ rfl ⟨Ke (by rw[E.o];rfl),Oo _ _⟩;simp[results,results35,go_sem]
  have O:((Oy (Kj 2 (s).data.toList)).toList==s.toList)=false:=by rw[Je,Je,O4,Jd];exact G
  have E:Hid (O3 (Kr L) s.data.toList=SI.none):=by unfold Hid;rw[j.o,H.o,Jp G];rfl
  clear G;generalize Oy (Kj 2 (s).data.toList)=X at O ⊢
  go_wp2_with fail
  refine Jh (v:=.agg #[.int .i64 0,.int .i64 0,.string ⟨#[]⟩,.string ⟨#[]⟩]) ?_ rfl ⟨Ke (by rw[E.o];rfl),Oo _ _⟩;simp[results,results35,go_sem]
 have j:Hid (O3 (Kr L) s.data.toList=if Nx s.data.toList&&decide (Kj 2 s.data.toList=s.data.toList)&&Kr L s.data.toList then ⟨5,0,[],[]⟩ else SI.none):=by
  unfold Hid;rw[Y.o];exact De (UP n2) _
 have V:¬ 11<s.size:=by omega
 go_in
 go_wp2_with fail
 refine (Nw s _ (by unfold maxLen;have:=hs;omega)).mono ?_
 cases d:Nx (s).data.toList
 ·have E:Hid (O3 (Kr L) s.data.toList=SI.none):=by unfold Hid;rw[j.o,d];rfl
  rintro e I ⟨rfl,rfl⟩;clear d
  go_wp2_with fail
  refine Jh (v:=.agg #[.int .i64 0,.int .i64 0,.string ⟨#[]⟩,.string ⟨#[]⟩]) ?_ rfl ⟨Ke (by rw[E.o];rfl),Oo _ _⟩;simp[results,results35,go_sem]
 have H:=Hd d;clear d;rintro e I ⟨rfl,rfl⟩
 go_wp2_with fail
 refine (Ni s _ (by have:=hs;omega)).mono ?_;rintro e I ⟨rfl,rfl⟩
 by_cases G:Kj 2 (s).data.toList=s.data.toList
 ·have O:((Oy (Kj 2 (s).data.toList)).toList==s.toList)=true:=by rw[Je,Je,O4,G];simp
  have U:=Hd G;clear G;generalize Oy (Kj 2 (s).data.toList)=X at O ⊢
  go_wp2_with fail
  refine (Hf v L s _ (HS.o.bl (Oo _ _))).mono ?_
  cases J:Kr L (s).data.toList
  ·have E:Hid (O3 (Kr L) s.data.toList=SI.none):=by unfold Hid;rw[j.o,J,V0];rfl
   rintro e I ⟨rfl,rfl⟩;clear J
   go_wp2_with fail
   refine Jh (v:=.agg #[.int .i64 0,.int .i64 0,.string ⟨#[]⟩,.string ⟨#[]⟩]) ?_ rfl ⟨Ke (by rw[E.o];rfl),Oo _ _⟩;simp[results,results35,go_sem]
  have E:Hid (O3 (Kr L) s.data.toList=⟨5,0,[],[]⟩):=by unfold Hid;rw[j.o,H.o,Jn U.o,J];rfl
  rintro e I ⟨rfl,rfl⟩;clear J
  go_wp2_with fail
  refine Jh (v:=.agg #[.int .i64 5,.int .i64 0,.string ⟨#[]⟩,.string ⟨#[]⟩]) ?_ rfl ⟨Ke (by rw[E.o];rfl),Oo _ _⟩;simp[results,results35,go_sem]
 have O:((Oy (Kj 2 (s).data.toList)).toList==s.toList)=false:=by rw[Je,Je,O4,Jd];exact G
 have E:Hid (O3 (Kr L) s.data.toList=SI.none):=by unfold Hid;rw[j.o,H.o,Jp G];rfl
 clear G;generalize Oy (Kj 2 (s).data.toList)=X at O ⊢
 go_wp2_with fail
 refine Jh (v:=.agg #[.int .i64 0,.int .i64 0,.string ⟨#[]⟩,.string ⟨#[]⟩]) ?_ rfl ⟨Ke (by rw[E.o];rfl),Oo _ _⟩;simp[results,results35,go_sem]
end Go.Proofs.YtjjgilacnocigaaGreatDoor
