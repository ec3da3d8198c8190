import Derived.Test.YtdmdmgfjpomdbaaGreatDoorP16
set_option maxRecDepth 100000
set_option maxHeartbeats 2000000
namespace Go.Proofs.YtdmdmgfjpomdbaaGreatDoor
open ChangeShapes WideShapes ChangeAt RowKit Proofs.Tryz
variable {s:ByteArray}
theorem Np (s:ByteArray)(k:Nat):(s.extract 0 k).toList=s.data.toList.take k:=by
 rw[Jk,Zc];simp
theorem Iw (s:ByteArray)(i k:Nat):(s.extract i k).data.toList=(s.data.toList.take k).drop i:=by
 rw[Zc];simp[Array.toList_extract,List.drop_take]
theorem Xe (h:0<s.size):s.data.toList.getLast? = some (s[s.size - 1]'(by omega)):=by
 rw[List.getLast?_eq_getElem?,Om,Jd (by rw[Om];omega)];rfl
theorem Cu {l:List UInt8}(h:s.data.toList=l):(s.toList==l)=true:=by rw[Jk,h];simp
theorem Qd {l:List UInt8}(h:s.data.toList≠l):(s.toList==l)=false:=by rw[Jk,Jb];exact h
theorem O6 {a b:Value}(h:a=b):Ending.returned a=.returned b:=by rw[h]
def To (t:List UInt8):Prop:=∀ n,t≠124::(n++[124])
theorem A7 (r:List UInt8):Kt (124::r)=false:=by
 have:Nb 124=false:=by decide
 simp[Kt,this]
theorem XV {t n:List UInt8}(h:t=124::(n++[124]))(own:List UInt8->Bool) :
 (match N2 t with|some n=>if Ng n&&own n then (⟨5,0,[],[]⟩:SI) else SI.none|none=>SI.none)=if Ng n&&decide (Kl 2 n=t)&&own n then ⟨5,0,[],[]⟩ else SI.none:=by
 subst h;have A:(n++[124]).getLast? = some (124:UInt8):=Vm;have j:N2 (124::(n++[124]))=if Kt n=false then some n else none:=by
  unfold N2;rw[A7];simp only[A,Vl,true_and];rfl
 rw[j]
 cases d:Kt n
 ·have:Kl 2 n=124::(n++[124]):=by simp[Kl,d]
  simp[this]
 have:Kl 2 n≠124::(n++[124]):=by
  have e:Kl 2 n=n:=by simp[Kl,d]
  rw[e];intro h;have:=congrArg List.length h;simp at this;omega
 simp[this]
theorem Px {t:List UInt8}(h:To t)(own:List UInt8->Bool) :
 (match N2 t with|some n=>if Ng n&&own n then (⟨5,0,[],[]⟩:SI) else SI.none|none=>SI.none)=if Ng t&&decide (Kl 2 t=t)&&own t then ⟨5,0,[],[]⟩ else SI.none:=by
 cases j:Kt t
 ·have e:Kl 2 t≠t:=by
   have e:Kl 2 t=124::(t++[124]):=by simp[Kl,j]
   rw[e];intro h;have:=congrArg List.length h;simp at this;omega
  have A:N2 t=none:=by
   cases hn:N2 t with
   | none=>rfl
   | some n=>
     rcases Qq hn with⟨d,_⟩|⟨_,d⟩
     ·rw[j] at d;cases d
     exact absurd d (h n)
  rw[A];simp[e]
 have e:Kl 2 t=t:=by simp[Kl,j]
 have A:N2 t=some t:=by unfold N2;rw[if_pos j]
 rw[A];simp[e]
theorem ZJ (h:¬ 2<=s.size):To s.data.toList:=fun n e=>by
 have:=congrArg List.length e
 rw[Om] at this
 simp at this
 omega
theorem ZW (h2:2<=s.size)(h:¬ (s[0]'(by omega)).toNat=124):To s.data.toList:=fun n e=>by
 have d:=Gf s (by omega)
 rw[e] at d
 have:=Option.some.inj d
 exact h (by rw[<-this];rfl)
theorem GV (h2:2<=s.size)(h:¬ (s[s.size - 1]'(by omega)).toNat=124):To s.data.toList:=fun n e=>by
 have d:=Xe (s:=s) (by omega)
 rw[e,<-Yx,Vm] at d
 have:=Option.some.inj d
 exact h (by rw[<-this];rfl)
theorem FY (h2:2<=s.size)(h0:(s[0]'(by omega)).toNat=124)(hl:(s[s.size - 1]'(by omega)).toNat=124):s.data.toList=124::((s.extract 1 (s.size - 1)).data.toList++[124]):=by
 have h:=Gf s (by omega);have j:=Xe (s:=s) (by omega);rw[Gc h0] at h;rw[Gc hl] at j;rw[Iw];obtain⟨A,e⟩:=Z0.1 j;have d:A.length=s.size - 1:=by
  have:=congrArg List.length e;rw[Om] at this;simp at this;omega
 cases A with
 | nil=>simp at d;omega
 | cons c r=>
   rw[e] at h ⊢;have hc:c=124:=by simpa using h
   subst hc;rw[<-d,List.take_left];rfl
theorem Ii (v:Value)(L:List (List UInt8))(s:ByteArray)(w:World)(h:O3 w v L)(hs:s.size<=1048576) :
 Calls prog 82 #[v,.string s] w fun e w'=>e=.returned (Gw (Of (Ok L) s.data.toList))/\Up w w':=by
 have HS:=Hd h;clear h;have M:=Ml (Ok L)
 by_cases Y:s.data.toList=On
 ·have F:Hid (Of (Ok L) s.data.toList=⟨1,0,[],[]⟩):=by unfold Hid;rw[Y];exact M.1
  have z:=Cu Y;unfold On at z;clear Y M
  go_in
  go_wp2_with fail
  refine Jg (v:=.agg #[.int .i64 1,.int .i64 0,.string ⟨#[]⟩,.string ⟨#[]⟩]) ?_ rfl ⟨O6 (by rw[F.o];rfl),Oz _ _⟩;simp[results,results82,go_sem]
 have z1:=Qd Y
 by_cases h2:s.data.toList=U8
 ·have F:Hid (Of (Ok L) s.data.toList=⟨2,0,[],[]⟩):=by unfold Hid;rw[h2];exact M.2.1
  have z:=Cu h2;unfold U8 at z;unfold On at z1;clear Y h2 M
  go_in
  go_wp2_with fail
  refine Jg (v:=.agg #[.int .i64 2,.int .i64 0,.string ⟨#[]⟩,.string ⟨#[]⟩]) ?_ rfl ⟨O6 (by rw[F.o];rfl),Oz _ _⟩;simp[results,results82,go_sem]
 have z2:=Qd h2
 by_cases h3:s.data.toList=Ku
 ·have F:Hid (Of (Ok L) s.data.toList=⟨3,0,[],[]⟩):=by unfold Hid;rw[h3];exact M.2.2
  have z:=Cu h3;unfold Ku at z;unfold On at z1;unfold U8 at z2;clear Y h2 h3 M
  go_in
  go_wp2_with fail
  refine Jg (v:=.agg #[.int .i64 3,.int .i64 0,.string ⟨#[]⟩,.string ⟨#[]⟩]) ?_ rfl ⟨O6 (by rw[F.o];rfl),Oz _ _⟩;simp[results,results82,go_sem]
 have z3:=Qd h3;clear M
 by_cases hb:Qv s.data.toList
 ·have d4:11<s.size:=by have:=hb.1;rw[Om] at this;exact this
  have y1:((s.extract 0 10).toList==[40,95,32,66,105,116,86,101,99,32])=true:=by rw[Np];have:=hb.2.1;rw[this];rfl
  have hl:(s[s.size - 1]'(by omega)).toNat=41:=by have:=hb.2.2;rw[Xe (by omega)] at this;rw[Option.some.inj this];rfl
  unfold On at z1;unfold U8 at z2;unfold Ku at z3;have HM:Hid ((s.extract 10 (s.size - 1)).data.toList=Fq s.data.toList):=by
   unfold Hid Fq;rw[Iw,List.dropLast_eq_take,Zf,Om,Uq]
   congr 1
  have HB:=Hd hb;clear Y h2 h3 hb
  go_in
  go_wp2_with fail
  refine (IS _ _ (by unfold maxLen;rw[Yo];omega)).mono ?_;rw[HM.o];rintro e I ⟨rfl,rfl⟩;obtain⟨D,hD⟩:=Oa (Qu (Fq s.data.toList));have HD:=Hd hD;rw[hD];clear hD
  by_cases hd:1<=D/\D<=64
  ·have b5:=hd.1;have b6:=hd.2;have F:Hid (Of (Ok L) s.data.toList=⟨4,D.toNat,[],[]⟩):=XD _ HB.o (by rw[HD.o];omega) (by omega) (by omega);clear hd
   go_wp2_with fail
   refine Jg (v:=.agg #[.int .i64 4,.int .i64 D,.string ⟨#[]⟩,.string ⟨#[]⟩]) ?_ rfl ⟨O6 (by rw[F.o];show _=Value.agg #[.int .i64 4,.int .i64 (D.toNat:Nat),.string ⟨#[]⟩,.string ⟨#[]⟩];rw[Int.toNat_of_nonneg (by omega)]),Oz _ _⟩;simp[results,results82,go_sem]
  have F:Hid (Of (Ok L) s.data.toList=SI.none):=YF _ HB.o (by rw[HD.o];exact hd)
  by_cases b5:1<=D
  case' pos=>
   have b6:64<D:=by omega
   clear hd
  case' neg=>
   have b6:D<1:=by omega
   clear hd b5
  all_goals
   go_wp2_with fail
   refine Jg (v:=.agg #[.int .i64 0,.int .i64 0,.string ⟨#[]⟩,.string ⟨#[]⟩]) ?_ rfl ⟨O6 (by rw[F.o];rfl),Oz _ _⟩;simp[results,results82,go_sem]
 have V:Hid (Of (Ok L) s.data.toList=match N2 s.data.toList with|some n=>if Ng n&&Ok L n then ⟨5,0,[],[]⟩ else SI.none|none=>SI.none):=XC _ Y h2 h3 hb;have a7:=Hd hb;unfold On at z1;unfold U8 at z2;unfold Ku at z3;clear Y h2 h3 hb
 by_cases n2:2<=s.size
 ·by_cases n0:s[0].toNat=124
  ·have x0:((s[0].toNat:Int)==124)=true:=by rw[Yf];omega
   by_cases nl:(s[s.size - 1]'(by omega)).toNat=124
   ·have x1:(((s[s.size - 1]'(by omega)).toNat:Int)==124)=true:=by rw[Yf];omega
    have j:Hid (Of (Ok L) s.data.toList=if Ng (s.extract 1 (s.size - 1)).data.toList&&decide (Kl 2 (s.extract 1 (s.size - 1)).data.toList=s.data.toList)&&Ok L (s.extract 1 (s.size - 1)).data.toList then ⟨5,0,[],[]⟩ else SI.none):=by
     unfold Hid;rw[V.o];exact XV (FY n2 n0 nl) _
    have Z:(s.extract 1 (s.size - 1)).size<=1048576:=by rw[Yo];omega
    clear n0 nl
    go_in
    by_cases U:11<s.size
    ·by_cases hb2:(s.data.toList.take 10)=Bl
     case' pos=>
      have y1:((s.extract 0 10).toList==[40,95,32,66,105,116,86,101,99,32])=true:=by rw[Np,hb2];rfl
      have y2:(((s[s.size - 1]'(by omega)).toNat:Int)==41)=false:=by
       rw[Jb];intro e;exact a7.o ⟨by rw[Om];exact U,hb2,by rw[Xe (by omega),Gc (c:=s[s.size - 1]'(by omega)) (n:=41) (by omega)];rfl⟩
     case' neg=>
      have y1:((s.extract 0 10).toList==[40,95,32,66,105,116,86,101,99,32])=false:=by rw[Np,Jb];exact hb2
     all_goals
      clear hb2
      go_wp2_with fail
      refine (E4 (s.extract 1 (s.size - 1)) _ (by unfold maxLen;have:=Z;omega)).mono ?_
      cases d:Ng ((s.extract 1 (s.size - 1))).data.toList
      ·have A:Hid (Of (Ok L) s.data.toList=SI.none):=by unfold Hid;rw[j.o,d];rfl
       rintro e I ⟨rfl,rfl⟩;clear d
       go_wp2_with fail
       refine Jg (v:=.agg #[.int .i64 0,.int .i64 0,.string ⟨#[]⟩,.string ⟨#[]⟩]) ?_ rfl ⟨O6 (by rw[A.o];rfl),Oz _ _⟩;simp[results,results82,go_sem]
      have G:=Hd d;clear d;rintro e I ⟨rfl,rfl⟩
      go_wp2_with fail
      refine (Nc (s.extract 1 (s.size - 1)) _ (by have:=Z;omega)).mono ?_;rintro e I ⟨rfl,rfl⟩
      by_cases E:Kl 2 ((s.extract 1 (s.size - 1))).data.toList=s.data.toList
      ·have K:((Oo (Kl 2 ((s.extract 1 (s.size - 1))).data.toList)).toList==s.toList)=true:=by rw[Jk,Jk,Ou,E];simp
       have O:=Hd E;clear E;generalize Oo (Kl 2 ((s.extract 1 (s.size - 1))).data.toList)=X at K ⊢
       go_wp2_with fail
       refine (Gm v L (s.extract 1 (s.size - 1)) _ (HS.o.bl (Oz _ _))).mono ?_
       cases J:Ok L ((s.extract 1 (s.size - 1))).data.toList
       ·have A:Hid (Of (Ok L) s.data.toList=SI.none):=by unfold Hid;rw[j.o,J,Y1];rfl
        rintro e I ⟨rfl,rfl⟩;clear J
        go_wp2_with fail
        refine Jg (v:=.agg #[.int .i64 0,.int .i64 0,.string ⟨#[]⟩,.string ⟨#[]⟩]) ?_ rfl ⟨O6 (by rw[A.o];rfl),Oz _ _⟩;simp[results,results82,go_sem]
       have A:Hid (Of (Ok L) s.data.toList=⟨5,0,[],[]⟩):=by unfold Hid;rw[j.o,G.o,Ja O.o,J];rfl
       rintro e I ⟨rfl,rfl⟩;clear J
       go_wp2_with fail
       refine Jg (v:=.agg #[.int .i64 5,.int .i64 0,.string ⟨#[]⟩,.string ⟨#[]⟩]) ?_ rfl ⟨O6 (by rw[A.o];rfl),Oz _ _⟩;simp[results,results82,go_sem]
      have K:((Oo (Kl 2 ((s.extract 1 (s.size - 1))).data.toList)).toList==s.toList)=false:=by rw[Jk,Jk,Ou,Jb];exact E
      have A:Hid (Of (Ok L) s.data.toList=SI.none):=by unfold Hid;rw[j.o,G.o,Jc E];rfl
      clear E;generalize Oo (Kl 2 ((s.extract 1 (s.size - 1))).data.toList)=X at K ⊢
      go_wp2_with fail
      refine Jg (v:=.agg #[.int .i64 0,.int .i64 0,.string ⟨#[]⟩,.string ⟨#[]⟩]) ?_ rfl ⟨O6 (by rw[A.o];rfl),Oz _ _⟩;simp[results,results82,go_sem]
    go_wp2_with fail
    refine (E4 (s.extract 1 (s.size - 1)) _ (by unfold maxLen;have:=Z;omega)).mono ?_
    cases d:Ng ((s.extract 1 (s.size - 1))).data.toList
    ·have A:Hid (Of (Ok L) s.data.toList=SI.none):=by unfold Hid;rw[j.o,d];rfl
     rintro e I ⟨rfl,rfl⟩;clear d
     go_wp2_with fail
     refine Jg (v:=.agg #[.int .i64 0,.int .i64 0,.string ⟨#[]⟩,.string ⟨#[]⟩]) ?_ rfl ⟨O6 (by rw[A.o];rfl),Oz _ _⟩;simp[results,results82,go_sem]
    have G:=Hd d;clear d;rintro e I ⟨rfl,rfl⟩
    go_wp2_with fail
    refine (Nc (s.extract 1 (s.size - 1)) _ (by have:=Z;omega)).mono ?_;rintro e I ⟨rfl,rfl⟩
    by_cases E:Kl 2 ((s.extract 1 (s.size - 1))).data.toList=s.data.toList
    ·have K:((Oo (Kl 2 ((s.extract 1 (s.size - 1))).data.toList)).toList==s.toList)=true:=by rw[Jk,Jk,Ou,E];simp
     have O:=Hd E;clear E;generalize Oo (Kl 2 ((s.extract 1 (s.size - 1))).data.toList)=X at K ⊢
     go_wp2_with fail
     refine (Gm v L (s.extract 1 (s.size - 1)) _ (HS.o.bl (Oz _ _))).mono ?_
     cases J:Ok L ((s.extract 1 (s.size - 1))).data.toList
     ·have A:Hid (Of (Ok L) s.data.toList=SI.none):=by unfold Hid;rw[j.o,J,Y1];rfl
      rintro e I ⟨rfl,rfl⟩;clear J
      go_wp2_with fail
      refine Jg (v:=.agg #[.int .i64 0,.int .i64 0,.string ⟨#[]⟩,.string ⟨#[]⟩]) ?_ rfl ⟨O6 (by rw[A.o];rfl),Oz _ _⟩;simp[results,results82,go_sem]
     have A:Hid (Of (Ok L) s.data.toList=⟨5,0,[],[]⟩):=by unfold Hid;rw[j.o,G.o,Ja O.o,J];rfl
     rintro e I ⟨rfl,rfl⟩;clear J
     go_wp2_with fail
     refine Jg (v:=.agg #[.int .i64 5,.int .i64 0,.string ⟨#[]⟩,.string ⟨#[]⟩]) ?_ rfl ⟨O6 (by rw[A.o];rfl),Oz _ _⟩;simp[results,results82,go_sem]
    have K:((Oo (Kl 2 ((s.extract 1 (s.size - 1))).data.toList)).toList==s.toList)=false:=by rw[Jk,Jk,Ou,Jb];exact E
    have A:Hid (Of (Ok L) s.data.toList=SI.none):=by unfold Hid;rw[j.o,G.o,Jc E];rfl
    clear E;generalize Oo (Kl 2 ((s.extract 1 (s.size - 1))).data.toList)=X at K ⊢
    go_wp2_with fail
    refine Jg (v:=.agg #[.int .i64 0,.int .i64 0,.string ⟨#[]⟩,.string ⟨#[]⟩]) ?_ rfl ⟨O6 (by rw[A.o];rfl),Oz _ _⟩;simp[results,results82,go_sem]
   have x1:(((s[s.size - 1]'(by omega)).toNat:Int)==124)=false:=by rw[Jb];omega
   have j:Hid (Of (Ok L) s.data.toList=if Ng s.data.toList&&decide (Kl 2 s.data.toList=s.data.toList)&&Ok L s.data.toList then ⟨5,0,[],[]⟩ else SI.none):=by
    unfold Hid;rw[V.o];exact Px (GV n2 nl) _
   clear n0 nl
   go_in
   by_cases U:11<s.size
   ·by_cases hb2:(s.data.toList.take 10)=Bl
    case' pos=>
     have y1:((s.extract 0 10).toList==[40,95,32,66,105,116,86,101,99,32])=true:=by rw[Np,hb2];rfl
     have y2:(((s[s.size - 1]'(by omega)).toNat:Int)==41)=false:=by
      rw[Jb];intro e;exact a7.o ⟨by rw[Om];exact U,hb2,by rw[Xe (by omega),Gc (c:=s[s.size - 1]'(by omega)) (n:=41) (by omega)];rfl⟩
    case' neg=>
     have y1:((s.extract 0 10).toList==[40,95,32,66,105,116,86,101,99,32])=false:=by rw[Np,Jb];exact hb2
    all_goals
     clear hb2
     go_wp2_with fail
     refine (E4 s _ (by unfold maxLen;have:=hs;omega)).mono ?_
     cases d:Ng (s).data.toList
     ·have A:Hid (Of (Ok L) s.data.toList=SI.none):=by unfold Hid;rw[j.o,d];rfl
      rintro e I ⟨rfl,rfl⟩;clear d
      go_wp2_with fail
      refine Jg (v:=.agg #[.int .i64 0,.int .i64 0,.string ⟨#[]⟩,.string ⟨#[]⟩]) ?_ rfl ⟨O6 (by rw[A.o];rfl),Oz _ _⟩;simp[results,results82,go_sem]
     have G:=Hd d;clear d;rintro e I ⟨rfl,rfl⟩
     go_wp2_with fail
     refine (Nc s _ (by have:=hs;omega)).mono ?_;rintro e I ⟨rfl,rfl⟩
     by_cases E:Kl 2 (s).data.toList=s.data.toList
     ·have K:((Oo (Kl 2 (s).data.toList)).toList==s.toList)=true:=by rw[Jk,Jk,Ou,E];simp
      have O:=Hd E;clear E;generalize Oo (Kl 2 (s).data.toList)=X at K ⊢
      go_wp2_with fail
      refine (Gm v L s _ (HS.o.bl (Oz _ _))).mono ?_
      cases J:Ok L (s).data.toList
      ·have A:Hid (Of (Ok L) s.data.toList=SI.none):=by unfold Hid;rw[j.o,J,Y1];rfl
       rintro e I ⟨rfl,rfl⟩;clear J
       go_wp2_with fail
       refine Jg (v:=.agg #[.int .i64 0,.int .i64 0,.string ⟨#[]⟩,.string ⟨#[]⟩]) ?_ rfl ⟨O6 (by rw[A.o];rfl),Oz _ _⟩;simp[results,results82,go_sem]
      have A:Hid (Of (Ok L) s.data.toList=⟨5,0,[],[]⟩):=by unfold Hid;rw[j.o,G.o,Ja O.o,J];rfl
      rintro e I ⟨rfl,rfl⟩;clear J
      go_wp2_with fail
      refine Jg (v:=.agg #[.int .i64 5,.int .i64 0,.string ⟨#[]⟩,.string ⟨#[]⟩]) ?_ rfl ⟨O6 (by rw[A.o];rfl),Oz _ _⟩;simp[results,results82,go_sem]
     have K:((Oo (Kl 2 (s).data.toList)).toList==s.toList)=false:=by rw[Jk,Jk,Ou,Jb];exact E
     have A:Hid (Of (Ok L) s.data.toList=SI.none):=by unfold Hid;rw[j.o,G.o,Jc E];rfl
     clear E;generalize Oo (Kl 2 (s).data.toList)=X at K ⊢
     go_wp2_with fail
     refine Jg (v:=.agg #[.int .i64 0,.int .i64 0,.string ⟨#[]⟩,.string ⟨#[]⟩]) ?_ rfl ⟨O6 (by rw[A.o];rfl),Oz _ _⟩;simp[results,results82,go_sem]
   go_wp2_with fail
   refine (E4 s _ (by unfold maxLen;have:=hs;omega)).mono ?_
   cases d:Ng (s).data.toList
   ·have A:Hid (Of (Ok L) s.data.toList=SI.none):=by unfold Hid;rw[j.o,d];rfl
    rintro e I ⟨rfl,rfl⟩;clear d
    go_wp2_with fail
    refine Jg (v:=.agg #[.int .i64 0,.int .i64 0,.string ⟨#[]⟩,.string ⟨#[]⟩]) ?_ rfl ⟨O6 (by rw[A.o];rfl),Oz _ _⟩;simp[results,results82,go_sem]
   have G:=Hd d;clear d;rintro e I ⟨rfl,rfl⟩
   go_wp2_with fail
   refine (Nc s _ (by have:=hs;omega)).mono ?_;rintro e I ⟨rfl,rfl⟩
   by_cases E:Kl 2 (s).data.toList=s.data.toList
   ·have K:((Oo (Kl 2 (s).data.toList)).toList==s.toList)=true:=by rw[Jk,Jk,Ou,E];simp
    have O:=Hd E;clear E;generalize Oo (Kl 2 (s).data.toList)=X at K ⊢
    go_wp2_with fail
    refine (Gm v L s _ (HS.o.bl (Oz _ _))).mono ?_
    cases J:Ok L (s).data.toList
    ·have A:Hid (Of (Ok L) s.data.toList=SI.none):=by unfold Hid;rw[j.o,J,Y1];rfl
     rintro e I ⟨rfl,rfl⟩;clear J
     go_wp2_with fail
     refine Jg (v:=.agg #[.int .i64 0,.int .i64 0,.string ⟨#[]⟩,.string ⟨#[]⟩]) ?_ rfl ⟨O6 (by rw[A.o];rfl),Oz _ _⟩;simp[results,results82,go_sem]
    have A:Hid (Of (Ok L) s.data.toList=⟨5,0,[],[]⟩):=by unfold Hid;rw[j.o,G.o,Ja O.o,J];rfl
    rintro e I ⟨rfl,rfl⟩;clear J
    go_wp2_with fail
    refine Jg (v:=.agg #[.int .i64 5,.int .i64 0,.string ⟨#[]⟩,.string ⟨#[]⟩]) ?_ rfl ⟨O6 (by rw[A.o];rfl),Oz _ _⟩;simp[results,results82,go_sem]
   have K:((Oo (Kl 2 (s).data.toList)).toList==s.toList)=false:=by rw[Jk,Jk,Ou,Jb];exact E
   have A:Hid (Of (Ok L) s.data.toList=SI.none):=by unfold Hid;rw[j.o,G.o,Jc E];rfl
   clear E;generalize Oo (Kl 2 (s).data.toList)=X at K ⊢
   go_wp2_with fail
   refine Jg (v:=.agg #[.int .i64 0,.int .i64 0,.string ⟨#[]⟩,.string ⟨#[]⟩]) ?_ rfl ⟨O6 (by rw[A.o];rfl),Oz _ _⟩;simp[results,results82,go_sem]
  have x0:((s[0].toNat:Int)==124)=false:=by rw[Jb];omega
  have j:Hid (Of (Ok L) s.data.toList=if Ng s.data.toList&&decide (Kl 2 s.data.toList=s.data.toList)&&Ok L s.data.toList then ⟨5,0,[],[]⟩ else SI.none):=by
   unfold Hid;rw[V.o];exact Px (ZW n2 n0) _
  clear n0
  go_in
  by_cases U:11<s.size
  ·by_cases hb2:(s.data.toList.take 10)=Bl
   case' pos=>
    have y1:((s.extract 0 10).toList==[40,95,32,66,105,116,86,101,99,32])=true:=by rw[Np,hb2];rfl
    have y2:(((s[s.size - 1]'(by omega)).toNat:Int)==41)=false:=by
     rw[Jb];intro e;exact a7.o ⟨by rw[Om];exact U,hb2,by rw[Xe (by omega),Gc (c:=s[s.size - 1]'(by omega)) (n:=41) (by omega)];rfl⟩
   case' neg=>
    have y1:((s.extract 0 10).toList==[40,95,32,66,105,116,86,101,99,32])=false:=by rw[Np,Jb];exact hb2
   all_goals
    clear hb2
    go_wp2_with fail
    refine (E4 s _ (by unfold maxLen;have:=hs;omega)).mono ?_
    cases d:Ng (s).data.toList
    ·have A:Hid (Of (Ok L) s.data.toList=SI.none):=by unfold Hid;rw[j.o,d];rfl
     rintro e I ⟨rfl,rfl⟩;clear d
     go_wp2_with fail
     refine Jg (v:=.agg #[.int .i64 0,.int .i64 0,.string ⟨#[]⟩,.string ⟨#[]⟩]) ?_ rfl ⟨O6 (by rw[A.o];rfl),Oz _ _⟩;simp[results,results82,go_sem]
    have G:=Hd d;clear d;rintro e I ⟨rfl,rfl⟩
    go_wp2_with fail
    refine (Nc s _ (by have:=hs;omega)).mono ?_;rintro e I ⟨rfl,rfl⟩
    by_cases E:Kl 2 (s).data.toList=s.data.toList
    ·have K:((Oo (Kl 2 (s).data.toList)).toList==s.toList)=true:=by rw[Jk,Jk,Ou,E];simp
     have O:=Hd E;clear E;generalize Oo (Kl 2 (s).data.toList)=X at K ⊢
     go_wp2_with fail
     refine (Gm v L s _ (HS.o.bl (Oz _ _))).mono ?_
     cases J:Ok L (s).data.toList
     ·have A:Hid (Of (Ok L) s.data.toList=SI.none):=by unfold Hid;rw[j.o,J,Y1];rfl
      rintro e I ⟨rfl,rfl⟩;clear J
      go_wp2_with fail
      refine Jg (v:=.agg #[.int .i64 0,.int .i64 0,.string ⟨#[]⟩,.string ⟨#[]⟩]) ?_ rfl ⟨O6 (by rw[A.o];rfl),Oz _ _⟩;simp[results,results82,go_sem]
     have A:Hid (Of (Ok L) s.data.toList=⟨5,0,[],[]⟩):=by unfold Hid;rw[j.o,G.o,Ja O.o,J];rfl
     rintro e I ⟨rfl,rfl⟩;clear J
     go_wp2_with fail
     refine Jg (v:=.agg #[.int .i64 5,.int .i64 0,.string ⟨#[]⟩,.string ⟨#[]⟩]) ?_ rfl ⟨O6 (by rw[A.o];rfl),Oz _ _⟩;simp[results,results82,go_sem]
    have K:((Oo (Kl 2 (s).data.toList)).toList==s.toList)=false:=by rw[Jk,Jk,Ou,Jb];exact E
    have A:Hid (Of (Ok L) s.data.toList=SI.none):=by unfold Hid;rw[j.o,G.o,Jc E];rfl
    clear E;generalize Oo (Kl 2 (s).data.toList)=X at K ⊢
    go_wp2_with fail
    refine Jg (v:=.agg #[.int .i64 0,.int .i64 0,.string ⟨#[]⟩,.string ⟨#[]⟩]) ?_ rfl ⟨O6 (by rw[A.o];rfl),Oz _ _⟩;simp[results,results82,go_sem]
  go_wp2_with fail
  refine (E4 s _ (by unfold maxLen;have:=hs;omega)).mono ?_
  cases d:Ng (s).data.toList
  ·have A:Hid (Of (Ok L) s.data.toList=SI.none):=by unfold Hid;rw[j.o,d];rfl
   rintro e I ⟨rfl,rfl⟩;clear d
   go_wp2_with fail
   refine Jg (v:=.agg #[.int .i64 0,.int .i64 0,.string ⟨#[]⟩,.string ⟨#[]⟩]) ?_ rfl ⟨O6 (by rw[A.o];rfl),Oz _ _⟩;simp[results,results82,go_sem]
  have G:=Hd d;clear d;rintro e I ⟨rfl,rfl⟩
  go_wp2_with fail
  refine (Nc s _ (by have:=hs;omega)).mono ?_;rintro e I ⟨rfl,rfl⟩
  by_cases E:Kl 2 (s).data.toList=s.data.toList
  ·have K:((Oo (Kl 2 (s).data.toList)).toList==s.toList)=true:=by rw[Jk,Jk,Ou,E];simp
   have O:=Hd E;clear E;generalize Oo (Kl 2 (s).data.toList)=X at K ⊢
   go_wp2_with fail
   refine (Gm v L s _ (HS.o.bl (Oz _ _))).mono ?_
   cases J:Ok L (s).data.toList
   ·have A:Hid (Of (Ok L) s.data.toList=SI.none):=by unfold Hid;rw[j.o,J,Y1];rfl
    rintro e I ⟨rfl,rfl⟩;clear J
    go_wp2_with fail
    refine Jg (v:=.agg #[.int .i64 0,.int .i64 0,.string ⟨#[]⟩,.string ⟨#[]⟩]) ?_ rfl ⟨O6 (by rw[A.o];rfl),Oz _ _⟩;simp[results,results82,go_sem]
   have A:Hid (Of (Ok L) s.data.toList=⟨5,0,[],[]⟩):=by unfold Hid;rw[j.o,G.o,Ja O.o,J];rfl
   rintro e I ⟨rfl,rfl⟩;clear J
   go_wp2_with fail
   refine Jg (v:=.agg #[.int .i64 5,.int .i64 0,.string ⟨#[]⟩,.string ⟨#[]⟩]) ?_ rfl ⟨O6 (by rw[A.o];rfl),Oz _ _⟩;simp[results,results82,go_sem]
  have K:((Oo (Kl 2 (s).data.toList)).toList==s.toList)=false:=by rw[Jk,Jk,Ou,Jb];exact E
  have A:Hid (Of (Ok L) s.data.toList=SI.none):=by unfold Hid;rw[j.o,G.o,Jc E];rfl
  clear E;generalize Oo (Kl 2 (s).data.toList)=X at K ⊢
  go_wp2_with fail
  refine Jg (v:=.agg #[.int .i64 0,.int .i64 0,.string ⟨#[]⟩,.string ⟨#[]⟩]) ?_ rfl ⟨O6 (by rw[A.o];rfl),Oz _ _⟩;simp[results,results82,go_sem]
 have j:Hid (Of (Ok L) s.data.toList=if Ng s.data.toList&&decide (Kl 2 s.data.toList=s.data.toList)&&Ok L s.data.toList then ⟨5,0,[],[]⟩ else SI.none):=by
  unfold Hid;rw[V.o];exact Px (ZJ n2) _
 have U:¬ 11<s.size:=by omega
 go_in
 go_wp2_with fail
 refine (E4 s _ (by unfold maxLen;have:=hs;omega)).mono ?_
 cases d:Ng (s).data.toList
 ·have A:Hid (Of (Ok L) s.data.toList=SI.none):=by unfold Hid;rw[j.o,d];rfl
  rintro e I ⟨rfl,rfl⟩;clear d
  go_wp2_with fail
  refine Jg (v:=.agg #[.int .i64 0,.int .i64 0,.string ⟨#[]⟩,.string ⟨#[]⟩]) ?_ rfl ⟨O6 (by rw[A.o];rfl),Oz _ _⟩;simp[results,results82,go_sem]
 have G:=Hd d;clear d;rintro e I ⟨rfl,rfl⟩
 go_wp2_with fail
 refine (Nc s _ (by have:=hs;omega)).mono ?_;rintro e I ⟨rfl,rfl⟩
 by_cases E:Kl 2 (s).data.toList=s.data.toList
 ·have K:((Oo (Kl 2 (s).data.toList)).toList==s.toList)=true:=by rw[Jk,Jk,Ou,E];simp
  have O:=Hd E;clear E;generalize Oo (Kl 2 (s).data.toList)=X at K ⊢
  go_wp2_with fail
  refine (Gm v L s _ (HS.o.bl (Oz _ _))).mono ?_
  cases J:Ok L (s).data.toList
  ·have A:Hid (Of (Ok L) s.data.toList=SI.none):=by unfold Hid;rw[j.o,J,Y1];rfl
   rintro e I ⟨rfl,rfl⟩;clear J
   go_wp2_with fail
   refine Jg (v:=.agg #[.int .i64 0,.int .i64 0,.string ⟨#[]⟩,.string ⟨#[]⟩]) ?_ rfl ⟨O6 (by rw[A.o];rfl),Oz _ _⟩;simp[results,results82,go_sem]
  have A:Hid (Of (Ok L) s.data.toList=⟨5,0,[],[]⟩):=by unfold Hid;rw[j.o,G.o,Ja O.o,J];rfl
  rintro e I ⟨rfl,rfl⟩;clear J
  go_wp2_with fail
  refine Jg (v:=.agg #[.int .i64 5,.int .i64 0,.string ⟨#[]⟩,.string ⟨#[]⟩]) ?_ rfl ⟨O6 (by rw[A.o];rfl),Oz _ _⟩;simp[results,results82,go_sem]
 have K:((Oo (Kl 2 (s).data.toList)).toList==s.toList)=false:=by rw[Jk,Jk,Ou,Jb];exact E
 have A:Hid (Of (Ok L) s.data.toList=SI.none):=by unfold Hid;rw[j.o,G.o,Jc E];rfl
 clear E;generalize Oo (Kl 2 (s).data.toList)=X at K ⊢
 go_wp2_with fail
 refine Jg (v:=.agg #[.int .i64 0,.int .i64 0,.string ⟨#[]⟩,.string ⟨#[]⟩]) ?_ rfl ⟨O6 (by rw[A.o];rfl),Oz _ _⟩;simp[results,results82,go_sem]
end Go.Proofs.YtdmdmgfjpomdbaaGreatDoor
