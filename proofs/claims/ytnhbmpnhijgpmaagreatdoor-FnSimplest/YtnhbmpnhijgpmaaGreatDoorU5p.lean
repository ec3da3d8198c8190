import Derived.Test.YtnhbmpnhijgpmaaGreatDoorMulZp
import Derived.Test.YtnhbmpnhijgpmaaGreatDoorMulLimbsp
import Derived.Deep.QuietTactic
import Derived.BigQuiet
import Derived.WalkSmall
import Derived.Test.YtnhbmpnhijgpmaaGreatDoorSpecSump
import Derived.Test.YtnhbmpnhijgpmaaGreatDoorU1p
import Derived.Test.YtnhbmpnhijgpmaaGreatDoorRatFp
import Derived.Test.YtnhbmpnhijgpmaaGreatDoorTimesp
import Derived.Deep.RegionHeld3
set_option maxRecDepth 100000
set_option maxHeartbeats 8000000
namespace Go.Proofs.YtnhbmpnhijgpmaaGreatDoor
open Go.ChangeShapes Go.WideShapes Go.ChangeAt Go.RowKit
theorem sg_mul (s t:Bool) (u v:Nat):sg (s != t) (u*v)=sg s u*sg t v:=by
 cases s<;>cases t<;>simp [sg,Int.mul_neg,Int.neg_mul]
theorem l1Make_from (B:Nat) (neg:Bool) (v:Value) (l:List Nat) (w W:World) (h:IsL B w v l) (hb:Up w W) :
 Calls Tryz.prog 65 #[.bool neg,v] W fun e w'=>∃ z,e=.returned z∧IsZ B w' z neg (trimL l)∧Up w w':=by
 refine (l1Make_any B neg v l W (h.below hb)).mono ?_; rintro e m ⟨z,rfl,j,i⟩; exact ⟨z,rfl,(j _ _ (h.below hb)).below i,hb.trans (i.mono hb.size)⟩
theorem l1Mul_big (B:Nat) (x y:Int) (xn yn:Bool) (pa:Option Addr) (la ca:Nat) (pb:Option Addr) (lb cb:Nat) (na nb:Bool) (a b:List Nat) (w:World) (hBw:B≤w.heap.size)
 (hz:((la:Int)==0)=false∨((la:Int)==0)=true∧((lb:Int)==0)=false∨((la:Int)==0)=true∧((lb:Int)==0)=true∧(-1000000000000000000<x∧x<1000000000000000000)∧(-1000000000000000000<y∧y<1000000000000000000)∧0<x.natAbs∧999999999999999999 / x.natAbs<y.natAbs)
 (hza:IsZ B w (.agg #[.int .i64 x,.bool xn,.slice pa la ca]) na a) (hzb:IsZ B w (.agg #[.int .i64 y,.bool yn,.slice pb lb cb]) nb b) (s t:Bool) (ha:ngZ x xn la=s) (hb:ngZ y yn lb=t) (hla:a.length≤100000) (hlb:b.length≤100000) :
 Calls Tryz.prog 67 #[.agg #[.int .i64 x,.bool xn,.slice pa la ca],.agg #[.int .i64 y,.bool yn,.slice pb lb cb]] w fun e w'=>∃ z,e=.returned z∧IsN w.heap.size w' z (sg s (val a)*sg t (val b))∧Up w w':=by
 obtain ⟨i0,e9,m5,m6,m7⟩:=info_parts Tryz.info_u32; have i8:=Hd ha; have i9:=Hd hb; have o4:Hid (a.length≤100000∧b.length≤100000):=⟨hla,hlb⟩; have HX:=boxes_first w x xn pa la ca y yn pb lb cb 49; obtain ⟨K,a3⟩:=exW (((w.alloc (.cells #[.int .i64 x,.bool xn,.slice pa la ca] 49)).alloc (.cells #[.int .i64 y,.bool yn,.slice pb lb cb] 49)).alloc (.cells #[.int .i64 0,.bool false,.slice none 0 0] 49)); have j6:=Hd a3; have a8:Up w K:=by rw [← a3]; exact below_al (below_al (below_alloc _ _) _) _
 have i1:=Hd a8; have g6:K.heap.size=w.heap.size+3:=by rw [← a3]; simp
 have f7:w.heap.size<K.heap.size:=by omega
 have f9:w.heap.size+1<K.heap.size:=by omega
 have g0:w.heap.size+2<K.heap.size:=by omega
 rw [a3] at HX; have HS:=Hd g6; have c9:=Hd hBw; have a6:Hid (∀ W,Up K W→Boxes w.heap.size W x xn pa la ca y yn pb lb cb):=fun W hW=>HX.below (by omega) hW; have k1:Hid (∀ W,Up K W→IsZ B W (.agg #[.int .i64 x,.bool xn,.slice pa la ca]) na a):=fun W hW=>(hza.below a8).below hW; have k5:Hid (∀ W,Up K W→IsZ B W (.agg #[.int .i64 y,.bool yn,.slice pb lb cb]) nb b):=fun W hW=>(hzb.below a8).below hW; obtain ⟨a0,a1,a2,b0,b1,b2,r0,r1,r2,f0,f1,f2⟩:=HX; clear a3 g6 ha hb hza hzb a8 hBw; have d2:Hid (∃ W1,Up K W1∧((((la:Int)==0)=false∧K.alloc (.cells #[.int .i64 x,.bool xn,.slice pa la ca] 49)=W1)∨(((la:Int)==0)=true∧((lb:Int)==0)=false∧(K.alloc (.cells #[.int .i64 x,.bool xn,.slice pa la ca] 49)).alloc (.cells #[.int .i64 y,.bool yn,.slice pb lb cb] 49)=W1)∨(((la:Int)==0)=true∧((lb:Int)==0)=true∧(K.alloc (.cells #[.int .i64 x,.bool xn,.slice pa la ca] 49)).alloc (.cells #[.int .i64 y,.bool yn,.slice pb lb cb] 49)=W1∧Hid (-1000000000000000000<x∧x<1000000000000000000)∧Hid (-1000000000000000000<y∧y<1000000000000000000)∧∃ X Y:Int,Hid ((x.natAbs:Int)=X)∧Hid ((y.natAbs:Int)=Y)∧0<X∧X<1000000000000000000∧0≤Y∧Y<1000000000000000000∧(X==0)=false∧decide (Y≤999999999999999999 / X)=false))):=by
  rcases hz with h|⟨h,h'⟩|⟨h,h',hx,hy,l7,l8⟩
  ·exact ⟨_,below_alloc _ _,.inl ⟨h,rfl⟩⟩
  ·exact ⟨_,below_al (below_alloc _ _) _,.inr (.inl ⟨h,h',rfl⟩)⟩
  refine ⟨_,below_al (below_alloc _ _) _,.inr (.inr ⟨h,h',rfl,hx,hy,_,_,hide rfl,hide rfl,by omega,by omega,by omega,by omega,by rw [beq_eq_false_iff_ne]; omega,?_⟩)⟩; rw [decide_eq_false_iff_not,Int.not_le,Int.ediv_lt_iff_lt_mul (by omega)]; have h3:=(Nat.div_lt_iff_lt_mul l7).1 l8; have h4:((y.natAbs*x.natAbs:Nat):Int)=(y.natAbs:Int)*(x.natAbs:Int):=Int.natCast_mul _ _; rw [← h4]; omega
 obtain ⟨W1,b5,h6⟩:=d2.o; have I:=Hd b5; clear hz d2 b5
 go_enter Tryz.func67,Tryz.ntmps67
 go_wp2_with fail
 rw [j6.o]; refine (l1IsSmall_ex _ _ _ _ _ _).mono ?_; rintro e w' ⟨rfl,rfl⟩
 rcases h6 with ⟨hz,b3⟩|⟨hz,l9,b3⟩|⟨hz,l9,b3,d5,d6,X,Y,j8,j9,q1,q2,q3,q4,q5,q6⟩
 all_goals
  have j7:=hide b3; clear b3
  go_wp2_with (first
   | (go_at_call 39; refine (l1IsSmall_ex _ _ _ _ _ _).mono ?_; rintro e w' ⟨rfl,rfl⟩)
   | (go_at_call_of 89 (Value.int IntKind.i64 x); refine (l1Abs64_any _ _ d5.o.1 d5.o.2).mono ?_; rintro e w' ⟨rfl,rfl⟩; rw [j8.o])
   | (go_at_call_of 89 (Value.int IntKind.i64 y); refine (l1Abs64_any _ _ d6.o.1 d6.o.2).mono ?_; rintro e w' ⟨rfl,rfl⟩; rw [j9.o]))
  rw [j7.o]; clear a0 a1 a2 b0 b1 b2 r0 r1 r2 f0 f1 f2; obtain ⟨a0,a1,a2,b0,b1,b2,r0,r1,r2,f0,f1,f2⟩:=a6.o W1 I.o; refine (l1Limbs_any B _ na a _ (k1.o _ I.o) (by have:=I.o.size; have:=HS.o; have:=c9.o; omega)).mono ?_; rintro e wa ⟨va,rfl,g7,e2⟩; have d3:=Hd g7; have V:Hid (Up K wa):=I.o.trans (e2.mono I.o.size); clear a0 a1 a2 b0 b1 b2 r0 r1 r2 f0 f1 f2 g7 e2; obtain ⟨a0,a1,a2,b0,b1,b2,r0,r1,r2,f0,f1,f2⟩:=a6.o wa V.o
  go_wp2_with fail
  refine (l1Limbs_any B _ nb b _ (k5.o _ V.o) (by have:=V.o.size; have:=HS.o; have:=c9.o; omega)).mono ?_; rintro e E ⟨vb,rfl,c6,b9⟩; obtain ⟨qa,da,rfl,_⟩:=id d3.o; obtain ⟨qb,db,rfl,_⟩:=id c6; obtain ⟨_,_,_,e1,J⟩:=(d3.o.below b9).cells; obtain ⟨_,_,_,e4,T⟩:=c6.cells; have HA:=Hd J; have HB:=Hd T; have b7:Hid (Up K E):=V.o.trans (b9.mono V.o.size); clear J T c6 b9 a0 a1 a2 b0 b1 b2 r0 r1 r2 f0 f1 f2 f7 f9 g0
  go_wp2_with (at_make; refine wpList_make_full _ rfl _ _ 47 rfl E.heap.size 85 i0 (.int .u32 0) 1 Tryz.underlying47 e9 m5 m6 .i64 .i64 _ _ (a.length+b.length+1) rfl rfl (by first|rfl|omega) (by first|rfl|omega) (by first|omega|(rw [m7]; omega)) (by unfold maxLen; omega) leR ?_)
  intro w1 S e6
  first|rw [made_zero] at S|rw [made_zero'] at S
  have M:RowT w1 E.heap.size (List.replicate (a.length+b.length+1) 0):=(row_of_full S).tail; have d8:Up E w1:=(Below.refl _ _).grown e6 leR (fun k h=>by cases h); clear S e6
  go_wp2
  go_loopw [53] (fun iv wr=>∃ (i:Nat) (L:List Nat),i≤a.length∧L.length=a.length+b.length+1∧okL L∧RowT wr E.heap.size L∧(∀ j,i+b.length≤j→L.getD j 0=0)∧iv=.int .i64 i ∧
   val L=val (a.take i)*val b∧Up E wr) (fun iv _=>a.length - (intOf iv).toNat)
  case atStart=>exact ⟨0,_,by omega,by simp,fun x hx=>by rw [List.eq_of_mem_replicate hx]; omega,M,fun j hj=>by simp [List.getD_eq_getElem?_getD,List.getElem?_replicate]; split<;>rfl,rfl,by simp [val_replicate,val],d8⟩
  case round=>
   clear M d8; obtain ⟨i,A,hi,l2,D,M,c7,rfl,m,U⟩:=hrel
   by_cases e7:i<a.length
   ·obtain ⟨ba,oa,rfl,b6,J⟩:=HA.o i e7; have g8:=okL_getD a e1 i e7; have d4:Hid (val (a.take (i+1))=val (a.take i)+1000000000 ^ i*a.getD i 0):=val_take_succ a i; obtain ⟨f,hf⟩:=exW (a.getD i 0); rw [hf] at J g8 d4; have i5:Hid (∀ W,Up E W→W.cell? ⟨ba,oa+i,none⟩=some (.int .u32 (f:Nat))):=fun W hW=>(hW.cell (p:=⟨ba,oa+i,none⟩) b6).trans J; have d7:=Hd c7; have HV:=Hd m; have Z:Hid (okL A∧RowT wr E.heap.size A∧Up E wr):=⟨D,M,U⟩; clear M c7 m U D hf J b6
    go_wp2_with fail
    go_loopw [11,58] (fun cv kv wk=>∃ (k c:Nat) (L:List Nat),k≤b.length∧c≤f∧L.length=A.length∧okL L∧RowT wk E.heap.size L∧L.drop (i+k)=A.drop (i+k)∧cv=.int .u64 (c:Nat)∧kv=.int .i64 k ∧
     val L+1000000000 ^ (i+k)*c=val A+1000000000 ^ i*(f*val (b.take k))∧Up E wk) (fun _ kv _=>b.length - (intOf kv).toNat)
    case atStart=>exact ⟨0,0,A,by omega,by omega,rfl,Z.o.1,Z.o.2.1,rfl,rfl,rfl,by simp [val],Z.o.2.2⟩
    case round=>
     obtain ⟨k,c,L,hk,e5,d9,D,M,a5,rfl,rfl,m,U⟩:=hrel
     by_cases e8:k<b.length
     ·have O:=M.cell (i+k) (by omega); have g9:=okL_getD L D (i+k) (by omega); obtain ⟨g,hx⟩:=exW (L.getD (i+k) 0); rw [hx] at g9 O; have J:=i5.o _ U; obtain ⟨bb,ob,rfl,f5,T⟩:=HB.o k e8; rw [← U.cell (p:=⟨bb,ob+k,none⟩) f5] at T; have h2:=okL_getD b e4 k e8; obtain ⟨h,hy⟩:=exW (b.getD k 0); rw [hy] at T h2; obtain ⟨F,hF⟩:=exW (f*h); have l0:F≤f*999999999:=by rw [← hF]; exact Nat.mul_le_mul_left f (by omega)
      have Q:=val_set L (i+k) ((c+F+g) % 1000000000) (by omega); rw [hx] at Q; have g4:=scadd_step (1000000000 ^ (i+k)) _ _ _ _ c g F ((c+F+g) % 1000000000) ((c+F+g) / 1000000000) m Q (by omega); have j3:Hid (val (L.set (i+k) ((c+F+g) % 1000000000))+1000000000 ^ (i+(k+1))*((c+F+g) / 1000000000)=val A+1000000000 ^ i*(f*val (b.take (k+1)))):=by
       unfold Hid
       rw [val_take_succ,hy,scadd_sum,hF,← Nat.add_assoc,Nat.pow_succ]; exact g4
      have l6:=M.frozen (i+k); have e0:∀ q,RowT (wr.drewN q) E.heap.size L:=fun q=>M; have j1:Hid (∀ (q:Nat) (v:Int),v=(((c+F+g) % 1000000000:Nat):Int)→RowT ((wr.drewN q).setCell ⟨E.heap.size,i+k,none⟩ (.int .u32 v)) E.heap.size (L.set (i+k) ((c+F+g) % 1000000000))):=fun q v hv=>by
       rw [hv]; exact (e0 q).set (i+k) _ (by omega)
      have i2:Hid (∀ q u,Up E ((wr.drewN q).setCell ⟨E.heap.size,i+k,none⟩ u)):=fun q u=>(below_drewN U q).setCell leR u; have j0:Hid (okL (L.set (i+k) ((c+F+g) % 1000000000))):=okL_set L D (i+k) _ (Nat.mod_lt _ (by decide)); have i7:Hid ((L.set (i+k) ((c+F+g) % 1000000000)).drop (i+(k+1))=A.drop (i+(k+1))):=drop_set_succ L A (i+k) _ a5; have i6:Hid ((c+F+g) / 1000000000≤f):=by
       unfold Hid
       omega
      clear g4 m hx hy M e0 U D a5 Q; obtain ⟨GG,hX⟩:∃ GG:Int,(g:Int)=GG:=⟨_,rfl⟩; have HX:=Hd hX; have x1:0≤GG:=by omega
      have x2:GG<1000000000:=by omega
      rw [hX] at O; obtain ⟨C,hC⟩:∃ C:Int,(c:Int)=C:=⟨_,rfl⟩; have HC:=Hd hC; have c1:0≤C:=by omega
      have c2:C<1000000000:=by omega
      rw [hC]; obtain ⟨G,hG⟩:∃ G:Int,(f:Int)=G:=⟨_,rfl⟩; rw [hG] at J; obtain ⟨H,hY⟩:∃ H:Int,(h:Int)=H:=⟨_,rfl⟩; have a9:(F:Int)=G*H:=by rw [← hF,← hG,← hY]; rfl
      have d1:=Hd a9; have g1:0≤G*H:=by rw [← a9]; omega
      have g2:G*H≤999999999000000000:=by rw [← a9]; omega
      have y1:0≤H:=by omega
      have y2:H<1000000000:=by omega
      have z1:0≤G:=by omega
      have z2:G<1000000000:=by omega
      rw [hY] at T; clear hX g9 hC hG hY a9 h2 hF l0 e5 g8; have n1:(i:Int)+(k:Int)<(a.length:Int)+(b.length:Int)+1:=by omega
      have n2:(i:Int)<(a.length:Int):=by omega
      have n3:(k:Int)<(b.length:Int):=by omega
      go_wp2
      go_quiet (fail)
      go_wp2
      go_roundw
      case rel=>
       refine ⟨k+1,(c+F+g) / 1000000000,L.set (i+k) ((c+F+g) % 1000000000),by omega,i6.o,by simp [d9],j0.o,?_,i7.o,?_,by go_num,j3.o,i2.o _ _⟩
       ·exact j1.o _ _ (by have:=HX.o; have:=HC.o; have:=d1.o; omega)
       ·congr 1; have:=HX.o; have:=HC.o; have:=d1.o; omega
      case measure=>simp [intOf]; omega
     ·obtain rfl:k=b.length:=by omega
      rw [List.take_of_length_le leR] at m; have O:=M.cell (i+b.length) (by omega); have l6:=M.frozen (i+b.length); have h0:L.getD (i+b.length) 0=0:=(getD_of_drop L A (i+b.length) _ a5 leR).trans (d7.o _ leR); have Q:=val_set L (i+b.length) c (by omega); rw [h0] at Q; have j5:Hid (val (L.set (i+b.length) c)=val (a.take (i+1))*val b):=by
       unfold Hid
       rw [d4.o]; exact mul_step _ _ _ _ _ _ _ c f HV.o m Q
      have j2:Hid (RowT (wr.setCell ⟨E.heap.size,i+b.length,none⟩ (.int .u32 (c:Nat))) E.heap.size (L.set (i+b.length) c)):=M.set _ _ (by omega); have i3:Hid (Up E (wr.setCell ⟨E.heap.size,i+b.length,none⟩ (.int .u32 (c:Nat)))):=U.setCell leR _; have b4:Hid (okL (L.set (i+b.length) c)∧(L.set (i+b.length) c).length=a.length+b.length+1):=⟨okL_set L D _ _ (by omega),by simp; omega⟩; have k0:Hid (∀ j,i+1+b.length≤j→(L.set (i+b.length) c).getD j 0=0):=fun j hj=>by
       rw [getD_set_ne _ _ _ _ (by omega),getD_of_drop L A (i+b.length) j a5 (by omega)]; exact d7.o j (by omega)
      have o7:c<1000000000:=by omega
      clear M d9 D a5 e5 m U h0 Q
      go_wp2
      go_roundw
      case rel=>exact ⟨i+1,L.set (i+b.length) c,by omega,b4.o.2,b4.o.1,j2.o,k0.o,by go_num,j5.o,i3.o⟩
      case measure=>simp [intOf]; omega
   ·obtain rfl:i=a.length:=by omega
    rw [List.take_of_length_le leR] at m; have HI:Hid (IsL E.heap.size wr (.slice (some ⟨E.heap.size,0,none⟩) (a.length+b.length+1) (a.length+b.length+1)) A):=by
     have h:=M.isL (B:=E.heap.size) (cap:=a.length+b.length+1) leR D (by omega) (by unfold maxLen; omega); rw [l2] at h; exact h
    have HV:=Hd m; have b8:Hid (Up K wr):=b7.o.trans (U.mono b7.o.size); have a7:Hid (w.heap.size+3≤E.heap.size∧E.heap.size≤wr.heap.size):=⟨by have:=b7.o.size; have:=HS.o; omega,U.size⟩; clear m M U D c7; obtain ⟨a0,a1,a2,b0,b1,b2,r0,r1,r2,f0,f1,f2⟩:=a6.o wr b8.o; have o8:w.heap.size<wr.heap.size:=by have:=a7.o; omega
    have o9:w.heap.size+1<wr.heap.size:=by have:=a7.o; omega
    have p0:w.heap.size+2<wr.heap.size:=by have:=a7.o; omega
    go_wp2_with fail
    go_region_with (first
     | (go_at_call_of 60 (Value.int IntKind.i64 x); refine (l1Neg_ex _ _ _ _ _ _).mono ?_; rintro e w' ⟨rfl,rfl⟩; rw [i8.o])
     | (go_at_call_of 60 (Value.int IntKind.i64 y); refine (l1Neg_ex _ _ _ _ _ _).mono ?_; rintro e w' ⟨rfl,rfl⟩; rw [i9.o])
     | (go_at_call 65; refine (l1Make_from _ _ _ A wr _ HI.o ?_).mono ?_
        ·first|exact (below_al (below_alloc _ _) _).drew|exact below_al (below_alloc _ _) _
        rintro e we ⟨z,rfl,g3,e3⟩; have hN:IsN (w.heap.size+3) we z (sg s (val a)*sg t (val b)):=⟨s != t,trimL A,g3.mono a7.o.1,by rw [val_trimL,HV.o,sg_mul]⟩; have HN:=Hd hN; have d0:Hid (Up K we):=b8.o.trans (e3.mono b8.o.size); have i4:Hid (Up w we):=i1.o.trans (d0.o.mono (by have:=HS.o; omega)); clear a0 a1 a2 b0 b1 b2 r0 r1 r2 f0 f1 f2; obtain ⟨a0,a1,a2,b0,b1,b2,r0,r1,r2,f0,f1,f2⟩:=a6.o we d0.o; obtain ⟨z0,zn,za,zl,zc,m8⟩:=hN.shape; subst m8; clear g3 e3 hN))
    all_goals
     try simp only [List.getElem_toArray,List.getElem_cons_succ,List.getElem_cons_zero,Act.put,List.setIfInBounds_toArray,List.set_cons_succ,List.set_cons_zero]
     go_wp2
     refine bodyPost_ret ?_ rfl ⟨_,rfl,(((HN.o.setCell _ _ (by simp)).setCell _ _ (by simp)).setCell _ _ (by simp)).mono (by omega),((i4.o.setCell (by simp; omega) _).setCell (by simp; omega) _).setCell (by simp; omega) _⟩; simp [results,Tryz.results67,go_sem,r0,r1,r2]
theorem l1Mul_any (B:Nat) (za zb:Value) (na nb:Bool) (a b:List Nat) (w:World) (hBw:B≤w.heap.size) (hza:IsZ B w za na a) (hzb:IsZ B w zb nb b) (hla:a.length≤100000) (hlb:b.length≤100000) :
 Calls Tryz.prog 67 #[za,zb] w fun e w'=>∃ z,e=.returned z∧IsN w.heap.size w' z (sg na (val a)*sg nb (val b))∧Up w w':=by
 have m:=hza.1; have s:=hzb.1; obtain ⟨x,O,L,la,E,rfl,I,S⟩:=hza.form2; obtain ⟨y,Q,M,lb,F,rfl,J,T⟩:=hzb.form2
 by_cases K:la=0∧lb=0
 ·have i:=S K.1; have j:=T K.2; have A:=sg_lt na a m i.1; have D:=sg_lt nb b s j.1
  by_cases t:(sg na (val a)).natAbs=0∨(sg na (val a)).natAbs≠0∧(sg nb (val b)).natAbs≤999999999999999999 / (sg na (val a)).natAbs
  ·rw [i.2,j.2]; exact l1Mul_small _ _ w A.1 A.2 D.1 D.2 t
  have G:=i.2; have H:=j.2; simp only [Value.agg.injEq,Array.mk.injEq,List.cons.injEq,Value.int.injEq,true_and,Value.bool.injEq,Value.slice.injEq,and_true] at G H; obtain ⟨rfl,_⟩:=G; obtain ⟨rfl,_⟩:=H; have U:0<(sg na (val a)).natAbs:=by
   apply Nat.pos_of_ne_zero; intro h; exact t (.inl h)
  have u:((la:Int)==0)=true∧((lb:Int)==0)=true∧(-1000000000000000000<sg na (val a)∧sg na (val a)<1000000000000000000)∧(-1000000000000000000<sg nb (val b)∧sg nb (val b)<1000000000000000000)∧0<(sg na (val a)).natAbs∧999999999999999999 / (sg na (val a)).natAbs<(sg nb (val b)).natAbs:=by
   refine ⟨by rw [beq_iff_eq]; omega,by rw [beq_iff_eq]; omega,A,D,U,?_⟩; apply Nat.lt_of_not_le; intro h; exact t (.inr ⟨by omega,h⟩)
  have h:=l1Mul_big B _ _ O Q L la E M lb F na nb a b w hBw (.inr (.inr u)) hza hzb _ _ I J hla hlb; rw [sg_negOf,sg_negOf] at h; exact h
 have u:((la:Int)==0)=false∨(((la:Int)==0)=true∧((lb:Int)==0)=false):=by
  by_cases h:la=0
  ·exact .inr ⟨by rw [beq_iff_eq]; omega,by rw [beq_eq_false_iff_ne]; omega⟩
  exact .inl (by rw [beq_eq_false_iff_ne]; omega)
 have h:=l1Mul_big B x y O Q L la E M lb F na nb a b w hBw (u.elim .inl (fun h=>.inr (.inl h))) hza hzb _ _ I J hla hlb; rw [sg_negOf,sg_negOf] at h; exact h
theorem IsI.setC {B:Nat} {w:World} {z:Value} {x:Int} {n:Nat} (h:IsI B w z x n) (p:Addr) (u:Value) (hp:p.block<B):IsI B (w.setCell p u) z x n:=by
 obtain ⟨neg,v,t,e,i,r⟩:=h; exact ⟨neg,v,t,e,i.setCell p u hp,r⟩
theorem IsQR.setC {B:Nat} {w:World} {z:Value} {x y:Int} {n:Nat} (h:IsQR B w z x y n) (p:Addr) (u:Value) (hp:p.block<B):IsQR B (w.setCell p u) z x y n:=by
 obtain ⟨s1,m,s2,s,e,i,j⟩:=h; exact ⟨s1,m,s2,s,e,i.setC p u hp,j.setC p u hp⟩
theorem ReadR.setC {B:Nat} {w:World} {s:ByteArray} {k:Option Nat} {z:Value} {ok:Bool} (h:ReadR B w s k z ok) (p:Addr) (u:Value) (hp:p.block<B):ReadR B (w.setCell p u) s k z ok:=
 ⟨h.1,h.2.1,fun ho=>by obtain ⟨x,y,j,i⟩:=h.2.2 ho; exact ⟨x,y,j,i.setC p u hp⟩⟩
theorem ReadR.below {B:Nat} {w w':World} {s:ByteArray} {k:Option Nat} {z:Value} {ok:Bool} (h:ReadR B w s k z ok) (hb:Up w w'):ReadR B w' s k z ok:=
 ⟨h.1,h.2.1,fun ho=>by obtain ⟨x,y,j,i⟩:=h.2.2 ho; exact ⟨x,y,j,i.below hb⟩⟩
theorem ReadR.mono {B B':Nat} {w:World} {s:ByteArray} {k:Option Nat} {z:Value} {ok:Bool} (h:ReadR B w s k z ok) (hb:B'≤B):ReadR B' w s k z ok:=
 ⟨h.1,h.2.1,fun ho=>by obtain ⟨x,y,j,i⟩:=h.2.2 ho; exact ⟨x,y,j,i.mono hb leR⟩⟩
theorem ReadR.drew {B:Nat} {w:World} {s:ByteArray} {k:Option Nat} {z:Value} {ok:Bool} (h:ReadR B w s k z ok):ReadR B w.drew s k z ok:=h.below (Below.refl _ w).drew
theorem ReadR.put {B:Nat} {w:World} {s:ByteArray} {k:Option Nat} {z:Value} {ok:Bool} (h:ReadR B w s k z ok) (g:Nat) (hg:g<B) (u0 u1 u2 u3:Value):ReadR B ((((w.setCell ⟨g,0,none⟩ u0).setCell ⟨g,1,none⟩ u1).setCell ⟨g,2,none⟩ u2).setCell ⟨g,3,none⟩ u3) s k z ok:=
 (((h.setC _ _ hg).setC _ _ hg).setC _ _ hg).setC _ _ hg
def lb (k:Nat):Nat:=1000000000 ^ k
theorem lb_mul {a b:Nat} (k m:Nat) (ha:a<lb k) (hb:b<lb m):a*b<lb (k+m):=by
 unfold lb at *; rw [Nat.pow_add]; exact Nat.mul_lt_mul'' ha hb
theorem lb_add {a b:Nat} (k:Nat) (ha:a<lb k) (hb:b<lb k):a+b<lb (k+1):=by
 unfold lb at *; rw [Nat.pow_succ]; omega
theorem lb_le {a:Nat} (k m:Nat) (h:k≤m) (ha:a<lb k):a<lb m:=Nat.lt_of_lt_of_le ha (Nat.pow_le_pow_right (by decide) h)
theorem lb_one (k:Nat) (h:0<k):1<lb k:=Nat.one_lt_pow (by omega) (by decide)
theorem len_lt (t:List Nat) (htr:isTrim t) (k:Nat) (h:val t<lb k):t.length≤k:=by
 by_cases i:t=[]
 ·rw [i]; exact Nat.zero_le _
 have j:=val_ge t htr i; have m:t.length - 1<k:=by
  rcases Nat.lt_or_ge (t.length - 1) k with h3|h3
  ·exact h3
  have h4:=Nat.pow_le_pow_right (n:=1000000000) (by decide) h3; unfold lb at h; omega
 omega
theorem IsI.tight {B:Nat} {w:World} {z:Value} {x:Int} {n k:Nat} (h:IsI B w z x n) (hx:x.natAbs<lb k):IsI B w z x k:=by
 obtain ⟨neg,v,t,e,m,i,j,_⟩:=h; exact ⟨neg,v,t,e,m,i,j,len_lt t i k (by rw [← j,sg_abs] at hx; exact hx)⟩
theorem IsQR.tight {B:Nat} {w:World} {z:Value} {x y:Int} {n k:Nat} (h:IsQR B w z x y n) (hx:x.natAbs<lb k) (hy:y.natAbs<lb k):IsQR B w z x y k:=by
 obtain ⟨s1,m,s2,s,e,i,j⟩:=h; exact ⟨s1,m,s2,s,e,i.tight hx,j.tight hy⟩
theorem numZ_lt {B:Nat} {w:World} {z:Value} {v:Int} {k:Nat} (h:IsN B w z v) (hv:v.natAbs<lb k):NumZ B w z v k:=by
 obtain ⟨neg,t,j,i⟩:=h; exact ⟨neg,t,j,i,len_lt t j.2.1 k (by rw [← i,sg_abs] at hv; exact hv)⟩
theorem numZ_le {B:Nat} {w:World} {z:Value} {v:Int} {k n:Nat} (h:NumZ B w z v k) (hn:k≤n):NumZ B w z v n:=by
 obtain ⟨neg,t,j,i,hl⟩:=h; exact ⟨neg,t,j,i,Nat.le_trans hl hn⟩
theorem lim_ok (s:ByteArray) (h:isIntB s=true):okL (lim s):=by
 unfold isIntB at h; simp only [Bool.and_eq_true,Bool.or_eq_true,decide_eq_true_eq,Bool.not_eq_true',decide_eq_false_iff_not,List.all_eq_true] at h; obtain ⟨⟨⟨j,m⟩,h3⟩,h4⟩:=h; have i:∀ c∈(dgs s).data.toList,dig c:=fun c hc=>by have:=h3 c hc; unfold isDig at this; simpa [dig] using this
 exact trimL_ok _ (chunks_ok _ i)
theorem val_lb (t:List Nat) (ho:okL t) (k:Nat) (hk:t.length≤k):val t<lb k:=val_lt_of t ho k hk
theorem lim_lt (s:ByteArray) (h:isIntB s=true):val (lim s)<lb 280:=val_lb (lim s) (lim_ok s h) 280 (lim_len' s h)
theorem numT_lt (s:ByteArray) (h:isIntB s=true):(numT s).natAbs<lb 280:=by
 unfold numT; rw [sg_abs]; exact lim_lt s h
theorem ratV_lt {s:ByteArray} {k:Option Nat} {x y:Int} (h:RatV s k x y):x.natAbs<lb 280∧y.natAbs<lb 280∧0<y:=by
 cases k with
 | none=>
   refine ⟨by rw [h.2.1]; exact numT_lt s h.1,?_,by rw [h.2.2]; decide⟩; rw [h.2.2]; exact lb_one 280 (by decide)
 | some i=>
   refine ⟨by rw [h.2.2.1]; exact numT_lt _ h.1.1,by rw [h.2.2.2]; exact numT_lt _ h.1.2,?_⟩; have j:=numT_pos _ h.2.1.2.2.2.1; have m:=h.2.1.1; rw [h.2.2.2]; omega
theorem mul_lt {x y:Int} (hx:x.natAbs<lb 280) (hy:y.natAbs<lb 280):(x*y).natAbs<lb 560:=by
 rw [Int.natAbs_mul]; exact lb_mul 280 280 hx hy
theorem add_lt {x y:Int} (hx:x.natAbs<lb 560) (hy:y.natAbs<lb 560):(x+y).natAbs<lb 561:=by
 exact Nat.lt_of_le_of_lt (Int.natAbs_add_le x y) (lb_add 560 hx hy)
structure BxR (h:Nat) (W:World) (s1:Bool) (p1:Option Addr) (l1 c1:Nat) (s2:Bool) (p2:Option Addr) (l2 c2:Nat) (s3:Bool) (p3:Option Addr) (l3 c3:Nat) (s4:Bool) (p4:Option Addr) (l4 c4:Nat):Prop where
 a:Bx W h [.bool s1,.slice p1 l1 c1,.bool s2,.slice p2 l2 c2]
 b:Bx W (h+1) [.bool s3,.slice p3 l3 c3,.bool s4,.slice p4 l4 c4]
 r:Bx W (h+1+1) [.bool false,.slice none 0 0,.bool false,.slice none 0 0]
theorem BxR.below {h N:Nat} {W W':World} {s1:Bool} {p1:Option Addr} {l1 c1:Nat} {s2:Bool} {p2:Option Addr} {l2 c2:Nat} {s3:Bool} {p3:Option Addr} {l3 c3:Nat} {s4:Bool} {p4:Option Addr} {l4 c4:Nat} (m:BxR h W s1 p1 l1 c1 s2 p2 l2 c2 s3 p3 l3 c3 s4 p4 l4 c4) (hN:h+3≤N) (hb:Below N W W'):BxR h W' s1 p1 l1 c1 s2 p2 l2 c2 s3 p3 l3 c3 s4 p4 l4 c4:=
 ⟨m.a.below (by omega) hb,m.b.below (by omega) hb,m.r.below (by omega) hb⟩
theorem BxR.held {h:Nat} {W:World} {s1:Bool} {p1:Option Addr} {l1 c1:Nat} {s2:Bool} {p2:Option Addr} {l2 c2:Nat} {s3:Bool} {p3:Option Addr} {l3 c3:Nat} {s4:Bool} {p4:Option Addr} {l4 c4:Nat} (m:BxR h W s1 p1 l1 c1 s2 p2 l2 c2 s3 p3 l3 c3 s4 p4 l4 c4):W.cell? ⟨h,0,none⟩=some (.bool s1)∧W.cell? ⟨h,1,none⟩=some (.slice p1 l1 c1)∧W.cell? ⟨h,2,none⟩=some (.bool s2)∧W.cell? ⟨h,3,none⟩=some (.slice p2 l2 c2)∧W.cell? ⟨h+1,0,none⟩=some (.bool s3)∧W.cell? ⟨h+1,1,none⟩=some (.slice p3 l3 c3)∧W.cell? ⟨h+1,2,none⟩=some (.bool s4)∧W.cell? ⟨h+1,3,none⟩=some (.slice p4 l4 c4):=
 ⟨m.a.cell 0,m.a.cell 1,m.a.cell 2,m.a.cell 3,m.b.cell 0,m.b.cell 1,m.b.cell 2,m.b.cell 3⟩
end Go.Proofs.YtnhbmpnhijgpmaaGreatDoor
