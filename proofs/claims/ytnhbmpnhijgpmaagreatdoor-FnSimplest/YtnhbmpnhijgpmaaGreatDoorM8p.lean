import Derived.Test.YtnhbmpnhijgpmaaGreatDoorOfImplp
import Derived.Test.YtnhbmpnhijgpmaaGreatDoorPCSp
import Derived.Test.YtnhbmpnhijgpmaaGreatDoorM4p
set_option maxRecDepth 100000
set_option maxHeartbeats 8000000
namespace Go.Proofs.YtnhbmpnhijgpmaaGreatDoor
open Go.ChangeShapes Go.WideShapes Go.ChangeAt Go.RowKit
def revK (x k:Nat):List Nat:=(List.range k).map (fun j=>48+x / 10 ^ j % 10)
def revD (l:List Nat):List Nat:=l.flatMap (fun x=>revK x 9)
theorem revK_succ (x k:Nat):revK x (k+1)=revK x k++[48+x / 10 ^ k % 10]:=by simp [revK,List.range_succ]
theorem revK_length (x k:Nat):(revK x k).length=k:=by simp [revK]
theorem revD_length (l:List Nat):(revD l).length=9*l.length:=by
 unfold revD; rw [List.length_flatMap]; simp only [revK_length]; rw [List.map_const',List.sum_replicate_nat]; omega
theorem revD_snoc (l:List Nat) (x:Nat):revD (l++[x])=revD l++revK x 9:=by simp [revD]
theorem revK_rev (x:Nat):(revK x 9).reverse=digK x 9:=by
 simp [revK,digK,dg,tens,List.range_succ]
theorem revD_rev (l:List Nat):(revD l).reverse=padN l:=by
 unfold revD padN
 induction l with
 | nil=>rfl
 | cons x l ih=>rw [List.flatMap_cons,List.reverse_append,ih,List.reverse_cons,List.flatMap_append,revK_rev]; simp
theorem revD_lt (l:List Nat):∀ x∈revD l,x<256:=fun x hx=>padN_lt l x (by rw [← revD_rev]; simpa using hx)
def cutE (l:List Nat):List Nat:=(l.reverse.dropWhile (·==48))
theorem cutE_zero (D:List Nat) (j:Nat) (h:j<D.length) (h0:D.getD j 0=48):cutE (D.take (j+1))=cutE (D.take j):=by
 unfold cutE; rw [List.take_succ_eq_append_getElem h,List.reverse_append]; have:D[j]=48:=by simpa [List.getD_eq_getElem?_getD,h] using h0
 simp [this]
theorem cutE_pos (D:List Nat) (j:Nat) (h:j<D.length) (h0:D.getD j 0≠48):cutE (D.take (j+1))=(D.take (j+1)).reverse:=by
 unfold cutE; rw [List.take_succ_eq_append_getElem h,List.reverse_append]; have:D[j]≠48:=by simpa [List.getD_eq_getElem?_getD,h] using h0
 simp [this]
theorem bytes_dropZ (l:List Nat) (h:∀ x∈l,x<256):dropZ (bytesOf l)=bytesOf (l.dropWhile (·==48)):=by
 induction l with
 | nil=>rfl
 | cons x l ih=>
   have i:=h x (by simp); have e:(UInt8.ofNat x==48)=(x==48):=by
    rw [Bool.eq_iff_iff,beq_iff_eq,beq_iff_eq]; constructor
    ·intro e; have:=congrArg UInt8.toNat e; rw [UInt8.toNat_ofNat_of_lt' (by simpa using i)] at this; exact this
    ·rintro rfl; rfl
   unfold dropZ bytesOf at *; simp only [List.map_cons,List.dropWhile_cons,e]
   split
   ·exact ih (fun y hy=>h y (by simp [hy]))
   ·rfl
theorem textD_cut (l:List Nat):textD l=bytesOf (cutE (revD l)):=by
 unfold textD cutE; rw [bytes_dropZ _ (padN_lt l),revD_rev]
def fullT (ng:Bool) (t:List Nat):ByteArray:=if t.length=0 then strB [48] else if ng then strB (45::textD t) else strB (textD t)
theorem ngZ_of {B:Nat} {w:World} {z0:Int} {zn:Bool} {za:Option Addr} {zl zc:Nat} {neg:Bool} {t:List Nat} (h:IsZ B w (.agg #[.int .i64 z0,.bool zn,.slice za zl zc]) neg t):ngZ z0 zn zl=negOf neg t:=by
 obtain ⟨i,j,h3⟩:=h
 rcases h3 with ⟨h3,v,e,p,c,rfl,_⟩|⟨h3,e⟩
 ·simp at e; obtain ⟨_,rfl,_,rfl,_⟩:=e; unfold ngZ negOf; have:0<t.length:=by omega
  simp [this]
 simp at e; obtain ⟨rfl,rfl,_,rfl,_⟩:=e; exact (negOf_small neg t h3 i j).symm
def lenAt (s M q:Nat):Nat:=s+(M - q)
theorem lenAt_self (s M:Nat):lenAt s M M=s:=by unfold lenAt; omega
theorem lenAt_step (s M q:Nat) (h:q<M):lenAt s M (q+1)+1=lenAt s M q:=by unfold lenAt; omega
def tailU (D:List Nat) (M q:Nat):List Value:=U8s ((D.take M).drop q).reverse
theorem tailU_self (D:List Nat) (M:Nat):tailU D M M=[]:=by unfold tailU; rw [List.drop_eq_nil_of_le (List.length_take_le _ _)]; rfl
theorem tailU_step (D:List Nat) (M q:Nat) (h:q<M) (hl:M≤D.length):tailU D M q=tailU D M (q+1)++[.int .u8 (D.getD q 0:Nat)]:=by
 unfold tailU; have i:q<(D.take M).length:=by rw [List.length_take]; omega
 rw [List.drop_eq_getElem_cons i,List.getElem_take,List.getD_eq_getElem?_getD,List.getElem?_eq_getElem (by omega),List.reverse_cons,U8s_snoc]; rfl
theorem cell_one_new' (w:World) (v:Value) (t:TypeId) (g:Nat) (hg:w.heap.size=g):∀ j u,[v][j]? = some u→(w.alloc (.cells #[v] t)).cell? ((⟨g,0,none⟩:Addr).add j)=some u:=by
 subst hg; exact cell_one_new _ _ _
theorem l1Text_any (B:Nat) (z:Value) (neg:Bool) (t:List Nat) (w:World) (hz:IsZ B w z neg t) (hBw:B≤w.heap.size) (hlen:t.length≤600) :
 Calls Tryz.prog 43 #[z] w fun e w'=>e=.returned (.string (fullT (negOf neg t) t))∧Up w w':=by
 obtain ⟨z0,zn,za,zl,zc,k5⟩:=hz.shape; subst k5; obtain ⟨i0,L,g9,Z,h1⟩:=info_parts Tryz.info_u8; obtain ⟨W0,a7⟩:=exW (w.alloc (.cells #[.int .i64 z0,.bool zn,.slice za zl zc] 49)); have j4:=Hd a7; have g2:Up w W0:=by rw [← a7]; exact below_alloc _ _
 have m9:W0.heap.size=w.heap.size+1:=by rw [← a7]; simp
 have HZ:Hid (IsZ B W0 (.agg #[.int .i64 z0,.bool zn,.slice za zl zc]) neg t):=hz.below g2; have j2:=Hd g2; have HX:Hid (∀ W,Up W0 W→W.cell? ⟨w.heap.size,0,none⟩=some (.int .i64 z0)∧W.cell? ⟨w.heap.size,1,none⟩=some (.bool zn)∧W.cell? ⟨w.heap.size,2,none⟩=some (.slice za zl zc)):=fun W hW=>by
  refine ⟨?_,?_,?_⟩
  ·rw [hW.cell (p:=⟨w.heap.size,0,none⟩) (by show w.heap.size<_; omega),← a7,World.cell?_alloc_at _ _ _ _ rfl]; rfl
  ·rw [hW.cell (p:=⟨w.heap.size,1,none⟩) (by show w.heap.size<_; omega),← a7,World.cell?_alloc_at _ _ _ _ rfl]; rfl
  rw [hW.cell (p:=⟨w.heap.size,2,none⟩) (by show w.heap.size<_; omega),← a7,World.cell?_alloc_at _ _ _ _ rfl]; rfl
 have h8:Hid (ngZ z0 zn zl=negOf neg t):=ngZ_of hz; clear hz g2 a7
 go_enter Tryz.func43,Tryz.ntmps43
 go_wp2_with fail
 rw [j4.o]; refine (l1Limbs_any B _ neg t _ HZ.o (by omega)).mono ?_; rintro e H ⟨v,rfl,hv,e5⟩; obtain ⟨a,cap,rfl,hl,l1,j9,hr⟩:=hv; have l2:w.heap.size+1≤H.heap.size:=by have:=e5.size; omega
 have HC:Hid (∀ i,i<t.length→∃ b off,a=some ⟨b,off,none⟩∧b<H.heap.size∧H.cell? ⟨b,off+i,none⟩=some (.int .u32 (t.getD i 0:Nat))):=fun i hi=>by
  rcases hr with rfl|⟨b,off,rfl,_,hb,hc⟩
  ·simp at hi
  exact ⟨b,off,rfl,hb,hc i hi⟩
 have b4:=Hd e5; have J:Hid (Up w H):=j2.o.trans (e5.mono (by omega)); clear hr e5
 by_cases h0:t.length=0
 ·have HT:Hid (fullT (negOf neg t) t=strB [48]):=if_pos h0; have zz:((t.length:Int)==0)=true:=by rw [beq_iff_eq]; omega
  go_wp2
  go_ret
  exact ⟨by rw [HT.o]; rfl,J.o⟩
 have zz:((t.length:Int)==0)=false:=by rw [beq_eq_false_iff_ne]; omega
 have HT:Hid (fullT (negOf neg t) t=if negOf neg t then strB (45::textD t) else strB (textD t)):=if_neg h0
 go_wp2_with (at_make; refine wpList_make_own _ rfl _ _ 22 rfl H.heap.size 5 i0 (.int .u8 0) 1 Tryz.underlying22 L g9 Z .i64 .i64 _ (9*t.length+1) rfl rfl ?m1 ?m2 ?m3 ?m4 ?_)
 case m1=>omega
 case m2=>rw [h1]; omega
 case m3=>unfold maxLen; omega
 case m4=>exact leR
 intro w2 e0 e6; have i5:Up H w2:=(Below.refl _ _).grown e6 leR (fun k h=>by cases h); clear e6
 go_wp2
 go_loopw [4,23] (fun v i wr=>∃ j:Nat,j≤t.length∧i=.int .i64 j∧v=.slice (some ⟨H.heap.size,0,none⟩) (9*j) (9*t.length+1) ∧
  wr.ownsRow H.heap.size 5 1 (.slice (some ⟨H.heap.size,0,none⟩) (9*j) (9*t.length+1)) (9*j) (U8s (revD (t.take j)))∧Up H wr) (fun _ i _=>t.length - (intOf i).toNat)
 case atStart=>exact ⟨0,Nat.zero_le _,rfl,rfl,e0,i5⟩
 case round=>
  clear e0 i5; obtain ⟨j,hj,rfl,rfl,E,hB⟩:=hrel
  by_cases g3:j<t.length
  ·obtain ⟨b,off,rfl,hb,K⟩:=HC.o j g3; have k1:=getD_lt t j9 j; rw [← hB.cell (p:=⟨b,off+j,none⟩) hb] at K; have i3:Hid (t.take (j+1)=t.take j++[t.getD j 0]):=by
    unfold Hid
    rw [List.take_succ_eq_append_getElem g3,List.getD_eq_getElem?_getD,List.getElem?_eq_getElem g3]; rfl
   obtain ⟨y,hy⟩:=exW (t.getD j 0); rw [hy] at K k1 i3; obtain ⟨P,hP⟩:=exW (revD (t.take j)); have HP:=Hd hP; rw [hP] at E; clear hy hP
   go_wp2_with fail
   go_loopw [4,6,7] (fun v x kk wr=>∃ k:Nat,k≤9∧kk=.int .i64 k∧x=.int .u32 (y / 10 ^ k:Nat)∧v=.slice (some ⟨H.heap.size,0,none⟩) (9*j+k) (9*t.length+1) ∧
    wr.ownsRow H.heap.size 5 1 (.slice (some ⟨H.heap.size,0,none⟩) (9*j+k) (9*t.length+1)) (9*j+k) (U8s (P++revK y k))∧Up H wr) (fun _ _ kk _=>9 - (intOf kk).toNat)
   case atStart=>exact ⟨0,Nat.zero_le _,rfl,val_int (by simp),rfl,by simpa [revK] using E,hB⟩
   case round=>
    clear E hB K; rename_i wr0; obtain ⟨k,hk,rfl,rfl,rfl,E,hB⟩:=hrel
    by_cases m8:k<9
    ·have hq:=Nat.div_le_self y (10 ^ k); have i2:Hid (y / 10 ^ (k+1)=y / 10 ^ k / 10):=by unfold Hid; rw [Nat.pow_succ,Nat.div_div_eq_div_mul]
     have f9:=revK_succ y k; obtain ⟨q,j0⟩:=exW (y / 10 ^ k); rw [j0] at hq i2 f9 ⊢; have i1:Hid (revK y (k+1)=revK y k++[48+q % 10]):=f9; clear j0 f9
     go_wp2_with (at_builtin; refine wpList_append_fits _ rfl _ _ 22 rfl H.heap.size 5 i0 1 Tryz.underlying22 L Z H.heap.size (9*j+k) (9*t.length+1) _ rfl (E.alloc _) ⟨wr.heap.size,0,none⟩ 1 1 [_] rfl rfl (cell_one_new _ _ _) ?c1 ?c2 ?_)
     case c1=>first|rfl|(intro u hu; simp at hu; subst hu; rfl)
     case c2=>omega
     intro w3 e1 e7; have j5:Up H w3:=(hB.alloc hB.size _).grown e7 (by have:=hB.size; simp; omega) (fun k e=>by cases e; exact leR); have j3:Hid (w3.ownsRow H.heap.size 5 1 (.slice (some ⟨H.heap.size,0,none⟩) (9*j+(k+1)) (9*t.length+1)) (9*j+(k+1)) (U8s (P++revK y (k+1)))):=by
      unfold Hid
      rw [i1.o,← List.append_assoc,U8s_snoc]
      simpa [← Nat.add_assoc] using e1
     clear e1 e7 E hB
     go_wp2
     go_roundw
     case rel=>exact ⟨k+1,by omega,by go_num,by rw [i2.o]; exact val_int (by simp),rfl,j3.o,j5⟩
     case measure=>simp [intOf]; omega
    ·obtain rfl:k=9:=by omega
     have a3:Hid (wr.ownsRow H.heap.size 5 1 (.slice (some ⟨H.heap.size,0,none⟩) (9*(j+1)) (9*t.length+1)) (9*(j+1)) (U8s (revD (t.take (j+1))))):=by
      unfold Hid
      rw [i3.o,revD_snoc,HP.o]; exact E
     clear E
     go_wp2
     go_roundw
     case rel=>exact ⟨j+1,by omega,by go_num,rfl,a3.o,hB⟩
     case measure=>simp [intOf]; omega
  ·obtain rfl:j=t.length:=by omega
   generalize j7:wr=A at *; clear j7; rw [List.take_length] at E; have e8:=revD_length t; have g0:=textD_cut t; have c9:=revD_lt t; obtain ⟨D,hD⟩:=exW (revD t); rw [hD] at E e8 g0 c9; have G:Hid (D.length=9*t.length):=e8; have a9:Hid (textD t=bytesOf (cutE D)):=g0; have Q:Hid (∀ x∈D,x<256):=c9; have d1:=Hd E; have f7:Hid (∀ W:World,W.ownsRow H.heap.size 5 1 (.slice (some ⟨H.heap.size,0,none⟩) (9*t.length) (9*t.length+1)) (9*t.length) (U8s D)→∀ i,i<9*t.length→W.cell? ⟨H.heap.size,i,none⟩=some (.int .u8 (D.getD i 0:Nat))):=fun W hW i hi=>by
    have:=hW.cells (g:=H.heap.size) rfl i (.int .u8 (D.getD i 0:Nat)) (by rw [List.getElem?_map]; simp [List.getD_eq_getElem?_getD,show i<D.length by omega])
    by_cases i0:i=0
    ·subst i0; simpa [Addr.add] using this
    ·simpa [Addr.add,i0] using this
   have b5:=Hd hB; clear E e8 g0 c9 hD hB
   go_wp2
   go_loop [8] (fun n=>∃ m:Nat,m≤9*t.length∧n=.int .i64 m∧cutE (D.take m)=cutE D) (fun n=>(intOf n).toNat)
   case atStart=>exact ⟨9*t.length,leR,val_int (by omega),by rw [← G.o,List.take_length]⟩
   case round=>
    obtain ⟨m,hm,rfl,hp⟩:=hrel; have HP:=Hd hp; clear hp; obtain ⟨ng,i9⟩:=exW (negOf neg t); have S:=Hd i9; clear i9
    cases m with
    | zero=>
      have HM:Hid (cutE D=(D.take 0).reverse):=HP.o.symm.trans rfl
      go_wp2_with (at_make; refine wpList_make_own _ rfl _ _ 22 rfl A.heap.size 5 i0 (.int .u8 0) 1 Tryz.underlying22 L g9 Z .i64 .i64 _ (0+1) rfl rfl ?am1 ?am2 ?am3 ?am4 ?_)
      try (case am1=>(omega))
      try (case am2=>(first|omega|(rw [h1]; omega)))
      try (case am3=>(unfold maxLen; omega))
      try (case am4=>(exact leR))
      intro w4 O U; have a6:Up A w4:=(Below.refl _ _).grown U leR (fun k h=>by cases h); have g7:H.heap.size<A.heap.size:=(d1.o.lt _ rfl).2; have c7:Hid (Up W0 w4):=b4.o.trans ((b5.o.mono b4.o.size).trans (a6.mono (by have:=b4.o.size; omega))); obtain ⟨c0,c1,c2⟩:=HX.o w4 c7.o; have a3:=Hd O; have I:=Hd a6; clear U O a6
      go_wp2_with fail
      refine (l1Neg_ex _ _ _ _ _ _).mono ?_; rintro e w' ⟨rfl,k0⟩; subst w'; rw [h8.o,S.o]
      cases ng
      ·have a5:Hid (fullT (negOf neg t) t=strB (bytesOf (D.take (0)).reverse)):=by rw [HT.o,S.o,a9.o,HM.o]; rfl
       have F:=a3.o.alloc (.cells #[.int .i64 z0,.bool zn,.slice za zl zc] 49); have s:Up A (w4.alloc (.cells #[.int .i64 z0,.bool zn,.slice za zl zc] 49)):=I.o.alloc I.o.size _; obtain ⟨W5,d7⟩:=exW (w4.alloc (.cells #[.int .i64 z0,.bool zn,.slice za zl zc] 49)); rw [d7] at F s ⊢; clear d7
       go_wp2
       go_loopw [9,10] (fun v i wr=>∃ q:Nat,q≤0∧i=.int .i64 (q - 1)∧v=.slice (some ⟨A.heap.size,0,none⟩) (lenAt 0 (0) q) (0+1) ∧
        wr.ownsRow A.heap.size 5 1 (.slice (some ⟨A.heap.size,0,none⟩) (lenAt 0 (0) q) (0+1)) (lenAt 0 (0) q) (tailU D (0) q)∧Up A wr) (fun _ i _=>(intOf i+1).toNat)
       case atStart=>
        refine ⟨0,leR,val_int (by omega),by rw [lenAt_self],?_,s⟩; rw [lenAt_self,tailU_self]
        simpa using F
       case round=>
        clear F s; obtain ⟨q,hq,rfl,rfl,F,s⟩:=hrel
        cases q with
        | zero=>
          have e9:tailU D (0) 0=U8s ((D.take (0)).reverse):=by unfold tailU; rw [List.drop_zero]
          rw [e9] at F; have a8:=conv_bytes _ _ _ _ _ _ F (by
           intro x hx; have h:=hx; exact Q.o x (List.mem_of_mem_take (List.mem_reverse.1 h))) (by unfold lenAt; rw [List.length_reverse,List.length_take,G.o]; omega)
          have M:Hid (Up w wr):=J.o.trans ((b5.o.mono J.o.size).trans (s.mono (by have:=J.o.size; omega))); clear F s e9
          go_wp2
          go_ret
          exact ⟨by rw [a5.o]; rfl,M.o⟩
        | succ q=>exact absurd hq (Nat.not_succ_le_zero q)
      ·have a5:Hid (fullT (negOf neg t) t=strB (bytesOf ([45]++(D.take (0)).reverse))):=by rw [HT.o,S.o,a9.o,HM.o]; rfl
       have d5:=a3.o.alloc (.cells #[.int .i64 z0,.bool zn,.slice za zl zc] 49)
       go_wp2_with (at_builtin; refine wpList_append_fits _ rfl _ _ 22 rfl A.heap.size 5 i0 1 Tryz.underlying22 L Z A.heap.size 0 (0+1) _ rfl (d5.alloc _) ⟨w4.heap.size+1,0,none⟩ 1 1 [.int .u8 45] rfl rfl ?ad0 ?ad1 ?ad2 ?_)
       try (case ad0=>(exact cell_one_new' _ _ _ _ (by simp)))
       try (case ad1=>(first|rfl|(intro u hu; simp at hu; subst hu; rfl)))
       try (case ad2=>(omega))
       intro W5 F V; have s:Up A W5:=((I.o.alloc I.o.size _).alloc (by have:=I.o.size; simp; omega) _).grown V (by have:=I.o.size; simp; omega) (fun k e=>by cases e; exact leR); clear V d5
       go_wp2
       go_loopw [9,10] (fun v i wr=>∃ q:Nat,q≤0∧i=.int .i64 (q - 1)∧v=.slice (some ⟨A.heap.size,0,none⟩) (lenAt 1 (0) q) (0+1) ∧
        wr.ownsRow A.heap.size 5 1 (.slice (some ⟨A.heap.size,0,none⟩) (lenAt 1 (0) q) (0+1)) (lenAt 1 (0) q) ([.int .u8 45]++tailU D (0) q)∧Up A wr) (fun _ i _=>(intOf i+1).toNat)
       case atStart=>
        refine ⟨0,leR,val_int (by omega),by rw [lenAt_self],?_,s⟩; rw [lenAt_self,tailU_self]
        simpa using F
       case round=>
        clear F s; obtain ⟨q,hq,rfl,rfl,F,s⟩:=hrel
        cases q with
        | zero=>
          have e9:[.int .u8 45]++tailU D (0) 0=U8s ([45]++(D.take (0)).reverse):=by unfold tailU; rw [List.drop_zero]; rfl
          rw [e9] at F; have a8:=conv_bytes _ _ _ _ _ _ F (by
           intro x hx
           rcases List.mem_append.1 hx with h|h
           ·simp at h; omega
           ·exact Q.o x (List.mem_of_mem_take (List.mem_reverse.1 h))) (by unfold lenAt; rw [List.length_append,List.length_reverse,List.length_take,G.o]; simp only [List.length_cons,List.length_nil]; omega)
          have M:Hid (Up w wr):=J.o.trans ((b5.o.mono J.o.size).trans (s.mono (by have:=J.o.size; omega))); clear F s e9
          go_wp2
          go_ret
          exact ⟨by rw [a5.o]; rfl,M.o⟩
        | succ q=>exact absurd hq (Nat.not_succ_le_zero q)
    | succ m=>
      have K:=f7.o A d1.o m (by omega); have i8:m<D.length:=by rw [G.o]; omega
      by_cases b6:D.getD m 0=48
      ·have HN:Hid (cutE (D.take m)=cutE D):=(cutE_zero D m i8 b6).symm.trans HP.o; rw [b6] at K; clear b6
       go_wp2
       go_round
       case rel=>exact ⟨m,by omega,val_int (by omega),HN.o⟩
       case measure=>simp [intOf]
      ·have HM:Hid (cutE D=(D.take (m+1)).reverse):=HP.o.symm.trans (cutE_pos D m i8 b6); obtain ⟨d0,i7⟩:=exW (D.getD m 0); rw [i7] at K b6; have m6:((d0:Int)==48)=false:=by rw [beq_eq_false_iff_ne]; omega
       clear i7 b6
       go_wp2_with (at_make; refine wpList_make_own _ rfl _ _ 22 rfl A.heap.size 5 i0 (.int .u8 0) 1 Tryz.underlying22 L g9 Z .i64 .i64 _ ((m+1)+1) rfl rfl ?bm1 ?bm2 ?bm3 ?bm4 ?_)
       try (case bm1=>(omega))
       try (case bm2=>(first|omega|(rw [h1]; omega)))
       try (case bm3=>(unfold maxLen; omega))
       try (case bm4=>(exact leR))
       intro w4 O U; have a6:Up A w4:=(Below.refl _ _).grown U leR (fun k h=>by cases h); have g7:H.heap.size<A.heap.size:=(d1.o.lt _ rfl).2; have c7:Hid (Up W0 w4):=b4.o.trans ((b5.o.mono b4.o.size).trans (a6.mono (by have:=b4.o.size; omega))); obtain ⟨c0,c1,c2⟩:=HX.o w4 c7.o; have a3:=Hd O; have I:=Hd a6; clear U O a6
       go_wp2_with fail
       refine (l1Neg_ex _ _ _ _ _ _).mono ?_; rintro e w' ⟨rfl,k0⟩; subst w'; rw [h8.o,S.o]
       cases ng
       ·have a5:Hid (fullT (negOf neg t) t=strB (bytesOf (D.take ((m+1))).reverse)):=by rw [HT.o,S.o,a9.o,HM.o]; rfl
        have F:=a3.o.alloc (.cells #[.int .i64 z0,.bool zn,.slice za zl zc] 49); have s:Up A (w4.alloc (.cells #[.int .i64 z0,.bool zn,.slice za zl zc] 49)):=I.o.alloc I.o.size _; obtain ⟨W5,d7⟩:=exW (w4.alloc (.cells #[.int .i64 z0,.bool zn,.slice za zl zc] 49)); rw [d7] at F s ⊢; clear d7
        go_wp2
        go_loopw [9,10] (fun v i wr=>∃ q:Nat,q≤(m+1)∧i=.int .i64 (q - 1)∧v=.slice (some ⟨A.heap.size,0,none⟩) (lenAt 0 ((m+1)) q) ((m+1)+1) ∧
         wr.ownsRow A.heap.size 5 1 (.slice (some ⟨A.heap.size,0,none⟩) (lenAt 0 ((m+1)) q) ((m+1)+1)) (lenAt 0 ((m+1)) q) (tailU D ((m+1)) q)∧Up A wr) (fun _ i _=>(intOf i+1).toNat)
        case atStart=>
         refine ⟨(m+1),leR,val_int (by omega),by rw [lenAt_self],?_,s⟩; rw [lenAt_self,tailU_self]
         simpa using F
        case round=>
         clear F s; obtain ⟨q,hq,rfl,rfl,F,s⟩:=hrel
         cases q with
         | zero=>
           have e9:tailU D ((m+1)) 0=U8s ((D.take ((m+1))).reverse):=by unfold tailU; rw [List.drop_zero]
           rw [e9] at F; have a8:=conv_bytes _ _ _ _ _ _ F (by
            intro x hx; have h:=hx; exact Q.o x (List.mem_of_mem_take (List.mem_reverse.1 h))) (by unfold lenAt; rw [List.length_reverse,List.length_take,G.o]; omega)
           have M:Hid (Up w wr):=J.o.trans ((b5.o.mono J.o.size).trans (s.mono (by have:=J.o.size; omega))); clear F s e9
           go_wp2
           go_ret
           exact ⟨by rw [a5.o]; rfl,M.o⟩
         | succ q=>
           have d8:wr.cell? ⟨H.heap.size,q,none⟩=some (.int .u8 (D.getD q 0:Nat)):=(s.cell (p:=⟨H.heap.size,q,none⟩) g7).trans (f7.o A d1.o q (by omega)); have d2:Hid (tailU D ((m+1)) q=tailU D ((m+1)) (q+1)++[.int .u8 (D.getD q 0:Nat)]):=tailU_step D ((m+1)) q (by omega) (by rw [G.o]; omega); have d9:D.getD q 0<256:=by
            rw [List.getD_eq_getElem?_getD,List.getElem?_eq_getElem (by rw [G.o]; omega)]; exact Q.o _ (List.getElem_mem _)
           obtain ⟨d,hd⟩:=exW (D.getD q 0); rw [hd] at d8 d2 d9; clear hd; have g6:q<9*t.length:=by omega
           have T:Hid (lenAt 0 ((m+1)) (q+1)+1=lenAt 0 ((m+1)) q):=lenAt_step _ _ _ (by omega); have c8:Hid (lenAt 0 ((m+1)) (q+1)+1≤(m+1)+1):=by unfold Hid; unfold lenAt; omega
           go_wp2_with (at_builtin; refine wpList_append_fits _ rfl _ _ 22 rfl A.heap.size 5 i0 1 Tryz.underlying22 L Z A.heap.size (lenAt 0 ((m+1)) (q+1)) ((m+1)+1) _ rfl (F.alloc _) ⟨wr.heap.size,0,none⟩ 1 1 [_] rfl rfl (cell_one_new _ _ _) ?bfc1 ?bfc2 ?_)
           try (case bfc1=>(first|rfl|(intro u hu; simp at hu; subst hu; rfl)))
           try (case bfc2=>(exact c8.o))
           intro w6 d6 Y; have g1:Up A w6:=(s.alloc s.size _).grown Y (by have:=s.size; simp; omega) (fun k e=>by cases e; exact leR); have f5:Hid (w6.ownsRow A.heap.size 5 1 (.slice (some ⟨A.heap.size,0,none⟩) (lenAt 0 ((m+1)) q) ((m+1)+1)) (lenAt 0 ((m+1)) q) (tailU D ((m+1)) q)):=by
            unfold Hid
            rw [d2.o,← T.o]
            simpa using d6
           clear d6 Y F s d8
           go_wp2
           go_roundw
           case rel=>exact ⟨q,by omega,val_int (by omega),by rw [T.o],f5.o,g1⟩
           case measure=>simp [intOf]
       ·have a5:Hid (fullT (negOf neg t) t=strB (bytesOf ([45]++(D.take ((m+1))).reverse))):=by rw [HT.o,S.o,a9.o,HM.o]; rfl
        have d5:=a3.o.alloc (.cells #[.int .i64 z0,.bool zn,.slice za zl zc] 49)
        go_wp2_with (at_builtin; refine wpList_append_fits _ rfl _ _ 22 rfl A.heap.size 5 i0 1 Tryz.underlying22 L Z A.heap.size 0 ((m+1)+1) _ rfl (d5.alloc _) ⟨w4.heap.size+1,0,none⟩ 1 1 [.int .u8 45] rfl rfl ?bd0 ?bd1 ?bd2 ?_)
        try (case bd0=>(exact cell_one_new' _ _ _ _ (by simp)))
        try (case bd1=>(first|rfl|(intro u hu; simp at hu; subst hu; rfl)))
        try (case bd2=>(omega))
        intro W5 F V; have s:Up A W5:=((I.o.alloc I.o.size _).alloc (by have:=I.o.size; simp; omega) _).grown V (by have:=I.o.size; simp; omega) (fun k e=>by cases e; exact leR); clear V d5
        go_wp2
        go_loopw [9,10] (fun v i wr=>∃ q:Nat,q≤(m+1)∧i=.int .i64 (q - 1)∧v=.slice (some ⟨A.heap.size,0,none⟩) (lenAt 1 ((m+1)) q) ((m+1)+1) ∧
         wr.ownsRow A.heap.size 5 1 (.slice (some ⟨A.heap.size,0,none⟩) (lenAt 1 ((m+1)) q) ((m+1)+1)) (lenAt 1 ((m+1)) q) ([.int .u8 45]++tailU D ((m+1)) q)∧Up A wr) (fun _ i _=>(intOf i+1).toNat)
        case atStart=>
         refine ⟨(m+1),leR,val_int (by omega),by rw [lenAt_self],?_,s⟩; rw [lenAt_self,tailU_self]
         simpa using F
        case round=>
         clear F s; obtain ⟨q,hq,rfl,rfl,F,s⟩:=hrel
         cases q with
         | zero=>
           have e9:[.int .u8 45]++tailU D ((m+1)) 0=U8s ([45]++(D.take ((m+1))).reverse):=by unfold tailU; rw [List.drop_zero]; rfl
           rw [e9] at F; have a8:=conv_bytes _ _ _ _ _ _ F (by
            intro x hx
            rcases List.mem_append.1 hx with h|h
            ·simp at h; omega
            ·exact Q.o x (List.mem_of_mem_take (List.mem_reverse.1 h))) (by unfold lenAt; rw [List.length_append,List.length_reverse,List.length_take,G.o]; simp only [List.length_cons,List.length_nil]; omega)
           have M:Hid (Up w wr):=J.o.trans ((b5.o.mono J.o.size).trans (s.mono (by have:=J.o.size; omega))); clear F s e9
           go_wp2
           go_ret
           exact ⟨by rw [a5.o]; rfl,M.o⟩
         | succ q=>
           have d8:wr.cell? ⟨H.heap.size,q,none⟩=some (.int .u8 (D.getD q 0:Nat)):=(s.cell (p:=⟨H.heap.size,q,none⟩) g7).trans (f7.o A d1.o q (by omega)); have d2:Hid (tailU D ((m+1)) q=tailU D ((m+1)) (q+1)++[.int .u8 (D.getD q 0:Nat)]):=tailU_step D ((m+1)) q (by omega) (by rw [G.o]; omega); have d9:D.getD q 0<256:=by
            rw [List.getD_eq_getElem?_getD,List.getElem?_eq_getElem (by rw [G.o]; omega)]; exact Q.o _ (List.getElem_mem _)
           obtain ⟨d,hd⟩:=exW (D.getD q 0); rw [hd] at d8 d2 d9; clear hd; have g6:q<9*t.length:=by omega
           have T:Hid (lenAt 1 ((m+1)) (q+1)+1=lenAt 1 ((m+1)) q):=lenAt_step _ _ _ (by omega); have c8:Hid (lenAt 1 ((m+1)) (q+1)+1≤(m+1)+1):=by unfold Hid; unfold lenAt; omega
           go_wp2_with (at_builtin; refine wpList_append_fits _ rfl _ _ 22 rfl A.heap.size 5 i0 1 Tryz.underlying22 L Z A.heap.size (lenAt 1 ((m+1)) (q+1)) ((m+1)+1) _ rfl (F.alloc _) ⟨wr.heap.size,0,none⟩ 1 1 [_] rfl rfl (cell_one_new _ _ _) ?btc1 ?btc2 ?_)
           try (case btc1=>(first|rfl|(intro u hu; simp at hu; subst hu; rfl)))
           try (case btc2=>(exact c8.o))
           intro w6 d6 Y; have g1:Up A w6:=(s.alloc s.size _).grown Y (by have:=s.size; simp; omega) (fun k e=>by cases e; exact leR); have f5:Hid (w6.ownsRow A.heap.size 5 1 (.slice (some ⟨A.heap.size,0,none⟩) (lenAt 1 ((m+1)) q) ((m+1)+1)) (lenAt 1 ((m+1)) q) ([.int .u8 45]++tailU D ((m+1)) q)):=by
            unfold Hid
            rw [d2.o,← T.o]
            simpa using d6
           clear d6 Y F s d8
           go_wp2
           go_roundw
           case rel=>exact ⟨q,by omega,val_int (by omega),by rw [T.o],f5.o,g1⟩
           case measure=>simp [intOf]
theorem isL_three {w:World} {x y u:Int} (B e a b c g:Nat) (ha:a<1000000000) (hb:b<1000000000) (hcc:c<1000000000) (hx:x=a) (hy:y=b) (hu:u=c) (hg:w.heap.size=g) (hB:B≤g):IsL B (w.alloc (.cells #[.int .u32 x,.int .u32 y,.int .u32 u] e)) (.slice (some ⟨g,0,none⟩) 3 3) [a,b,c]:=by
 subst hx; subst hy; subst hu; subst hg; exact ⟨_,3,rfl,by simp,by unfold maxLen; omega,fun x hx=>by simp at hx; omega,.inr ⟨w.heap.size,0,rfl,hB,by simp,fun i hi=>by
  match i,hi with
  | 0,_=>rw [World.cell?_alloc_at _ _ _ _ rfl]; rfl
  | 1,_=>rw [World.cell?_alloc_at _ _ _ _ rfl]; rfl
  | 2,_=>rw [World.cell?_alloc_at _ _ _ _ rfl]; rfl⟩⟩
theorem l1OfU_any (n:Nat) (w:World) (hn:n<18446744073709551616) :
 Calls Tryz.prog 108 #[.int .u64 (n:Nat)] w fun e w'=>∃ z t,e=.returned z∧(IsZ w.heap.size w' z false t∧val t=n∧t.length≤3)∧Up w w':=by
 obtain ⟨x,K⟩:∃ x:Int,(n:Int)=x:=⟨_,rfl⟩; have x0:0≤x:=by omega
 have x1:x<18446744073709551616:=by omega
 have Z:Hid (x % 1000000000=(n % 1000000000:Nat)):=by rw [← K]; rfl
 have HB:Hid (x / 1000000000 % 1000000000=(n / 1000000000 % 1000000000:Nat)):=by rw [← K]; rfl
 have HC:Hid (x / 1000000000 / 1000000000=(n / 1000000000 / 1000000000:Nat)):=by rw [← K]; rfl
 have HN:=Hd hn; rw [K]; clear K hn
 go_enter Tryz.func108,Tryz.ntmps108
 go_wp2_with fail
 obtain ⟨H,G⟩:=exW ([n % 1000000000,n / 1000000000 % 1000000000,n / 1000000000 / 1000000000]); have A:Hid (val H=n∧H.length=3):=by
  rw [← G]; refine ⟨?_,rfl⟩; simp only [val]; omega
 have J:IsL (w.heap.size+1) ((w.alloc (.cells #[.int .i64 0,.bool false,.slice none 0 0] 49)).alloc (.cells #[.int .u32 (x % 1000000000),.int .u32 (x / 1000000000 % 1000000000),.int .u32 (x / 1000000000 / 1000000000)] 85)) (.slice (some ⟨w.heap.size+1,0,none⟩) 3 3) H:=by
  rw [← G]; have:=HN.o; exact isL_three _ _ _ _ _ _ (by omega) (by omega) (by omega) Z.o HB.o HC.o (by simp) leR
 clear G; have u:Below (w.heap.size+1) (w.alloc (.cells #[.int .i64 0,.bool false,.slice none 0 0] 49)) ((w.alloc (.cells #[.int .i64 0,.bool false,.slice none 0 0] 49)).alloc (.cells #[.int .u32 (x % 1000000000),.int .u32 (x / 1000000000 % 1000000000),.int .u32 (x / 1000000000 / 1000000000)] 85)):=(Below.refl _ _).alloc (by simp) _; obtain ⟨W,s⟩:=exW (w.alloc (.cells #[.int .i64 0,.bool false,.slice none 0 0] 49)); have j:=Hd s; rw [s] at J u ⊢; obtain ⟨W1,E⟩:=exW (W.alloc (.cells #[.int .u32 (x % 1000000000),.int .u32 (x / 1000000000 % 1000000000),.int .u32 (x / 1000000000 / 1000000000)] 85)); rw [E] at J u ⊢; have U:W1.heap.size=w.heap.size+2:=by rw [← E,← s]; simp
 clear E s; refine (l1Make_any _ _ _ _ _ J).mono ?_; rintro e D ⟨z,rfl,hcut,F⟩; have O:=(hcut _ _ J).below F; have i:Below (w.heap.size+1) W D:=u.trans (F.mono (by omega)); have Q:D.cell? ⟨w.heap.size,0,none⟩=some (.int .i64 0):=by rw [i.cell (p:=⟨w.heap.size,0,none⟩) (Nat.lt_succ_self _),← j.o,World.cell?_alloc_at _ _ _ _ rfl]; rfl
 have S:D.cell? ⟨w.heap.size,1,none⟩=some (.bool false):=by rw [i.cell (p:=⟨w.heap.size,1,none⟩) (Nat.lt_succ_self _),← j.o,World.cell?_alloc_at _ _ _ _ rfl]; rfl
 have T:D.cell? ⟨w.heap.size,2,none⟩=some (.slice none 0 0):=by rw [i.cell (p:=⟨w.heap.size,2,none⟩) (Nat.lt_succ_self _),← j.o,World.cell?_alloc_at _ _ _ _ rfl]; rfl
 have a8:D.frozen? ⟨w.heap.size,0,none⟩=false:=by rw [i.frozen (p:=⟨w.heap.size,0,none⟩) (Nat.lt_succ_self _),← j.o,World.frozen?_alloc_at _ _ _ _ rfl]
 have a9:D.frozen? ⟨w.heap.size,1,none⟩=false:=by rw [i.frozen (p:=⟨w.heap.size,1,none⟩) (Nat.lt_succ_self _),← j.o,World.frozen?_alloc_at _ _ _ _ rfl]
 have b3:D.frozen? ⟨w.heap.size,2,none⟩=false:=by rw [i.frozen (p:=⟨w.heap.size,2,none⟩) (Nat.lt_succ_self _),← j.o,World.frozen?_alloc_at _ _ _ _ rfl]
 have m:Up w D:=by
  have Y:=below_alloc w (.cells #[.int .i64 0,.bool false,.slice none 0 0] 49); rw [j.o] at Y; exact Y.trans (i.mono (Nat.le_succ _))
 have L:=Hd m; have M:=Hd O; have I:Hid (val (trimL H)=n∧(trimL H).length≤3):=⟨by rw [val_trimL]; exact A.o.1,by have:=trimL_len H; have:=A.o.2; omega⟩; obtain ⟨z0,zn,za,zl,zc,V⟩:=O.shape; subst V; clear hcut F i m O J u U
 go_wp2
 refine bodyPost_ret ?_ rfl ⟨_,trimL H,rfl,⟨(((M.o.setCell _ _ (Nat.lt_succ_self _)).setCell _ _ (Nat.lt_succ_self _)).setCell _ _ (Nat.lt_succ_self _)).mono (Nat.le_succ _),I.o.1,I.o.2⟩,((L.o.setCell leR _).setCell leR _).setCell leR _⟩; simp [results,Tryz.results108,go_sem,Q,S,T]
theorem specOf_any (n:Nat) (w:World) (hn:n<18446744073709551616) :
 Calls Tryz.prog 88 #[.int .u64 (n:Nat)] w fun e w'=>∃ t,(okL t∧isTrim t∧val t=n∧t.length≤3)∧e=.returned (.string (fullT false t))∧Up w w':=by
 go_enter Tryz.func88,Tryz.ntmps88
 go_wp2_with fail
 refine (l1OfU_any n _ hn).mono ?_; rintro e H ⟨z,t,rfl,⟨s,D,hl⟩,j⟩; have E:Hid (okL t∧isTrim t∧val t=n∧t.length≤3):=⟨s.1,s.2.1,D,hl⟩; have F:=Hd s; have i:=Hd j; clear s D j hn
 go_wp2_with fail
 refine (l1Text_any _ z _ _ _ F.o i.o.size (by omega)).mono ?_; rintro e G ⟨rfl,m⟩; have u:Hid (Up w G):=i.o.trans (m.mono i.o.size); clear m; have A:negOf false t=false:=rfl; rw [A]; clear A
 go_wp2
 go_ret
 exact ⟨t,E.o,rfl,u.o⟩
theorem textD_len (t:List Nat):(textD t).length≤9*t.length:=by
 have i:(textD t).length≤(bytesOf (padN t)).length:=by unfold textD dropZ; exact (List.dropWhile_suffix _).length_le
 rw [bytesOf,List.length_map,padN_length] at i; exact i
def NumZ (B:Nat) (w:World) (z:Value) (x:Int) (n:Nat):Prop:=∃ neg t,IsZ B w z neg t∧sg neg (val t)=x∧t.length≤n
theorem NumZ.below {B:Nat} {w w':World} {z:Value} {x:Int} {n:Nat} (h:NumZ B w z x n) (hb:Up w w'):NumZ B w' z x n:=by
 obtain ⟨neg,t,i,j⟩:=h; exact ⟨neg,t,i.below hb,j⟩
theorem NumZ.mono {B B':Nat} {w:World} {z:Value} {x:Int} {n:Nat} (h:NumZ B w z x n) (hb:B'≤B):NumZ B' w z x n:=by
 obtain ⟨neg,t,i,j⟩:=h; exact ⟨neg,t,i.mono hb,j⟩
def two (n:Nat):List Nat:=trimL [n % 1000000000,n / 1000000000]
theorem two_ok (n:Nat) (h:n<1000000000000000000):okL (two n):=trimL_ok _ fun x hx=>by
 simp at hx
 rcases hx with rfl|rfl<;>omega
theorem two_trim (n:Nat):isTrim (two n):=trimL_trim _
theorem two_val (n:Nat):val (two n)=n:=by
 unfold two; rw [val_trimL]; simp only [val]; omega
theorem two_len (n:Nat):(two n).length≤2:=by
 have:=trimL_len [n % 1000000000,n / 1000000000]
 simpa [two] using this
theorem l1Small_any (x:Int) (w:World) (h1 : -2000000000000000000<x) (h2:x<2000000000000000000) :
 Calls Tryz.prog 20 #[.int .i64 x] w fun e w'=>∃ z,e=.returned z∧NumZ w.heap.size w' z x 3∧Up w w':=by
 by_cases D:x<1000000000000000000 ∧ -1000000000000000000<x
 ·obtain ⟨s1,s2⟩:=D
  go_enter Tryz.func20,Tryz.ntmps20
  go_wp2
  have E:sg (decide (x<0)) (val (two x.natAbs))=x:=by
   rw [two_val]; unfold sg
   by_cases h:x<0<;>simp [h]<;>omega
  refine bodyPost_ret (v:=.agg #[.int .i64 x,.bool false,.slice none 0 0]) ?_ rfl ⟨_,rfl,⟨decide (x<0),two x.natAbs,⟨two_ok _ (by omega),two_trim _,.inr ⟨two_len _,?_⟩⟩,E,Nat.le_trans (two_len _) (by omega)⟩,?_⟩
  ·simp [results,Tryz.results20,go_sem]
  ·rw [E]
  exact below_alloc _ _
 obtain ⟨n,hn⟩:∃ n:Nat,x.natAbs=n:=⟨_,rfl⟩; obtain ⟨u,G⟩:∃ u:Int,(n:Int)=u:=⟨_,rfl⟩; have i:Hid (okL [n % 1000000000,n / 1000000000 % 1000000000,n / 1000000000 / 1000000000]∧isTrim [n % 1000000000,n / 1000000000 % 1000000000,n / 1000000000 / 1000000000]∧sg (decide (x<0)) (val [n % 1000000000,n / 1000000000 % 1000000000,n / 1000000000 / 1000000000])=x):=by
  refine ⟨fun y hy=>by simp at hy; omega,fun _=>by simp; omega,?_⟩; have:val [n % 1000000000,n / 1000000000 % 1000000000,n / 1000000000 / 1000000000]=n:=by simp only [val]; omega
  rw [this]; unfold sg
  by_cases h:x<0<;>simp [h]<;>omega
 have t:Hid (∀ W:World,IsL (W.heap.size) (W.alloc (.cells #[.int .u32 (u % 1000000000),.int .u32 (u / 1000000000 % 1000000000),.int .u32 (u / 1000000000 / 1000000000)] 85)) (.slice (some ⟨W.heap.size,0,none⟩) 3 3) [n % 1000000000,n / 1000000000 % 1000000000,n / 1000000000 / 1000000000]):=fun W=>
  isL_three _ _ _ _ _ _ (by omega) (by omega) (by omega) (by omega) (by omega) (by omega) rfl leR
 obtain ⟨L,A⟩:=exW ([n % 1000000000,n / 1000000000 % 1000000000,n / 1000000000 / 1000000000]); have F:L.length=3:=by rw [← A]; rfl
 rw [A] at i t; clear A; have I:u<2000000000000000000:=by omega
 have H:1000000000000000000≤u:=by omega
 by_cases j:x<0
 ·obtain rfl:x = -u:=by omega
  have s:decide (-u<0)=true:=decide_eq_true j; rw [s] at i; clear G hn s D
  go_enter Tryz.func20,Tryz.ntmps20
  go_wp2
  have hl:=t.o (w.alloc (.cells #[.int .i64 0,.bool true,.slice (some ⟨w.heap.size+1,0,none⟩) 3 3] 49)); have m:(w.alloc (.cells #[.int .i64 0,.bool true,.slice (some ⟨w.heap.size+1,0,none⟩) 3 3] 49)).heap.size=w.heap.size+1:=by simp
  rw [m] at hl; refine bodyPost_ret (v:=.agg #[.int .i64 0,.bool true,.slice (some ⟨w.heap.size+1,0,none⟩) 3 3]) ?_ rfl ⟨_,rfl,⟨true,L,IsZ.mono (B:=w.heap.size+1) ⟨i.o.1,i.o.2.1,.inl ⟨by omega,_,rfl,hl⟩⟩ (Nat.le_succ _),i.o.2.2,by omega⟩,below_al (below_alloc _ _) _⟩; simp [results,Tryz.results20,go_sem]
 obtain rfl:x=u:=by omega
 have s:decide (x<0)=false:=decide_eq_false j; rw [s] at i; clear G hn s D
 go_enter Tryz.func20,Tryz.ntmps20
 go_wp2
 have hl:=t.o (w.alloc (.cells #[.int .i64 0,.bool false,.slice (some ⟨w.heap.size+1,0,none⟩) 3 3] 49)); have m:(w.alloc (.cells #[.int .i64 0,.bool false,.slice (some ⟨w.heap.size+1,0,none⟩) 3 3] 49)).heap.size=w.heap.size+1:=by simp
 rw [m] at hl; refine bodyPost_ret (v:=.agg #[.int .i64 0,.bool false,.slice (some ⟨w.heap.size+1,0,none⟩) 3 3]) ?_ rfl ⟨_,rfl,⟨false,L,IsZ.mono (B:=w.heap.size+1) ⟨i.o.1,i.o.2.1,.inl ⟨by omega,_,rfl,hl⟩⟩ (Nat.le_succ _),i.o.2.2,by omega⟩,below_al (below_alloc _ _) _⟩; simp [results,Tryz.results20,go_sem]
theorem sg_negOf (n:Bool) (t:List Nat):sg (negOf n t) (val t)=sg n (val t):=by
 cases t with
 | nil=>cases n<;>simp [negOf,sg,val]
 | cons a t=>simp [negOf]
theorem sg_not (n:Bool) (v:Nat):sg (!n) v = -sg n v:=by cases n<;>simp [sg]
theorem sg_add (s:Bool) (u v:Nat):sg s (u+v)=sg s u+sg s v:=by cases s<;>simp [sg]<;>omega
theorem sg_sub (s:Bool) (d u v:Nat) (h:d+v=u):sg s d=sg s u+sg (!s) v:=by cases s<;>simp [sg]<;>omega
theorem sg_lt (s:Bool) (t:List Nat) (hok:okL t) (h2:t.length≤2) : -1000000000000000000<sg s (val t)∧sg s (val t)<1000000000000000000:=by
 have h:=vfrom_lt t hok 0 (by omega); unfold vfrom at h; rw [List.drop_zero] at h
 cases s<;>simp [sg]<;>omega
theorem l1Minus_any (B:Nat) (z:Value) (neg:Bool) (t:List Nat) (w:World) (h:IsZ B w z neg t) :
 Calls Tryz.prog 32 #[z] w fun e w'=>∃ z',e=.returned z'∧IsZ B w' z' (!neg) t∧Up w w':=by
 have A:=Hd h; obtain ⟨i,m,h⟩:=h
 rcases h with ⟨s,v,rfl,a,cap,rfl,hl,j,_,_⟩|⟨s,rfl⟩
 ·have K:0<t.length:=by omega
  unfold maxLen at j; have J:((t.length:Int)==0)=false:=by rw [beq_eq_false_iff_ne]; omega
  go_enter Tryz.func32,Tryz.ntmps32
  go_wp2_with (go_at_call 39; refine (l1IsSmall_ex _ _ _ _ _ _).mono ?_; rintro e w' ⟨rfl,rfl⟩)
  refine bodyPost_ret (v:=.agg #[.int .i64 0,.bool !neg,.slice a t.length cap]) ?_ rfl ⟨_,rfl,⟨i,m,.inl ⟨s,_,rfl,?_⟩⟩,below_al (below_al (below_alloc _ _) _) _⟩
  ·simp [results,Tryz.results32,go_sem]
  obtain ⟨_,_,h3⟩:=A.o
  rcases h3 with ⟨_,v,E,G⟩|⟨h4,_⟩
  ·simp at E; subst E; exact G.below (below_al (below_al (below_alloc _ _) _) _)
  omega
 obtain ⟨n,hn⟩:=exW (sg neg (val t)); have D:=sg_lt neg t i s; have F:Hid (sg (!neg) (val t) = -n):=by rw [← hn]; exact sg_not neg (val t)
 have u:Hid (okL t∧isTrim t∧t.length≤2):=⟨i,m,s⟩; rw [hn] at D ⊢; obtain ⟨H,I⟩:=D; clear hn A
 go_enter Tryz.func32,Tryz.ntmps32
 go_wp2_with (go_at_call 39; refine (l1IsSmall_ex _ _ _ _ _ _).mono ?_; rintro e w' ⟨rfl,rfl⟩)
 refine bodyPost_ret (v:=.agg #[.int .i64 (-n),.bool false,.slice none 0 0]) ?_ rfl ⟨_,rfl,⟨u.o.1,u.o.2.1,.inr ⟨u.o.2.2,by rw [F.o]⟩⟩,below_al (below_al (below_alloc _ _) _) _⟩; simp [results,Tryz.results32,go_sem]
def IsN (B:Nat) (w:World) (z:Value) (x:Int):Prop:=∃ neg t,IsZ B w z neg t∧sg neg (val t)=x
theorem IsN.below {B:Nat} {w w':World} {z:Value} {x:Int} (h:IsN B w z x) (hb:Up w w'):IsN B w' z x:=by
 obtain ⟨neg,t,i,j⟩:=h; exact ⟨neg,t,i.below hb,j⟩
theorem IsN.mono {B B':Nat} {w:World} {z:Value} {x:Int} (h:IsN B w z x) (hb:B'≤B):IsN B' w z x:=by
 obtain ⟨neg,t,i,j⟩:=h; exact ⟨neg,t,i.mono hb,j⟩
theorem IsN.setCell {B:Nat} {w:World} {z:Value} {x:Int} (h:IsN B w z x) (p:Addr) (u:Value) (hp:p.block<B):IsN B (w.setCell p u) z x:=by
 obtain ⟨neg,t,i,j⟩:=h; exact ⟨neg,t,i.setCell p u hp,j⟩
theorem IsN.shape {B:Nat} {w:World} {z:Value} {x:Int} (h:IsN B w z x):∃ (z0:Int) (zn:Bool) (za:Option Addr) (zl zc:Nat),z=.agg #[.int .i64 z0,.bool zn,.slice za zl zc]:=by
 obtain ⟨neg,t,i,j⟩:=h; exact i.shape
structure Boxes (g:Nat) (W:World) (x:Int) (xn:Bool) (pa:Option Addr) (la ca:Nat) (y:Int) (yn:Bool) (pb:Option Addr) (lb cb:Nat):Prop where
 a0:W.cell? ⟨g,0,none⟩=some (.int .i64 x)
 a1:W.cell? ⟨g,1,none⟩=some (.bool xn)
 a2:W.cell? ⟨g,2,none⟩=some (.slice pa la ca)
 b0:W.cell? ⟨g+1,0,none⟩=some (.int .i64 y)
 b1:W.cell? ⟨g+1,1,none⟩=some (.bool yn)
 b2:W.cell? ⟨g+1,2,none⟩=some (.slice pb lb cb)
 r0:W.cell? ⟨g+2,0,none⟩=some (.int .i64 0)
 r1:W.cell? ⟨g+2,1,none⟩=some (.bool false)
 r2:W.cell? ⟨g+2,2,none⟩=some (.slice none 0 0)
 f0:W.frozen? ⟨g+2,0,none⟩=false
 f1:W.frozen? ⟨g+2,1,none⟩=false
 f2:W.frozen? ⟨g+2,2,none⟩=false
theorem Boxes.below {g:Nat} {W W':World} {x:Int} {xn:Bool} {pa:Option Addr} {la ca:Nat} {y:Int} {yn:Bool} {pb:Option Addr} {lb cb:Nat} (h:Boxes g W x xn pa la ca y yn pb lb cb) {N:Nat} (hN:g+3≤N) (hb:Below N W W'):Boxes g W' x xn pa la ca y yn pb lb cb:=by
 have q:∀ k,k<3→∀ i,W'.cell? ⟨g+k,i,none⟩=W.cell? ⟨g+k,i,none⟩:=fun k hk i=>hb.cell (p:=⟨g+k,i,none⟩) (by show g+k<N; omega); have f:∀ i,W'.frozen? ⟨g+2,i,none⟩=W.frozen? ⟨g+2,i,none⟩:=fun i=>hb.frozen (p:=⟨g+2,i,none⟩) (by show g+2<N; omega); exact ⟨(q 0 (by omega) 0).trans h.a0,(q 0 (by omega) 1).trans h.a1,(q 0 (by omega) 2).trans h.a2,(q 1 (by omega) 0).trans h.b0,(q 1 (by omega) 1).trans h.b1,(q 1 (by omega) 2).trans h.b2,(q 2 (by omega) 0).trans h.r0,(q 2 (by omega) 1).trans h.r1,(q 2 (by omega) 2).trans h.r2,(f 0).trans h.f0,(f 1).trans h.f1,(f 2).trans h.f2⟩
theorem boxes_first (w:World) (x:Int) (xn:Bool) (pa:Option Addr) (la ca:Nat) (y:Int) (yn:Bool) (pb:Option Addr) (lb cb:Nat) (ty:TypeId) :
 Boxes w.heap.size (((w.alloc (.cells #[.int .i64 x,.bool xn,.slice pa la ca] ty)).alloc (.cells #[.int .i64 y,.bool yn,.slice pb lb cb] ty)).alloc (.cells #[.int .i64 0,.bool false,.slice none 0 0] ty)) x xn pa la ca y yn pb lb cb:=by
 constructor
 ·rw [World.cell?_alloc_past _ _ _ (by simp; omega),World.cell?_alloc_past _ _ _ (by simp),World.cell?_alloc_at _ _ _ _ rfl]; rfl
 ·rw [World.cell?_alloc_past _ _ _ (by simp; omega),World.cell?_alloc_past _ _ _ (by simp),World.cell?_alloc_at _ _ _ _ rfl]; rfl
 ·rw [World.cell?_alloc_past _ _ _ (by simp; omega),World.cell?_alloc_past _ _ _ (by simp),World.cell?_alloc_at _ _ _ _ rfl]; rfl
 ·rw [World.cell?_alloc_past _ _ _ (by simp),World.cell?_alloc_at _ _ _ _ (by simp)]; rfl
 ·rw [World.cell?_alloc_past _ _ _ (by simp),World.cell?_alloc_at _ _ _ _ (by simp)]; rfl
 ·rw [World.cell?_alloc_past _ _ _ (by simp),World.cell?_alloc_at _ _ _ _ (by simp)]; rfl
 ·rw [World.cell?_alloc_at _ _ _ _ (by simp)]; rfl
 ·rw [World.cell?_alloc_at _ _ _ _ (by simp)]; rfl
 ·rw [World.cell?_alloc_at _ _ _ _ (by simp)]; rfl
 ·rw [World.frozen?_alloc_at _ _ _ _ (by simp)]
 ·rw [World.frozen?_alloc_at _ _ _ _ (by simp)]
 rw [World.frozen?_alloc_at _ _ _ _ (by simp)]
theorem l1Add_small (x y:Int) (w:World) (hx1 : -1000000000000000000<x) (hx2:x<1000000000000000000) (hy1 : -1000000000000000000<y) (hy2:y<1000000000000000000) :
 Calls Tryz.prog 68 #[.agg #[.int .i64 x,.bool false,.slice none 0 0],.agg #[.int .i64 y,.bool false,.slice none 0 0]] w fun e w'=>∃ z,e=.returned z∧IsN w.heap.size w' z (x+y)∧Up w w':=by
 have K:=boxes_first w x false none 0 0 y false none 0 0 49; obtain ⟨j,i⟩:=exW (((w.alloc (.cells #[.int .i64 x,.bool false,.slice none 0 0] 49)).alloc (.cells #[.int .i64 y,.bool false,.slice none 0 0] 49)).alloc (.cells #[.int .i64 0,.bool false,.slice none 0 0] 49)); have J:=Hd i; have G:Hid (Up w j):=by rw [← i]; exact below_al (below_al (below_alloc _ _) _) _
 have F:j.heap.size=w.heap.size+3:=by rw [← i]; simp
 have A:w.heap.size<j.heap.size:=by omega
 have D:w.heap.size+1<j.heap.size:=by omega
 have E:w.heap.size+2<j.heap.size:=by omega
 rw [i] at K; have Q:=Hd F; have s:=K; obtain ⟨a0,a1,a2,b0,b1,b2,r0,r1,r2,f0,f1,f2⟩:=K; have I:Hid (Boxes w.heap.size j x false none 0 0 y false none 0 0):=s; clear i F s
 go_enter Tryz.func68,Tryz.ntmps68
 go_wp2_with fail
 rw [J.o]; refine (l1IsSmall_ex _ _ _ _ _ _).mono ?_; rintro e w' ⟨rfl,rfl⟩
 go_wp2_with (go_at_call 39; refine (l1IsSmall_ex _ _ _ _ _ _).mono ?_; rintro e w' ⟨rfl,rfl⟩)
 refine (l1Small_any _ _ (by omega) (by omega)).mono ?_; rintro e O ⟨z,rfl,⟨neg,t,L,S,_⟩,u⟩; have T:Hid (IsN (w.heap.size+3) O z (x+y)):=⟨neg,t,L.mono (by have:=Q.o; simp; omega),S⟩; have m:Up j O:=(below_al (below_alloc j _) _).trans (u.mono (by simp; omega)); have H:Hid (Up w O):=G.o.trans (m.mono (by omega)); clear a0 a1 a2 b0 b1 b2 r0 r1 r2 f0 f1 f2; obtain ⟨a0,a1,a2,b0,b1,b2,r0,r1,r2,f0,f1,f2⟩:=I.o.below (by have:=Q.o; omega) m; obtain ⟨U,Z,V,Y,W,M⟩:=L.shape; subst M; clear L S u m A D E
 go_wp2
 refine bodyPost_ret ?_ rfl ⟨_,rfl,(((T.o.setCell _ _ (by simp)).setCell _ _ (by simp)).setCell _ _ (by simp)).mono (by omega),((H.o.setCell (by simp; omega) _).setCell (by simp; omega) _).setCell (by simp; omega) _⟩; simp [results,Tryz.results68,go_sem,r0,r1,r2]
theorem dropZ_append (a b:List UInt8) (h:dropZ a≠[]):dropZ (a++b)=dropZ a++b:=by
 induction a with
 | nil=>exact absurd rfl h
 | cons x a ih=>
   unfold dropZ at *; simp only [List.cons_append,List.dropWhile_cons] at *
   split
   ·rename_i hx; rw [if_pos hx] at h; exact ih h
   ·rfl
theorem dropZ_all (a:List UInt8) (h:dropZ a=[]):∀ x∈a,x=48:=by
 induction a with
 | nil=>intro x i; cases i
 | cons y a ih=>
   unfold dropZ at *; simp only [List.dropWhile_cons] at h
   split at h
   ·rename_i hy; intro x i
    rcases List.mem_cons.1 i with rfl|i
    ·simpa using hy
    ·exact ih h x i
   ·cases h
theorem dg_zero (x j:Nat) (h:UInt8.ofNat (dg x j)=48):x / tens j % 10=0:=by
 have i:=congrArg UInt8.toNat h; unfold dg at i; rw [UInt8.toNat_ofNat_of_lt' (by simp [UInt8.size]; omega)] at i; have:(48:UInt8).toNat=48:=rfl; omega
theorem digK_ne (x:Nat) (h0:x≠0) (h:x<1000000000):dropZ (bytesOf (digK x 9))≠[]:=by
 intro U; have m:=dropZ_all _ U; have i:∀ j,j<9→x / tens j % 10=0:=fun j hj=>dg_zero x j (m _ (by
  unfold bytesOf digK; rw [List.map_map,List.mem_map]; exact ⟨j,List.mem_range.2 hj,rfl⟩))
 have s:=i 0 (by decide); have t:=i 1 (by decide); have u:=i 2 (by decide); have A:=i 3 (by decide); have D:=i 4 (by decide); have E:=i 5 (by decide); have F:=i 6 (by decide); have G:=i 7 (by decide); have H:=i 8 (by decide); have I:tens 0=100000000:=rfl; have J:tens 1=10000000:=rfl; have K:tens 2=1000000:=rfl; have L:tens 3=100000:=rfl; have M:tens 4=10000:=rfl; have O:tens 5=1000:=rfl; have Q:tens 6=100:=rfl; have S:tens 7=10:=rfl; have T:tens 8=1:=rfl; rw [I] at s; rw [J] at t; rw [K] at u; rw [L] at A; rw [M] at D; rw [O] at E; rw [Q] at F; rw [S] at G; rw [T] at H; omega
theorem textD_ge (t:List Nat) (hok:okL t) (htr:isTrim t) (hne:t≠[]):9*(t.length - 1)+1≤(textD t).length:=by
 have hl:=htr hne; have i:=hok _ (List.getLast_mem hne); obtain ⟨u,x,rfl⟩:∃ u x,t=u++[x]:=⟨t.dropLast,t.getLast hne,(List.dropLast_concat_getLast hne).symm⟩; simp at hl i; have hn:=digK_ne x hl i; have e:bytesOf (padN (u++[x]))=bytesOf (digK x 9)++bytesOf (padN u):=by
  unfold padN bytesOf; simp
 unfold textD; rw [e,dropZ_append _ _ hn]; have j:0<(dropZ (bytesOf (digK x 9))).length:=List.length_pos_iff.2 hn; have m:(bytesOf (padN u)).length=9*u.length:=by rw [bytesOf,List.length_map,padN_length]
 have h3:(dropZ (bytesOf (digK x 9))++bytesOf (padN u)).length=(dropZ (bytesOf (digK x 9))).length+(bytesOf (padN u)).length:=List.length_append; have h4:(u++[x]).length=u.length+1:=by simp
 omega
theorem fullT_size (ng:Bool) (t:List Nat) (h:t.length≠0):(fullT ng t).size=(if ng then 1 else 0)+(textD t).length:=by
 unfold fullT; rw [if_neg h]
 cases ng
 ·simp [strB_size]
 simp [strB_size]; omega
def digC (t:List Nat):Nat:=if t.length=0 then 1 else (textD t).length
theorem l1Digits_any (B:Nat) (z:Value) (neg:Bool) (t:List Nat) (w:World) (hz:IsZ B w z neg t) (hBw:B≤w.heap.size) (hlen:t.length≤600) :
 Calls Tryz.prog 85 #[z] w fun e w'=>e=.returned (.int .i64 (digC t:Nat))∧Up w w':=by
 obtain ⟨H,J,T,I,U,S⟩:=hz.shape; subst S; have M:Hid (ngZ H J I=negOf neg t):=ngZ_of hz; obtain ⟨G,i⟩:=exW (w.alloc (.cells #[.int .i64 H,.bool J,.slice T I U] 49)); have O:=Hd i; have A:Up w G:=by rw [← i]; exact below_alloc _ _
 have a7:G.heap.size=w.heap.size+1:=by rw [← i]; simp
 have HZ:Hid (IsZ B G (.agg #[.int .i64 H,.bool J,.slice T I U]) neg t):=hz.below A; have K:=Hd A; have Z:Hid (∀ W,Up G W→W.cell? ⟨w.heap.size,0,none⟩=some (.int .i64 H)∧W.cell? ⟨w.heap.size,1,none⟩=some (.bool J)∧W.cell? ⟨w.heap.size,2,none⟩=some (.slice T I U)):=fun W hW=>by
  refine ⟨?_,?_,?_⟩
  ·rw [hW.cell (p:=⟨w.heap.size,0,none⟩) (by show w.heap.size<_; omega),← i,World.cell?_alloc_at _ _ _ _ rfl]; rfl
  ·rw [hW.cell (p:=⟨w.heap.size,1,none⟩) (by show w.heap.size<_; omega),← i,World.cell?_alloc_at _ _ _ _ rfl]; rfl
  rw [hW.cell (p:=⟨w.heap.size,2,none⟩) (by show w.heap.size<_; omega),← i,World.cell?_alloc_at _ _ _ _ rfl]; rfl
 clear hz A i
 go_enter Tryz.func85,Tryz.ntmps85
 go_wp2_with fail
 rw [O.o]; refine (l1Text_any B _ neg t _ HZ.o (by omega) hlen).mono ?_; rintro e Y ⟨rfl,D⟩; obtain ⟨c0,c1,c2⟩:=Z.o Y D; obtain ⟨m,j⟩:=exW (negOf neg t); have E:=Hd j; have u:Hid ((fullT m t).size=(if m then 1 else 0)+digC t):=by
  unfold Hid
  by_cases F:t.length=0
  ·have e1:m=false:=by rw [← j]; unfold negOf; simp [F]
   unfold fullT digC; rw [if_pos F,if_pos F,e1]; rfl
  rw [fullT_size m t F]; unfold digC; rw [if_neg F]
 have Q:(fullT m t).size≤6000:=by
  have h1:=textD_len t; have h2:=u.o; have h3:digC t≤5401:=by unfold digC; split<;>omega
  cases m<;>simp at h2<;>omega
 have L:Hid (Up w Y):=K.o.trans (D.mono (by omega)); rw [j]; clear j D; obtain ⟨s,V⟩:=exW (fullT m t); rw [V] at Q u ⊢; clear V
 go_wp2_with fail
 refine (l1Neg_ex _ _ _ _ _ _).mono ?_; rintro e w' ⟨rfl,a8⟩; subst w'; rw [M.o,E.o]
 cases m
 all_goals
  go_wp2
  go_ret
  exact ⟨ret_int (by have:=u.o; simp at this; omega),below_al L.o _⟩
end Go.Proofs.YtnhbmpnhijgpmaaGreatDoor
