import Derived.Test.YtknfmkeipeikkaaGreatDoorOfImplp
import Derived.Test.YtknfmkeipeikkaaGreatDoorPCSp
import Derived.Test.YtknfmkeipeikkaaGreatDoorM4p
set_option maxRecDepth 100000
set_option maxHeartbeats 8000000
namespace Go.Proofs.YtknfmkeipeikkaaGreatDoor
open Go.ChangeShapes Go.WideShapes Go.ChangeAt Go.RowKit
def revK (x k:Nat):List Nat:=(List.range k).map (fun j=>48+x / 10 ^ j % 10)
def revD (l:List Nat):List Nat:=l.flatMap (fun x=>revK x 9)
theorem revK_succ (x k:Nat):revK x (k+1)=revK x k++[48+x / 10 ^ k % 10]:=by simp [revK,List.range_succ]
theorem revK_length (x k:Nat):(revK x k).length=k:=by simp [revK]
theorem revD_length (l:List Nat):(revD l).length=9*l.length:=by
 unfold revD; rw [List.length_flatMap]; simp only [revK_length]; rw [List.map_const',List.sum_replicate_nat]; omega
theorem revD_snoc (l:List Nat) (x:Nat):revD (l++[x])=revD l++revK x 9:=by simp [revD]
theorem revK_rev (x:Nat):(revK x 9).reverse=digK x 9:=by
 simp [revK,digK,dg,tens,List.range_succ]
theorem revD_rev (l:List Nat):(revD l).reverse=padN l:=by
 unfold revD padN
 induction l with
 | nil=>rfl
 | cons x l ih=>rw [List.flatMap_cons,List.reverse_append,ih,List.reverse_cons,List.flatMap_append,revK_rev]; simp
theorem revD_lt (l:List Nat):∀ x∈revD l,x<256:=fun x hx=>padN_lt l x (by rw [← revD_rev]; simpa using hx)
def cutE (l:List Nat):List Nat:=(l.reverse.dropWhile (·==48))
theorem cutE_zero (D:List Nat) (j:Nat) (h:j<D.length) (h0:D.getD j 0=48):cutE (D.take (j+1))=cutE (D.take j):=by
 unfold cutE; rw [List.take_succ_eq_append_getElem h,List.reverse_append]; have:D[j]=48:=by simpa [List.getD_eq_getElem?_getD,h] using h0
 simp [this]
theorem cutE_pos (D:List Nat) (j:Nat) (h:j<D.length) (h0:D.getD j 0≠48):cutE (D.take (j+1))=(D.take (j+1)).reverse:=by
 unfold cutE; rw [List.take_succ_eq_append_getElem h,List.reverse_append]; have:D[j]≠48:=by simpa [List.getD_eq_getElem?_getD,h] using h0
 simp [this]
theorem bytes_dropZ (l:List Nat) (h:∀ x∈l,x<256):dropZ (bytesOf l)=bytesOf (l.dropWhile (·==48)):=by
 induction l with
 | nil=>rfl
 | cons x l ih=>
   have j:=h x (by simp); have e:(UInt8.ofNat x==48)=(x==48):=by
    rw [Bool.eq_iff_iff,beq_iff_eq,beq_iff_eq]; constructor
    ·intro e; have:=congrArg UInt8.toNat e; rw [UInt8.toNat_ofNat_of_lt' (by simpa using j)] at this; exact this
    ·rintro rfl; rfl
   unfold dropZ bytesOf at *; simp only [List.map_cons,List.dropWhile_cons,e]
   split
   ·exact ih (fun y hy=>h y (by simp [hy]))
   ·rfl
theorem textD_cut (l:List Nat):textD l=bytesOf (cutE (revD l)):=by
 unfold textD cutE; rw [bytes_dropZ _ (padN_lt l),revD_rev]
def fullT (ng:Bool) (t:List Nat):ByteArray:=if t.length=0 then strB [48] else if ng then strB (45::textD t) else strB (textD t)
theorem ngZ_of {B:Nat} {w:World} {z0:Int} {zn:Bool} {za:Option Addr} {zl zc:Nat} {neg:Bool} {t:List Nat} (h:IsZ B w (.agg #[.int .i64 z0,.bool zn,.slice za zl zc]) neg t):ngZ z0 zn zl=negOf neg t:=by
 obtain ⟨j,h2,h3⟩:=h
 rcases h3 with ⟨h3,v,e,p,c,rfl,_⟩|⟨h3,e⟩
 ·simp at e; obtain ⟨_,rfl,_,rfl,_⟩:=e; unfold ngZ negOf; have:0<t.length:=by omega
  simp [this]
 simp at e; obtain ⟨rfl,rfl,_,rfl,_⟩:=e; exact (negOf_small neg t h3 j h2).symm
def lenAt (s M q:Nat):Nat:=s+(M - q)
theorem lenAt_self (s M:Nat):lenAt s M M=s:=by unfold lenAt; omega
theorem lenAt_step (s M q:Nat) (h:q<M):lenAt s M (q+1)+1=lenAt s M q:=by unfold lenAt; omega
def tailU (D:List Nat) (M q:Nat):List Value:=U8s ((D.take M).drop q).reverse
theorem tailU_self (D:List Nat) (M:Nat):tailU D M M=[]:=by unfold tailU; rw [List.drop_eq_nil_of_le (List.length_take_le _ _)]; rfl
theorem tailU_step (D:List Nat) (M q:Nat) (h:q<M) (hl:M≤D.length):tailU D M q=tailU D M (q+1)++[.int .u8 (D.getD q 0:Nat)]:=by
 unfold tailU; have j:q<(D.take M).length:=by rw [List.length_take]; omega
 rw [List.drop_eq_getElem_cons j,List.getElem_take,List.getD_eq_getElem?_getD,List.getElem?_eq_getElem (by omega),List.reverse_cons,U8s_snoc]; rfl
theorem cell_one_new' (w:World) (v:Value) (t:TypeId) (g:Nat) (hg:w.heap.size=g):∀ j u,[v][j]? = some u→(w.alloc (.cells #[v] t)).cell? ((⟨g,0,none⟩:Addr).add j)=some u:=by
 subst hg; exact cell_one_new _ _ _
theorem l1Text_any (B:Nat) (z:Value) (neg:Bool) (t:List Nat) (w:World) (hz:IsZ B w z neg t) (hBw:B≤w.heap.size) (hlen:t.length≤600) :
 Calls Tryz.prog 41 #[z] w fun e w'=>e=.returned (.string (fullT (negOf neg t) t))∧Up w w':=by
 obtain ⟨z0,zn,za,zl,zc,l5⟩:=hz.shape; subst l5; obtain ⟨i0,U,i3,a9,i4⟩:=info_parts Tryz.info_u8; obtain ⟨W0,b6⟩:=exW (w.alloc (.cells #[.int .i64 z0,.bool zn,.slice za zl zc] 53)); have k7:=Hd b6; have h6:Up w W0:=by rw [← b6]; exact below_alloc _ _
 have n7:W0.heap.size=w.heap.size+1:=by rw [← b6]; simp
 have HZ:Hid (IsZ B W0 (.agg #[.int .i64 z0,.bool zn,.slice za zl zc]) neg t):=hz.below h6; have k1:=Hd h6; have HX:Hid (∀ W,Up W0 W→W.cell? ⟨w.heap.size,0,none⟩=some (.int .i64 z0)∧W.cell? ⟨w.heap.size,1,none⟩=some (.bool zn)∧W.cell? ⟨w.heap.size,2,none⟩=some (.slice za zl zc)):=fun W hW=>by
  refine ⟨?_,?_,?_⟩
  ·rw [hW.cell (p:=⟨w.heap.size,0,none⟩) (by show w.heap.size<_; omega),← b6,World.cell?_alloc_at _ _ _ _ rfl]; rfl
  ·rw [hW.cell (p:=⟨w.heap.size,1,none⟩) (by show w.heap.size<_; omega),← b6,World.cell?_alloc_at _ _ _ _ rfl]; rfl
  rw [hW.cell (p:=⟨w.heap.size,2,none⟩) (by show w.heap.size<_; omega),← b6,World.cell?_alloc_at _ _ _ _ rfl]; rfl
 have i8:Hid (ngZ z0 zn zl=negOf neg t):=ngZ_of hz; clear hz h6 b6
 go_enter Tryz.func41,Tryz.ntmps41
 go_wp2_with fail
 rw [k7.o]; refine (l1Limbs_any B _ neg t _ HZ.o (by omega)).mono ?_; rintro e K ⟨v,rfl,hv,g2⟩; obtain ⟨a,cap,rfl,hl,l9,l2,hr⟩:=hv; have m5:w.heap.size+1≤K.heap.size:=by have:=g2.size; omega
 have HC:Hid (∀ i,i<t.length→∃ b off,a=some ⟨b,off,none⟩∧b<K.heap.size∧K.cell? ⟨b,off+i,none⟩=some (.int .u32 (t.getD i 0:Nat))):=fun i hi=>by
  rcases hr with rfl|⟨b,off,rfl,_,hb,hc⟩
  ·simp at hi
  exact ⟨b,off,rfl,hb,hc i hi⟩
 have c7:=Hd g2; have O:Hid (Up w K):=k1.o.trans (g2.mono (by omega)); clear hr g2
 by_cases h0:t.length=0
 ·have HT:Hid (fullT (negOf neg t) t=strB [48]):=if_pos h0; have zz:((t.length:Int)==0)=true:=by rw [beq_iff_eq]; omega
  go_wp2
  go_ret
  exact ⟨by rw [HT.o]; rfl,O.o⟩
 have zz:((t.length:Int)==0)=false:=by rw [beq_eq_false_iff_ne]; omega
 have HT:Hid (fullT (negOf neg t) t=if negOf neg t then strB (45::textD t) else strB (textD t)):=if_neg h0
 go_wp2_with (at_make; refine wpList_make_own _ rfl _ _ 22 rfl K.heap.size 5 i0 (.int .u8 0) 1 Tryz.underlying22 U i3 a9 .i64 .i64 _ (9*t.length+1) rfl rfl ?m1 ?m2 ?m3 ?m4 ?_)
 case m1=>omega
 case m2=>rw [i4]; omega
 case m3=>unfold maxLen; omega
 case m4=>exact leR
 intro w2 f5 g3; have j4:Up K w2:=(Below.refl _ _).grown g3 leR (fun k h=>by cases h); clear g3
 go_wp2
 go_loopw [4,23] (fun v i wr=>∃ j:Nat,j≤t.length∧i=.int .i64 j∧v=.slice (some ⟨K.heap.size,0,none⟩) (9*j) (9*t.length+1) ∧
  wr.ownsRow K.heap.size 5 1 (.slice (some ⟨K.heap.size,0,none⟩) (9*j) (9*t.length+1)) (9*j) (U8s (revD (t.take j)))∧Up K wr) (fun _ i _=>t.length - (intOf i).toNat)
 case atStart=>exact ⟨0,Nat.zero_le _,rfl,rfl,f5,j4⟩
 case round=>
  clear f5 j4; obtain ⟨j,hj,rfl,rfl,H,hB⟩:=hrel
  by_cases h7:j<t.length
  ·obtain ⟨b,off,rfl,hb,T⟩:=HC.o j h7; have l4:=getD_lt t l2 j; rw [← hB.cell (p:=⟨b,off+j,none⟩) hb] at T; have j2:Hid (t.take (j+1)=t.take j++[t.getD j 0]):=by
    unfold Hid
    rw [List.take_succ_eq_append_getElem h7,List.getD_eq_getElem?_getD,List.getElem?_eq_getElem h7]; rfl
   obtain ⟨y,hy⟩:=exW (t.getD j 0); rw [hy] at T l4 j2; obtain ⟨P,hP⟩:=exW (revD (t.take j)); have HP:=Hd hP; rw [hP] at H; clear hy hP
   go_wp2_with fail
   go_loopw [4,6,7] (fun v x kk wr=>∃ k:Nat,k≤9∧kk=.int .i64 k∧x=.int .u32 (y / 10 ^ k:Nat)∧v=.slice (some ⟨K.heap.size,0,none⟩) (9*j+k) (9*t.length+1) ∧
    wr.ownsRow K.heap.size 5 1 (.slice (some ⟨K.heap.size,0,none⟩) (9*j+k) (9*t.length+1)) (9*j+k) (U8s (P++revK y k))∧Up K wr) (fun _ _ kk _=>9 - (intOf kk).toNat)
   case atStart=>exact ⟨0,Nat.zero_le _,rfl,val_int (by simp),rfl,by simpa [revK] using H,hB⟩
   case round=>
    clear H hB T; rename_i wr0; obtain ⟨k,hk,rfl,rfl,rfl,H,hB⟩:=hrel
    by_cases n6:k<9
    ·have hq:=Nat.div_le_self y (10 ^ k); have j1:Hid (y / 10 ^ (k+1)=y / 10 ^ k / 10):=by unfold Hid; rw [Nat.pow_succ,Nat.div_div_eq_div_mul]
     have g8:=revK_succ y k; obtain ⟨q,j9⟩:=exW (y / 10 ^ k); rw [j9] at hq j1 g8 ⊢; have j0:Hid (revK y (k+1)=revK y k++[48+q % 10]):=g8; clear j9 g8
     go_wp2_with (at_builtin; refine wpList_append_fits _ rfl _ _ 22 rfl K.heap.size 5 i0 1 Tryz.underlying22 U a9 K.heap.size (9*j+k) (9*t.length+1) _ rfl (H.alloc _) ⟨wr.heap.size,0,none⟩ 1 1 [_] rfl rfl (cell_one_new _ _ _) ?c1 ?c2 ?_)
     case c1=>first|rfl|(intro u hu; simp at hu; subst hu; rfl)
     case c2=>omega
     intro w3 f7 g4; have k9:Up K w3:=(hB.alloc hB.size _).grown g4 (by have:=hB.size; simp; omega) (fun k e=>by cases e; exact leR); have k5:Hid (w3.ownsRow K.heap.size 5 1 (.slice (some ⟨K.heap.size,0,none⟩) (9*j+(k+1)) (9*t.length+1)) (9*j+(k+1)) (U8s (P++revK y (k+1)))):=by
      unfold Hid
      rw [j0.o,← List.append_assoc,U8s_snoc]
      simpa [← Nat.add_assoc] using f7
     clear f7 g4 H hB
     go_wp2
     go_roundw
     case rel=>exact ⟨k+1,by omega,by go_num,by rw [j1.o]; exact val_int (by simp),rfl,k5.o,k9⟩
     case measure=>simp [intOf]; omega
    ·obtain rfl:k=9:=by omega
     have b3:Hid (wr.ownsRow K.heap.size 5 1 (.slice (some ⟨K.heap.size,0,none⟩) (9*(j+1)) (9*t.length+1)) (9*(j+1)) (U8s (revD (t.take (j+1))))):=by
      unfold Hid
      rw [j2.o,revD_snoc,HP.o]; exact H
     clear H
     go_wp2
     go_roundw
     case rel=>exact ⟨j+1,by omega,by go_num,rfl,b3.o,hB⟩
     case measure=>simp [intOf]; omega
  ·obtain rfl:j=t.length:=by omega
   generalize l1:wr=E at *; clear l1; rw [List.take_length] at H; have g5:=revD_length t; have g9:=textD_cut t; have d8:=revD_lt t; obtain ⟨D,hD⟩:=exW (revD t); rw [hD] at H g5 g9 d8; have J:Hid (D.length=9*t.length):=g5; have b8:Hid (textD t=bytesOf (cutE D)):=g9; have Z:Hid (∀ x∈D,x<256):=d8; have d9:=Hd H; have g7:Hid (∀ W:World,W.ownsRow K.heap.size 5 1 (.slice (some ⟨K.heap.size,0,none⟩) (9*t.length) (9*t.length+1)) (9*t.length) (U8s D)→∀ i,i<9*t.length→W.cell? ⟨K.heap.size,i,none⟩=some (.int .u8 (D.getD i 0:Nat))):=fun W hW i hi=>by
    have:=hW.cells (g:=K.heap.size) rfl i (.int .u8 (D.getD i 0:Nat)) (by rw [List.getElem?_map]; simp [List.getD_eq_getElem?_getD,show i<D.length by omega])
    by_cases i0:i=0
    ·subst i0; simpa [Addr.add] using this
    ·simpa [Addr.add,i0] using this
   have c9:=Hd hB; clear H g5 g9 d8 hD hB
   go_wp2
   go_loop [8] (fun n=>∃ m:Nat,m≤9*t.length∧n=.int .i64 m∧cutE (D.take m)=cutE D) (fun n=>(intOf n).toNat)
   case atStart=>exact ⟨9*t.length,leR,val_int (by omega),by rw [← J.o,List.take_length]⟩
   case round=>
    obtain ⟨m,hm,rfl,hp⟩:=hrel; have HP:=Hd hp; clear hp; obtain ⟨ng,j8⟩:=exW (negOf neg t); have a3:=Hd j8; clear j8
    cases m with
    | zero=>
      have HM:Hid (cutE D=(D.take 0).reverse):=HP.o.symm.trans rfl
      go_wp2_with (at_make; refine wpList_make_own _ rfl _ _ 22 rfl E.heap.size 5 i0 (.int .u8 0) 1 Tryz.underlying22 U i3 a9 .i64 .i64 _ (0+1) rfl rfl ?am1 ?am2 ?am3 ?am4 ?_)
      try (case am1=>(omega))
      try (case am2=>(first|omega|(rw [i4]; omega)))
      try (case am3=>(unfold maxLen; omega))
      try (case am4=>(exact leR))
      intro w4 Y a6; have b5:Up E w4:=(Below.refl _ _).grown a6 leR (fun k h=>by cases h); have i1:K.heap.size<E.heap.size:=(d9.o.lt _ rfl).2; have d6:Hid (Up W0 w4):=c7.o.trans ((c9.o.mono c7.o.size).trans (b5.mono (by have:=c7.o.size; omega))); obtain ⟨c0,c1,c2⟩:=HX.o w4 d6.o; have b3:=Hd Y; have M:=Hd b5; clear a6 Y b5
      go_wp2_with fail
      refine (l1Neg_ex _ _ _ _ _ _).mono ?_; rintro e w' ⟨rfl,l3⟩; subst w'; rw [i8.o,a3.o]
      cases ng
      ·have b4:Hid (fullT (negOf neg t) t=strB (bytesOf (D.take (0)).reverse)):=by rw [HT.o,a3.o,b8.o,HM.o]; rfl
       have I:=b3.o.alloc (.cells #[.int .i64 z0,.bool zn,.slice za zl zc] 53); have s:Up E (w4.alloc (.cells #[.int .i64 z0,.bool zn,.slice za zl zc] 53)):=M.o.alloc M.o.size _; obtain ⟨W5,e6⟩:=exW (w4.alloc (.cells #[.int .i64 z0,.bool zn,.slice za zl zc] 53)); rw [e6] at I s ⊢; clear e6
       go_wp2
       go_loopw [9,10] (fun v i wr=>∃ q:Nat,q≤0∧i=.int .i64 (q - 1)∧v=.slice (some ⟨E.heap.size,0,none⟩) (lenAt 0 (0) q) (0+1) ∧
        wr.ownsRow E.heap.size 5 1 (.slice (some ⟨E.heap.size,0,none⟩) (lenAt 0 (0) q) (0+1)) (lenAt 0 (0) q) (tailU D (0) q)∧Up E wr) (fun _ i _=>(intOf i+1).toNat)
       case atStart=>
        refine ⟨0,leR,val_int (by omega),by rw [lenAt_self],?_,s⟩; rw [lenAt_self,tailU_self]
        simpa using I
       case round=>
        clear I s; obtain ⟨q,hq,rfl,rfl,I,s⟩:=hrel
        cases q with
        | zero=>
          have e9:tailU D (0) 0=U8s ((D.take (0)).reverse):=by unfold tailU; rw [List.drop_zero]
          rw [e9] at I; have b7:=conv_bytes _ _ _ _ _ _ I (by
           intro x hx; have h:=hx; exact Z.o x (List.mem_of_mem_take (List.mem_reverse.1 h))) (by unfold lenAt; rw [List.length_reverse,List.length_take,J.o]; omega)
          have V:Hid (Up w wr):=O.o.trans ((c9.o.mono O.o.size).trans (s.mono (by have:=O.o.size; omega))); clear I s e9
          go_wp2
          go_ret
          exact ⟨by rw [b4.o]; rfl,V.o⟩
        | succ q=>exact absurd hq (Nat.not_succ_le_zero q)
      ·have b4:Hid (fullT (negOf neg t) t=strB (bytesOf ([45]++(D.take (0)).reverse))):=by rw [HT.o,a3.o,b8.o,HM.o]; rfl
       have e4:=b3.o.alloc (.cells #[.int .i64 z0,.bool zn,.slice za zl zc] 53)
       go_wp2_with (at_builtin; refine wpList_append_fits _ rfl _ _ 22 rfl E.heap.size 5 i0 1 Tryz.underlying22 U a9 E.heap.size 0 (0+1) _ rfl (e4.alloc _) ⟨w4.heap.size+1,0,none⟩ 1 1 [.int .u8 45] rfl rfl ?ad0 ?ad1 ?ad2 ?_)
       try (case ad0=>(exact cell_one_new' _ _ _ _ (by simp)))
       try (case ad1=>(first|rfl|(intro u hu; simp at hu; subst hu; rfl)))
       try (case ad2=>(omega))
       intro W5 I a7; have s:Up E W5:=((M.o.alloc M.o.size _).alloc (by have:=M.o.size; simp; omega) _).grown a7 (by have:=M.o.size; simp; omega) (fun k e=>by cases e; exact leR); clear a7 e4
       go_wp2
       go_loopw [9,10] (fun v i wr=>∃ q:Nat,q≤0∧i=.int .i64 (q - 1)∧v=.slice (some ⟨E.heap.size,0,none⟩) (lenAt 1 (0) q) (0+1) ∧
        wr.ownsRow E.heap.size 5 1 (.slice (some ⟨E.heap.size,0,none⟩) (lenAt 1 (0) q) (0+1)) (lenAt 1 (0) q) ([.int .u8 45]++tailU D (0) q)∧Up E wr) (fun _ i _=>(intOf i+1).toNat)
       case atStart=>
        refine ⟨0,leR,val_int (by omega),by rw [lenAt_self],?_,s⟩; rw [lenAt_self,tailU_self]
        simpa using I
       case round=>
        clear I s; obtain ⟨q,hq,rfl,rfl,I,s⟩:=hrel
        cases q with
        | zero=>
          have e9:[.int .u8 45]++tailU D (0) 0=U8s ([45]++(D.take (0)).reverse):=by unfold tailU; rw [List.drop_zero]; rfl
          rw [e9] at I; have b7:=conv_bytes _ _ _ _ _ _ I (by
           intro x hx
           rcases List.mem_append.1 hx with h|h
           ·simp at h; omega
           ·exact Z.o x (List.mem_of_mem_take (List.mem_reverse.1 h))) (by unfold lenAt; rw [List.length_append,List.length_reverse,List.length_take,J.o]; simp only [List.length_cons,List.length_nil]; omega)
          have V:Hid (Up w wr):=O.o.trans ((c9.o.mono O.o.size).trans (s.mono (by have:=O.o.size; omega))); clear I s e9
          go_wp2
          go_ret
          exact ⟨by rw [b4.o]; rfl,V.o⟩
        | succ q=>exact absurd hq (Nat.not_succ_le_zero q)
    | succ m=>
      have T:=g7.o E d9.o m (by omega); have j7:m<D.length:=by rw [J.o]; omega
      by_cases d1:D.getD m 0=48
      ·have HN:Hid (cutE (D.take m)=cutE D):=(cutE_zero D m j7 d1).symm.trans HP.o; rw [d1] at T; clear d1
       go_wp2
       go_round
       case rel=>exact ⟨m,by omega,val_int (by omega),HN.o⟩
       case measure=>simp [intOf]
      ·have HM:Hid (cutE D=(D.take (m+1)).reverse):=HP.o.symm.trans (cutE_pos D m j7 d1); obtain ⟨d0,j6⟩:=exW (D.getD m 0); rw [j6] at T d1; have n4:((d0:Int)==48)=false:=by rw [beq_eq_false_iff_ne]; omega
       clear j6 d1
       go_wp2_with (at_make; refine wpList_make_own _ rfl _ _ 22 rfl E.heap.size 5 i0 (.int .u8 0) 1 Tryz.underlying22 U i3 a9 .i64 .i64 _ ((m+1)+1) rfl rfl ?bm1 ?bm2 ?bm3 ?bm4 ?_)
       try (case bm1=>(omega))
       try (case bm2=>(first|omega|(rw [i4]; omega)))
       try (case bm3=>(unfold maxLen; omega))
       try (case bm4=>(exact leR))
       intro w4 Y a6; have b5:Up E w4:=(Below.refl _ _).grown a6 leR (fun k h=>by cases h); have i1:K.heap.size<E.heap.size:=(d9.o.lt _ rfl).2; have d6:Hid (Up W0 w4):=c7.o.trans ((c9.o.mono c7.o.size).trans (b5.mono (by have:=c7.o.size; omega))); obtain ⟨c0,c1,c2⟩:=HX.o w4 d6.o; have b3:=Hd Y; have M:=Hd b5; clear a6 Y b5
       go_wp2_with fail
       refine (l1Neg_ex _ _ _ _ _ _).mono ?_; rintro e w' ⟨rfl,l3⟩; subst w'; rw [i8.o,a3.o]
       cases ng
       ·have b4:Hid (fullT (negOf neg t) t=strB (bytesOf (D.take ((m+1))).reverse)):=by rw [HT.o,a3.o,b8.o,HM.o]; rfl
        have I:=b3.o.alloc (.cells #[.int .i64 z0,.bool zn,.slice za zl zc] 53); have s:Up E (w4.alloc (.cells #[.int .i64 z0,.bool zn,.slice za zl zc] 53)):=M.o.alloc M.o.size _; obtain ⟨W5,e6⟩:=exW (w4.alloc (.cells #[.int .i64 z0,.bool zn,.slice za zl zc] 53)); rw [e6] at I s ⊢; clear e6
        go_wp2
        go_loopw [9,10] (fun v i wr=>∃ q:Nat,q≤(m+1)∧i=.int .i64 (q - 1)∧v=.slice (some ⟨E.heap.size,0,none⟩) (lenAt 0 ((m+1)) q) ((m+1)+1) ∧
         wr.ownsRow E.heap.size 5 1 (.slice (some ⟨E.heap.size,0,none⟩) (lenAt 0 ((m+1)) q) ((m+1)+1)) (lenAt 0 ((m+1)) q) (tailU D ((m+1)) q)∧Up E wr) (fun _ i _=>(intOf i+1).toNat)
        case atStart=>
         refine ⟨(m+1),leR,val_int (by omega),by rw [lenAt_self],?_,s⟩; rw [lenAt_self,tailU_self]
         simpa using I
        case round=>
         clear I s; obtain ⟨q,hq,rfl,rfl,I,s⟩:=hrel
         cases q with
         | zero=>
           have e9:tailU D ((m+1)) 0=U8s ((D.take ((m+1))).reverse):=by unfold tailU; rw [List.drop_zero]
           rw [e9] at I; have b7:=conv_bytes _ _ _ _ _ _ I (by
            intro x hx; have h:=hx; exact Z.o x (List.mem_of_mem_take (List.mem_reverse.1 h))) (by unfold lenAt; rw [List.length_reverse,List.length_take,J.o]; omega)
           have V:Hid (Up w wr):=O.o.trans ((c9.o.mono O.o.size).trans (s.mono (by have:=O.o.size; omega))); clear I s e9
           go_wp2
           go_ret
           exact ⟨by rw [b4.o]; rfl,V.o⟩
         | succ q=>
           have e7:wr.cell? ⟨K.heap.size,q,none⟩=some (.int .u8 (D.getD q 0:Nat)):=(s.cell (p:=⟨K.heap.size,q,none⟩) i1).trans (g7.o E d9.o q (by omega)); have e0:Hid (tailU D ((m+1)) q=tailU D ((m+1)) (q+1)++[.int .u8 (D.getD q 0:Nat)]):=tailU_step D ((m+1)) q (by omega) (by rw [J.o]; omega); have e8:D.getD q 0<256:=by
            rw [List.getD_eq_getElem?_getD,List.getElem?_eq_getElem (by rw [J.o]; omega)]; exact Z.o _ (List.getElem_mem _)
           obtain ⟨d,hd⟩:=exW (D.getD q 0); rw [hd] at e7 e0 e8; clear hd; have h9:q<9*t.length:=by omega
           have a5:Hid (lenAt 0 ((m+1)) (q+1)+1=lenAt 0 ((m+1)) q):=lenAt_step _ _ _ (by omega); have d7:Hid (lenAt 0 ((m+1)) (q+1)+1≤(m+1)+1):=by unfold Hid; unfold lenAt; omega
           go_wp2_with (at_builtin; refine wpList_append_fits _ rfl _ _ 22 rfl E.heap.size 5 i0 1 Tryz.underlying22 U a9 E.heap.size (lenAt 0 ((m+1)) (q+1)) ((m+1)+1) _ rfl (I.alloc _) ⟨wr.heap.size,0,none⟩ 1 1 [_] rfl rfl (cell_one_new _ _ _) ?bfc1 ?bfc2 ?_)
           try (case bfc1=>(first|rfl|(intro u hu; simp at hu; subst hu; rfl)))
           try (case bfc2=>(exact d7.o))
           intro w6 e5 a8; have h1:Up E w6:=(s.alloc s.size _).grown a8 (by have:=s.size; simp; omega) (fun k e=>by cases e; exact leR); have g6:Hid (w6.ownsRow E.heap.size 5 1 (.slice (some ⟨E.heap.size,0,none⟩) (lenAt 0 ((m+1)) q) ((m+1)+1)) (lenAt 0 ((m+1)) q) (tailU D ((m+1)) q)):=by
            unfold Hid
            rw [e0.o,← a5.o]
            simpa using e5
           clear e5 a8 I s e7
           go_wp2
           go_roundw
           case rel=>exact ⟨q,by omega,val_int (by omega),by rw [a5.o],g6.o,h1⟩
           case measure=>simp [intOf]
       ·have b4:Hid (fullT (negOf neg t) t=strB (bytesOf ([45]++(D.take ((m+1))).reverse))):=by rw [HT.o,a3.o,b8.o,HM.o]; rfl
        have e4:=b3.o.alloc (.cells #[.int .i64 z0,.bool zn,.slice za zl zc] 53)
        go_wp2_with (at_builtin; refine wpList_append_fits _ rfl _ _ 22 rfl E.heap.size 5 i0 1 Tryz.underlying22 U a9 E.heap.size 0 ((m+1)+1) _ rfl (e4.alloc _) ⟨w4.heap.size+1,0,none⟩ 1 1 [.int .u8 45] rfl rfl ?bd0 ?bd1 ?bd2 ?_)
        try (case bd0=>(exact cell_one_new' _ _ _ _ (by simp)))
        try (case bd1=>(first|rfl|(intro u hu; simp at hu; subst hu; rfl)))
        try (case bd2=>(omega))
        intro W5 I a7; have s:Up E W5:=((M.o.alloc M.o.size _).alloc (by have:=M.o.size; simp; omega) _).grown a7 (by have:=M.o.size; simp; omega) (fun k e=>by cases e; exact leR); clear a7 e4
        go_wp2
        go_loopw [9,10] (fun v i wr=>∃ q:Nat,q≤(m+1)∧i=.int .i64 (q - 1)∧v=.slice (some ⟨E.heap.size,0,none⟩) (lenAt 1 ((m+1)) q) ((m+1)+1) ∧
         wr.ownsRow E.heap.size 5 1 (.slice (some ⟨E.heap.size,0,none⟩) (lenAt 1 ((m+1)) q) ((m+1)+1)) (lenAt 1 ((m+1)) q) ([.int .u8 45]++tailU D ((m+1)) q)∧Up E wr) (fun _ i _=>(intOf i+1).toNat)
        case atStart=>
         refine ⟨(m+1),leR,val_int (by omega),by rw [lenAt_self],?_,s⟩; rw [lenAt_self,tailU_self]
         simpa using I
        case round=>
         clear I s; obtain ⟨q,hq,rfl,rfl,I,s⟩:=hrel
         cases q with
         | zero=>
           have e9:[.int .u8 45]++tailU D ((m+1)) 0=U8s ([45]++(D.take ((m+1))).reverse):=by unfold tailU; rw [List.drop_zero]; rfl
           rw [e9] at I; have b7:=conv_bytes _ _ _ _ _ _ I (by
            intro x hx
            rcases List.mem_append.1 hx with h|h
            ·simp at h; omega
            ·exact Z.o x (List.mem_of_mem_take (List.mem_reverse.1 h))) (by unfold lenAt; rw [List.length_append,List.length_reverse,List.length_take,J.o]; simp only [List.length_cons,List.length_nil]; omega)
           have V:Hid (Up w wr):=O.o.trans ((c9.o.mono O.o.size).trans (s.mono (by have:=O.o.size; omega))); clear I s e9
           go_wp2
           go_ret
           exact ⟨by rw [b4.o]; rfl,V.o⟩
         | succ q=>
           have e7:wr.cell? ⟨K.heap.size,q,none⟩=some (.int .u8 (D.getD q 0:Nat)):=(s.cell (p:=⟨K.heap.size,q,none⟩) i1).trans (g7.o E d9.o q (by omega)); have e0:Hid (tailU D ((m+1)) q=tailU D ((m+1)) (q+1)++[.int .u8 (D.getD q 0:Nat)]):=tailU_step D ((m+1)) q (by omega) (by rw [J.o]; omega); have e8:D.getD q 0<256:=by
            rw [List.getD_eq_getElem?_getD,List.getElem?_eq_getElem (by rw [J.o]; omega)]; exact Z.o _ (List.getElem_mem _)
           obtain ⟨d,hd⟩:=exW (D.getD q 0); rw [hd] at e7 e0 e8; clear hd; have h9:q<9*t.length:=by omega
           have a5:Hid (lenAt 1 ((m+1)) (q+1)+1=lenAt 1 ((m+1)) q):=lenAt_step _ _ _ (by omega); have d7:Hid (lenAt 1 ((m+1)) (q+1)+1≤(m+1)+1):=by unfold Hid; unfold lenAt; omega
           go_wp2_with (at_builtin; refine wpList_append_fits _ rfl _ _ 22 rfl E.heap.size 5 i0 1 Tryz.underlying22 U a9 E.heap.size (lenAt 1 ((m+1)) (q+1)) ((m+1)+1) _ rfl (I.alloc _) ⟨wr.heap.size,0,none⟩ 1 1 [_] rfl rfl (cell_one_new _ _ _) ?btc1 ?btc2 ?_)
           try (case btc1=>(first|rfl|(intro u hu; simp at hu; subst hu; rfl)))
           try (case btc2=>(exact d7.o))
           intro w6 e5 a8; have h1:Up E w6:=(s.alloc s.size _).grown a8 (by have:=s.size; simp; omega) (fun k e=>by cases e; exact leR); have g6:Hid (w6.ownsRow E.heap.size 5 1 (.slice (some ⟨E.heap.size,0,none⟩) (lenAt 1 ((m+1)) q) ((m+1)+1)) (lenAt 1 ((m+1)) q) ([.int .u8 45]++tailU D ((m+1)) q)):=by
            unfold Hid
            rw [e0.o,← a5.o]
            simpa using e5
           clear e5 a8 I s e7
           go_wp2
           go_roundw
           case rel=>exact ⟨q,by omega,val_int (by omega),by rw [a5.o],g6.o,h1⟩
           case measure=>simp [intOf]
theorem isL_three {w:World} {x y u:Int} (B e a b c g:Nat) (ha:a<1000000000) (hb:b<1000000000) (hcc:c<1000000000) (hx:x=a) (hy:y=b) (hu:u=c) (hg:w.heap.size=g) (hB:B≤g):IsL B (w.alloc (.cells #[.int .u32 x,.int .u32 y,.int .u32 u] e)) (.slice (some ⟨g,0,none⟩) 3 3) [a,b,c]:=by
 subst hx; subst hy; subst hu; subst hg; exact ⟨_,3,rfl,by simp,by unfold maxLen; omega,fun x hx=>by simp at hx; omega,.inr ⟨w.heap.size,0,rfl,hB,by simp,fun i hi=>by
  match i,hi with
  | 0,_=>rw [World.cell?_alloc_at _ _ _ _ rfl]; rfl
  | 1,_=>rw [World.cell?_alloc_at _ _ _ _ rfl]; rfl
  | 2,_=>rw [World.cell?_alloc_at _ _ _ _ rfl]; rfl⟩⟩
theorem textD_len (t:List Nat):(textD t).length≤9*t.length:=by
 have h:(textD t).length≤(bytesOf (padN t)).length:=by unfold textD dropZ; exact (List.dropWhile_suffix _).length_le
 rw [bytesOf,List.length_map,padN_length] at h; exact h
def NumZ (B:Nat) (w:World) (z:Value) (x:Int) (n:Nat):Prop:=∃ neg t,IsZ B w z neg t∧sg neg (val t)=x∧t.length≤n
theorem NumZ.below {B:Nat} {w w':World} {z:Value} {x:Int} {n:Nat} (h:NumZ B w z x n) (hb:Up w w'):NumZ B w' z x n:=by
 obtain ⟨neg,t,j,h2⟩:=h; exact ⟨neg,t,j.below hb,h2⟩
theorem NumZ.mono {B B':Nat} {w:World} {z:Value} {x:Int} {n:Nat} (h:NumZ B w z x n) (hb:B'≤B):NumZ B' w z x n:=by
 obtain ⟨neg,t,j,h2⟩:=h; exact ⟨neg,t,j.mono hb,h2⟩
def two (n:Nat):List Nat:=trimL [n % 1000000000,n / 1000000000]
theorem two_ok (n:Nat) (h:n<1000000000000000000):okL (two n):=trimL_ok _ fun x hx=>by
 simp at hx
 rcases hx with rfl|rfl<;>omega
theorem two_trim (n:Nat):isTrim (two n):=trimL_trim _
theorem two_val (n:Nat):val (two n)=n:=by
 unfold two; rw [val_trimL]; simp only [val]; omega
theorem two_len (n:Nat):(two n).length≤2:=by
 have:=trimL_len [n % 1000000000,n / 1000000000]
 simpa [two] using this
theorem l1Small_any (x:Int) (w:World) (h1 : -2000000000000000000<x) (h2:x<2000000000000000000) :
 Calls Tryz.prog 21 #[.int .i64 x] w fun e w'=>∃ z,e=.returned z∧NumZ w.heap.size w' z x 3∧Up w w':=by
 by_cases I:x<1000000000000000000 ∧ -1000000000000000000<x
 ·obtain ⟨O,T⟩:=I
  go_enter Tryz.func21,Tryz.ntmps21
  go_wp2
  have J:sg (decide (x<0)) (val (two x.natAbs))=x:=by
   rw [two_val]; unfold sg
   by_cases h:x<0<;>simp [h]<;>omega
  refine bodyPost_ret (v:=.agg #[.int .i64 x,.bool false,.slice none 0 0]) ?_ rfl ⟨_,rfl,⟨decide (x<0),two x.natAbs,⟨two_ok _ (by omega),two_trim _,.inr ⟨two_len _,?_⟩⟩,J,Nat.le_trans (two_len _) (by omega)⟩,?_⟩
  ·simp [results,Tryz.results21,go_sem]
  ·rw [J]
  exact below_alloc _ _
 obtain ⟨n,hn⟩:∃ n:Nat,x.natAbs=n:=⟨_,rfl⟩; obtain ⟨u,M⟩:∃ u:Int,(n:Int)=u:=⟨_,rfl⟩; have j:Hid (okL [n % 1000000000,n / 1000000000 % 1000000000,n / 1000000000 / 1000000000]∧isTrim [n % 1000000000,n / 1000000000 % 1000000000,n / 1000000000 / 1000000000]∧sg (decide (x<0)) (val [n % 1000000000,n / 1000000000 % 1000000000,n / 1000000000 / 1000000000])=x):=by
  refine ⟨fun y hy=>by simp at hy; omega,fun _=>by simp; omega,?_⟩; have:val [n % 1000000000,n / 1000000000 % 1000000000,n / 1000000000 / 1000000000]=n:=by simp only [val]; omega
  rw [this]; unfold sg
  by_cases h:x<0<;>simp [h]<;>omega
 have E:Hid (∀ W:World,IsL (W.heap.size) (W.alloc (.cells #[.int .u32 (u % 1000000000),.int .u32 (u / 1000000000 % 1000000000),.int .u32 (u / 1000000000 / 1000000000)] 87)) (.slice (some ⟨W.heap.size,0,none⟩) 3 3) [n % 1000000000,n / 1000000000 % 1000000000,n / 1000000000 / 1000000000]):=fun W=>
  isL_three _ _ _ _ _ _ (by omega) (by omega) (by omega) (by omega) (by omega) (by omega) rfl leR
 obtain ⟨L,H⟩:=exW ([n % 1000000000,n / 1000000000 % 1000000000,n / 1000000000 / 1000000000]); have K:L.length=3:=by rw [← H]; rfl
 rw [H] at j E; clear H; have V:u<2000000000000000000:=by omega
 have U:1000000000000000000≤u:=by omega
 by_cases m:x<0
 ·obtain rfl:x = -u:=by omega
  have D:decide (-u<0)=true:=decide_eq_true m; rw [D] at j; clear M hn D I
  go_enter Tryz.func21,Tryz.ntmps21
  go_wp2
  have hl:=E.o (w.alloc (.cells #[.int .i64 0,.bool true,.slice (some ⟨w.heap.size+1,0,none⟩) 3 3] 53)); have s:(w.alloc (.cells #[.int .i64 0,.bool true,.slice (some ⟨w.heap.size+1,0,none⟩) 3 3] 53)).heap.size=w.heap.size+1:=by simp
  rw [s] at hl; refine bodyPost_ret (v:=.agg #[.int .i64 0,.bool true,.slice (some ⟨w.heap.size+1,0,none⟩) 3 3]) ?_ rfl ⟨_,rfl,⟨true,L,IsZ.mono (B:=w.heap.size+1) ⟨j.o.1,j.o.2.1,.inl ⟨by omega,_,rfl,hl⟩⟩ (Nat.le_succ _),j.o.2.2,by omega⟩,below_al (below_alloc _ _) _⟩; simp [results,Tryz.results21,go_sem]
 obtain rfl:x=u:=by omega
 have D:decide (x<0)=false:=decide_eq_false m; rw [D] at j; clear M hn D I
 go_enter Tryz.func21,Tryz.ntmps21
 go_wp2
 have hl:=E.o (w.alloc (.cells #[.int .i64 0,.bool false,.slice (some ⟨w.heap.size+1,0,none⟩) 3 3] 53)); have s:(w.alloc (.cells #[.int .i64 0,.bool false,.slice (some ⟨w.heap.size+1,0,none⟩) 3 3] 53)).heap.size=w.heap.size+1:=by simp
 rw [s] at hl; refine bodyPost_ret (v:=.agg #[.int .i64 0,.bool false,.slice (some ⟨w.heap.size+1,0,none⟩) 3 3]) ?_ rfl ⟨_,rfl,⟨false,L,IsZ.mono (B:=w.heap.size+1) ⟨j.o.1,j.o.2.1,.inl ⟨by omega,_,rfl,hl⟩⟩ (Nat.le_succ _),j.o.2.2,by omega⟩,below_al (below_alloc _ _) _⟩; simp [results,Tryz.results21,go_sem]
theorem sg_negOf (n:Bool) (t:List Nat):sg (negOf n t) (val t)=sg n (val t):=by
 cases t with
 | nil=>cases n<;>simp [negOf,sg,val]
 | cons a t=>simp [negOf]
theorem sg_not (n:Bool) (v:Nat):sg (!n) v = -sg n v:=by cases n<;>simp [sg]
theorem sg_add (s:Bool) (u v:Nat):sg s (u+v)=sg s u+sg s v:=by cases s<;>simp [sg]<;>omega
theorem sg_sub (s:Bool) (d u v:Nat) (h:d+v=u):sg s d=sg s u+sg (!s) v:=by cases s<;>simp [sg]<;>omega
theorem sg_lt (s:Bool) (t:List Nat) (hok:okL t) (h2:t.length≤2) : -1000000000000000000<sg s (val t)∧sg s (val t)<1000000000000000000:=by
 have h:=vfrom_lt t hok 0 (by omega); unfold vfrom at h; rw [List.drop_zero] at h
 cases s<;>simp [sg]<;>omega
theorem l1Minus_any (B:Nat) (z:Value) (neg:Bool) (t:List Nat) (w:World) (h:IsZ B w z neg t) :
 Calls Tryz.prog 43 #[z] w fun e w'=>∃ z',e=.returned z'∧IsZ B w' z' (!neg) t∧Up w w':=by
 have y:=Hd h; obtain ⟨j,s,h⟩:=h
 rcases h with ⟨h2,v,rfl,a,cap,rfl,hl,m,_,_⟩|⟨h2,rfl⟩
 ·have M:0<t.length:=by omega
  unfold maxLen at m; have K:((t.length:Int)==0)=false:=by rw [beq_eq_false_iff_ne]; omega
  go_enter Tryz.func43,Tryz.ntmps43
  go_wp2_with (go_at_call 44; refine (l1IsSmall_ex _ _ _ _ _ _).mono ?_; rintro e w' ⟨rfl,rfl⟩)
  refine bodyPost_ret (v:=.agg #[.int .i64 0,.bool !neg,.slice a t.length cap]) ?_ rfl ⟨_,rfl,⟨j,s,.inl ⟨h2,_,rfl,?_⟩⟩,below_al (below_al (below_alloc _ _) _) _⟩
  ·simp [results,Tryz.results43,go_sem]
  obtain ⟨_,_,h3⟩:=y.o
  rcases h3 with ⟨_,v,D,H⟩|⟨h4,_⟩
  ·simp at D; subst D; exact H.below (below_al (below_al (below_alloc _ _) _) _)
  omega
 obtain ⟨n,hn⟩:=exW (sg neg (val t)); have hb:=sg_lt neg t j h2; have E:Hid (sg (!neg) (val t) = -n):=by rw [← hn]; exact sg_not neg (val t)
 have u:Hid (okL t∧isTrim t∧t.length≤2):=⟨j,s,h2⟩; rw [hn] at hb ⊢; obtain ⟨I,J⟩:=hb; clear hn y
 go_enter Tryz.func43,Tryz.ntmps43
 go_wp2_with (go_at_call 44; refine (l1IsSmall_ex _ _ _ _ _ _).mono ?_; rintro e w' ⟨rfl,rfl⟩)
 refine bodyPost_ret (v:=.agg #[.int .i64 (-n),.bool false,.slice none 0 0]) ?_ rfl ⟨_,rfl,⟨u.o.1,u.o.2.1,.inr ⟨u.o.2.2,by rw [E.o]⟩⟩,below_al (below_al (below_alloc _ _) _) _⟩; simp [results,Tryz.results43,go_sem]
def IsN (B:Nat) (w:World) (z:Value) (x:Int):Prop:=∃ neg t,IsZ B w z neg t∧sg neg (val t)=x
theorem IsN.below {B:Nat} {w w':World} {z:Value} {x:Int} (h:IsN B w z x) (hb:Up w w'):IsN B w' z x:=by
 obtain ⟨neg,t,j,h2⟩:=h; exact ⟨neg,t,j.below hb,h2⟩
theorem IsN.mono {B B':Nat} {w:World} {z:Value} {x:Int} (h:IsN B w z x) (hb:B'≤B):IsN B' w z x:=by
 obtain ⟨neg,t,j,h2⟩:=h; exact ⟨neg,t,j.mono hb,h2⟩
theorem IsN.setCell {B:Nat} {w:World} {z:Value} {x:Int} (h:IsN B w z x) (p:Addr) (u:Value) (hp:p.block<B):IsN B (w.setCell p u) z x:=by
 obtain ⟨neg,t,j,h2⟩:=h; exact ⟨neg,t,j.setCell p u hp,h2⟩
theorem IsN.shape {B:Nat} {w:World} {z:Value} {x:Int} (h:IsN B w z x):∃ (z0:Int) (zn:Bool) (za:Option Addr) (zl zc:Nat),z=.agg #[.int .i64 z0,.bool zn,.slice za zl zc]:=by
 obtain ⟨neg,t,j,h2⟩:=h; exact j.shape
structure Boxes (g:Nat) (W:World) (x:Int) (xn:Bool) (pa:Option Addr) (la ca:Nat) (y:Int) (yn:Bool) (pb:Option Addr) (lb cb:Nat):Prop where
 a0:W.cell? ⟨g,0,none⟩=some (.int .i64 x)
 a1:W.cell? ⟨g,1,none⟩=some (.bool xn)
 a2:W.cell? ⟨g,2,none⟩=some (.slice pa la ca)
 b0:W.cell? ⟨g+1,0,none⟩=some (.int .i64 y)
 b1:W.cell? ⟨g+1,1,none⟩=some (.bool yn)
 b2:W.cell? ⟨g+1,2,none⟩=some (.slice pb lb cb)
 r0:W.cell? ⟨g+2,0,none⟩=some (.int .i64 0)
 r1:W.cell? ⟨g+2,1,none⟩=some (.bool false)
 r2:W.cell? ⟨g+2,2,none⟩=some (.slice none 0 0)
 f0:W.frozen? ⟨g+2,0,none⟩=false
 f1:W.frozen? ⟨g+2,1,none⟩=false
 f2:W.frozen? ⟨g+2,2,none⟩=false
theorem Boxes.below {g:Nat} {W W':World} {x:Int} {xn:Bool} {pa:Option Addr} {la ca:Nat} {y:Int} {yn:Bool} {pb:Option Addr} {lb cb:Nat} (h:Boxes g W x xn pa la ca y yn pb lb cb) {N:Nat} (hN:g+3≤N) (hb:Below N W W'):Boxes g W' x xn pa la ca y yn pb lb cb:=by
 have q:∀ k,k<3→∀ i,W'.cell? ⟨g+k,i,none⟩=W.cell? ⟨g+k,i,none⟩:=fun k hk i=>hb.cell (p:=⟨g+k,i,none⟩) (by show g+k<N; omega); have f:∀ i,W'.frozen? ⟨g+2,i,none⟩=W.frozen? ⟨g+2,i,none⟩:=fun i=>hb.frozen (p:=⟨g+2,i,none⟩) (by show g+2<N; omega); exact ⟨(q 0 (by omega) 0).trans h.a0,(q 0 (by omega) 1).trans h.a1,(q 0 (by omega) 2).trans h.a2,(q 1 (by omega) 0).trans h.b0,(q 1 (by omega) 1).trans h.b1,(q 1 (by omega) 2).trans h.b2,(q 2 (by omega) 0).trans h.r0,(q 2 (by omega) 1).trans h.r1,(q 2 (by omega) 2).trans h.r2,(f 0).trans h.f0,(f 1).trans h.f1,(f 2).trans h.f2⟩
theorem boxes_first (w:World) (x:Int) (xn:Bool) (pa:Option Addr) (la ca:Nat) (y:Int) (yn:Bool) (pb:Option Addr) (lb cb:Nat) (ty:TypeId) :
 Boxes w.heap.size (((w.alloc (.cells #[.int .i64 x,.bool xn,.slice pa la ca] ty)).alloc (.cells #[.int .i64 y,.bool yn,.slice pb lb cb] ty)).alloc (.cells #[.int .i64 0,.bool false,.slice none 0 0] ty)) x xn pa la ca y yn pb lb cb:=by
 constructor
 ·rw [World.cell?_alloc_past _ _ _ (by simp; omega),World.cell?_alloc_past _ _ _ (by simp),World.cell?_alloc_at _ _ _ _ rfl]; rfl
 ·rw [World.cell?_alloc_past _ _ _ (by simp; omega),World.cell?_alloc_past _ _ _ (by simp),World.cell?_alloc_at _ _ _ _ rfl]; rfl
 ·rw [World.cell?_alloc_past _ _ _ (by simp; omega),World.cell?_alloc_past _ _ _ (by simp),World.cell?_alloc_at _ _ _ _ rfl]; rfl
 ·rw [World.cell?_alloc_past _ _ _ (by simp),World.cell?_alloc_at _ _ _ _ (by simp)]; rfl
 ·rw [World.cell?_alloc_past _ _ _ (by simp),World.cell?_alloc_at _ _ _ _ (by simp)]; rfl
 ·rw [World.cell?_alloc_past _ _ _ (by simp),World.cell?_alloc_at _ _ _ _ (by simp)]; rfl
 ·rw [World.cell?_alloc_at _ _ _ _ (by simp)]; rfl
 ·rw [World.cell?_alloc_at _ _ _ _ (by simp)]; rfl
 ·rw [World.cell?_alloc_at _ _ _ _ (by simp)]; rfl
 ·rw [World.frozen?_alloc_at _ _ _ _ (by simp)]
 ·rw [World.frozen?_alloc_at _ _ _ _ (by simp)]
 rw [World.frozen?_alloc_at _ _ _ _ (by simp)]
theorem l1Add_small (x y:Int) (w:World) (hx1 : -1000000000000000000<x) (hx2:x<1000000000000000000) (hy1 : -1000000000000000000<y) (hy2:y<1000000000000000000) :
 Calls Tryz.prog 77 #[.agg #[.int .i64 x,.bool false,.slice none 0 0],.agg #[.int .i64 y,.bool false,.slice none 0 0]] w fun e w'=>∃ z,e=.returned z∧IsN w.heap.size w' z (x+y)∧Up w w':=by
 have T:=boxes_first w x false none 0 0 y false none 0 0 53; obtain ⟨j,h⟩:=exW (((w.alloc (.cells #[.int .i64 x,.bool false,.slice none 0 0] 53)).alloc (.cells #[.int .i64 y,.bool false,.slice none 0 0] 53)).alloc (.cells #[.int .i64 0,.bool false,.slice none 0 0] 53)); have O:=Hd h; have J:Hid (Up w j):=by rw [← h]; exact below_al (below_al (below_alloc _ _) _) _
 have I:j.heap.size=w.heap.size+3:=by rw [← h]; simp
 have D:w.heap.size<j.heap.size:=by omega
 have E:w.heap.size+1<j.heap.size:=by omega
 have H:w.heap.size+2<j.heap.size:=by omega
 rw [h] at T; have Z:=Hd I; have s:=T; obtain ⟨a0,a1,a2,b0,b1,b2,r0,r1,r2,f0,f1,f2⟩:=T; have M:Hid (Boxes w.heap.size j x false none 0 0 y false none 0 0):=s; clear h I s
 go_enter Tryz.func77,Tryz.ntmps77
 go_wp2_with fail
 rw [O.o]; refine (l1IsSmall_ex _ _ _ _ _ _).mono ?_; rintro e w' ⟨rfl,rfl⟩
 go_wp2_with (go_at_call 44; refine (l1IsSmall_ex _ _ _ _ _ _).mono ?_; rintro e w' ⟨rfl,rfl⟩)
 refine (l1Small_any _ _ (by omega) (by omega)).mono ?_; rintro e Y ⟨z,rfl,⟨neg,t,U,hv,_⟩,u⟩; have HN:Hid (IsN (w.heap.size+3) Y z (x+y)):=⟨neg,t,U.mono (by have:=Z.o; simp; omega),hv⟩; have m:Up j Y:=(below_al (below_alloc j _) _).trans (u.mono (by simp; omega)); have K:Hid (Up w Y):=J.o.trans (m.mono (by omega)); clear a0 a1 a2 b0 b1 b2 r0 r1 r2 f0 f1 f2; obtain ⟨a0,a1,a2,b0,b1,b2,r0,r1,r2,f0,f1,f2⟩:=M.o.below (by have:=Z.o; omega) m; obtain ⟨z0,zn,za,zl,zc,V⟩:=U.shape; subst V; clear U hv u m D E H
 go_wp2
 refine bodyPost_ret ?_ rfl ⟨_,rfl,(((HN.o.setCell _ _ (by simp)).setCell _ _ (by simp)).setCell _ _ (by simp)).mono (by omega),((K.o.setCell (by simp; omega) _).setCell (by simp; omega) _).setCell (by simp; omega) _⟩; simp [results,Tryz.results77,go_sem,r0,r1,r2]
theorem fullT_size (ng:Bool) (t:List Nat) (h:t.length≠0):(fullT ng t).size=(if ng then 1 else 0)+(textD t).length:=by
 unfold fullT; rw [if_neg h]
 cases ng
 ·simp [strB_size]
 simp [strB_size]; omega
def digC (t:List Nat):Nat:=if t.length=0 then 1 else (textD t).length
theorem l1Digits_any (B:Nat) (z:Value) (neg:Bool) (t:List Nat) (w:World) (hz:IsZ B w z neg t) (hBw:B≤w.heap.size) (hlen:t.length≤600) :
 Calls Tryz.prog 68 #[z] w fun e w'=>e=.returned (.int .i64 (digC t:Nat))∧Up w w':=by
 obtain ⟨J,M,za,K,zc,Z⟩:=hz.shape; subst Z; have U:Hid (ngZ J M K=negOf neg t):=ngZ_of hz; obtain ⟨I,h⟩:=exW (w.alloc (.cells #[.int .i64 J,.bool M,.slice za K zc] 53)); have V:=Hd h; have y:Up w I:=by rw [← h]; exact below_alloc _ _
 have b3:I.heap.size=w.heap.size+1:=by rw [← h]; simp
 have HZ:Hid (IsZ B I (.agg #[.int .i64 J,.bool M,.slice za K zc]) neg t):=hz.below y; have O:=Hd y; have HX:Hid (∀ W,Up I W→W.cell? ⟨w.heap.size,0,none⟩=some (.int .i64 J)∧W.cell? ⟨w.heap.size,1,none⟩=some (.bool M)∧W.cell? ⟨w.heap.size,2,none⟩=some (.slice za K zc)):=fun W hW=>by
  refine ⟨?_,?_,?_⟩
  ·rw [hW.cell (p:=⟨w.heap.size,0,none⟩) (by show w.heap.size<_; omega),← h,World.cell?_alloc_at _ _ _ _ rfl]; rfl
  ·rw [hW.cell (p:=⟨w.heap.size,1,none⟩) (by show w.heap.size<_; omega),← h,World.cell?_alloc_at _ _ _ _ rfl]; rfl
  rw [hW.cell (p:=⟨w.heap.size,2,none⟩) (by show w.heap.size<_; omega),← h,World.cell?_alloc_at _ _ _ _ rfl]; rfl
 clear hz y h
 go_enter Tryz.func68,Tryz.ntmps68
 go_wp2_with fail
 rw [V.o]; refine (l1Text_any B _ neg t _ HZ.o (by omega) hlen).mono ?_; rintro e w1 ⟨rfl,D⟩; obtain ⟨c0,c1,c2⟩:=HX.o w1 D; obtain ⟨m,j⟩:=exW (negOf neg t); have E:=Hd j; have u:Hid ((fullT m t).size=(if m then 1 else 0)+digC t):=by
  unfold Hid
  by_cases H:t.length=0
  ·have e1:m=false:=by rw [← j]; unfold negOf; simp [H]
   unfold fullT digC; rw [if_pos H,if_pos H,e1]; rfl
  rw [fullT_size m t H]; unfold digC; rw [if_neg H]
 have Y:(fullT m t).size≤6000:=by
  have h1:=textD_len t; have h2:=u.o; have h3:digC t≤5401:=by unfold digC; split<;>omega
  cases m<;>simp at h2<;>omega
 have T:Hid (Up w w1):=O.o.trans (D.mono (by omega)); rw [j]; clear j D; obtain ⟨s,hs⟩:=exW (fullT m t); rw [hs] at Y u ⊢; clear hs
 go_wp2_with fail
 refine (l1Neg_ex _ _ _ _ _ _).mono ?_; rintro e w' ⟨rfl,b4⟩; subst w'; rw [U.o,E.o]
 cases m
 all_goals
  go_wp2
  go_ret
  exact ⟨ret_int (by have:=u.o; simp at this; omega),below_al T.o _⟩
end Go.Proofs.YtknfmkeipeikkaaGreatDoor
