import Derived.Test.YtknfmkeipeikkaaGreatDoorTLRp
import Derived.Test.YtknfmkeipeikkaaGreatDoorGcdIp
import Derived.Lib.IndexLaws
import Derived.Lib.Bytealg
import Derived.Deep.DeepCutAuto
import Derived.BigQuiet
import Derived.Test.YtknfmkeipeikkaaGreatDoorDivFp
import Derived.Test.YtknfmkeipeikkaaGreatDoorPlusAp
import Derived.Laws.StructEq
import Derived.Laws.Tables
set_option maxRecDepth 100000
set_option maxHeartbeats 1000000
namespace Go.Proofs.YtknfmkeipeikkaaGreatDoor
open Go.RowKit
theorem div_exact (x c q r:Int) (_hc:c≠0) (h:IsDiv x c q r) (hd:c∣x):x=q*c:=by
 obtain ⟨j,h2,h3⟩:=h; obtain ⟨k,hk⟩:=hd; have m:r=c*(k - q):=by rw [Int.mul_sub,← hk,j,Int.mul_comm c q]; omega
 have s:k - q=0:=by
  apply Classical.byContradiction; intro hne; have h4:c.natAbs≤r.natAbs:=by rw [m,Int.natAbs_mul]; exact Nat.le_mul_of_pos_right _ (by omega)
  omega
 rw [m,s,Int.mul_zero] at j; omega
theorem low_of_div (x y c n r d r':Int) (hy:y≠0) (hc:c=if y<0 then -gcdI x y else gcdI x y) (h1:IsDiv x c n r) (h2:IsDiv y c d r'):IsLow x y n d:=by
 have D:0<Int.gcd x y:=Int.gcd_pos_of_ne_zero_right _ hy; have j:c.natAbs=Int.gcd x y:=by rw [hc]; unfold gcdI; split<;>omega
 have c0:c≠0:=by omega
 have s:c∣x:=by rw [← Int.natAbs_dvd,j]; exact Int.gcd_dvd_left x y
 have u:c∣y:=by rw [← Int.natAbs_dvd,j]; exact Int.gcd_dvd_right x y
 have ex:=div_exact x c n r c0 h1 s; have ey:=div_exact y c d r' c0 h2 u; refine ⟨c,c0,ex,ey,?_,j⟩
 by_cases hn:y<0
 ·have m:c<0:=by rw [hc,if_pos hn]; unfold gcdI; omega
  apply Classical.byContradiction; intro h; have:0≤d*c:=Int.mul_nonneg_of_nonpos_of_nonpos (by omega) (by omega); omega
 have m:0<c:=by rw [hc,if_neg hn]; unfold gcdI; omega
 apply Classical.byContradiction; intro h; have:d*c≤0:=Int.mul_nonpos_of_nonpos_of_nonneg (by omega) (by omega); omega
open Go.ChangeShapes Go.WideShapes Go.ChangeAt Go.RowKit
theorem belowSet3 {N:Nat} {w W:World} (h:Below N w W) (g:Nat) (hg:N≤g) (u0 u1 u2:Value):Below N w (((W.setCell ⟨g,0,none⟩ u0).setCell ⟨g,1,none⟩ u1).setCell ⟨g,2,none⟩ u2):=
 ((h.setCell (p:=⟨g,0,none⟩) hg u0).setCell (p:=⟨g,1,none⟩) hg u1).setCell (p:=⟨g,2,none⟩) hg u2
def IsCut (s:ByteArray) (k:Option Nat):Prop:=
 match k with
 | none=>∀ j:Nat,s.data.toList[j]? ≠ some 47
 | some i=>s.data.toList[i]? = some 47∧∀ j:Nat,j<i→s.data.toList[j]? ≠ some 47
def cutI (k:Option Nat):Int:=match k with|none => -1|some i=>(i:Int)
theorem isCut_unique {s:ByteArray} {k m:Option Nat} (h:IsCut s k) (h':IsCut s m):k=m:=by
 match k,m,h,h' with
 | none,none,_,_=>rfl
 | none,some i,h,h'=>exact absurd h'.1 (h i)
 | some i,none,h,h'=>exact absurd h.1 (h' i)
 | some i,some j,h,h'=>
   rcases Nat.lt_trichotomy i j with hl|hl|hl
   ·exact absurd h.1 (h'.2 i hl)
   ·rw [hl]
   ·exact absurd h'.1 (h.2 j hl)
theorem isCut_lt {s:ByteArray} {i:Nat} (h:IsCut s (some i)):i<s.size:=by
 have:=h.1; rw [List.getElem?_eq_some_iff] at this; obtain ⟨hl,_⟩:=this
 simpa using hl
def cutP (s:ByteArray) (k:Option Nat):ByteArray:=match k with|none=>s|some i=>s.extract 0 i
def cutQ (s:ByteArray) (k:Option Nat):ByteArray:=match k with|none=>⟨#[]⟩|some i=>s.extract (i+1) s.size
theorem l2Cut_any (s:ByteArray) (k:Option Nat) (w:World) (hs:s.size≤maxLen) (h:IsCut s k) :
 Calls Tryz.prog 47 #[.string s] w fun e w'=>e=.returned (.int .i64 (cutI k))∧w'=w:=by
 have J:=Hd h; clear h; unfold maxLen at hs
 go_enter Tryz.func47,Tryz.ntmps47
 go_wp2
 go_loop [3] (fun iv=>∃ i:Nat,i≤s.size∧iv=.int .i64 (i:Nat)∧∀ j:Nat,j<i→s.data.toList[j]? ≠ some 47) (fun iv=>s.size - (intOf iv).toNat)
 case atStart=>exact ⟨0,Nat.zero_le _,rfl,fun j hj=>by omega⟩
 case round=>
  obtain ⟨i,M,rfl,y⟩:=hrel; have m:=Hd y; clear y
  by_cases hl:i<s.size
  ·have D:s.data.toList[i]? = some s[i]:=by
    rw [List.getElem?_eq_getElem (by simpa using hl)]; rfl
   by_cases u:s[i]=47
   ·have E:Hid (cutI k=(i:Int)):=by
     have:k=some i:=isCut_unique J.o (show IsCut s (some i) from ⟨by rw [D,u],m.o⟩)
     show cutI k=(i:Int)
     rw [this]; rfl
    have K:(s[i].toNat:Int)=47:=by rw [u]; rfl
    have z:((s[i].toNat:Int)==47)=true:=by rw [beq_iff_eq]; exact K
    clear D u K
    go_wp2
    go_ret
    exact ⟨ret_int E.o.symm,rfl⟩
   ·have H:Hid (∀ j:Nat,j<i+1→s.data.toList[j]? ≠ some 47):=fun j hj=>by
     by_cases I:j=i
     ·subst I; rw [D]; exact fun e=>u (Option.some.inj e)
     ·exact m.o j (by omega)
    have z:((s[i].toNat:Int)==47)=false:=by
     rw [beq_eq_false_iff_ne]; intro e; exact u (UInt8.toNat_inj.1 (by have e2:(47:UInt8).toNat=47:=rfl; omega))
    clear D u
    go_wp2
    go_round
    case rel=>exact ⟨i+1,by omega,by go_num,H.o⟩
    case measure=>simp [intOf]; omega
  ·have E:Hid (cutI k = -1):=by
    have:k=none:=isCut_unique J.o (show IsCut s none from fun j=>by
     by_cases hj:j<i
     ·exact m.o j hj
     ·rw [List.getElem?_eq_none (by simp; omega)]; simp)
    show cutI k = -1
    rw [this]; rfl
   go_wp2
   go_ret
   exact ⟨ret_int E.o.symm,rfl⟩
theorem sg_zero_iff (n:Bool) (l:List Nat) (ht:isTrim l):sg n (val l)=0↔l=[]:=by
 constructor
 ·intro h; apply Classical.byContradiction; intro hne; have:=val_pos l ht hne
  cases n<;>simp [sg] at h<;>omega
 rintro rfl
 cases n<;>simp [sg,val]
theorem dividedBy_any (B:Nat) (za zb:Value) (x y:Int) (n m:Nat) (w:World) (hBw:B≤w.heap.size) (ha:IsI B w za x n) (hb:IsI B w zb y m) (hy:y≠0) (hn:n≤90000) (hm:m≤90000) (hSP:SP w) :
 Calls Tryz.prog 60 #[za,zb] w fun e w'=>∃ z1 z2 q r,e=.returned (.tuple #[z1,z2])∧IsI B w' z1 q (n+2)∧IsI B w' z2 r (m+3)∧IsDiv x y q r∧Up w w':=by
 obtain ⟨J,va,a,rfl,j,K,rfl,H⟩:=ha; obtain ⟨u,M,b,rfl,s,D,rfl,I⟩:=hb; have hne:b≠[]:=fun h=>hy ((sg_zero_iff u b D).2 h); rw [← sg_negOf J a,← sg_negOf u b]; refine (divided_raw B _ _ va M a b w hBw j s (by omega) (by omega) K D hne hSP).mono ?_; rintro e w' ⟨z1,z2,q,r,E,h2,h3,h4,h5⟩; exact ⟨z1,z2,q,r,E,h2.mono leR (by omega),h3.mono leR (by omega),h4,h5⟩
def IsResD (s t u v:ByteArray):Prop:=if isIntB s=true∧isIntB t=true∧numT t≠0 then ∃ q r,IsDiv (numT s) (numT t) q r∧IsText q u∧IsText r v else u=strB []∧v=strB []
theorem IsResD.eq {s t u v u' v':ByteArray} (h:IsResD s t u v) (h':IsResD s t u' v'):u=u'∧v=v':=by
 unfold IsResD at h h'
 split at h
 ·rename_i hc; rw [if_pos hc] at h'; obtain ⟨q,r,j,h2,h3⟩:=h; obtain ⟨y,D,m,k2,k3⟩:=h'; obtain ⟨rfl,rfl⟩:=isDiv_unique j m; exact ⟨h2.eq k2,h3.eq k3⟩
 rename_i hc; rw [if_neg hc] at h'; exact ⟨by rw [h.1,h'.1],by rw [h.2,h'.2]⟩
theorem noInt_of {W:World} {g:Nat} {l:List Value} (h:Bx W g l) (hl:∀ v∈l,∀ x,v≠.int .u32 x):NoInt W g:=fun i x=>by
 rw [h.cell i]
 intro e
 exact hl _ (List.mem_of_getElem? e) x rfl
theorem IsL.put2 {B:Nat} {W:World} {v:Value} {l:List Nat} (h:IsL B W v l) {g:Nat} (n:NoInt W g) (u0 u1:Value):IsL B ((W.setCell ⟨g,0,none⟩ u0).setCell ⟨g,1,none⟩ u1) v l:=
 h.keeps n n (Keeps.setCell (Keeps.setCell (Keeps.refl g g W) ⟨g,0,none⟩ u0 (Or.inl rfl)) ⟨g,1,none⟩ u1 (Or.inl rfl))
theorem set2 {N:Nat} {w W:World} (h:Below N w W) (g:Nat) (hg:N≤g) (u0 u1:Value):Below N w ((W.setCell ⟨g,0,none⟩ u0).setCell ⟨g,1,none⟩ u1):=
 (h.setCell (p:=⟨g,0,none⟩) hg u0).setCell (p:=⟨g,1,none⟩) hg u1
theorem wholeNumber_any (n:Nat) (w:World) (hn:n<18446744073709551616) :
 Calls Tryz.prog 34 #[.int .u64 (n:Nat)] w fun e w'=>∃ z,e=.returned z∧IsI w.heap.size w' z (n:Nat) 3∧Up w w':=by
 obtain ⟨J,j⟩:=exW (w.alloc (.cells #[.bool false,.slice none 0 0] 67)); have Y:=Hd j; have y:Bx J w.heap.size [.bool false,.slice none 0 0]:=by rw [← j]; exact bx_new w _ _
 have m:Hid (Up w J):=by unfold Hid; rw [← j]; exact below_alloc _ _
 have H:Hid (∀ W,Up J W→Bx W w.heap.size [.bool false,.slice none 0 0]):=fun W hW=>y.below y.lt hW; clear j y
 go_enter Tryz.func34,Tryz.ntmps34
 go_wp2_with fail
 rw [Y.o]; refine (limbsOf_trim n _ hn).mono ?_; rintro e w1 ⟨v,t,rfl,hv,ht,T,O,K⟩; have HV:=Hd hv; have E:=Hd K; have V:Hid (isTrim t∧val t=n∧t.length≤3):=⟨ht,T,O⟩; obtain ⟨pv,cv,a6,_⟩:=hv; subst a6; clear ht T O K
 go_wp2_with fail
 refine (makeInteger_any J.heap.size false _ t _ HV.o).mono ?_; rintro e U ⟨v',rfl,hcut,u⟩; have I:Hid (IsL J.heap.size U v' t):=by
  have h:=hcut _ _ (HV.o.below u); rw [trimL_of_trim t V.o.1] at h; exact h
 have s:=Hd (E.o.trans (u.mono E.o.size)); have e1:negOf false (trimL t)=false:=by unfold negOf; rfl
 rw [e1]; have hb:=H.o U s.o; obtain ⟨k0,k1⟩:=hb.k2; obtain ⟨r0,r1⟩:=hb.f2; obtain ⟨D,c2,a5,_⟩:=I.o; subst a5; clear hcut u hb e1
 go_wp2
 have M:=H.o U s.o; have a3:=noInt_of M (by simp); have Z:=(I.o.mono m.o.size).put2 a3 (.bool false) (.slice D t.length c2); have hZ:Bx ((U.setCell ⟨w.heap.size,0,none⟩ (.bool false)).setCell ⟨w.heap.size,1,none⟩ (.slice D t.length c2)) w.heap.size [.bool false,.slice D t.length c2]:=(M.set 0 _).set 1 _; have hE:=set2 (m.o.trans (s.o.mono m.o.size)) w.heap.size leR (.bool false) (.slice D t.length c2); generalize (U.setCell ⟨w.heap.size,0,none⟩ (.bool false)).setCell ⟨w.heap.size,1,none⟩ (.slice D t.length c2)=WE at *; obtain ⟨m0,m1⟩:=hZ.k2; refine bodyPost_ret (v:=.agg #[.bool false,.slice D t.length c2]) ?_ rfl ⟨_,rfl,⟨false,_,t,by unfold negOf; rfl,Z,V.o.1,by rw [V.o.2.1]; rfl,V.o.2.2⟩,hE⟩; simp [results,Tryz.results34,go_sem,m0,m1]
def IsQR (B:Nat) (w:World) (z:Value) (x y:Int) (n:Nat):Prop:=∃ s1 v1 s2 v2,z=.agg #[.bool s1,v1,.bool s2,v2]∧IsI B w (.agg #[.bool s1,v1]) x n∧IsI B w (.agg #[.bool s2,v2]) y n
theorem IsQR.below {B:Nat} {w w':World} {z:Value} {x y:Int} {n:Nat} (h:IsQR B w z x y n) (hb:Up w w'):IsQR B w' z x y n:=by
 obtain ⟨m,u,s,D,e,j,h2⟩:=h; exact ⟨m,u,s,D,e,j.below hb,h2.below hb⟩
theorem IsI.parts {B:Nat} {w:World} {s:Bool} {v:Value} {x:Int} {n:Nat} (h:IsI B w (.agg #[.bool s,v]) x n):∃ neg t,s=negOf neg t∧IsL B w v t∧isTrim t∧sg neg (val t)=x∧t.length≤n:=by
 obtain ⟨neg,m,t,e,j,h2,h3,h4⟩:=h; simp only [Value.agg.injEq,Array.mk.injEq,List.cons.injEq,Value.bool.injEq,and_true] at e; obtain ⟨rfl,rfl⟩:=e; exact ⟨neg,t,rfl,j,h2,h3,h4⟩
theorem ordI_zero (x y:Int):(ordI x y==0)=decide (x=y):=by
 unfold ordI
 split
 ·rename_i h; have:x≠y:=by omega
  simp [this]
 split
 ·rename_i h; have:x≠y:=by omega
  simp [this]
 rename_i h1 h2; have:x=y:=by omega
 simp [this]
theorem IsI.put2 {B:Nat} {W:World} {z:Value} {x:Int} {n:Nat} (h:IsI B W z x n) {g:Nat} (no:NoInt W g) (u0 u1:Value):IsI B ((W.setCell ⟨g,0,none⟩ u0).setCell ⟨g,1,none⟩ u1) z x n:=by
 obtain ⟨neg,v,t,e,j,h2,h3,h4⟩:=h; exact ⟨neg,v,t,e,j.put2 no u0 u1,h2,h3,h4⟩
theorem Bx.put2 {W:World} {g:Nat} {a b:Value} (h:Bx W g [a,b]) (u0 u1:Value):Bx ((W.setCell ⟨g,0,none⟩ u0).setCell ⟨g,1,none⟩ u1) g [u0,u1]:=(h.set 0 u0).set 1 u1
structure BxM (h hc:Nat) (W:World) (s1:Bool) (v1:Value) (s2:Bool) (v2:Value) (s3:Bool) (v3:Value):Prop where
 a:Bx W h [.bool s1,v1]
 b:Bx W (h+1) [.bool s2,v2]
 r:Bx W (h+1+1) [.bool false,.slice none 0 0,.bool false,.slice none 0 0]
 c:Bx W hc [.bool s3,v3]
theorem BxM.below {h hc N:Nat} {W W':World} {s1 s2 s3:Bool} {v1 v2 v3:Value} (m:BxM h hc W s1 v1 s2 v2 s3 v3) (hN:h+3≤N) (hc':hc<N) (hb:Below N W W'):BxM h hc W' s1 v1 s2 v2 s3 v3:=
 ⟨m.a.below (by omega) hb,m.b.below (by omega) hb,m.r.below (by omega) hb,m.c.below hc' hb⟩
theorem BxM.cells {h hc:Nat} {W:World} {s1 s2 s3:Bool} {v1 v2 v3:Value} (m:BxM h hc W s1 v1 s2 v2 s3 v3) :
 (W.cell? ⟨h,0,none⟩=some (.bool s1)∧W.cell? ⟨h,1,none⟩=some v1∧∀ i,W.frozen? ⟨h,i,none⟩=false)∧(W.cell? ⟨h+1,0,none⟩=some (.bool s2)∧W.cell? ⟨h+1,1,none⟩=some v2∧∀ i,W.frozen? ⟨h+1,i,none⟩=false) ∧
 (W.cell? ⟨hc,0,none⟩=some (.bool s3)∧W.cell? ⟨hc,1,none⟩=some v3∧∀ i,W.frozen? ⟨hc,i,none⟩=false):=
 ⟨⟨m.a.cell 0,m.a.cell 1,m.a.frozen⟩,⟨m.b.cell 0,m.b.cell 1,m.b.frozen⟩,⟨m.c.cell 0,m.c.cell 1,m.c.frozen⟩⟩
theorem IsQR.shape {B:Nat} {w:World} {z:Value} {x y:Int} {n:Nat} (h:IsQR B w z x y n):∃ s1 p1 l1 c1 s2 p2 l2 c2,z=.agg #[.bool s1,.slice p1 l1 c1,.bool s2,.slice p2 l2 c2]∧IsI B w (.agg #[.bool s1,.slice p1 l1 c1]) x n∧IsI B w (.agg #[.bool s2,.slice p2 l2 c2]) y n:=by
 obtain ⟨s1,m,s2,s,rfl,j,h2⟩:=h; obtain ⟨_,t1,_,⟨p1,c1,rfl,_⟩,_⟩:=j.parts; obtain ⟨_,t2,_,⟨p2,c2,rfl,_⟩,_⟩:=h2.parts; exact ⟨s1,p1,_,c1,s2,p2,_,c2,rfl,j,h2⟩
theorem toList_inj {a b:ByteArray}:(a.toList==b.toList)=decide (a=b):=by
 by_cases h:a=b
 ·subst h; simp
 have:a.toList≠b.toList:=fun e=>h (by
  rw [ByteArray.toList_eq,ByteArray.toList_eq] at e; exact ByteArray.ext (Array.toList_inj.1 e))
 simp [h,this]
def RatV (s:ByteArray) (k:Option Nat) (x y:Int):Prop:=
 match k with
 | none=>isIntB s=true∧x=numT s∧y=1
 | some i=>(isIntB (cutP s (some i))=true∧isIntB (cutQ s (some i))=true)∧(numT (cutQ s (some i))≠0∧cutP s (some i)≠strB [48]∧cutQ s (some i)≠strB [49]∧isNeg (cutQ s (some i))=false∧Int.gcd (numT (cutP s (some i))) (numT (cutQ s (some i)))=1) ∧
  x=numT (cutP s (some i))∧y=numT (cutQ s (some i))
def ShapeR (z:Value):Prop:=∃ s1 p1 l1 c1 s2 p2 l2 c2,z=.agg #[.bool s1,.slice p1 l1 c1,.bool s2,.slice p2 l2 c2]
def ReadR (B:Nat) (w:World) (s:ByteArray) (k:Option Nat) (z:Value) (ok:Bool):Prop:=
 ShapeR z∧(ok=true↔∃ x y,RatV s k x y)∧(ok=true→∃ x y,RatV s k x y∧IsQR B w z x y 300)
theorem IsQR.mono {B B':Nat} {w:World} {z:Value} {x y:Int} {n n':Nat} (h:IsQR B w z x y n) (hb:B'≤B) (hn:n≤n'):IsQR B' w z x y n':=by
 obtain ⟨m,u,s,D,e,j,h2⟩:=h; exact ⟨m,u,s,D,e,j.mono hb hn,h2.mono hb hn⟩
def TextR (x y:Int) (u:ByteArray):Prop:=
 if y=1 then IsText x u else ∃ p q,IsText x p∧IsText y q∧u=if p.size=0∨q.size=0 then ⟨#[]⟩ else p++⟨#[47]⟩++q
def IsResO (s t u:ByteArray):Prop:=if isIntB s=true∧isIntB t=true∧numT t≠0 then ∃ p q,IsLow (numT s) (numT t) p q∧TextR p q u else u=⟨#[]⟩
theorem TextR.eq {x y:Int} {u v:ByteArray} (h:TextR x y u) (h':TextR x y v):u=v:=by
 unfold TextR at h h'
 split at h
 ·rename_i hc; rw [if_pos hc] at h'; exact h.eq h'
 rename_i hc; rw [if_neg hc] at h'; obtain ⟨p,q,s,h2,rfl⟩:=h; obtain ⟨D,E,j,m,rfl⟩:=h'; rw [s.eq j,h2.eq m]
theorem IsResO.eq {s t u v:ByteArray} (h:IsResO s t u) (h':IsResO s t v):u=v:=by
 unfold IsResO at h h'
 split at h
 ·rename_i hc; rw [if_pos hc] at h'; obtain ⟨p,q,y,h2⟩:=h; obtain ⟨D,E,j,m⟩:=h'; obtain ⟨rfl,rfl⟩:=isLow_unique y j; exact h2.eq m
 rename_i hc; rw [if_neg hc] at h'; rw [h,h']
end Go.Proofs.YtknfmkeipeikkaaGreatDoor
