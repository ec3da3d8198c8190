import Derived.Test.YtnhbmpnhijgpmaaGreatDoorTextBackp
import Derived.Test.YtnhbmpnhijgpmaaGreatDoorGcdIp
import Derived.Lib.IndexLaws
import Derived.Lib.Bytealg
import Derived.Deep.DeepCutAuto
import Derived.BigQuiet
import Derived.Test.YtnhbmpnhijgpmaaGreatDoorDivFp
import Derived.Test.YtnhbmpnhijgpmaaGreatDoorPlusAp
import Derived.Laws.StructEq
import Derived.Laws.Tables
set_option maxRecDepth 100000
set_option maxHeartbeats 2000000
namespace Go.Proofs.YtnhbmpnhijgpmaaGreatDoor
open Go.RowKit
theorem div_exact (x c q r:Int) (_hc:c≠0) (h:IsDiv x c q r) (hd:c∣x):x=q*c:=by
 obtain ⟨i,u,h3⟩:=h; obtain ⟨k,m⟩:=hd; have j:r=c*(k - q):=by rw [Int.mul_sub,← m,i,Int.mul_comm c q]; omega
 have t:k - q=0:=by
  apply Classical.byContradiction; intro s; have h4:c.natAbs≤r.natAbs:=by rw [j,Int.natAbs_mul]; exact Nat.le_mul_of_pos_right _ (by omega)
  omega
 rw [j,t,Int.mul_zero] at i; omega
theorem low_of_div (x y c n r d r':Int) (hy:y≠0) (hc:c=if y<0 then -gcdI x y else gcdI x y) (h1:IsDiv x c n r) (h2:IsDiv y c d r'):IsLow x y n d:=by
 have t:0<Int.gcd x y:=Int.gcd_pos_of_ne_zero_right _ hy; have i:c.natAbs=Int.gcd x y:=by rw [hc]; unfold gcdI; split<;>omega
 have c0:c≠0:=by omega
 have m:c∣x:=by rw [← Int.natAbs_dvd,i]; exact Int.gcd_dvd_left x y
 have s:c∣y:=by rw [← Int.natAbs_dvd,i]; exact Int.gcd_dvd_right x y
 have ex:=div_exact x c n r c0 h1 m; have ey:=div_exact y c d r' c0 h2 s; refine ⟨c,c0,ex,ey,?_,i⟩
 by_cases hn:y<0
 ·have j:c<0:=by rw [hc,if_pos hn]; unfold gcdI; omega
  apply Classical.byContradiction; intro h; have:0≤d*c:=Int.mul_nonneg_of_nonpos_of_nonpos (by omega) (by omega); omega
 have j:0<c:=by rw [hc,if_neg hn]; unfold gcdI; omega
 apply Classical.byContradiction; intro h; have:d*c≤0:=Int.mul_nonpos_of_nonpos_of_nonneg (by omega) (by omega); omega
open Go.ChangeShapes Go.WideShapes Go.ChangeAt Go.RowKit
theorem belowSet3 {N:Nat} {w W:World} (h:Below N w W) (g:Nat) (hg:N≤g) (u0 u1 u2:Value):Below N w (((W.setCell ⟨g,0,none⟩ u0).setCell ⟨g,1,none⟩ u1).setCell ⟨g,2,none⟩ u2):=
 ((h.setCell (p:=⟨g,0,none⟩) hg u0).setCell (p:=⟨g,1,none⟩) hg u1).setCell (p:=⟨g,2,none⟩) hg u2
def IsCut (s:ByteArray) (k:Option Nat):Prop:=
 match k with
 | none=>∀ j:Nat,s.data.toList[j]? ≠ some 47
 | some i=>s.data.toList[i]? = some 47∧∀ j:Nat,j<i→s.data.toList[j]? ≠ some 47
def cutI (k:Option Nat):Int:=match k with|none => -1|some i=>(i:Int)
theorem isCut_unique {s:ByteArray} {k m:Option Nat} (h:IsCut s k) (h':IsCut s m):k=m:=by
 match k,m,h,h' with
 | none,none,_,_=>rfl
 | none,some i,h,h'=>exact absurd h'.1 (h i)
 | some i,none,h,h'=>exact absurd h.1 (h' i)
 | some i,some j,h,h'=>
   rcases Nat.lt_trichotomy i j with hl|hl|hl
   ·exact absurd h.1 (h'.2 i hl)
   ·rw [hl]
   ·exact absurd h'.1 (h.2 j hl)
theorem isCut_ex (s:ByteArray):∃ k,IsCut s k:=by
 have i:=Lib.indexByte_ge s.data.toList 47
 by_cases h:Lib.indexByte s.data.toList 47 = -1
 ·exact ⟨none,fun j=>Lib.indexByte_none h j⟩
 obtain ⟨o,ho⟩:=Int.eq_ofNat_of_zero_le (show 0≤Lib.indexByte s.data.toList 47 by omega); exact ⟨some o,Lib.indexByte_some ho⟩
theorem isCut_index {s:ByteArray} {k:Option Nat} (h:IsCut s k):Lib.indexByte s.data.toList 47=cutI k:=by
 have m:=Lib.indexByte_ge s.data.toList 47
 by_cases i:Lib.indexByte s.data.toList 47 = -1
 ·have:k=none:=isCut_unique h (show IsCut s none from fun j=>Lib.indexByte_none i j); rw [this,i]; rfl
 obtain ⟨o,ho⟩:=Int.eq_ofNat_of_zero_le (show 0≤Lib.indexByte s.data.toList 47 by omega); have:k=some o:=isCut_unique h (show IsCut s (some o) from Lib.indexByte_some ho); rw [this,ho]; rfl
theorem isCut_lt {s:ByteArray} {i:Nat} (h:IsCut s (some i)):i<s.size:=by
 have:=h.1; rw [List.getElem?_eq_some_iff] at this; obtain ⟨hl,_⟩:=this
 simpa using hl
theorem indexByte_any (s:ByteArray) (c:Int) (w:World) :
 Calls Tryz.prog 137 #[.string s,.int .u8 c] w fun e w'=>e=.returned (.int .i64 (Lib.indexByte s.data.toList c.toNat.toUInt8))∧w'=w:=by
 go_enter Tryz.func137,Tryz.ntmps137
 go_wp2
 rw [run_callFunc_extern Tryz.func147 (by kernel_rfl) (by kernel_rfl) (by kernel_rfl) (e:=Extern.BytealgIndexByte.indexByte) (by kernel_rfl),Lib.run_indexByteString]; simp only [Result.andThen]; rw [Oper.upon_value]
 go_wp2
 go_ret
 exact ⟨rfl,rfl⟩
theorem index_slash (s:ByteArray) (k:Option Nat) (w:World) (h:IsCut s k) :
 Calls Tryz.prog 123 #[.string s,.string ⟨#[47]⟩] w fun e w'=>e=.returned (.int .i64 (cutI k))∧w'=w:=by
 have hi:=isCut_index h; have D:=Hd hi; clear hi
 cases hq:([47]==s.toList)
 ·go_enter Tryz.func123,Tryz.ntmps123
  go_wp2_with fail
  refine (indexByte_any s _ _).mono ?_; rintro e w' ⟨rfl,m⟩; subst m; have E:Lib.indexByte s.data.toList (Int.toNat ((((⟨#[47]⟩:ByteArray)[0]'(by decide)).toNat:Nat):Int)).toUInt8=cutI k:=D.o; rw [E]
  go_wp2
  go_ret
  exact ⟨rfl,rfl⟩
 have A:cutI k=0:=by
  have u:s.toList=[47]:=(by simpa using hq:[47]=s.toList).symm; rw [ByteArray.toList_eq] at u; have:k=some 0:=isCut_unique h (show IsCut s (some 0) from ⟨by rw [u]; rfl,fun j hj=>by omega⟩); rw [this]; rfl
 have t:=Hid.o (p:=cutI k=0) A; clear A; have i:Hid (cutI k=0):=t; clear t
 go_enter Tryz.func123,Tryz.ntmps123
 go_wp2_with fail
 go_ret
 exact ⟨by rw [i.o]; rfl,rfl⟩
def cutP (s:ByteArray) (k:Option Nat):ByteArray:=match k with|none=>s|some i=>s.extract 0 i
def cutQ (s:ByteArray) (k:Option Nat):ByteArray:=match k with|none=>⟨#[]⟩|some i=>s.extract (i+1) s.size
theorem cutS_any (s:ByteArray) (k:Option Nat) (w:World) (hs:s.size≤maxLen) (h:IsCut s k) :
 Calls Tryz.prog 109 #[.string s,.string ⟨#[47]⟩] w fun e w'=>e=.returned (.tuple #[.string (cutP s k),.string (cutQ s k),.bool k.isSome])∧Up w w':=by
 have H:=Hid.o (p:=IsCut s k) h; have m:Hid (IsCut s k):=H; clear H h; unfold maxLen at hs
 cases k with
 | none=>
   go_enter Tryz.func109,Tryz.ntmps109
   go_wp2_with fail
   refine (index_slash s none _ m.o).mono ?_; rintro e w' ⟨rfl,j⟩; subst j; have t:cutI none = -1:=rfl; rw [t]
   go_wp2
   go_ret3
   exact ⟨rfl,Below.refl _ _⟩
 | some i=>
   have hi:=isCut_lt m.o
   go_enter Tryz.func109,Tryz.ntmps109
   go_wp2_with fail
   refine (index_slash s (some i) _ m.o).mono ?_; rintro e w' ⟨rfl,j⟩; subst j; have t:cutI (some i)=(i:Int):=rfl; rw [t]
   go_wp2
   go_region
   go_wp2
   go_ret3
   exact ⟨rfl,(Below.refl _ _).drew⟩
theorem cut_any (s:ByteArray) (k:Option Nat) (w:World) (hs:s.size≤maxLen) (h:IsCut s k) :
 Calls Tryz.prog 93 #[.string s,.string ⟨#[47]⟩] w fun e w'=>e=.returned (.tuple #[.string (cutP s k),.string (cutQ s k),.bool k.isSome])∧Up w w':=by
 have m:=Hd h; clear h
 go_enter Tryz.func93,Tryz.ntmps93
 go_wp2_with fail
 refine (cutS_any s k _ hs m.o).mono ?_; rintro e w' ⟨rfl,i⟩; have j:=Hd i; clear i
 go_wp2
 go_ret3
 exact ⟨rfl,j.o⟩
theorem cutForm_any (s:ByteArray) (k:Option Nat) (w:World) (hs:s.size≤maxLen) (h:IsCut s k) :
 Calls Tryz.prog 71 #[.string s] w fun e w'=>e=.returned (.agg #[.string (cutP s k),.bool k.isSome,.string (cutQ s k)])∧Up w w':=by
 have L:=Hd h; obtain ⟨p,J⟩:=exW (cutP s k); obtain ⟨q,K⟩:=exW (cutQ s k); obtain ⟨b,j⟩:=exW k.isSome; have F:Hid (cutP s k=p∧cutQ s k=q∧k.isSome=b):=⟨J,K,j⟩; rw [J,K,j]; clear h J K j; obtain ⟨H,i⟩:=exW (w.alloc (.cells #[.string ⟨#[]⟩,.bool false,.string ⟨#[]⟩] 94)); have G:=Hd i; have t:Bx H w.heap.size [.string ⟨#[]⟩,.bool false,.string ⟨#[]⟩]:=by rw [← i]; exact bx_new w _ _
 have u:Hid (Up w H):=by unfold Hid; rw [← i]; exact below_alloc _ _
 have D:Hid (∀ W,Up H W→Bx W w.heap.size [.string ⟨#[]⟩,.bool false,.string ⟨#[]⟩]):=fun W hW=>t.below t.lt hW; clear i t
 go_enter Tryz.func71,Tryz.ntmps71
 go_wp2_with fail
 rw [G.o]; refine (cut_any s k _ hs L.o).mono ?_; rintro e E ⟨rfl,m⟩; rw [F.o.1,F.o.2.1,F.o.2.2]; have A:=Hd m; have j:=D.o E m; obtain ⟨S,T,k2⟩:=j.k3; obtain ⟨r0,r1,r2⟩:=j.f3; clear m j
 go_wp2
 have I:=D.o E A.o; have O:Bx (((E.setCell ⟨w.heap.size,0,none⟩ (.string p)).setCell ⟨w.heap.size,1,none⟩ (.bool b)).setCell ⟨w.heap.size,2,none⟩ (.string q)) w.heap.size [.string p,.bool b,.string q]:=((I.set 0 _).set 1 _).set 2 _; have M:=belowSet3 (u.o.trans (A.o.mono u.o.size)) w.heap.size leR (.string p) (.bool b) (.string q); generalize ((E.setCell ⟨w.heap.size,0,none⟩ (.string p)).setCell ⟨w.heap.size,1,none⟩ (.bool b)).setCell ⟨w.heap.size,2,none⟩ (.string q)=Q at *; obtain ⟨m0,m1,m2⟩:=O.k3; refine bodyPost_ret (v:=.agg #[.string p,.bool b,.string q]) ?_ rfl ⟨rfl,M⟩; simp [results,Tryz.results71,go_sem,m0,m1,m2]
theorem l2Cut_any (s:ByteArray) (k:Option Nat) (w:World) (hs:s.size≤maxLen) (h:IsCut s k) :
 Calls Tryz.prog 35 #[.string s] w fun e w'=>e=.returned (.int .i64 (cutI k))∧w'=w:=by
 have G:=Hd h; clear h; unfold maxLen at hs
 go_enter Tryz.func35,Tryz.ntmps35
 go_wp2
 go_loop [3] (fun iv=>∃ i:Nat,i≤s.size∧iv=.int .i64 (i:Nat)∧∀ j:Nat,j<i→s.data.toList[j]? ≠ some 47) (fun iv=>s.size - (intOf iv).toNat)
 case atStart=>exact ⟨0,Nat.zero_le _,rfl,fun j hj=>by omega⟩
 case round=>
  obtain ⟨i,hi,rfl,u⟩:=hrel; have m:=Hd u; clear u
  by_cases hl:i<s.size
  ·have A:s.data.toList[i]? = some s[i]:=by
    rw [List.getElem?_eq_getElem (by simpa using hl)]; rfl
   by_cases t:s[i]=47
   ·have D:Hid (cutI k=(i:Int)):=by
     have:k=some i:=isCut_unique G.o (show IsCut s (some i) from ⟨by rw [A,t],m.o⟩)
     show cutI k=(i:Int)
     rw [this]; rfl
    have H:(s[i].toNat:Int)=47:=by rw [t]; rfl
    have z:((s[i].toNat:Int)==47)=true:=by rw [beq_iff_eq]; exact H
    clear A t H
    go_wp2
    go_ret
    exact ⟨ret_int D.o.symm,rfl⟩
   ·have E:Hid (∀ j:Nat,j<i+1→s.data.toList[j]? ≠ some 47):=fun j hj=>by
     by_cases F:j=i
     ·subst F; rw [A]; exact fun e=>t (Option.some.inj e)
     ·exact m.o j (by omega)
    have z:((s[i].toNat:Int)==47)=false:=by
     rw [beq_eq_false_iff_ne]; intro e; exact t (UInt8.toNat_inj.1 (by have e2:(47:UInt8).toNat=47:=rfl; omega))
    clear A t
    go_wp2
    go_round
    case rel=>exact ⟨i+1,by omega,by go_num,E.o⟩
    case measure=>simp [intOf]; omega
  ·have D:Hid (cutI k = -1):=by
    have:k=none:=isCut_unique G.o (show IsCut s none from fun j=>by
     by_cases hj:j<i
     ·exact m.o j hj
     ·rw [List.getElem?_eq_none (by simp; omega)]; simp)
    show cutI k = -1
    rw [this]; rfl
   go_wp2
   go_ret
   exact ⟨ret_int D.o.symm,rfl⟩
theorem sg_zero_iff (n:Bool) (l:List Nat) (ht:isTrim l):sg n (val l)=0↔l=[]:=by
 constructor
 ·intro h; apply Classical.byContradiction; intro i; have:=val_pos l ht i
  cases n<;>simp [sg] at h<;>omega
 rintro rfl
 cases n<;>simp [sg,val]
theorem dividedBy_any (B:Nat) (za zb:Value) (x y:Int) (n m:Nat) (w:World) (hBw:B≤w.heap.size) (ha:IsI B w za x n) (hb:IsI B w zb y m) (hy:y≠0) (hn:n≤90000) (hm:m≤90000) (hSP:SP w) :
 Calls Tryz.prog 97 #[za,zb] w fun e w'=>∃ z1 z2 q r,e=.returned (.tuple #[z1,z2])∧IsI B w' z1 q (n+2)∧IsI B w' z2 r (m+3)∧IsDiv x y q r∧Up w w':=by
 obtain ⟨G,I,a,rfl,j,H,rfl,E⟩:=ha; obtain ⟨t,J,b,rfl,s,u,rfl,F⟩:=hb; have i:b≠[]:=fun h=>hy ((sg_zero_iff t b u).2 h); rw [← sg_negOf G a,← sg_negOf t b]; refine (divided_raw B _ _ I J a b w hBw j s (by omega) (by omega) H u i hSP).mono ?_; rintro e w' ⟨z1,z2,q,r,A,D,h3,h4,h5⟩; exact ⟨z1,z2,q,r,A,D.mono leR (by omega),h3.mono leR (by omega),h4,h5⟩
def IsResD (s t u v:ByteArray):Prop:=if isIntB s=true∧isIntB t=true∧numT t≠0 then ∃ q r,IsDiv (numT s) (numT t) q r∧IsText q u∧IsText r v else u=strB []∧v=strB []
theorem IsResD.eq {s t u v u' v':ByteArray} (h:IsResD s t u v) (h':IsResD s t u' v'):u=u'∧v=v':=by
 unfold IsResD at h h'
 split at h
 ·rename_i hc; rw [if_pos hc] at h'; obtain ⟨q,r,i,j,h3⟩:=h; obtain ⟨A,D,m,k2,k3⟩:=h'; obtain ⟨rfl,rfl⟩:=isDiv_unique i m; exact ⟨j.eq k2,h3.eq k3⟩
 rename_i hc; rw [if_neg hc] at h'; exact ⟨by rw [h.1,h'.1],by rw [h.2,h'.2]⟩
theorem noInt_of {W:World} {g:Nat} {l:List Value} (h:Bx W g l) (hl:∀ v∈l,∀ x,v≠.int .u32 x):NoInt W g:=fun i x=>by
 rw [h.cell i]
 intro e
 exact hl _ (List.mem_of_getElem? e) x rfl
theorem IsL.put2 {B:Nat} {W:World} {v:Value} {l:List Nat} (h:IsL B W v l) {g:Nat} (n:NoInt W g) (u0 u1:Value):IsL B ((W.setCell ⟨g,0,none⟩ u0).setCell ⟨g,1,none⟩ u1) v l:=
 h.keeps n n (Keeps.setCell (Keeps.setCell (Keeps.refl g g W) ⟨g,0,none⟩ u0 (Or.inl rfl)) ⟨g,1,none⟩ u1 (Or.inl rfl))
theorem set2 {N:Nat} {w W:World} (h:Below N w W) (g:Nat) (hg:N≤g) (u0 u1:Value):Below N w ((W.setCell ⟨g,0,none⟩ u0).setCell ⟨g,1,none⟩ u1):=
 (h.setCell (p:=⟨g,0,none⟩) hg u0).setCell (p:=⟨g,1,none⟩) hg u1
theorem wholeNumber_any (n:Nat) (w:World) (hn:n<18446744073709551616) :
 Calls Tryz.prog 78 #[.int .u64 (n:Nat)] w fun e w'=>∃ z,e=.returned z∧IsI w.heap.size w' z (n:Nat) 3∧Up w w':=by
 obtain ⟨G,i⟩:=exW (w.alloc (.cells #[.bool false,.slice none 0 0] 55)); have O:=Hd i; have u:Bx G w.heap.size [.bool false,.slice none 0 0]:=by rw [← i]; exact bx_new w _ _
 have j:Hid (Up w G):=by unfold Hid; rw [← i]; exact below_alloc _ _
 have E:Hid (∀ W,Up G W→Bx W w.heap.size [.bool false,.slice none 0 0]):=fun W hW=>u.below u.lt hW; clear i u
 go_enter Tryz.func78,Tryz.ntmps78
 go_wp2_with fail
 rw [O.o]; refine (limbsOf_trim n _ hn).mono ?_; rintro e w1 ⟨v,t,rfl,hv,ht,K,J,H⟩; have Y:=Hd hv; have D:=Hd H; have M:Hid (isTrim t∧val t=n∧t.length≤3):=⟨ht,K,J⟩; obtain ⟨pv,cv,V,_⟩:=hv; subst V; clear ht K J H
 go_wp2_with fail
 refine (makeInteger_any G.heap.size false _ t _ Y.o).mono ?_; rintro e L ⟨v',rfl,hcut,s⟩; have F:Hid (IsL G.heap.size L v' t):=by
  have h:=hcut _ _ (Y.o.below s); rw [trimL_of_trim t M.o.1] at h; exact h
 have m:=Hd (D.o.trans (s.mono D.o.size)); have Z:negOf false (trimL t)=false:=by unfold negOf; rfl
 rw [Z]; have S:=E.o L m.o; obtain ⟨k0,k1⟩:=S.k2; obtain ⟨r0,r1⟩:=S.f2; obtain ⟨A,c2,U,_⟩:=F.o; subst U; clear hcut s S Z
 go_wp2
 have I:=E.o L m.o; have T:=noInt_of I (by simp); have Q:=(F.o.mono j.o.size).put2 T (.bool false) (.slice A t.length c2); have hZ:Bx ((L.setCell ⟨w.heap.size,0,none⟩ (.bool false)).setCell ⟨w.heap.size,1,none⟩ (.slice A t.length c2)) w.heap.size [.bool false,.slice A t.length c2]:=(I.set 0 _).set 1 _; have hE:=set2 (j.o.trans (m.o.mono j.o.size)) w.heap.size leR (.bool false) (.slice A t.length c2); generalize (L.setCell ⟨w.heap.size,0,none⟩ (.bool false)).setCell ⟨w.heap.size,1,none⟩ (.slice A t.length c2)=WE at *; obtain ⟨m0,m1⟩:=hZ.k2; refine bodyPost_ret (v:=.agg #[.bool false,.slice A t.length c2]) ?_ rfl ⟨_,rfl,⟨false,_,t,by unfold negOf; rfl,Q,M.o.1,by rw [M.o.2.1]; rfl,M.o.2.2⟩,hE⟩; simp [results,Tryz.results78,go_sem,m0,m1]
def IsQR (B:Nat) (w:World) (z:Value) (x y:Int) (n:Nat):Prop:=∃ s1 v1 s2 v2,z=.agg #[.bool s1,v1,.bool s2,v2]∧IsI B w (.agg #[.bool s1,v1]) x n∧IsI B w (.agg #[.bool s2,v2]) y n
theorem IsQR.below {B:Nat} {w w':World} {z:Value} {x y:Int} {n:Nat} (h:IsQR B w z x y n) (hb:Up w w'):IsQR B w' z x y n:=by
 obtain ⟨s1,m,s2,s,e,i,j⟩:=h; exact ⟨s1,m,s2,s,e,i.below hb,j.below hb⟩
theorem IsI.parts {B:Nat} {w:World} {s:Bool} {v:Value} {x:Int} {n:Nat} (h:IsI B w (.agg #[.bool s,v]) x n):∃ neg t,s=negOf neg t∧IsL B w v t∧isTrim t∧sg neg (val t)=x∧t.length≤n:=by
 obtain ⟨neg,m,t,e,i,j,h3,h4⟩:=h; simp only [Value.agg.injEq,Array.mk.injEq,List.cons.injEq,Value.bool.injEq,and_true] at e; obtain ⟨rfl,rfl⟩:=e; exact ⟨neg,t,rfl,i,j,h3,h4⟩
theorem ordI_zero (x y:Int):(ordI x y==0)=decide (x=y):=by
 unfold ordI
 split
 ·rename_i h; have:x≠y:=by omega
  simp [this]
 split
 ·rename_i h; have:x≠y:=by omega
  simp [this]
 rename_i h1 h2; have:x=y:=by omega
 simp [this]
theorem isWhole_any (B:Nat) (z:Value) (x y:Int) (n:Nat) (w:World) (hBw:B≤w.heap.size) (h:IsQR B w z x y n) (hSP:SP w) :
 Calls Tryz.prog 83 #[z] w fun e w'=>e=.returned (.bool (decide (y=1)))∧Up w w':=by
 obtain ⟨s1,v1,s2,v2,rfl,h1,h2⟩:=h; obtain ⟨Z,t1,rfl,Y,_,_,_⟩:=h1.parts; obtain ⟨K,t2,rfl,E,L,e2,_⟩:=h2.parts; have Q:=Hd E; have T:=Hd hSP; have O:=Hd hBw; have HT:Hid (isTrim t2∧sg K (val t2)=y):=⟨L,e2⟩; obtain ⟨p1,c1,rfl,_,_,o1,_⟩:=Y; obtain ⟨p2,c2,rfl,_,_,o2,_⟩:=E; have HO:Hid (okL t2):=o2; clear hSP hBw L e2 h1 h2 o1 o2; obtain ⟨t,s⟩:=exW (w.alloc (.cells #[.bool (negOf Z t1),.slice p1 t1.length c1,.bool (negOf K t2),.slice p2 t2.length c2] 57)); have U:=Hd s; have u:Bx t w.heap.size [.bool (negOf Z t1),.slice p1 t1.length c1,.bool (negOf K t2),.slice p2 t2.length c2]:=by rw [← s]; exact bx_new w _ _
 have i:Hid (Up w t):=by unfold Hid; rw [← s]; exact below_alloc _ _
 have D:Hid (∀ W,Up t W→Bx W w.heap.size [.bool (negOf Z t1),.slice p1 t1.length c1,.bool (negOf K t2),.slice p2 t2.length c2]):=fun W hW=>u.below u.lt hW; clear s u
 go_enter Tryz.func83,Tryz.ntmps83
 go_upto_region 1 with fail
 rw [U.o]; have j:=D.o t (Below.refl _ _); obtain ⟨k0,k1,k2,k3⟩:=j.k4; clear j
 go_region_with (first
  | (go_at_call 78
     refine (wholeNumber_any 1 _ (by decide)).mono ?_; rintro e w1 ⟨z,rfl,hz,F⟩; have m:Hid (Up t w1):=(Below.refl _ t).drew.trans F; obtain ⟨nz,vz,A,rfl,H,I,J,_⟩:=hz; have V:Hid (IsL t.heap.size w1 vz A∧isTrim A∧sg nz (val A)=1):=⟨H,I,J⟩; obtain ⟨pz,cz,rfl,_,_,oz,_⟩:=H; have S:Hid (okL A):=oz; have j:=D.o w1 m.o; have j2:=j.cell 2; have j3:=j.cell 3; simp only [List.getElem?_cons_zero,List.getElem?_cons_succ] at j2 j3; clear I J F oz j)
  | (go_at_call 77
     refine (compare_any B _ _ _ _ t2 A _ (Q.o.below (i.o.trans (m.o.mono i.o.size))) (V.o.1.mono (by have:=O.o; have:=i.o.size; omega)) (T.o.below (i.o.trans (m.o.mono i.o.size)))).mono ?_; rintro e w2 ⟨rfl,G⟩; have M:Hid (Up w w2):=i.o.trans ((m.o.trans (G.mono m.o.size)).mono i.o.size); rw [cmpI_ord K nz t2 A HO.o S.o HT.o.1 V.o.2.1,HT.o.2,V.o.2.2]; clear G))
 all_goals
  try simp only [List.getElem_toArray,List.getElem_cons_succ,List.getElem_cons_zero,Act.put,List.setIfInBounds_toArray,List.set_cons_succ,List.set_cons_zero]
  go_wp2
  go_ret
  exact ⟨ret_bool (ordI_zero y 1),M.o⟩
theorem IsI.put2 {B:Nat} {W:World} {z:Value} {x:Int} {n:Nat} (h:IsI B W z x n) {g:Nat} (no:NoInt W g) (u0 u1:Value):IsI B ((W.setCell ⟨g,0,none⟩ u0).setCell ⟨g,1,none⟩ u1) z x n:=by
 obtain ⟨neg,v,t,e,i,j,h3,h4⟩:=h; exact ⟨neg,v,t,e,i.put2 no u0 u1,j,h3,h4⟩
theorem IsL.put4 {B:Nat} {W:World} {v:Value} {l:List Nat} (h:IsL B W v l) {g:Nat} (n:NoInt W g) (u0 u1 u2 u3:Value):IsL B ((((W.setCell ⟨g,0,none⟩ u0).setCell ⟨g,1,none⟩ u1).setCell ⟨g,2,none⟩ u2).setCell ⟨g,3,none⟩ u3) v l:=
 h.keeps n n (Keeps.setCell (Keeps.setCell (Keeps.setCell (Keeps.setCell (Keeps.refl g g W) ⟨g,0,none⟩ u0 (Or.inl rfl)) ⟨g,1,none⟩ u1 (Or.inl rfl)) ⟨g,2,none⟩ u2 (Or.inl rfl)) ⟨g,3,none⟩ u3 (Or.inl rfl))
theorem IsI.put4 {B:Nat} {W:World} {z:Value} {x:Int} {n:Nat} (h:IsI B W z x n) {g:Nat} (no:NoInt W g) (u0 u1 u2 u3:Value):IsI B ((((W.setCell ⟨g,0,none⟩ u0).setCell ⟨g,1,none⟩ u1).setCell ⟨g,2,none⟩ u2).setCell ⟨g,3,none⟩ u3) z x n:=by
 obtain ⟨neg,v,t,e,i,j,h3,h4⟩:=h; exact ⟨neg,v,t,e,i.put4 no u0 u1 u2 u3,j,h3,h4⟩
theorem set4 {N:Nat} {w W:World} (h:Below N w W) (g:Nat) (hg:N≤g) (u0 u1 u2 u3:Value):Below N w ((((W.setCell ⟨g,0,none⟩ u0).setCell ⟨g,1,none⟩ u1).setCell ⟨g,2,none⟩ u2).setCell ⟨g,3,none⟩ u3):=
 (set2 h g hg u0 u1).setCell (p:=⟨g,2,none⟩) hg u2 |>.setCell (p:=⟨g,3,none⟩) hg u3
theorem Bx.put2 {W:World} {g:Nat} {a b:Value} (h:Bx W g [a,b]) (u0 u1:Value):Bx ((W.setCell ⟨g,0,none⟩ u0).setCell ⟨g,1,none⟩ u1) g [u0,u1]:=(h.set 0 u0).set 1 u1
theorem Bx.off2 {W:World} {g:Nat} {l:List Value} (h:Bx W g l) {k:Nat} (hk:k≠g) (u0 u1:Value):Bx ((W.setCell ⟨k,0,none⟩ u0).setCell ⟨k,1,none⟩ u1) g l:=(h.other ⟨k,0,none⟩ hk u0).other ⟨k,1,none⟩ hk u1
structure BxM (h hc:Nat) (W:World) (s1:Bool) (v1:Value) (s2:Bool) (v2:Value) (s3:Bool) (v3:Value):Prop where
 a:Bx W h [.bool s1,v1]
 b:Bx W (h+1) [.bool s2,v2]
 r:Bx W (h+1+1) [.bool false,.slice none 0 0,.bool false,.slice none 0 0]
 c:Bx W hc [.bool s3,v3]
theorem BxM.below {h hc N:Nat} {W W':World} {s1 s2 s3:Bool} {v1 v2 v3:Value} (m:BxM h hc W s1 v1 s2 v2 s3 v3) (hN:h+3≤N) (hc':hc<N) (hb:Below N W W'):BxM h hc W' s1 v1 s2 v2 s3 v3:=
 ⟨m.a.below (by omega) hb,m.b.below (by omega) hb,m.r.below (by omega) hb,m.c.below hc' hb⟩
theorem BxM.cells {h hc:Nat} {W:World} {s1 s2 s3:Bool} {v1 v2 v3:Value} (m:BxM h hc W s1 v1 s2 v2 s3 v3) :
 (W.cell? ⟨h,0,none⟩=some (.bool s1)∧W.cell? ⟨h,1,none⟩=some v1∧∀ i,W.frozen? ⟨h,i,none⟩=false)∧(W.cell? ⟨h+1,0,none⟩=some (.bool s2)∧W.cell? ⟨h+1,1,none⟩=some v2∧∀ i,W.frozen? ⟨h+1,i,none⟩=false) ∧
 (W.cell? ⟨hc,0,none⟩=some (.bool s3)∧W.cell? ⟨hc,1,none⟩=some v3∧∀ i,W.frozen? ⟨hc,i,none⟩=false):=
 ⟨⟨m.a.cell 0,m.a.cell 1,m.a.frozen⟩,⟨m.b.cell 0,m.b.cell 1,m.b.frozen⟩,⟨m.c.cell 0,m.c.cell 1,m.c.frozen⟩⟩
theorem noInt2 {W:World} {g:Nat} {s:Bool} {p:Option Addr} {l c:Nat} (h:Bx W g [.bool s,.slice p l c]):NoInt W g:=noInt_of h (by simp)
theorem neg_iff (neg:Bool) (t:List Nat) (y:Int) (ht:isTrim t) (h:sg neg (val t)=y):negOf neg t=decide (y<0):=by
 unfold negOf
 by_cases hl:t=[]
 ·subst hl; have:y=0:=by rw [← h]; cases neg<;>simp [sg,val]
  subst this; simp
 have j:=val_pos t ht hl; have i:0<t.length:=List.length_pos_iff.2 hl
 cases neg
 ·have:¬ y<0:=by rw [← h]; simp [sg]
  simp [this]
 have:y<0:=by rw [← h]; simp [sg]; omega
 simp [this,i]
theorem makeRational_any (B:Nat) (za zb:Value) (x y:Int) (n:Nat) (w:World) (hBw:B≤w.heap.size) (ha:IsI B w za x n) (hb:IsI B w zb y n) (hy:y≠0) (hn:n≤80000) (hSP:SP w) (hNS:NS w) :
 Calls Tryz.prog 75 #[za,zb] w fun e w'=>∃ z p q,e=.returned z∧IsQR B w' z p q (n+3)∧IsLow x y p q∧Up w w':=by
 obtain ⟨s1,p1,l1,c1,rfl⟩:=ha.shape; obtain ⟨s2,p2,l2,c2,rfl⟩:=hb.shape; have j5:s2=decide (y<0):=by
  obtain ⟨neg,t,e,_,ht,hv,_⟩:=hb.parts; rw [e]; exact neg_iff neg t y ht hv
 have i7:=Hd j5; clear j5; have HA:=Hd ha; have HB:=Hd hb; have d3:=Hd hSP; have m5:=Hd hNS; have b5:=Hd hBw; have HC:Hid (∀ c,c=(if y<0 then -gcdI x y else gcdI x y)→c≠0):=fun c e=>by
  have hg:0<Int.gcd x y:=Int.gcd_pos_of_ne_zero_right _ hy; rw [e]; unfold gcdI; split<;>omega
 have e0:Hid (∀ c q r d r',c=(if y<0 then -gcdI x y else gcdI x y)→IsDiv x c q r→IsDiv y c d r'→IsLow x y q d):=fun c q r d r' e h1 h2=>low_of_div x y c q r d r' hy e h1 h2; clear ha hb hSP hNS hBw; obtain ⟨W0,W⟩:=exW (((w.alloc (.cells #[.bool s1,.slice p1 l1 c1] 55)).alloc (.cells #[.bool s2,.slice p2 l2 c2] 55)).alloc (.cells #[.bool false,.slice none 0 0,.bool false,.slice none 0 0] 57)); have m6:=Hd W; have j4:W0.heap.size=w.heap.size+3:=by rw [← W]; simp
 have i6:=Hd j4; have a9:Hid (Up w W0):=by
  unfold Hid
  rw [← W]; exact below_al (below_al (below_alloc _ _) _) _
 have j6:Bx W0 w.heap.size [.bool s1,.slice p1 l1 c1]:=by rw [← W]; exact ((bx_new w _ _).alloc _).alloc _
 have j7:Bx W0 (w.heap.size+1) [.bool s2,.slice p2 l2 c2]:=by
  rw [← W]; have h:=bx_new (w.alloc (.cells #[.bool s1,.slice p1 l1 c1] 55)) [.bool s2,.slice p2 l2 c2] 55; rw [World.size_alloc] at h; exact h.alloc _
 have j8:Bx W0 (w.heap.size+1+1) [.bool false,.slice none 0 0,.bool false,.slice none 0 0]:=by
  rw [← W]; have h:=bx_new ((w.alloc (.cells #[.bool s1,.slice p1 l1 c1] 55)).alloc (.cells #[.bool s2,.slice p2 l2 c2] 55)) [.bool false,.slice none 0 0,.bool false,.slice none 0 0] 57; rw [World.size_alloc,World.size_alloc] at h; exact h
 have HX:Hid (Bx W0 w.heap.size [.bool s1,.slice p1 l1 c1]∧Bx W0 (w.heap.size+1) [.bool s2,.slice p2 l2 c2]∧Bx W0 (w.heap.size+1+1) [.bool false,.slice none 0 0,.bool false,.slice none 0 0]):=⟨j6,j7,j8⟩; clear W j4 j6 j7 j8
 go_enter Tryz.func75,Tryz.ntmps75
 go_wp2_with fail
 rw [m6.o]; refine (commonDivisor_any B _ _ x y n _ (by have:=b5.o; have:=i6.o; omega) (HA.o.below a9.o) (HB.o.below a9.o) (by omega) (m5.o.below a9.o)).mono ?_; rintro e G ⟨z,rfl,hz,d7⟩; obtain ⟨s3,p3,l3,c3,rfl⟩:=hz.shape; obtain ⟨W1,d6⟩:=exW (G.alloc (.cells #[.bool s3,.slice p3 l3 c3] 55)); have i8:=Hd d6; have b9:Up G W1:=by rw [← d6]; exact below_alloc _ _
 have g9:Bx W1 G.heap.size [.bool s3,.slice p3 l3 c3]:=by rw [← d6]; exact bx_new G _ _
 have T:Up W0 W1:=d7.trans (b9.mono d7.size); have HM:Hid (BxM w.heap.size G.heap.size W1 s1 (.slice p1 l1 c1) s2 (.slice p2 l2 c2) s3 (.slice p3 l3 c3)):=⟨HX.o.1.below HX.o.1.lt T,HX.o.2.1.below HX.o.2.1.lt T,HX.o.2.2.below HX.o.2.2.lt T,g9⟩; have HZ:Hid (IsI B W1 (.agg #[.bool s3,.slice p3 l3 c3]) (gcdI x y) n):=hz.below b9; have U:Hid (Up w W1):=a9.o.trans (T.mono a9.o.size); have p0:w.heap.size+3≤G.heap.size:=by have:=i6.o; have:=d7.size; omega
 have o9:G.heap.size<W1.heap.size:=g9.lt; clear hz d7 d6 b9 g9 T
 cases s2
 case' _=>
  have V:Hid (gcdI x y=if y<0 then -gcdI x y else gcdI x y):=by
   have h:¬ y<0:=by simpa using i7.o
   show gcdI x y=if y<0 then -gcdI x y else gcdI x y
   rw [if_neg h]
  have k0:=HM.o.b.cell 0; simp only [List.getElem?_cons_zero] at k0
  go_upto_region 2 with fail
  rw [i8.o]; clear k0; have m1:=HM.o.cells; obtain ⟨⟨a0,a1,af⟩,⟨b0,b1,bf⟩,⟨q0,q1,qf⟩⟩:=m1
  go_upto_region 5 with fail
  go_wp2_with fail
  refine (dividedBy_any B _ _ x (gcdI x y) n n _ (by have:=b5.o; have:=U.o.size; omega) (HA.o.below U.o) HZ.o (HC.o _ V.o) (by omega) (by omega) (d3.o.below U.o)).mono ?_; rintro e w5 ⟨z1,z2,qn,qr,rfl,Y,d0,J,M⟩; obtain ⟨i,m,j,c5,rfl⟩:=Y.shape; obtain ⟨s6,p6,l6,c6,rfl⟩:=d0.shape; have e6:=Hd J; have s:=Hd (HM.o.below (N:=W1.heap.size) (by omega) (by omega) M); have f9:=Hd Y; have e4:=Hd (HZ.o.below M); have b4:=Hd (U.o.trans (M.mono U.o.size)); have n4:G.heap.size<w5.heap.size:=s.o.c.lt; clear Y d0 J M a0 a1 af b0 b1 bf q0 q1 qf; obtain ⟨⟨a0,a1,af⟩,⟨b0,b1,bf⟩,⟨q0,q1,qf⟩⟩:=s.o.cells; have g6:=af 0; have g7:=af 1; clear af bf qf; have Q:=noInt2 s.o.a; obtain ⟨W6,u⟩:=exW ((w5.setCell ⟨w.heap.size,0,none⟩ (.bool i)).setCell ⟨w.heap.size,1,none⟩ (.slice m j c5)); have f7:=Hd u; have g4:Hid (IsI B W6 (.agg #[.bool i,.slice m j c5]) qn (n+2)):=by have h:=f9.o.put2 Q (.bool i) (.slice m j c5); rw [u] at h; exact h
  have e5:Hid (IsI B W6 (.agg #[.bool s3,.slice p3 l3 c3]) (gcdI x y) n):=by have h:=e4.o.put2 Q (.bool i) (.slice m j c5); rw [u] at h; exact h
  have e7:Hid (IsI B W6 (.agg #[.bool false,.slice p2 l2 c2]) y n):=by have h:=(HB.o.below b4.o).put2 Q (.bool i) (.slice m j c5); rw [u] at h; exact h
  have L:Hid (Up w W6):=by have h:=set2 b4.o w.heap.size leR (.bool i) (.slice m j c5); rw [u] at h; exact h
  have b6:Hid (BxM w.heap.size G.heap.size W6 i (.slice m j c5) false (.slice p2 l2 c2) s3 (.slice p3 l3 c3)):=by
   have h1:=s.o.a.put2 (.bool i) (.slice m j c5); have h2:=s.o.b.off2 (k:=w.heap.size) (by omega) (.bool i) (.slice m j c5); have h3:=s.o.r.off2 (k:=w.heap.size) (by omega) (.bool i) (.slice m j c5); have h4:=s.o.c.off2 (k:=w.heap.size) (by omega) (.bool i) (.slice m j c5); rw [u] at h1 h2 h3 h4; exact ⟨h1,h2,h3,h4⟩
  have n5:G.heap.size<W6.heap.size:=b6.o.c.lt; clear u Q
  go_upto_region 6 with fail
  go_wp2_with fail
  rw [f7.o]; refine (dividedBy_any B _ _ y (gcdI x y) n n _ (by have:=b5.o; have:=L.o.size; omega) e7.o e5.o (HC.o _ V.o) (by omega) (by omega) (d3.o.below L.o)).mono ?_; rintro e w7 ⟨z3,z4,dn,dr,rfl,Z,S,J,O⟩; obtain ⟨A,F,E,D,rfl⟩:=Z.shape; obtain ⟨s8,p8,l8,c8,rfl⟩:=S.shape; have i4:=Hd (e0.o _ _ _ _ _ V.o e6.o J); have H:=Hd (b6.o.below (N:=W6.heap.size) (by omega) (by omega) O); have f5:=Hd (g4.o.below O); have e8:=Hd Z; have e3:=Hd (L.o.trans (O.mono L.o.size)); clear Z S J O a0 a1 b0 b1 q0 q1 g6 g7; have a5:=noInt2 H.o.b; obtain ⟨W8,I⟩:=exW ((w7.setCell ⟨w.heap.size+1,0,none⟩ (.bool A)).setCell ⟨w.heap.size+1,1,none⟩ (.slice F E D)); have i9:=Hd I; have i5:Hid (IsI B W8 (.agg #[.bool i,.slice m j c5]) qn (n+2)):=by have h:=f5.o.put2 a5 (.bool A) (.slice F E D); rw [I] at h; exact h
  have i3:Hid (IsI B W8 (.agg #[.bool A,.slice F E D]) dn (n+2)):=by have h:=e8.o.put2 a5 (.bool A) (.slice F E D); rw [I] at h; exact h
  have i1:Hid (Up w W8):=by have h:=set2 e3.o (w.heap.size+1) (Nat.le_succ _) (.bool A) (.slice F E D); rw [I] at h; exact h
  have a3:Hid (BxM w.heap.size G.heap.size W8 i (.slice m j c5) A (.slice F E D) s3 (.slice p3 l3 c3)):=by
   have h1:=H.o.a.off2 (k:=w.heap.size+1) (by omega) (.bool A) (.slice F E D); have h2:=H.o.b.put2 (.bool A) (.slice F E D); have h3:=H.o.r.off2 (k:=w.heap.size+1) (by omega) (.bool A) (.slice F E D); have h4:=H.o.c.off2 (k:=w.heap.size+1) (by omega) (.bool A) (.slice F E D); rw [I] at h1 h2 h3 h4; exact ⟨h1,h2,h3,h4⟩
 rotate_left
 case' _=>
  have V:Hid (-gcdI x y=if y<0 then -gcdI x y else gcdI x y):=by
   have h:y<0:=by simpa using i7.o
   show -gcdI x y=if y<0 then -gcdI x y else gcdI x y
   rw [if_pos h]
  have k0:=HM.o.b.cell 0; simp only [List.getElem?_cons_zero] at k0; obtain ⟨_,_,⟨q0,q1,_⟩⟩:=HM.o.cells
  go_upto_region 2 with fail
  rw [i8.o]
  go_wp2_with fail
  refine (negated_any B _ _ n _ HZ.o).mono ?_; rintro e w2 ⟨z4,rfl,S,g8⟩; obtain ⟨s4,p4,l4,c4,rfl⟩:=S.shape; have K:=HM.o.below (N:=W1.heap.size) (by omega) (by omega) g8; have j2:=noInt2 K.c; obtain ⟨W2,c9⟩:=exW ((w2.setCell ⟨G.heap.size,0,none⟩ (.bool s4)).setCell ⟨G.heap.size,1,none⟩ (.slice p4 l4 c4)); have m7:=Hd c9; have j0:Hid (IsI B W2 (.agg #[.bool s4,.slice p4 l4 c4]) (-gcdI x y) n):=by have h:=S.put2 j2 (.bool s4) (.slice p4 l4 c4); rw [c9] at h; exact h
  have b3:Hid (Up w W2):=by have h:=set2 (U.o.trans (g8.mono U.o.size)) G.heap.size (by omega) (.bool s4) (.slice p4 l4 c4); rw [c9] at h; exact h
  have e9:Hid (BxM w.heap.size G.heap.size W2 s1 (.slice p1 l1 c1) true (.slice p2 l2 c2) s4 (.slice p4 l4 c4)):=by
   have h1:=K.a.off2 (k:=G.heap.size) (by omega) (.bool s4) (.slice p4 l4 c4); have h2:=K.b.off2 (k:=G.heap.size) (by omega) (.bool s4) (.slice p4 l4 c4); have h3:=K.r.off2 (k:=G.heap.size) (by omega) (.bool s4) (.slice p4 l4 c4); have h4:=K.c.put2 (.bool s4) (.slice p4 l4 c4); rw [c9] at h1 h2 h3 h4; exact ⟨h1,h2,h3,h4⟩
  have n8:G.heap.size<W2.heap.size:=e9.o.c.lt; have i2:Hid (w2.frozen? ⟨G.heap.size,0,none⟩=false∧w2.frozen? ⟨G.heap.size,1,none⟩=false∧w2.cell? ⟨G.heap.size,0,none⟩=some (.bool s3)∧w2.cell? ⟨G.heap.size,1,none⟩=some (.slice p3 l3 c3)):=⟨K.c.frozen 0,K.c.frozen 1,K.c.cell 0,K.c.cell 1⟩; obtain ⟨g0,g1,g2,g3⟩:=i2.o; clear S g8 K j2 c9 k0 q0 q1 i2
  go_upto_region 4 with fail
  rw [m7.o]; clear g0 g1 g2 g3; have m1:=e9.o.cells; obtain ⟨⟨a0,a1,af⟩,⟨b0,b1,bf⟩,⟨q0,q1,qf⟩⟩:=m1
  go_upto_region 5 with fail
  go_wp2_with fail
  refine (dividedBy_any B _ _ x (-gcdI x y) n n _ (by have:=b5.o; have:=b3.o.size; omega) (HA.o.below b3.o) j0.o (HC.o _ V.o) (by omega) (by omega) (d3.o.below b3.o)).mono ?_; rintro e w5 ⟨z1,z2,qn,qr,rfl,Y,d0,J,M⟩; obtain ⟨i,m,j,c5,rfl⟩:=Y.shape; obtain ⟨s6,p6,l6,c6,rfl⟩:=d0.shape; have e6:=Hd J; have s:=Hd (e9.o.below (N:=W2.heap.size) (by omega) (by omega) M); have f9:=Hd Y; have e4:=Hd (j0.o.below M); have b4:=Hd (b3.o.trans (M.mono b3.o.size)); have n4:G.heap.size<w5.heap.size:=s.o.c.lt; clear Y d0 J M a0 a1 af b0 b1 bf q0 q1 qf; obtain ⟨⟨a0,a1,af⟩,⟨b0,b1,bf⟩,⟨q0,q1,qf⟩⟩:=s.o.cells; have g6:=af 0; have g7:=af 1; clear af bf qf; have Q:=noInt2 s.o.a; obtain ⟨W6,u⟩:=exW ((w5.setCell ⟨w.heap.size,0,none⟩ (.bool i)).setCell ⟨w.heap.size,1,none⟩ (.slice m j c5)); have f7:=Hd u; have g4:Hid (IsI B W6 (.agg #[.bool i,.slice m j c5]) qn (n+2)):=by have h:=f9.o.put2 Q (.bool i) (.slice m j c5); rw [u] at h; exact h
  have e5:Hid (IsI B W6 (.agg #[.bool s4,.slice p4 l4 c4]) (-gcdI x y) n):=by have h:=e4.o.put2 Q (.bool i) (.slice m j c5); rw [u] at h; exact h
  have e7:Hid (IsI B W6 (.agg #[.bool true,.slice p2 l2 c2]) y n):=by have h:=(HB.o.below b4.o).put2 Q (.bool i) (.slice m j c5); rw [u] at h; exact h
  have L:Hid (Up w W6):=by have h:=set2 b4.o w.heap.size leR (.bool i) (.slice m j c5); rw [u] at h; exact h
  have b6:Hid (BxM w.heap.size G.heap.size W6 i (.slice m j c5) true (.slice p2 l2 c2) s4 (.slice p4 l4 c4)):=by
   have h1:=s.o.a.put2 (.bool i) (.slice m j c5); have h2:=s.o.b.off2 (k:=w.heap.size) (by omega) (.bool i) (.slice m j c5); have h3:=s.o.r.off2 (k:=w.heap.size) (by omega) (.bool i) (.slice m j c5); have h4:=s.o.c.off2 (k:=w.heap.size) (by omega) (.bool i) (.slice m j c5); rw [u] at h1 h2 h3 h4; exact ⟨h1,h2,h3,h4⟩
  have n5:G.heap.size<W6.heap.size:=b6.o.c.lt; clear u Q
  go_upto_region 6 with fail
  go_wp2_with fail
  rw [f7.o]; refine (dividedBy_any B _ _ y (-gcdI x y) n n _ (by have:=b5.o; have:=L.o.size; omega) e7.o e5.o (HC.o _ V.o) (by omega) (by omega) (d3.o.below L.o)).mono ?_; rintro e w7 ⟨z3,z4,dn,dr,rfl,Z,S,J,O⟩; obtain ⟨A,F,E,D,rfl⟩:=Z.shape; obtain ⟨s8,p8,l8,c8,rfl⟩:=S.shape; have i4:=Hd (e0.o _ _ _ _ _ V.o e6.o J); have H:=Hd (b6.o.below (N:=W6.heap.size) (by omega) (by omega) O); have f5:=Hd (g4.o.below O); have e8:=Hd Z; have e3:=Hd (L.o.trans (O.mono L.o.size)); clear Z S J O a0 a1 b0 b1 q0 q1 g6 g7; have a5:=noInt2 H.o.b; obtain ⟨W8,I⟩:=exW ((w7.setCell ⟨w.heap.size+1,0,none⟩ (.bool A)).setCell ⟨w.heap.size+1,1,none⟩ (.slice F E D)); have i9:=Hd I; have i5:Hid (IsI B W8 (.agg #[.bool i,.slice m j c5]) qn (n+2)):=by have h:=f5.o.put2 a5 (.bool A) (.slice F E D); rw [I] at h; exact h
  have i3:Hid (IsI B W8 (.agg #[.bool A,.slice F E D]) dn (n+2)):=by have h:=e8.o.put2 a5 (.bool A) (.slice F E D); rw [I] at h; exact h
  have i1:Hid (Up w W8):=by have h:=set2 e3.o (w.heap.size+1) (Nat.le_succ _) (.bool A) (.slice F E D); rw [I] at h; exact h
  have a3:Hid (BxM w.heap.size G.heap.size W8 i (.slice m j c5) A (.slice F E D) s4 (.slice p4 l4 c4)):=by
   have h1:=H.o.a.off2 (k:=w.heap.size+1) (by omega) (.bool A) (.slice F E D); have h2:=H.o.b.put2 (.bool A) (.slice F E D); have h3:=H.o.r.off2 (k:=w.heap.size+1) (by omega) (.bool A) (.slice F E D); have h4:=H.o.c.off2 (k:=w.heap.size+1) (by omega) (.bool A) (.slice F E D); rw [I] at h1 h2 h3 h4; exact ⟨h1,h2,h3,h4⟩
 rotate_left
 all_goals
  clear I a5; obtain ⟨_,⟨b0,b1,bf⟩,_⟩:=H.o.cells; have m9:=bf 0; have n0:=bf 1; clear bf
  go_upto_region 6 with fail
  rw [i9.o]; clear b0 b1 m9 n0; obtain ⟨⟨a0,a1,_⟩,⟨b0,b1,_⟩,_⟩:=a3.o.cells; obtain ⟨r0,r1,r2,r3⟩:=a3.o.r.k4; obtain ⟨f0,f1,f2,f3⟩:=a3.o.r.f4
  go_wp2
  have j3:NoInt W8 (w.heap.size+1+1):=noInt_of a3.o.r (by simp); have n3:=i5.o.put4 j3 (.bool i) (.slice m j c5) (.bool A) (.slice F E D); have n2:=i3.o.put4 j3 (.bool i) (.slice m j c5) (.bool A) (.slice F E D); have n1:=set4 i1.o (w.heap.size+1+1) (by omega) (.bool i) (.slice m j c5) (.bool A) (.slice F E D); have hZ:Bx ((((W8.setCell ⟨w.heap.size+1+1,0,none⟩ (.bool i)).setCell ⟨w.heap.size+1+1,1,none⟩ (.slice m j c5)).setCell ⟨w.heap.size+1+1,2,none⟩ (.bool A)).setCell ⟨w.heap.size+1+1,3,none⟩ (.slice F E D)) (w.heap.size+1+1) [.bool i,.slice m j c5,.bool A,.slice F E D]:=(((a3.o.r.set 0 _).set 1 _).set 2 _).set 3 _; generalize (((W8.setCell ⟨w.heap.size+1+1,0,none⟩ (.bool i)).setCell ⟨w.heap.size+1+1,1,none⟩ (.slice m j c5)).setCell ⟨w.heap.size+1+1,2,none⟩ (.bool A)).setCell ⟨w.heap.size+1+1,3,none⟩ (.slice F E D)=W9 at *; obtain ⟨m0,m1,m2,m3⟩:=hZ.k4; refine bodyPost_ret (v:=.agg #[.bool i,.slice m j c5,.bool A,.slice F E D]) ?_ rfl ⟨_,qn,dn,rfl,⟨i,_,A,_,rfl,n3.mono leR (by omega),n2.mono leR (by omega)⟩,i4.o,n1⟩; simp [results,Tryz.results75,go_sem,m0,m1,m2,m3]
def FormOf (x y:Int) (z:Value):Prop:=∃ u v b,z=.agg #[.string u,.bool b,.string v]∧IsText x u∧(if y=1 then b=false∧v=⟨#[]⟩ else b=true∧IsText y v)
theorem IsQR.shape {B:Nat} {w:World} {z:Value} {x y:Int} {n:Nat} (h:IsQR B w z x y n):∃ s1 p1 l1 c1 s2 p2 l2 c2,z=.agg #[.bool s1,.slice p1 l1 c1,.bool s2,.slice p2 l2 c2]∧IsI B w (.agg #[.bool s1,.slice p1 l1 c1]) x n∧IsI B w (.agg #[.bool s2,.slice p2 l2 c2]) y n:=by
 obtain ⟨s1,m,s2,s,rfl,i,j⟩:=h; obtain ⟨_,t1,_,⟨p1,c1,rfl,_⟩,_⟩:=i.parts; obtain ⟨_,t2,_,⟨p2,c2,rfl,_⟩,_⟩:=j.parts; exact ⟨s1,p1,_,c1,s2,p2,_,c2,rfl,i,j⟩
theorem form_any (B:Nat) (z:Value) (x y:Int) (n:Nat) (w:World) (hBw:B≤w.heap.size) (h:IsQR B w z x y n) (hn:n≤600) (hSP:SP w) (hLT:LT w) :
 Calls Tryz.prog 53 #[z] w fun e w'=>∃ r,e=.returned r∧FormOf x y r∧Up w w':=by
 have HR:=Hd h; obtain ⟨s1,p1,Y,c1,s2,p2,Z,c2,rfl,h1,h2⟩:=h.shape; have a9:=Hd hSP; have H:=Hd hLT; have a8:=Hd hBw; have H1:=Hd h1; have H2:=Hd h2; clear h hSP hLT hBw h1 h2; obtain ⟨O,A⟩:=exW ((w.alloc (.cells #[.bool s1,.slice p1 Y c1,.bool s2,.slice p2 Z c2] 57)).alloc (.cells #[.string ⟨#[]⟩,.bool false,.string ⟨#[]⟩] 94)); have b4:=Hd A; have m:Hid (Up w O):=by
  unfold Hid
  rw [← A]; exact below_al (below_alloc _ _) _
 have F:Bx O w.heap.size [.bool s1,.slice p1 Y c1,.bool s2,.slice p2 Z c2]:=by rw [← A]; exact (bx_new w _ _).alloc _
 have J:Bx O (w.heap.size+1) [.string ⟨#[]⟩,.bool false,.string ⟨#[]⟩]:=by
  rw [← A]; have h:=bx_new (w.alloc (.cells #[.bool s1,.slice p1 Y c1,.bool s2,.slice p2 Z c2] 57)) [.string ⟨#[]⟩,.bool false,.string ⟨#[]⟩] 94; rw [World.size_alloc] at h; exact h
 have L:Hid (∀ W,Up O W→Bx W w.heap.size [.bool s1,.slice p1 Y c1,.bool s2,.slice p2 Z c2]∧Bx W (w.heap.size+1) [.string ⟨#[]⟩,.bool false,.string ⟨#[]⟩]):=fun W hW=>⟨F.below F.lt hW,J.below J.lt hW⟩; clear A; obtain ⟨k0,k1,k2,k3⟩:=F.k4; clear F J
 go_enter Tryz.func53,Tryz.ntmps53
 go_upto_region 1 with fail
 rw [b4.o]
 go_wp2_with fail
 refine (isWhole_any B _ x y n _ (by have:=a8.o; have:=m.o.size; omega) (HR.o.below m.o) (a9.o.below m.o)).mono ?_; rintro e w1 ⟨rfl,E⟩; have t:=Hd E; have Q:=m.o.trans (E.mono m.o.size); have j:=Hd Q; obtain ⟨V,b8⟩:=L.o w1 E; clear k0 k1 k2 k3; obtain ⟨k0,k1,k2,k3⟩:=V.k4; clear E Q V b8
 by_cases M:y=1
 ·have T:decide (y=1)=true:=decide_eq_true M; have HY:=Hd M; rw [T]; clear T M
  go_wp2_with fail
  refine (textI_any B _ x n _ (H1.o.below j.o) hn (H.o.below j.o)).mono ?_; rintro e K ⟨u,rfl,U,D⟩; have HU:=Hd U; have s:=Hd (t.o.trans (D.mono t.o.size)); have i:=(L.o K s.o).2; obtain ⟨r0,r1,r2⟩:=i.k3; obtain ⟨f0,f1,f2⟩:=i.f3; clear U D i
  go_wp2
  have i:=(L.o K s.o).2; have hZ:Bx (((K.setCell ⟨w.heap.size+1,0,none⟩ (.string u)).setCell ⟨w.heap.size+1,1,none⟩ (.bool false)).setCell ⟨w.heap.size+1,2,none⟩ (.string ⟨#[]⟩)) (w.heap.size+1) [.string u,.bool false,.string ⟨#[]⟩]:=((i.set 0 _).set 1 _).set 2 _; have hE:=belowSet3 (m.o.trans (s.o.mono m.o.size)) (w.heap.size+1) (Nat.le_succ _) (.string u) (.bool false) (.string ⟨#[]⟩); generalize ((K.setCell ⟨w.heap.size+1,0,none⟩ (.string u)).setCell ⟨w.heap.size+1,1,none⟩ (.bool false)).setCell ⟨w.heap.size+1,2,none⟩ (.string ⟨#[]⟩)=WE at *; obtain ⟨m0,m1,m2⟩:=hZ.k3; refine bodyPost_ret (v:=.agg #[.string u,.bool false,.string ⟨#[]⟩]) ?_ rfl ⟨_,rfl,⟨u,_,_,rfl,HU.o,by rw [if_pos HY.o]; exact ⟨rfl,rfl⟩⟩,hE⟩; simp [results,Tryz.results53,go_sem,m0,m1,m2]
 have T:decide (y=1)=false:=decide_eq_false M; have HY:=Hd M; rw [T]; clear T M
 go_wp2_with fail
 go_region_with (first
  | (go_at_call_of 84 (Value.slice p1 Y c1)
     refine (textI_any B _ x n _ (H1.o.below (j.o.trans ((Below.refl _ w1).drew.mono j.o.size))) hn (H.o.below (j.o.trans ((Below.refl _ w1).drew.mono j.o.size)))).mono ?_; rintro e K ⟨u,rfl,U,D⟩; have HU:=Hd U; have s:Hid (Up w1 K):=(Below.refl _ w1).drew.trans D; have I:=(L.o K (t.o.trans (s.o.mono t.o.size))).1; have j2:=I.cell 2; have j3:=I.cell 3; simp only [List.getElem?_cons_zero,List.getElem?_cons_succ] at j2 j3; clear U D I)
  | (go_at_call_of 84 (Value.slice p2 Z c2)
     refine (textI_any B _ y n _ (H2.o.below (j.o.trans (s.o.mono j.o.size))) hn (H.o.below (j.o.trans (s.o.mono j.o.size)))).mono ?_; rintro e w3 ⟨v,rfl,hv,S⟩; have HV:=Hd hv; have G:Hid (Up O w3):=t.o.trans ((s.o.trans (S.mono s.o.size)).mono t.o.size); have i:=(L.o w3 G.o).2; obtain ⟨r0,r1,r2⟩:=i.k3; obtain ⟨f0,f1,f2⟩:=i.f3; clear hv S i))
 all_goals
  try simp only [List.getElem_toArray,List.getElem_cons_succ,List.getElem_cons_zero,Act.put,List.setIfInBounds_toArray,List.set_cons_succ,List.set_cons_zero]
  go_wp2
  have i:=(L.o w3 G.o).2; have hZ:Bx (((w3.setCell ⟨w.heap.size+1,0,none⟩ (.string u)).setCell ⟨w.heap.size+1,1,none⟩ (.bool true)).setCell ⟨w.heap.size+1,2,none⟩ (.string v)) (w.heap.size+1) [.string u,.bool true,.string v]:=((i.set 0 _).set 1 _).set 2 _; have hE:=belowSet3 (m.o.trans (G.o.mono m.o.size)) (w.heap.size+1) (Nat.le_succ _) (.string u) (.bool true) (.string v); generalize ((w3.setCell ⟨w.heap.size+1,0,none⟩ (.string u)).setCell ⟨w.heap.size+1,1,none⟩ (.bool true)).setCell ⟨w.heap.size+1,2,none⟩ (.string v)=WE at *; obtain ⟨m0,m1,m2⟩:=hZ.k3; refine bodyPost_ret (v:=.agg #[.string u,.bool true,.string v]) ?_ rfl ⟨_,rfl,⟨u,_,_,rfl,HU.o,by rw [if_neg HY.o]; exact ⟨rfl,HV.o⟩⟩,hE⟩; simp [results,Tryz.results53,go_sem,m0,m1,m2]
theorem eqForm (a c a' c':ByteArray) (b b':Bool) (w:World):(Op.equalIn 10000 94 (.agg #[.string a,.bool b,.string c]) (.agg #[.string a',.bool b',.string c'])).run Tryz.prog w=.ok (a.toList==a'.toList&&b==b'&&c.toList==c'.toList) w:=by
 have u3:=Tryz.underlying9; have u4:=Tryz.underlying4; have s:=Tryz.isAgg9; have a4:=Tryz.isAgg4; have t:=Tryz.sizeOf9; have z4:=Tryz.sizeOf4; have m:Tryz.prog.underlying 94=some (.struct (Tryz.prog.fieldsOf 94)):=by kernel_rfl
 rw [show (10000:Nat)=9999+1 from rfl,run_equalIn_agg w 9999 94 _ _ m (by kernel_rfl)]; simp only [Program.fieldsOf,Tryz.underlying94]
 go_simp
 by_cases i:a.toList=a'.toList<;>by_cases j:b=b'<;>by_cases h3:c.toList=c'.toList<;>simp [i,j,h3]
theorem toList_inj {a b:ByteArray}:(a.toList==b.toList)=decide (a=b):=by
 by_cases h:a=b
 ·subst h; simp
 have:a.toList≠b.toList:=fun e=>h (by
  rw [ByteArray.toList_eq,ByteArray.toList_eq] at e; exact ByteArray.ext (Array.toList_inj.1 e))
 simp [h,this]
def RatV (s:ByteArray) (k:Option Nat) (x y:Int):Prop:=
 match k with
 | none=>isIntB s=true∧x=numT s∧y=1
 | some i=>(isIntB (cutP s (some i))=true∧isIntB (cutQ s (some i))=true)∧(numT (cutQ s (some i))≠0∧cutP s (some i)≠strB [48]∧cutQ s (some i)≠strB [49]∧isNeg (cutQ s (some i))=false∧Int.gcd (numT (cutP s (some i))) (numT (cutQ s (some i)))=1) ∧
  x=numT (cutP s (some i))∧y=numT (cutQ s (some i))
def IsRatB (s:ByteArray) (b:Bool):Prop:=∃ k,IsCut s k∧(b=true↔∃ x y,RatV s k x y)
theorem wholeRational_any (s1:Bool) (p1:Option Addr) (l1 c1:Nat) (w:World) :
 Calls Tryz.prog 47 #[.agg #[.bool s1,.slice p1 l1 c1]] w fun e w'=>∃ s2 p2 l2 c2,e=.returned (.agg #[.bool s1,.slice p1 l1 c1,.bool s2,.slice p2 l2 c2])∧IsI w.heap.size w' (.agg #[.bool s2,.slice p2 l2 c2]) 1 3∧Up w w':=by
 obtain ⟨t,i⟩:=exW ((w.alloc (.cells #[.bool s1,.slice p1 l1 c1] 55)).alloc (.cells #[.bool false,.slice none 0 0,.bool false,.slice none 0 0] 57)); have H:=Hd i; have m:Hid (Up w t):=by
  unfold Hid
  rw [← i]; exact below_al (below_alloc _ _) _
 have j:Bx t w.heap.size [.bool s1,.slice p1 l1 c1]:=by rw [← i]; exact (bx_new w _ _).alloc _
 have u:Bx t (w.heap.size+1) [.bool false,.slice none 0 0,.bool false,.slice none 0 0]:=by
  rw [← i]; have h:=bx_new (w.alloc (.cells #[.bool s1,.slice p1 l1 c1] 55)) [.bool false,.slice none 0 0,.bool false,.slice none 0 0] 57; rw [World.size_alloc] at h; exact h
 have M:Hid (∀ W,Up t W→Bx W w.heap.size [.bool s1,.slice p1 l1 c1]∧Bx W (w.heap.size+1) [.bool false,.slice none 0 0,.bool false,.slice none 0 0]):=fun W hW=>⟨j.below j.lt hW,u.below u.lt hW⟩; clear i; obtain ⟨V,Y⟩:=j.k2; clear j u
 go_enter Tryz.func47,Tryz.ntmps47
 go_upto_region 1 with fail
 rw [H.o]
 go_region_with (first
  | (go_at_call 78
     refine (wholeNumber_any 1 _ (by decide)).mono ?_; rintro e D ⟨z,rfl,L,E⟩; have s:Hid (Up t D):=(Below.refl _ t).drew.trans E; obtain ⟨s2,p2,l2,c2,rfl⟩:=L.shape; have O:Hid (IsI t.heap.size D (.agg #[.bool s2,.slice p2 l2 c2]) 1 3):=L; obtain ⟨G,A⟩:=M.o D s.o; obtain ⟨T,U⟩:=G.k2; obtain ⟨r0,r1,r2,Z⟩:=A.k4; obtain ⟨f0,f1,f2,f3⟩:=A.f4; clear L E G A))
 all_goals
  try simp only [List.getElem_toArray,List.getElem_cons_succ,List.getElem_cons_zero,Act.put,List.setIfInBounds_toArray,List.set_cons_succ,List.set_cons_zero]
  go_wp2
  have F:=(M.o D s.o).2; have K:NoInt D (w.heap.size+1):=noInt_of F (by simp); have J:=(O.o.mono (B':=w.heap.size) (n':=3) m.o.size leR).put4 K (.bool s1) (.slice p1 l1 c1) (.bool s2) (.slice p2 l2 c2); have I:=set4 (m.o.trans (s.o.mono m.o.size)) (w.heap.size+1) (Nat.le_succ _) (.bool s1) (.slice p1 l1 c1) (.bool s2) (.slice p2 l2 c2); have Q:Bx ((((D.setCell ⟨w.heap.size+1,0,none⟩ (.bool s1)).setCell ⟨w.heap.size+1,1,none⟩ (.slice p1 l1 c1)).setCell ⟨w.heap.size+1,2,none⟩ (.bool s2)).setCell ⟨w.heap.size+1,3,none⟩ (.slice p2 l2 c2)) (w.heap.size+1) [.bool s1,.slice p1 l1 c1,.bool s2,.slice p2 l2 c2]:=(((F.set 0 _).set 1 _).set 2 _).set 3 _; generalize (((D.setCell ⟨w.heap.size+1,0,none⟩ (.bool s1)).setCell ⟨w.heap.size+1,1,none⟩ (.slice p1 l1 c1)).setCell ⟨w.heap.size+1,2,none⟩ (.bool s2)).setCell ⟨w.heap.size+1,3,none⟩ (.slice p2 l2 c2)=S at *; obtain ⟨m0,m1,m2,m3⟩:=Q.k4; refine bodyPost_ret (v:=.agg #[.bool s1,.slice p1 l1 c1,.bool s2,.slice p2 l2 c2]) ?_ rfl ⟨s2,p2,l2,c2,rfl,J,I⟩; simp [results,Tryz.results47,go_sem,m0,m1,m2,m3]
def ShapeR (z:Value):Prop:=∃ s1 p1 l1 c1 s2 p2 l2 c2,z=.agg #[.bool s1,.slice p1 l1 c1,.bool s2,.slice p2 l2 c2]
def ReadR (B:Nat) (w:World) (s:ByteArray) (k:Option Nat) (z:Value) (ok:Bool):Prop:=
 ShapeR z∧(ok=true↔∃ x y,RatV s k x y)∧(ok=true→∃ x y,RatV s k x y∧IsQR B w z x y 300)
theorem IsQR.mono {B B':Nat} {w:World} {z:Value} {x y:Int} {n n':Nat} (h:IsQR B w z x y n) (hb:B'≤B) (hn:n≤n'):IsQR B' w z x y n':=by
 obtain ⟨s1,m,s2,s,e,i,j⟩:=h; exact ⟨s1,m,s2,s,e,i.mono hb hn,j.mono hb hn⟩
theorem IsQR.put4 {B:Nat} {W:World} {z:Value} {x y:Int} {n:Nat} (h:IsQR B W z x y n) {g:Nat} (no:NoInt W g) (u0 u1 u2 u3:Value):IsQR B ((((W.setCell ⟨g,0,none⟩ u0).setCell ⟨g,1,none⟩ u1).setCell ⟨g,2,none⟩ u2).setCell ⟨g,3,none⟩ u3) z x y n:=by
 obtain ⟨s1,m,s2,s,e,i,j⟩:=h; exact ⟨s1,m,s2,s,e,i.put4 no u0 u1 u2 u3,j.put4 no u0 u1 u2 u3⟩
theorem readR_of (B:Nat) (W:World) (s p q u v:ByteArray) (i:Nat) (b bb ok:Bool) (z:Value) (xn xd:Int) (hP:cutP s (some i)=p∧cutQ s (some i)=q∧(some i).isSome=b) (hI:isIntB p=true∧isIntB q=true) (h0:numT q≠0) (hl:IsLow (numT p) (numT q) xn xd)
 (hu:IsText xn u∧(if xd=1 then bb=false∧v=⟨#[]⟩ else bb=true∧IsText xd v)) (hok:(u.toList==p.toList&&bb==b&&v.toList==q.toList)=ok) (hR:IsQR B W z xn xd 283):ReadR B W s (some i) z ok:=by
 obtain ⟨rfl,rfl,J⟩:=hP; have D:b=true:=J.symm; subst D; have j:ok=true↔(xd≠1∧IsText xn (cutP s (some i))∧IsText xd (cutQ s (some i))):=by
  rw [← hok,toList_inj,toList_inj]; simp only [Bool.and_eq_true,decide_eq_true_eq,beq_iff_eq]; constructor
  ·rintro ⟨⟨rfl,rfl⟩,rfl⟩
   by_cases m:xd=1
   ·rw [if_pos m] at hu; exact absurd hu.2.1 (by decide)
   rw [if_neg m] at hu; exact ⟨m,hu.1,hu.2.2⟩
  rintro ⟨m,I,h3⟩; rw [if_neg m] at hu; exact ⟨⟨hu.1.eq I,hu.2.1⟩,hu.2.2.eq h3⟩
 have t:=rat_form _ _ xn xd hI.1 hI.2 h0 hl; have F:ok=true→RatV s (some i) (numT (cutP s (some i))) (numT (cutQ s (some i))):=fun e=>by
  obtain ⟨a1,a2,A,a4⟩:=t.1 (j.1 e); exact ⟨hI,⟨h0,a1,a2,A,a4⟩,rfl,rfl⟩
 have E:ShapeR z:=by
  obtain ⟨s1,M,K,c1,s2,O,L,c2,h,_⟩:=hR.shape; exact ⟨s1,M,K,c1,s2,O,L,c2,h⟩
 refine ⟨E,⟨fun e=>⟨_,_,F e⟩,?_⟩,fun e=>?_⟩
 ·rintro ⟨x,y,_,⟨_,a1,a2,A,a4⟩,_,_⟩; exact j.2 (t.2 ⟨a1,a2,A,a4⟩)
 obtain ⟨_,t1,t2⟩:=j.1 e; have G:=text_inj t1 (text_back _ hI.1) (text_ne _ hI.1); have H:=text_inj t2 (text_back _ hI.2) (text_ne _ hI.2); refine ⟨_,_,F e,?_⟩; rw [← G,← H]; exact hR.mono leR (by omega)
def TextR (x y:Int) (u:ByteArray):Prop:=
 if y=1 then IsText x u else ∃ p q,IsText x p∧IsText y q∧u=if p.size=0∨q.size=0 then ⟨#[]⟩ else p++⟨#[47]⟩++q
theorem text_size {x:Int} {u:ByteArray} (h:IsText x u):u.size≤2501:=by
 obtain ⟨neg,t,_,_,_,rfl⟩:=h; unfold textT
 split
 ·rw [strB_size]; decide
 unfold textS
 split
 ·rw [strB_size]; exact Nat.zero_le _
 split
 ·rw [strB_size,List.length_cons]; omega
 rw [strB_size]; omega
theorem empty_iff (u:ByteArray):u.toList.isEmpty=decide (u.size=0):=by
 rw [ByteArray.toList_eq]; have:u.data.toList.length=u.size:=by simp
 cases h:u.data.toList with
 | nil=>rw [h] at this; simp at this; simp [← this]
 | cons c l=>
   rw [h] at this; have i:u.size≠0:=by rw [← this]; simp
   simp [i]
theorem textR_any (B:Nat) (z:Value) (x y:Int) (n:Nat) (w:World) (hBw:B≤w.heap.size) (h:IsQR B w z x y n) (hn:n≤600) (hSP:SP w) (hLT:LT w) :
 Calls Tryz.prog 24 #[z] w fun e w'=>∃ u,e=.returned (.string u)∧TextR x y u∧Up w w':=by
 have HR:=Hd h; obtain ⟨s1,p1,l1,c1,s2,p2,l2,c2,rfl,_,_⟩:=h.shape; have U:=Hd hSP; have T:=Hd hLT; have S:=Hd hBw; clear h hSP hLT hBw; obtain ⟨W,F⟩:=exW (w.alloc (.cells #[.bool s1,.slice p1 l1 c1,.bool s2,.slice p2 l2 c2] 57)); have V:=Hd F; have m:Hid (Up w W):=by unfold Hid; rw [← F]; exact below_alloc _ _
 have O:Bx W w.heap.size [.bool s1,.slice p1 l1 c1,.bool s2,.slice p2 l2 c2]:=by rw [← F]; exact bx_new w _ _
 obtain ⟨k0,k1,k2,k3⟩:=O.k4; clear F O
 go_enter Tryz.func24,Tryz.ntmps24
 go_wp2_with fail
 rw [V.o]; refine (form_any B _ x y n W (by have:=S.o; have:=m.o.size; omega) (HR.o.below m.o) hn (U.o.below m.o) (T.o.below m.o)).mono ?_; rintro e Z ⟨r,rfl,Y,M⟩; obtain ⟨u,v,L,rfl,hu,hv⟩:=Y; have i:Hid (IsText x u∧(if y=1 then L=false∧v=⟨#[]⟩ else L=true∧IsText y v)):=⟨hu,hv⟩; have H:=Hd (m.o.trans (M.mono m.o.size)); obtain ⟨W2,G⟩:=exW (Z.alloc (.cells #[.string u,.bool L,.string v] 94)); have K:=Hd G; have D:Hid (Up w W2):=by
  unfold Hid
  rw [← G]; exact H.o.alloc H.o.size _
 have Q:Bx W2 Z.heap.size [.string u,.bool L,.string v]:=by rw [← G]; exact bx_new Z _ _
 obtain ⟨g0,g1,g2⟩:=Q.k3; clear G Q hu hv M k0 k1 k2 k3
 cases L
 ·have I:Hid (TextR x y u):=by
   unfold Hid
   unfold TextR
   by_cases E:y=1
   ·rw [if_pos E]; exact i.o.1
   have j:=i.o.2; rw [if_neg E] at j; exact absurd j.1 (by decide)
  go_upto_region 2 with fail
  rw [K.o]
  go_wp2
  go_ret
  exact ⟨_,rfl,I.o,D.o⟩
 have I:Hid (∀ t,t=(if u.size=0∨v.size=0 then ⟨#[]⟩ else u++⟨#[47]⟩++v)→TextR x y t):=fun t ht=>by
  show TextR x y t
  unfold TextR
  by_cases E:y=1
  ·have j:=i.o.2; rw [if_pos E] at j; exact absurd j.1 (by decide)
  have j:=i.o.2; rw [if_neg E] at j; rw [if_neg E]; exact ⟨u,v,i.o.1,j.2,ht⟩
 have b8:u.size≤2501:=text_size i.o.1; have b9:v.size≤2501:=by
  by_cases E:y=1
  ·have j:=i.o.2; rw [if_pos E] at j; rw [j.2]; exact Nat.zero_le _
  have j:=i.o.2; rw [if_neg E] at j; exact text_size j.2
 go_upto_region 2 with fail
 rw [K.o]
 by_cases s:u.size=0
 ·have z:u.toList.isEmpty=true:=by rw [empty_iff]; exact decide_eq_true s
  have J:=Hd (I.o ⟨#[]⟩ (by rw [if_pos (.inl s)])); clear s
  go_wp2
  go_ret
  exact ⟨_,rfl,J.o,D.o⟩
 have z:u.toList.isEmpty=false:=by rw [empty_iff]; exact decide_eq_false s
 by_cases A:v.size=0
 ·have z2:v.toList.isEmpty=true:=by rw [empty_iff]; exact decide_eq_true A
  have J:=Hd (I.o ⟨#[]⟩ (by rw [if_pos (.inr A)])); clear A
  go_wp2
  go_ret
  exact ⟨_,rfl,J.o,D.o⟩
 have z2:v.toList.isEmpty=false:=by rw [empty_iff]; exact decide_eq_false A
 have J:=Hd (I.o _ (if_neg (fun h=>h.elim s A)).symm); have b5:(⟨#[47]⟩:ByteArray).size=1:=rfl; have b6:(u++(⟨#[47]⟩:ByteArray)).size≤3000:=by rw [ByteArray.size_append]; omega
 have b7:(u++(⟨#[47]⟩:ByteArray)++v).size≤6000:=by rw [ByteArray.size_append]; omega
 go_wp2
 go_ret
 exact ⟨_,rfl,J.o,D.o⟩
def IsResO (s t u:ByteArray):Prop:=if isIntB s=true∧isIntB t=true∧numT t≠0 then ∃ p q,IsLow (numT s) (numT t) p q∧TextR p q u else u=⟨#[]⟩
theorem TextR.eq {x y:Int} {u v:ByteArray} (h:TextR x y u) (h':TextR x y v):u=v:=by
 unfold TextR at h h'
 split at h
 ·rename_i hc; rw [if_pos hc] at h'; exact h.eq h'
 rename_i hc; rw [if_neg hc] at h'; obtain ⟨p,q,m,s,rfl⟩:=h; obtain ⟨t,A,i,j,rfl⟩:=h'; rw [m.eq i,s.eq j]
theorem IsResO.eq {s t u v:ByteArray} (h:IsResO s t u) (h':IsResO s t v):u=v:=by
 unfold IsResO at h h'
 split at h
 ·rename_i hc; rw [if_pos hc] at h'; obtain ⟨p,q,m,A⟩:=h; obtain ⟨D,E,i,j⟩:=h'; obtain ⟨rfl,rfl⟩:=isLow_unique m i; exact A.eq j
 rename_i hc; rw [if_neg hc] at h'; rw [h,h']
end Go.Proofs.YtnhbmpnhijgpmaaGreatDoor
