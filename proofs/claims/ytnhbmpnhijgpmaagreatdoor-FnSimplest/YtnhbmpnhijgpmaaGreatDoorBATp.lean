import Derived.RangeFuncBox
import Derived.RangeFuncLeaves
import Derived.Shelf.Abstract
import Derived.WalkKit
import Derived.OwnWalkIn
import Derived.TacticsInMore
import Derived.LoopNIn
import Derived.LoopIn
import Derived.Test.YtnhbmpnhijgpmaaGreatDoorM1p
import Derived.Maps.AppendAt
import Derived.Laws.IdiomStrings
import Derived.RangeFuncCalls
set_option maxRecDepth 100000
set_option maxHeartbeats 2000000
namespace Go.Proofs.YtnhbmpnhijgpmaaGreatDoor
open Go.RowKit Go.Shelf
attribute [local go_sem] Oper.semAt_some
/-! slices.Backward over limbs: what it hands to yield,from the last limb to the first. -/
abbrev Lb:={ x:Int×Nat // x.2<1000000000 }
theorem getD_lt (l:List Nat) (h:okL l) (i:Nat):l.getD i 0<1000000000:=by
 rw [List.getD_eq_getElem?_getD]
 by_cases hi:i<l.length
 ·rw [List.getElem?_eq_getElem hi]; exact h _ (List.getElem_mem _)
 rw [List.getElem?_eq_none (by omega)]; simp
def bk (l:List Nat) (h:okL l) (j:Nat):Lb:=⟨((l.length:Int) - 1 - j,l.getD (l.length - 1 - j) 0),getD_lt l h _⟩
def upto {α:Type} (f:Nat→α) (k:Nat):List α:=(List.range k).map f
theorem upto_succ {α:Type} (f:Nat→α) (k:Nat):upto f (k+1)=upto f k++[f k]:=by simp [upto,List.range_succ]
theorem upto_length {α:Type} (f:Nat→α) (k:Nat):(upto f k).length=k:=by simp [upto]
def KB (n₀ Bs:Nat) (W W':World):Prop:=Below n₀ W W'∧W'.cell? ⟨Bs,0,none⟩=W.cell? ⟨Bs,0,none⟩
theorem KB_t {n₀ Bs:Nat} {A B C:World} (h:KB n₀ Bs A B) (k:KB n₀ Bs B C):KB n₀ Bs A C:=⟨h.1.trans k.1,k.2.trans h.2⟩
theorem KB_b {n₀ Bs:Nat} {w:World} (hn:n₀≤w.heap.size) (hB:Bs<w.heap.size) (W:World) (l:Nat) (o o':Obj) (hl:w.heap.size≤l) (h:W.heap[l]? = some o) (h1:o.isCells=false) (h2:o.isWalk=false):KB n₀ Bs W (W.putObj l o'):=
 ⟨belowK_b hn W l o o' hl h h1 h2,(belowK_b (n₀:=Bs+1) (w:=w) hB W l o o' hl h h1 h2).cell (p:=⟨Bs,0,none⟩) (Nat.lt_succ_self _)⟩
theorem KB_refl (n₀ Bs:Nat) (W:World):KB n₀ Bs W W:=⟨Below.refl _ _,rfl⟩
theorem back1_in (F:Fence) (n:Nat) (hf:F.fn 131) (hro:F.round=none) (hn:1≤n) (l Bs n₀ b off cap:Nat) (zs:List Nat) (hok:okL zs) (hcap:zs.length≤cap) (hmax:cap≤maxLen) (hb:b<n₀) (J Jx:List Lb→World→Prop)
 (hY:∀ pre x W,J pre W→pre.length<zs.length→YieldAt F (n - 1) Tryz.prog l #[.int .i64 x.1.1,.int .u32 (x.1.2:Nat)] W fun e W'=>
   (e=.returned (.bool true)∧J (pre++[x]) W'∧KB n₀ Bs W W')∨(e=.returned (.bool false)∧Jx (pre++[x]) W'))
 (W:World) (hBs:W.cell? ⟨Bs,0,none⟩=some (.slice (some ⟨b,off,none⟩) zs.length cap)) (hc:∀ j,j<zs.length→W.cell? ⟨b,off+j,none⟩=some (.int .u32 (zs.getD j 0:Nat))) (h0:J [] W) :
 CallsIn F n Tryz.prog 131 #[.func (.yield l) #[] #[],.pointer (some ⟨Bs,0,none⟩)] W fun e W'=>(∃ v,e=.returned v) ∧
  ((∃ ys,ys=upto (bk zs hok) zs.length∧J ys W')∨(∃ pre,(∃ k,k≤zs.length∧pre=upto (bk zs hok) k)∧Jx pre W')):=by
 unfold maxLen at hmax; have K:=Hd hc; clear hc; refine callsIn_of_wp Tryz.func131 rfl hf ?_ hro; simp only [Tryz.ntmps131,List.size_toArray,List.length_cons,List.length_nil,Nat.reduceAdd,Nat.reduceSub,Array.replicate_succ,Array.replicate_zero,List.push_toArray,List.append_toArray,List.nil_append,List.cons_append]
 gi_wp2
 gi_loopw [3] (fun i wr=>∃ k:Nat,k≤zs.length∧i=.int .i64 ((zs.length:Int) - 1 - k)∧J (upto (bk zs hok) k) wr∧KB n₀ Bs W wr)
  (fun i _=>(intOf i+1).toNat)
 case atStart=>exact ⟨0,Nat.zero_le _,by simp,h0,KB_refl _ _ _⟩
 case round=>
  obtain ⟨k,U,rfl,u,s⟩:=hrel; have M:wr.cell? ⟨Bs,0,none⟩=some (.slice (some ⟨b,off,none⟩) zs.length cap):=s.2.trans hBs
  by_cases I:k<zs.length
  ·obtain ⟨T,tmps,assign,body,Q,L⟩:=hY _ (bk zs hok k) wr u (by rw [upto_length]; exact I); obtain ⟨i,hi⟩:∃ i:Nat,zs.length - 1 - k=i:=⟨_,rfl⟩; have G:wr.cell? ⟨b,off+i,none⟩=some (.int .u32 (zs.getD i 0:Nat)):=(s.1.cell (p:=⟨b,off+i,none⟩) hb).trans (K.o i (by omega)); have m:((zs.length:Int) - 1 - k)=(i:Int):=by omega
   obtain ⟨y,t⟩:=exW (zs.getD i 0); simp only [bk,hi,t,m] at Q; rw [t] at G; have D:=Hd m; have O:i<zs.length:=by omega
   rw [m]; clear hi t m
   gi_wp2
   refine L.mono ?_; rintro e S (⟨rfl,E,H⟩|⟨rfl,A⟩)
   ·gi_wp2
    go_roundw
    case rel=>exact ⟨k+1,by omega,val_int (by have:=D.o; omega),by rw [upto_succ]; exact E,KB_t s H⟩
    case measure=>simp [intOf]
   ·gi_wp2
    refine bodyPost_ret (results_none rfl _ _ _) rfl ?_; exact ⟨⟨_,rfl⟩,.inr ⟨_,⟨k+1,by omega,(upto_succ _ _).symm⟩,A⟩⟩
  ·obtain rfl:k=zs.length:=by omega
   gi_wp2
   go_end0
   exact ⟨⟨_,rfl⟩,.inl ⟨_,rfl,u⟩⟩
theorem back1_none_in (F:Fence) (n:Nat) (hf:F.fn 131) (hro:F.round=none) (l Bs cap:Nat) (a:Option Addr) (J:List Lb→World→Prop) (W:World) (hBs:W.cell? ⟨Bs,0,none⟩=some (.slice a 0 cap)) (h0:J [] W) :
 CallsIn F n Tryz.prog 131 #[.func (.yield l) #[] #[],.pointer (some ⟨Bs,0,none⟩)] W fun e W'=>(∃ v,e=.returned v)∧J [] W':=by
 refine callsIn_of_wp Tryz.func131 rfl hf ?_ hro; simp only [Tryz.ntmps131,List.size_toArray,List.length_cons,List.length_nil,Nat.reduceAdd,Nat.reduceSub,Array.replicate_succ,Array.replicate_zero,List.push_toArray,List.append_toArray,List.nil_append,List.cons_append]
 gi_wp2
 gi_loopw [3] (fun i wr=>i=.int .i64 (-1)∧J [] wr) (fun _ _=>0)
 case atStart=>exact ⟨rfl,h0⟩
 case round=>
  obtain ⟨rfl,j⟩:=hrel
  gi_wp2
  go_end0
  exact ⟨⟨_,rfl⟩,j⟩
theorem back_in (F:Fence) (n:Nat) (hf:F.fn 119) (hro:F.round=none) (a:Option Addr) (len cap:Nat) (w:World) :
 CallsIn F n Tryz.prog 119 #[.slice a len cap] w fun e w'=>e=.returned (.func (.func 131) #[] #[.pointer (some ⟨w.heap.size,0,none⟩)])∧w'=w.alloc (.cells #[.slice a len cap] 47):=by
 refine callsIn_of_wp Tryz.func119 rfl hf ?_ hro; simp only [Tryz.ntmps119,List.size_toArray,List.length_cons,List.length_nil,Nat.reduceAdd,Nat.reduceSub,Array.replicate_succ,Array.replicate_zero,List.push_toArray,List.append_toArray,List.nil_append,List.cons_append]
 gi_wp2
 go_ret
 exact ⟨rfl,rfl⟩
theorem back_stops (F:Fence) (n:Nat) (hf:F.fn 131) (hro:F.round=none) (hn:1≤n) (Bs n₀:Nat) (sv:Value) (zs:List Nat) (hok:okL zs) (w:World) (hBs:Bs<w.heap.size) (hn₀:n₀≤w.heap.size)
 (hc:w.cell? ⟨Bs,0,none⟩=some sv) (hI:∃ a cap,sv=.slice a zs.length cap∧zs.length≤cap∧cap≤maxLen∧(zs=[]∨∃ b off,a=some ⟨b,off,none⟩∧b<n₀∧∀ i,i<zs.length→w.cell? ⟨b,off+i,none⟩=some (.int .u32 (zs.getD i 0:Nat)))) :
 SeqStopsK F n Tryz.prog 131 #[.pointer (some ⟨Bs,0,none⟩)] (fun x:Lb=>#[Value.int .i64 x.1.1,Value.int .u32 (x.1.2:Nat)]) (KB n₀ Bs) (fun ys=>ys=upto (bk zs hok) zs.length)
  (fun pre=>∃ k,k≤zs.length∧pre=upto (bk zs hok) k) zs.length w:=fun l J Jx W hW _ _ hY h0=>by
 have j:=(hW.cell (p:=⟨Bs,0,none⟩) hBs).trans hc
 obtain ⟨a,cap,rfl,hl,m,u⟩:=hI
 rcases u with rfl|⟨b,off,rfl,t,s⟩
 ·exact (back1_none_in F n hf hro l Bs cap a J W j h0).mono fun e W' ⟨he,hj⟩=>⟨he,.inl ⟨_,rfl,hj⟩⟩
 ·exact back1_in F n hf hro hn l Bs n₀ b off cap zs hok hl m t J Jx hY W j (fun i hi=>(hW.cell (p:=⟨b,off+i,none⟩) (Nat.lt_of_lt_of_le t hn₀)).trans (s i hi)) h0
open Go.ChangeShapes Go.WideShapes Go.ChangeAt Go.RowKit
def tens (j:Nat):Nat:=10 ^ (8 - j)
def LT (w:World):Prop:=∀ j,j<9→w.cell? ⟨2,j,none⟩=some (.int .u32 (tens j:Nat))
def dg (x j:Nat):Nat:=48+x / tens j % 10
def digK (x k:Nat):List Nat:=(List.range k).map (dg x)
abbrev U8s (l:List Nat):List Value:=l.map (fun x=>Value.int .u8 (x:Nat))
theorem U8s_snoc (a:List Nat) (b:Nat):U8s (a++[b])=U8s a++[Value.int .u8 (b:Nat)]:=by simp [U8s]
theorem tens_step (k:Nat) (h:k<9):10 ^ (9 - k)=10*tens k:=by
 unfold tens; rw [show 9 - k=8 - k+1 by omega,Nat.pow_succ,Nat.mul_comm]
theorem tens_pos (k:Nat):0<tens k:=Nat.pow_pos (by decide)
theorem tens_le (k:Nat):tens k≤100000000:=by
 unfold tens; have:10 ^ (8 - k)≤10 ^ 8:=Nat.pow_le_pow_right (by decide) (by omega); have e:(10:Nat) ^ 8=100000000:=by decide
 omega
theorem digK_succ (x k:Nat):digK x (k+1)=digK x k++[dg x k]:=by simp [digK,List.range_succ]
theorem mod_div (x T:Nat):x % (10*T) / T=x / T % 10:=by rw [Nat.mul_comm]; exact Nat.mod_mul_right_div_self x T 10
theorem mod_mod (x T:Nat):x % (10*T) % T=x % T:=Nat.mod_mod_of_dvd x (Nat.dvd_mul_left T 10)
theorem grownBy_tr {A B C:World} {r:Option Nat} (h1:A.grownBy B r) (h2:B.grownBy C r):A.grownBy C r:=
 ⟨h2.os.trans h1.os,h2.tape.trans h1.tape,h2.output.trans h1.output,Nat.le_trans h1.size h2.size,fun k hk hne=>(h2.block k (Nat.lt_of_lt_of_le hk h1.size) hne).trans (h1.block k hk hne)⟩
theorem Tryz.info_u8:(Tryz.prog.info? 5).map (fun i=>(i.zero,i.size,i.bytes))=some (some (.int .u8 0),1,1):=by kernel_rfl
theorem appendLimb_any (base g n cap x:Nat) (xs:List Value) (w:World) (hown0:w.ownsRow base 5 1 (.slice (some ⟨g,0,none⟩) n cap) n xs) (hLT:LT w) (hgb:2<base) (hx:x<1000000000) (hc:n+9≤cap) :
 Calls Tryz.prog 120 #[.slice (some ⟨g,0,none⟩) n cap,.int .u32 (x:Nat)] w fun e w'=>
  e=.returned (.slice (some ⟨g,0,none⟩) (n+9) cap)∧w'.ownsRow base 5 1 (.slice (some ⟨g,0,none⟩) (n+9) cap) (n+9) (xs++U8s (digK x 9))∧w.grownBy w' (some g):=by
 have Q:=Hd hLT; have b4:=(hown0.lt g rfl).1; have HO:=Hd hown0; obtain ⟨i0,H,b7,V,b8⟩:=info_parts Tryz.info_u8; clear hLT hown0
 go_enter Tryz.func120,Tryz.ntmps120
 go_wp2
 go_loopw [0,1,6] (fun v l i wr=>∃ k:Nat,k≤9∧i=.int .i64 k∧l=.int .u32 (x % 10 ^ (9 - k):Nat)∧v=.slice (some ⟨g,0,none⟩) (n+k) cap ∧
  wr.ownsRow base 5 1 (.slice (some ⟨g,0,none⟩) (n+k) cap) (n+k) (xs++U8s (digK x k))∧w.grownBy wr (some g)) (fun _ _ i _=>9 - (intOf i).toNat)
 case atStart=>
  refine ⟨0,Nat.zero_le _,rfl,val_int ?_,rfl,by simpa [digK] using HO.o,World.grownBy.refl _ _⟩; have e:(10:Nat) ^ 9=1000000000:=by decide
  rw [show 9 - 0=9 from rfl,e]; omega
 case round=>
  obtain ⟨k,hk,rfl,rfl,rfl,s,D⟩:=hrel
  by_cases I:k<9
  ·have j:wr.cell? ⟨2,k,none⟩=some (.int .u32 (tens k:Nat)):=D.cell (Q.o k I) (by simp; omega); have hT:=tens_pos k; have U:=tens_le k; have Y:=tens_step k I; have J:=mod_div x (tens k); have K:=mod_mod x (tens k); have Z:10 ^ (9 - (k+1))=tens k:=by unfold tens; rw [show 9 - (k+1)=8 - k by omega]
   have E:x % (10*tens k)<10*tens k:=Nat.mod_lt _ (by omega); have O:Hid (dg x k=48+x / tens k % 10):=rfl; rw [Y]; have A:Hid (10 ^ (9 - (k+1))=tens k):=Z; obtain ⟨T,F⟩:=exW (tens k); rw [F] at j hT U J K E O A ⊢; obtain ⟨L,hL⟩:=exW (x % (10*T)); rw [hL] at J K E ⊢; have hq:L / T<10:=Nat.div_lt_of_lt_mul (by omega); have HQ:Hid (dg x k=48+L / T):=by rw [J]; exact O.o
   have HM:Hid (x % 10 ^ (9 - (k+1))=L % T):=by rw [A.o]; exact K.symm
   have b3:((T:Int)==0)=false:=by rw [beq_eq_false_iff_ne]; omega
   have b5:(L:Int) / (T:Int)<10:=by
    have:((L / T:Nat):Int)<10:=by omega
    simpa using this
   have b6:0≤(L:Int) / (T:Int):=Int.ediv_nonneg (by omega) (by omega); clear Y J K Z F hL O A
   go_wp2_with (at_builtin; refine wpList_append_fits _ rfl _ _ 22 rfl base 5 i0 1 Tryz.underlying22 H V g (n+k) cap _ rfl (s.alloc _) ⟨wr.heap.size,0,none⟩ 1 1 [_] rfl rfl (cell_one_new _ _ _) ?c1 ?c2 ?_)
   case c1=>first|rfl|(intro u hu; simp at hu; subst hu; rfl)
   case c2=>omega
   intro W t m; have G:w.grownBy W (some g):=grownBy_tr (grownBy_tr D (World.grownBy_alloc wr _ _)) m; have M:W.cell? ⟨2,k,none⟩=some (.int .u32 (T:Nat)):=m.cell (a:=⟨2,k,none⟩) (by rw [World.cell?_alloc_past _ _ _ (World.block_lt_of_cell? _ _ j)]; exact j) (by simp; omega); have S:Hid (W.ownsRow base 5 1 (.slice (some ⟨g,0,none⟩) (n+(k+1)) cap) (n+(k+1)) (xs++U8s (digK x (k+1)))):=by
    unfold Hid
    rw [digK_succ,U8s_snoc,← List.append_assoc,HQ.o]
    simpa [← Nat.add_assoc] using t
   clear t m s j
   go_wp2
   go_roundw
   case rel=>exact ⟨k+1,by omega,by go_num,by rw [HM.o]; exact val_int (by simp),rfl,S.o,G⟩
   case measure=>simp [intOf]; omega
  ·obtain rfl:k=9:=by omega
   go_wp2
   go_ret
   exact ⟨rfl,s,D⟩
attribute [local go_sem] Oper.semAt_some
def padN (l:List Nat):List Nat:=l.reverse.flatMap (fun x=>digK x 9)
def bytesOf (l:List Nat):List UInt8:=l.map UInt8.ofNat
def strB (l:List UInt8):ByteArray:=⟨l.toArray⟩
def textD (l:List Nat):List UInt8:=dropZ (bytesOf (padN l))
def textL (neg:Bool) (l:List Nat):ByteArray:=if neg then strB (45::textD l) else strB (textD l)
def textS (neg:Bool) (l:List Nat):ByteArray:=if 2500<(textD l).length then strB [] else if neg then strB (45::textD l) else strB (textD l)
theorem block_lt {w:World} (h:LT w):2<w.heap.size:=World.block_lt_of_cell? w ⟨2,0,none⟩ (h 0 (by decide))
theorem digK_length (x k:Nat):(digK x k).length=k:=by simp [digK]
theorem padN_length (l:List Nat):(padN l).length=9*l.length:=by
 unfold padN; rw [List.length_flatMap]; simp only [digK_length]; rw [List.map_const',List.sum_replicate_nat]; simp; omega
theorem padN_lt (l:List Nat):∀ x∈padN l,x<256:=by
 intro x i; unfold padN at i; rw [List.mem_flatMap] at i; obtain ⟨y,_,m⟩:=i; unfold digK at m; rw [List.mem_map] at m; obtain ⟨j,_,rfl⟩:=m; unfold dg; omega
theorem padN_upto (l:List Nat) (h:okL l):(upto (bk l h) l.length).flatMap (fun x:Lb=>digK x.1.2 9)=padN l:=by
 unfold padN; have e:(upto (bk l h) l.length).map (fun x:Lb=>x.1.2)=l.reverse:=by
  apply List.ext_getElem
  ·simp [upto]
  intro i j m; simp only [upto,List.length_map,List.length_range] at j; simp only [upto,List.getElem_map,List.getElem_range,bk,List.getElem_reverse]; rw [List.getD_eq_getElem?_getD,List.getElem?_eq_getElem (by omega)]; rfl
 rw [← e,List.flatMap_map]
theorem cat_minus (t:List UInt8):(⟨#[45]⟩:ByteArray)++strB t=strB (45::t):=by
 apply ByteArray.ext; simp [strB]
theorem strB_size (l:List UInt8):(strB l).size=l.length:=by simp [strB,ByteArray.size]
theorem conv_bytes (base:Nat) (W:World) (g n cap:Nat) (ns:List Nat) (h:W.ownsRow base 5 1 (.slice (some ⟨g,0,none⟩) n cap) n (U8s ns)) (hlt:∀ x∈ns,x<256) (hn:ns.length=n) :
 (convert 22 9 (.slice (some ⟨g,0,none⟩) n cap)).run Tryz.prog W=.ok (.string (strB (bytesOf ns))) W:=by
 have hl:(bytesOf ns).length=n:=by simp [bytesOf,hn]
 have:=run_convert_bytes_back (P:=Tryz.prog) W 22 9 5 ⟨g,0,none⟩ cap (bytesOf ns) Tryz.underlying22 Tryz.underlying5 Tryz.underlying9 (fun j hj=>by
  rw [hl] at hj; have i:j<ns.length:=by omega
  have:=h.cells (g:=g) rfl j (.int .u8 (ns[j]:Nat)) (by simp [U8s,List.getElem?_eq_getElem i]); rw [this]; have m:=hlt ns[j] (List.getElem_mem _); simp only [bytesOf,List.getElem_map]
  congr 2
  rw [UInt8.toNat_ofNat_of_lt' (by simpa using m)])
 rw [hl] at this; exact this
theorem isZero_any (n:Bool) (a:Option Addr) (l c:Nat) (w:World) :
 Calls Tryz.prog 74 #[.agg #[.bool n,.slice a l c]] w fun e w'=>e=.returned (.bool ((l:Int)==0))∧w'=w.alloc (.cells #[.bool n,.slice a l c] 55):=by
 go_enter Tryz.func74,Tryz.ntmps74
 go_wp2
 go_ret
 exact ⟨rfl,rfl⟩
theorem longText_zero (n:Bool) (a:Option Addr) (c:Nat) (w:World) :
 Calls Tryz.prog 106 #[.agg #[.bool n,.slice a 0 c]] w fun e w'=>e=.returned (.string ⟨#[48]⟩)∧Up w w':=by
 go_enter Tryz.func106,Tryz.ntmps106
 go_wp2_with (go_at_call 74; refine (isZero_any _ _ _ _ _).mono ?_; rintro e w' ⟨rfl,rfl⟩)
 go_ret
 exact ⟨rfl,(below_alloc _ _).alloc (by simp) _⟩
theorem longText_pos (B:Nat) (neg:Bool) (v:Value) (l:List Nat) (w:World) (hI:IsL B w v l) (hne:0<l.length) (hlen:l.length≤600) (hLT:LT w) :
 Calls Tryz.prog 106 #[.agg #[.bool neg,v]] w fun e w'=>e=.returned (.string (textL neg l))∧Up w w':=by
 obtain ⟨a,cap,rfl,hl,a9,b6,hr⟩:=hI; obtain ⟨i0,b5,d7,d8,d9⟩:=info_parts Tryz.info_u8; have hz:((l.length:Int)==0)=false:=by rw [beq_eq_false_iff_ne]; omega
 have HR:=Hd hr; clear hr; refine (callsIn_wide (n:=3)).1 ?_; refine callsIn_of_wp_marks Tryz.func106 rfl trivial ?_ rfl; simp only [Tryz.ntmps106,List.size_toArray,List.length_cons,List.length_nil,Nat.reduceAdd,Nat.reduceSub,Array.replicate_succ,Array.replicate_zero,List.push_toArray,List.append_toArray,List.nil_append,List.cons_append]
 gi_wp2_with (first
  | (refine ⟨trivial,?_⟩; gi_at_call 74; refine (callsIn_wide.2 (isZero_any _ _ _ _ _)).mono ?_; rintro e w' ⟨rfl,rfl⟩)
  | (gi_at_make; refine wpListIn_make_own _ rfl _ _ 22 rfl (w.heap.size+2) 5 i0 (.int .u8 0) 1 Tryz.underlying22 b5 d7 d8 .i64 .i64 _ (l.length*9) rfl rfl ?m1 ?m2 ?m3 ?m4 ?_))
 case m1=>omega
 case m2=>rw [d9]; omega
 case m3=>unfold maxLen; omega
 case m4=>simp
 intro m H L; have g8:w.heap.size+2<m.heap.size:=by
  have:=(H.lt _ rfl).2; exact this
 have d3:w.heap.size<m.heap.size:=by omega
 have b8:m.cell? ⟨w.heap.size,0,none⟩=some (.bool neg):=L.cell (a:=⟨w.heap.size,0,none⟩) (by rw [World.cell?_alloc_past _ _ _ (by simp),World.cell?_alloc_at _ _ _ _ rfl]; rfl) (by simp); have d6:m.cell? ⟨w.heap.size,1,none⟩=some (.slice a l.length cap):=L.cell (a:=⟨w.heap.size,1,none⟩) (by rw [World.cell?_alloc_past _ _ _ (by simp),World.cell?_alloc_at _ _ _ _ rfl]; rfl) (by simp); have a8:Up w m:=(((Below.refl _ w).alloc leR _).alloc (by simp) _).grown L (by simp; omega) (fun k h=>by cases h); clear L
 gi_wp2_with (refine ⟨trivial,?_⟩; gi_at_call 119; refine (back_in Fence.wide _ trivial rfl _ _ _ _).mono ?_; rintro e w' ⟨rfl,rfl⟩)
 have bP:=Boxed.new m 22 (.slice (some ⟨w.heap.size+1+1,0,none⟩) 0 (l.length*9)); have bN:=Boxed.new (m.alloc (.cells #[.slice (some ⟨w.heap.size+1+1,0,none⟩) 0 (l.length*9)] 22)) 47 (.slice a l.length cap); rw [World.size_alloc] at bN; have U:Up w ((m.alloc (.cells #[.slice (some ⟨w.heap.size+1+1,0,none⟩) 0 (l.length*9)] 22)).alloc (.cells #[.slice a l.length cap] 47)):=(a8.alloc (by omega) _).alloc (by simp; omega) _; have b7:l=[]∨∃ b off,a=some ⟨b,off,none⟩∧b<w.heap.size∧∀ i,i<l.length→((m.alloc (.cells #[.slice (some ⟨w.heap.size+1+1,0,none⟩) 0 (l.length*9)] 22)).alloc (.cells #[.slice a l.length cap] 47)).cell? ⟨b,off+i,none⟩=some (.int .u32 (l.getD i 0:Nat)):=by
  rcases HR.o with h|⟨b,off,e,_,hb,hc⟩
  ·exact .inl h
  exact .inr ⟨b,off,e,hb,fun i hi=>(U.cell (p:=⟨b,off+i,none⟩) hb).trans (hc i hi)⟩
 have b4:((m.alloc (.cells #[.slice (some ⟨w.heap.size+1+1,0,none⟩) 0 (l.length*9)] 22)).alloc (.cells #[.slice a l.length cap] 47)).cell? ⟨w.heap.size,0,none⟩=some (.bool neg):=by rw [World.cell?_alloc_past _ _ _ (by simp; omega),World.cell?_alloc_past _ _ _ d3]; exact b8
 refine wpIn_rangeFunc_ownG rfl (by decide) (gf:=131) (lb:=#[.pointer (some ⟨m.heap.size+1,0,none⟩)]) rfl trivial (enters_of Tryz.func131 (by kernel_rfl) rfl)
  (back_stops Fence.wide 2 trivial rfl (by decide) (m.heap.size+1) w.heap.size _ l b6 _ (by simp) (by simp; omega) bN.cell ⟨a,cap,rfl,hl,a9,b7⟩)
  KB_t (KB_b (by simp; omega) (by simp)) (Below.refl _ _) (fun _=>rfl)
  (fun pre W=>((∃ v,Boxed W m.heap.size 22 v∧W.ownsRow (w.heap.size+2) 5 1 v (9*pre.length) (U8s (pre.flatMap (fun x:Lb=>digK x.1.2 9)))∧v=.slice (some ⟨w.heap.size+1+1,0,none⟩) (9*pre.length) (l.length*9))∧W.cell? ⟨w.heap.size,0,none⟩=some (.bool neg)∧m.heap.size+2≤W.heap.size)∧Up w W)
  (fun _ _ _=>False)
  (OwnFrom.and (OwnFrom.and (Own.from (holdsRow_own (w.heap.size+2) m.heap.size 22 5 1 (fun pre:List Lb=>9*pre.length) (fun pre=>U8s (pre.flatMap (fun x:Lb=>digK x.1.2 9))) (fun pre v=>v=.slice (some ⟨w.heap.size+1+1,0,none⟩) (9*pre.length) (l.length*9))) _)
    (Own.from (fun s A B row hs hg hr=>⟨cell_kept hs.1 hg hr,Nat.le_trans hs.2 hg.size⟩) _)) (ownFrom_below leR (by simp; omega)))
  (fun _ _ _ _ _ hs _ _=>hs)
  ⟨⟨⟨_,bP.alloc _,(H.alloc _).alloc _,rfl⟩,b4,by simp⟩,U⟩
  (fun x=>{ tmps:=#[.agg #[.bool neg,.slice a l.length cap],.pointer (some ⟨w.heap.size,0,none⟩),.string ⟨#[]⟩,.pointer (some ⟨m.heap.size,0,none⟩),undef,.int .u32 (x.1.2:Nat),undef,.agg #[.bool neg,.slice a l.length cap],.bool false,.pointer (some ⟨w.heap.size,1,none⟩),.slice a l.length cap,.int .i64 l.length,.int .i64 (l.length*9),.slice (some ⟨w.heap.size+1+1,0,none⟩) 0 (l.length*9),.pointer (some ⟨w.heap.size,1,none⟩),.slice a l.length cap,.func (.func 131) #[] #[.pointer (some ⟨m.heap.size+1,0,none⟩)],.int .i64 x.1.1,.int .u32 (x.1.2:Nat),undef,undef,undef,undef,undef,undef,undef,undef,undef,undef,undef],defers:=[] }) ?assign ?body ?done ?stop
 case assign=>
  intro lx x W K hK
  gi_wp2
  exact hK
 case body=>
  rintro lx pre x W ⟨⟨⟨v,Z,t,rfl⟩,b3,d4⟩,T⟩ g7; have hx:=x.2; have d5:=Z.cell; have d2:2<w.heap.size:=block_lt hLT; have S:LT W:=fun j hj=>(T.cell (p:=⟨2,j,none⟩) d2).trans (hLT j hj); have c6:=Hd S; have E:=Hd t; have HV:=Hd Z; clear t Z S
  gi_wp2
  refine ⟨trivial,?_⟩; refine (CallsIn.inRound lx (callsIn_wide.2 (appendLimb_any (w.heap.size+2) (w.heap.size+1+1) (9*pre.length) (l.length*9) x.1.2 _ W E.o c6.o (by omega) hx (by omega)))).mono ?_; rintro e w2 ⟨rfl,I,F⟩; have O:=HV.o.kept F (HV.o.not_row (by decide) E.o); have g3:=O.cell; have g6:=O.frozen; have a5:=Hd O; have a3:=Hd I; have u:=Hd F; clear O I F
  gi_wp2
  have V:(pre++[x]).length=pre.length+1:=by simp
  have G:9*(pre++[x]).length=9*pre.length+9:=by rw [V]; omega
  have M:=grownBy_setCell' w2 m.heap.size (.slice (some ⟨w.heap.size+1+1,0,none⟩) (9*pre.length+9) (l.length*9)); refine ⟨KeepsOthers.from ((KeepsOthers.of_grownBy u.o fun j o ej hj=>?_).trans (KeepsOthers.setCell _ _ _)) _,⟨?_,?_⟩,⟨⟨_,a5.o.set _,?_,?_⟩,?_,?_⟩,?_⟩
  ·rcases E.o.2 with ⟨e,_⟩|⟨g,e4,f5,e,_,d1,_⟩
   ·cases e
   ·simp only [Value.slice.injEq,Option.some.injEq,Addr.mk.injEq,and_true] at e; obtain ⟨rfl,_⟩:=e
    cases ej
    rw [d1] at hj; cases hj; rfl
  ·exact (((Below.refl w.heap.size W).grown u.o T.size (fun k e=>by cases e; omega)).setCell (p:=⟨m.heap.size,0,none⟩) (by show w.heap.size≤m.heap.size; omega) _)
  ·have e1:w2.heap[m.heap.size+1]? = W.heap[m.heap.size+1]? := u.o.block _ (by omega) (by simp; omega); have e2:=Below.heap_setCell w2 ⟨m.heap.size,0,none⟩ (.slice (some ⟨w.heap.size+1+1,0,none⟩) (9*pre.length+9) (l.length*9)) (m.heap.size+1) (Nat.succ_ne_self _); exact World.cell?_of_block (e2.trans e1)
  ·rw [G,List.flatMap_append]; have:=a3.o.kept M (.inr (a5.o.not_row (by decide) a3.o).symm)
   simpa [U8s] using this
  ·rw [G]
  ·exact (World.cell?_of_block ((Below.heap_setCell w2 ⟨m.heap.size,0,none⟩ _ w.heap.size (by show w.heap.size≠m.heap.size; omega)).trans (u.o.block _ (by omega) (by simp; omega)))).trans b3
  ·have:=u.o.size; simp; omega
  ·exact (T.grown u.o T.size (fun k e=>by cases e; omega)).setCell (p:=⟨m.heap.size,0,none⟩) (by show w.heap.size≤m.heap.size; omega) _
 case done=>
  rintro D ys W hD rfl ⟨⟨⟨v,Z,t,rfl⟩,b3,d4⟩,T⟩ hK; rw [padN_upto l b6,upto_length] at t; rw [upto_length] at Z; have d5:=Z.cell; have c9:=conv_bytes _ _ _ _ _ _ t (padN_lt l) (padN_length l); have Y:(strB (bytesOf (padN l))).size≤maxLen:=by rw [strB_size,bytesOf,List.length_map,padN_length]; unfold maxLen; omega
  have HD:Hid (dropB (strB (bytesOf (padN l)))=strB (textD l)):=rfl; obtain ⟨d,hd⟩:=exW (strB (textD l)); have J:=Hd hd; have g4:d.size≤6000:=by
   rw [← hd,strB_size]; have h1:(textD l).length≤(bytesOf (padN l)).length:=by unfold textD dropZ; exact (List.dropWhile_suffix _).length_le
   rw [bytesOf,List.length_map,padN_length] at h1; omega
  have Q:Hid (Up w (W.putObj D (.deferred none))):=T.trans (belowK_b (w:=w) leR W D _ _ (by simp at hD; omega) hK rfl rfl); clear t Z H bP bN U b7 b4 hd a8 b8 d6; have a7:=Hd hK; clear hK T; have HS:Hid (d.size=(textD l).length):=by rw [← J.o]; exact strB_size _
  gi_wp2
  refine ⟨trivial,?_⟩; refine (callsIn_wide.2 (trimLeft_any _ _ Y)).mono ?_; rintro e w' ⟨rfl,g9⟩; subst w'; rw [HD.o,J.o]
  cases neg
  ·have HT:Hid (textL false l=d):=J.o
   gi_wp2
   refine ⟨by simp,.inl ⟨_,_,rfl,run_takeDeferred a7.o,?_⟩⟩; exact ⟨_,results_tmp rfl _ _ _,by rw [HT.o]; rfl,Q.o⟩
  ·have HT:Hid (textL true l=strB (45::textD l)):=rfl; have HC:Hid ((⟨#[45]⟩:ByteArray)++d=strB (45::textD l)):=by rw [← J.o]; exact cat_minus _
   gi_wp2
   refine ⟨by simp,.inl ⟨_,_,rfl,run_takeDeferred a7.o,?_⟩⟩; exact ⟨_,results_tmp rfl _ _ _,by rw [HT.o,← HC.o]; rfl,Q.o⟩
 case stop=>
  rintro D c pre W _ _ h _; exact h.elim
theorem textD_no45 (l:List Nat):∀ c∈textD l,c≠45:=by
 intro c u; have i:c∈bytesOf (padN l):=(List.dropWhile_suffix _).subset u; unfold bytesOf padN at i; rw [List.mem_map] at i; obtain ⟨x,s,rfl⟩:=i; rw [List.mem_flatMap] at s; obtain ⟨y,_,m⟩:=s; unfold digK at m; rw [List.mem_map] at m; obtain ⟨j,_,rfl⟩:=m; unfold dg; intro h; have t:=congrArg UInt8.toNat h; rw [UInt8.toNat_ofNat_of_lt' (by simp [UInt8.size]; omega)] at t; have:(45:UInt8).toNat=45:=rfl; omega
theorem textL_dgs (neg:Bool) (l:List Nat):(dgs (textL neg l)).size=(textD l).length:=by
 cases neg
 ·have h:isNeg (strB (textD l))=false:=by
   unfold isNeg; rw [ByteArray.toList_eq]
   cases i:textD l with
   | nil=>rfl
   | cons c r=>
     have:=textD_no45 l c (by rw [i]; exact List.mem_cons_self ..); simp [strB,this]
  show (dgs (strB (textD l))).size=_
  rw [dgs_pos _ h,strB_size]
 have h:isNeg (strB (45::textD l))=true:=by
  unfold isNeg; rw [ByteArray.toList_eq]; simp [strB]
 show (dgs (strB (45::textD l))).size=_
 rw [dgs_neg _ h,ByteArray.size_extract,strB_size]; simp
theorem text_zero (n:Bool) (a:Option Addr) (c:Nat) (w:World) :
 Calls Tryz.prog 84 #[.agg #[.bool n,.slice a 0 c]] w fun e w'=>e=.returned (.string ⟨#[48]⟩)∧Up w w':=by
 have j:dgs ⟨#[48]⟩=⟨#[48]⟩:=by kernel_rfl
 have s:=Hd j; clear j
 go_enter Tryz.func84,Tryz.ntmps84
 go_wp2_with (first
  | (go_at_call 106; refine (longText_zero _ _ _ _).mono ?_; rintro e t ⟨rfl,i⟩; have m:Hid (Up w t):=(below_alloc _ _).trans (i.mono (by simp)); clear i)
  | (go_at_call 107; refine (trim_any _ _ (by decide)).mono ?_; rintro e u ⟨rfl,A⟩; subst u; rw [s.o]))
 go_ret
 exact ⟨rfl,m.o⟩
theorem text_pos (B:Nat) (neg:Bool) (v:Value) (l:List Nat) (w:World) (hI:IsL B w v l) (hne:0<l.length) (hlen:l.length≤600) (hLT:LT w) :
 Calls Tryz.prog 84 #[.agg #[.bool neg,v]] w fun e w'=>e=.returned (.string (textS neg l))∧Up w w':=by
 have A:Hid (∀ o,Calls Tryz.prog 106 #[.agg #[.bool neg,v]] (w.alloc o) fun e w'=>e=.returned (.string (textL neg l))∧Below (w.alloc o).heap.size (w.alloc o) w'):=fun o=>longText_pos B neg v l _ (hI.below (below_alloc _ _)) hne hlen (fun j hj=>((below_alloc _ _).cell (p:=⟨2,j,none⟩) (block_lt hLT)).trans (hLT j hj)); obtain ⟨a,cap,rfl,hl,G,t,M⟩:=hI; have u:=textL_dgs neg l; have L:(textD l).length≤6000:=by
  have K:(textD l).length≤(bytesOf (padN l)).length:=by unfold textD dropZ; exact (List.dropWhile_suffix _).length_le
  rw [bytesOf,List.length_map,padN_length] at K; omega
 have H:(textL neg l).size≤maxLen:=by
  have S:(textL neg l).size≤6001:=by
   unfold textL; split<;>rw [strB_size]
   ·simp; omega
   omega
  unfold maxLen; omega
 have i:Hid (textS neg l=if 2500<(textD l).length then strB [] else textL neg l):=rfl; generalize textL neg l=T at u H A i; generalize (textD l).length=n at u L i; obtain ⟨D,s⟩:=exW (dgs T); rw [s] at u; have J:=Hd s; clear s M t
 by_cases m:2500<n
 case' pos=>
  have z:decide (2500<(D.size:Int))=true:=by rw [decide_eq_true_iff]; omega
  have E:Hid (textS neg l=strB []):=i.o.trans (if_pos m)
 case' neg=>
  have z:decide (2500<(D.size:Int))=false:=by rw [decide_eq_false_iff_not]; omega
  have E:Hid (textS neg l=T):=i.o.trans (if_neg m)
 all_goals
  go_enter Tryz.func84,Tryz.ntmps84
  go_wp2_with (first
   | (go_at_call 106; refine (A.o _).mono ?_; rintro e O ⟨rfl,F⟩; have I:Hid (Up w O):=(below_alloc _ _).trans (F.mono (by simp)); clear F)
   | (go_at_call 107; refine (trim_any _ _ H).mono ?_; rintro e Q ⟨rfl,U⟩; subst Q; rw [J.o]))
  go_ret
  exact ⟨by rw [E.o]; rfl,I.o⟩
end Go.Proofs.YtnhbmpnhijgpmaaGreatDoor
