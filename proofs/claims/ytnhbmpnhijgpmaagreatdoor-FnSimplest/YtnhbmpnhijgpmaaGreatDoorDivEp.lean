import Derived.Test.YtnhbmpnhijgpmaaGreatDoorDivCp
import Derived.Test.YtnhbmpnhijgpmaaGreatDoorPlusAp
import Derived.Laws.AppendOwnNone
import Derived.Deep.QuietTactic
import Derived.BigQuiet
import Derived.WalkSmall
set_option maxRecDepth 100000
set_option maxHeartbeats 8000000
namespace Go.Proofs.YtnhbmpnhijgpmaaGreatDoor
open Go.ChangeShapes Go.WideShapes Go.ChangeAt Go.RowKit
theorem owns_one (w:World) (base e:Nat) (x:Value) (hb:base≤w.heap.size):(w.alloc (.cells #[x] e)).ownsRow base e 1 (.slice (some ⟨w.heap.size,0,none⟩) 1 1) 1 [x]:=by
 refine ⟨rfl,.inr ⟨w.heap.size,1,#[x],rfl,hb,?_,leR,(by unfold maxLen; omega),rfl,rfl⟩⟩; exact heap_alloc_new w _
theorem src_cells {W:World} {g off:Nat} {R:List Nat} (h:∀ i,i<R.length→W.cell? ⟨g,off+i,none⟩=some (.int .u32 (R.getD i 0:Nat))):∀ j u,(U32s R)[j]? = some u→W.cell? ((⟨g,off,none⟩:Addr).add j)=some u:=by
 intro j v s; simp only [U32s,List.getElem?_map,Option.map_eq_some_iff] at s; obtain ⟨x,t,rfl⟩:=s; obtain ⟨m,A⟩:=List.getElem?_eq_some_iff.1 t; rw [show (Addr.add ⟨g,off,none⟩ j)=⟨g,off+j,none⟩ by simp [Addr.add],h j m,List.getD_eq_getElem?_getD,t]; rfl
theorem one_cells (R:List Nat):∀ u∈U32s R,u.oneCell'=true:=by
 intro v i; simp only [U32s,List.mem_map] at i; obtain ⟨x,_,rfl⟩:=i; rfl
theorem IsR.of_owns' {base e n:Nat} {W:World} {v:Value} {R:List Nat} (h:W.ownsRow base e 1 v n (U32s R)) (hok:okL R):IsR base W v R:=by
 have hn:n=R.length:=by have:=h.1; simp at this; omega
 subst hn; exact IsR.of_owns h hok
theorem cmpL_nil (b:List Nat) (h:b≠[]):cmpL [] b = -1:=by
 unfold cmpL; have:0<b.length:=by
  apply Nat.pos_of_ne_zero; intro e; exact h (List.eq_nil_of_length_eq_zero e)
 simp [this]
theorem ord_le (x y:Nat) (h:x≤y):ord x y≤0:=by
 unfold ord
 split
 ·omega
 first|omega|(split<;>omega)
theorem ord_gt (x y:Nat) (h:y<x):0<ord x y:=by
 unfold ord
 split
 ·omega
 first|omega|(split<;>omega)
theorem len_of_le (u b:List Nat) (hu:isTrim u) (hb:okL b) (h:val u≤val b):u.length≤b.length:=by
 by_cases i:u=[]
 ·rw [i]; exact Nat.zero_le _
 have m:=val_ge u hu i; have s:=val_lt b hb; apply Nat.le_of_not_lt; intro j; have h3:1000000000 ^ b.length≤1000000000 ^ (u.length - 1):=Nat.pow_le_pow_right (by decide) (by omega); omega
theorem wpList_append_R {P:Program} {w:World} {ops:Array Oper} {rest:List Oper} {o:Oper} {a:Act} {Q:Exit→Act→World→Prop} (hgd:o.guard=none) (s x:Operand) (t:TypeId)
 (ho:o.op=.call { callee:=.builtin .append,args:=#[s,x],argTypes:=#[t,t] })
 (base b2:Nat) (e:TypeId) (i:TypeInfo) (z:Value) (bytes:Nat) (ht:P.underlying t=some (.slice e)) (hi:P.info? e=some i) (hz:i.zero=some z)
 (hsize:i.size=1) (hby:i.bytes=bytes) (hzs:z.cells.size=1)
 (v:Value) (n:Nat) (xs:List Value) (hs:a.eval s=v) (hown:w.ownsRow base e 1 v n xs)
 (rv:Value) (R:List Nat) (hx:a.eval x=rv) (hR:IsR b2 w rv R)
 (h63:n+R.length≤maxLen) (hbytes:(n+R.length)*bytes≤140737488355328) (hbase:base≤w.heap.size)
 (h:∀ v' w',w'.ownsRow base e 1 v' (n+R.length) (xs++U32s R)→w.grownBy w' v.ownBlock→wpList P ops Q rest (a.put o.dst v') w'):wpList P ops Q (o::rest) a w:=by
 obtain ⟨_,⟨rfl,rfl⟩|⟨g,cap,rfl,_,_,_,_,j⟩⟩:=hR
 ·exact wpList_append_own_none hgd s x t ho base e i 1 ht hi v n xs hs hown hx (h v w (by simpa [U32s] using hown) ⟨rfl,rfl,rfl,leR,fun _ _ _=>rfl⟩)
 exact wpList_append_own w hgd s x t ho base e i z 1 bytes ht hi hz hsize hby hzs (by omega) v n xs hs hown ⟨g,0,none⟩ R.length cap (U32s R) hx (by simp) (src_cells (fun i hi=>by rw [Nat.zero_add]; exact j i hi)) (one_cells R) h63 hbytes hbase (fun v' w' h1 h2 _=>h v' w' h1 h2)
theorem l1DivD_some (B ba oa ca:Nat) (vb:Value) (a b:List Nat) (w:World) (hBw:B≤w.heap.size) (hla:a.length≤100000) (ha:IsL B w (.slice (some ⟨ba,oa,none⟩) a.length ca) a) (hane:a≠[]) (hb:IsL B w vb b) (hlb:b.length≤100000) (htb:isTrim b) (hne:b≠[]) :
 Calls Tryz.prog 69 #[.slice (some ⟨ba,oa,none⟩) a.length ca,vb] w fun e w'=>∃ v u Q U,e=.returned (.tuple #[v,u])∧(IsL w.heap.size w' v Q∧IsL w.heap.size w' u U)∧val a=val Q*val b+val U∧val U<val b∧Up w w':=by
 obtain ⟨i0,Z,g6,g7,g8⟩:=info_parts Tryz.info_u32; have HB:Hid (∀ W,Up w W→IsL B W vb b):=fun W hW=>hb.below hW; obtain ⟨pb,cb,rfl,_,_,t9,_⟩:=hb; obtain ⟨_,y7,x2,o6,b9⟩:=ha.cells; have x3:0<a.length:=by
  apply Nat.pos_of_ne_zero; intro e; exact hane (List.eq_nil_of_length_eq_zero e)
 have y8:0<b.length:=by
  apply Nat.pos_of_ne_zero; intro e; exact hne (List.eq_nil_of_length_eq_zero e)
 have q5:ba<w.heap.size:=by
  obtain ⟨b',g9,e,d1,_⟩:=b9 0 x3; simp only [Option.some.injEq,Addr.mk.injEq,and_true] at e; omega
 have HA:Hid (∀ i,i<a.length→w.cell? ⟨ba,oa+i,none⟩=some (.int .u32 (a.getD i 0:Nat))):=fun i hi=>by
  obtain ⟨b',g9,e,_,hc⟩:=b9 i hi; simp only [Option.some.injEq,Addr.mk.injEq,and_true] at e; obtain ⟨rfl,rfl⟩:=e; exact hc
 have l0:Hid (SD a b (a.drop (a.length+1 - b.length)) (List.replicate a.length 0) (a.length+1 - b.length)):=sd_first a b o6 htb hne; obtain ⟨T,hT⟩:=exW (a.length+1 - b.length); rw [hT] at l0; have o0:T≤a.length:=by omega
 have HT:Hid (T=a.length+1 - b.length):=hT.symm; unfold maxLen at x2; have F:Hid (okL a∧okL b∧isTrim b∧b≠[]):=⟨o6,t9,htb,hne⟩; clear ha b9 hane htb hne; have y5:Hid (T=0∨T≤ca):=.inr (by omega); have n4:Hid (T=a.length+1 - b.length∧T≤a.length):=⟨HT.o,o0⟩; have q6:((a.length:Int) - (b.length:Int)+1<0∧T=0)∨((a.length:Int) - (b.length:Int)+1=(T:Int)∧T<ca)∨((a.length:Int) - (b.length:Int)+1=(T:Int)∧ca=T∧a.length=T):=by omega
 have e9:Hid (B≤w.heap.size+1):=by unfold Hid; omega
 have n3:=Hd hBw; have o5:Hid (∀ W,Up w W→∀ i,i<(a.drop T).length→W.cell? ⟨ba,oa+T+i,none⟩=some (.int .u32 ((a.drop T).getD i 0:Nat))):=fun W hW i hi=>by rw [hW.cell (p:=⟨ba,oa+T+i,none⟩) q5,Nat.add_assoc,HA.o (T+i) (by simp at hi; omega),drop_getD]
 clear hT HT o0
 rcases q6 with ⟨u0,o3⟩|⟨u0,o3⟩|⟨u0,o3,u1⟩
 ·have HE:=Hd o3; have z1:decide ((a.length:Int) - (b.length:Int)+1<0)=true:=by rw [decide_eq_true_iff]; omega
  clear o3
  go_enter Tryz.func69,Tryz.ntmps69
  go_wp2_with (at_make; refine wpList_make_full _ rfl _ _ 47 rfl w.heap.size 85 i0 (.int .u32 0) 1 Tryz.underlying47 Z g6 g7 .i64 .i64 _ _ a.length rfl rfl (by first|rfl|omega) (by first|rfl|omega) (by first|omega|(rw [g8]; omega)) (by unfold maxLen; omega) leR ?_)
  intro w1 D g4
  first|rw [made_zero] at D|rw [made_zero'] at D
  have b7:RowT w1 w.heap.size (List.replicate a.length 0):=(row_of_full D).tail; have g2:Up w w1:=(Below.refl _ _).grown g4 leR (fun k h=>by cases h); have n6:=Hd b7; have e8:=Hd g2; have a9:Hid (w.heap.size<w1.heap.size):=b7.lt; clear D g4 b7 g2
  go_wp2_with (at_builtin; refine wpList_append_own _ rfl _ _ 47 rfl (w.heap.size+1) 85 i0 (.int .u32 0) 1 4 Tryz.underlying47 Z g6 g7 g8 rfl (by decide) _ 0 [] rfl (World.ownsRow_nil _ _ _ _) ⟨ba,oa,none⟩ a.length ca (U32s (a.drop T)) rfl (by rw [HE.o]; simp) (by have h:=src_cells (o5.o _ e8.o); rw [HE.o] at h ⊢; exact h) (one_cells _) (by unfold maxLen; omega) (by omega) (by have:=a9.o; omega) ?_)
  intro v2 w2 O c7 _
  try rw [← List.map_drop] at O
  have t:=O; have l2:Up w w2:=e8.o.grown c7 e8.o.size (fun k h=>by cases h); have k0:Hid (IsR (w.heap.size+1) w2 v2 (a.drop T)):=IsR.of_owns' (e:=85) (R:=a.drop T) t l0.o.rok; have p8:Hid (RowT w2 w.heap.size (List.replicate a.length 0)):=by
   obtain ⟨tl,h⟩:=n6.o; exact ⟨tl,(c7.block _ a9.o (by simp [Value.ownBlock])).trans h⟩
  have o8:=Hd l2; obtain ⟨pr,lr,cr,r8⟩:∃ pr lr cr,v2=.slice pr lr cr:=by
   obtain ⟨_,_,e,_⟩:=k0.o.isL; exact ⟨_,_,_,e⟩
  subst r8; clear O t c7 l2
  go_wp2
  go_loopw [7,9] (fun rv iv wr=>∃ (j:Nat) (R Q:List Nat),SD a b R Q j∧IsR (w.heap.size+1) wr rv R∧iv=.int .i64 ((j:Int) - 1)∧RowT wr w.heap.size Q∧Up w wr) (fun _ iv _=>(intOf iv+1).toNat)
  case atStart=>exact ⟨T,_,_,l0.o,k0.o,val_int (by have:=HE.o; omega),p8.o,o8.o⟩
  case round=>
   obtain ⟨j,R,Q,j3,l9,rfl,hQ,hB⟩:=hrel; have s:=Hd j3; have f7:=Hd l9; have i4:=Hd hQ; have a5:=Hd hB; have x4:=j3.le; clear j3 l9 hQ hB
   cases j with
   | zero=>
     have HE:Hid (val a=val Q*val b+val R∧val R<val b):=by
      have e:=s.o.eq; unfold vfrom at e; rw [List.drop_zero,List.drop_zero] at e; exact ⟨e,s.o.lt⟩
     have p9:Hid (IsL w.heap.size wr (.slice (some ⟨w.heap.size,0,none⟩) a.length a.length) Q):=by
      have h:=i4.o.isL (B:=w.heap.size) (cap:=a.length) leR s.o.qok (by have:=s.o.qlen; omega) (by unfold maxLen; omega); rw [s.o.qlen] at h; exact h
     go_wp2
     go_ret2
     exact ⟨_,_,Q,R,rfl,⟨p9.o,f7.o.isL.mono (by omega)⟩,HE.o.1,HE.o.2,a5.o⟩
   | succ i=>
     have b9:=HA.o i (by omega); rw [← a5.o.cell (p:=⟨ba,oa+i,none⟩) q5] at b9; have j5:=okL_getD a F.o.1 i (by omega); have G:Hid (val (trimL (a.getD i 0::R))<val b→SD a b (trimL (a.getD i 0::R)) Q i):=fun h=>s.o.cont h j5 F.o.2.1; have i2:Hid (∀ {q:Nat} {R':List Nat},q<1000000000→val (a.getD i 0::R)=q*val b+val R'→val R'<val b→okL R'→isTrim R'→SD a b R' (Q.set i q) i):=fun {q R'} h1 h2 h3 h4 h5=>s.o.put h1 h2 h3 h4 h5 F.o.2.1; have d8:Hid (val (a.getD i 0::R)<val b*1000000000):=s.o.window j5; obtain ⟨x,hx⟩:=exW (a.getD i 0); rw [hx] at b9 j5 G i2 d8; obtain ⟨N,hN⟩:=exW (x::R); have g3:okL N:=by
      rw [← hN]; intro y hy
      rcases List.mem_cons.1 hy with e|e
      ·omega
      ·exact s.o.rok y e
     have x0:=s.o.rlen; have d5:Hid (N.length=R.length+1∧N.length≤100001):=by
      rw [← hN]; exact ⟨by simp,by simp; omega⟩
     rw [hN] at G i2 d8; have HN:Hid (okL N∧True∧val N<val b*1000000000):=⟨g3,trivial,d8.o⟩; have p7:Hid (U32s N=Value.int .u32 (x:Nat)::U32s R):=by rw [← hN]; rfl
     have E:Hid (w.heap.size<wr.heap.size):=i4.o.lt; clear hx hN g3 d8
     go_wp2_with (at_builtin; refine wpList_append_R rfl _ _ 47 rfl (w.heap.size+1) (w.heap.size+1) 85 i0 (.int .u32 0) 4 Tryz.underlying47 Z g6 g7 g8 rfl _ 1 [.int .u32 (x:Nat)] rfl (owns_one wr _ _ _ (by have:=E.o; omega)) _ R rfl (f7.o.below (below_alloc _ _)) (by unfold maxLen; omega) (by omega) (by have:=E.o; simp; omega) ?_)
     intro v3 w3 t c8; rw [← p7.o] at t; have l3:Up w w3:=(a5.o.alloc a5.o.size _).grown c8 (by have:=a5.o.size; simp; omega) (fun k h=>by simp [Value.ownBlock] at h; have:=E.o; omega); have k5:Hid (RowT w3 w.heap.size Q):=by
      obtain ⟨tl,h⟩:=i4.o; refine ⟨tl,(c8.block _ (by have:=E.o; simp; omega) (by simp [Value.ownBlock]; have:=E.o; omega)).trans ?_⟩; exact (heap_alloc_old wr _ E.o).trans h
     have Y:=Hd l3; obtain ⟨_,⟨_,m6⟩|⟨g,cap,r9,q8,q9,r3,l8,j1⟩⟩:=IsR.of_owns' (e:=85) t HN.o.1
     ·exfalso; have:=d5.o.1; rw [m6] at this; simp at this
     subst r9; have o9:=Hd j1; have f5:Hid (∀ k,k≤N.length→trimL N=N.take k→IsR (w.heap.size+1) w3 (.slice (some ⟨g,0,none⟩) k cap) (trimL N)):=fun k hk he=>IsR.cut q8 q9 l8 HN.o.1 r3 j1 k hk he; have w9:=d5.o.2; unfold maxLen at l8; clear t c8 l3 j1 b9
     go_wp2
     go_loop [11] (fun n=>∃ k:Nat,k≤N.length∧n=.int .i64 k∧trimL (N.take k)=trimL N) (fun n=>(intOf n).toNat)
     case atStart=>exact ⟨N.length,leR,rfl,by rw [List.take_length]⟩
     case round=>
      obtain ⟨k,hk,rfl,hp⟩:=hrel; have HP:=Hd hp; clear hp
      cases k with
      | zero=>
        have HE:Hid (trimL N=[]):=by rw [← HP.o]; rfl
        have b4:Hid (IsR (w.heap.size+1) w3 (.slice (some ⟨g,0,none⟩) 0 cap) (trimL N)):=f5.o 0 (by omega) (by rw [← HP.o]; rfl); have d6:Hid (IsL B w3 (.slice (some ⟨g,0,none⟩) 0 cap) (trimL N)):=b4.o.isL.mono e9.o; have a7:Hid (cmpL (trimL N) b = -1):=by rw [HE.o]; exact cmpL_nil b F.o.2.2.2
        have b6:Hid (SD a b (trimL N) Q i):=G.o (by rw [HE.o]; exact val_pos b F.o.2.2.1 F.o.2.2.2)
        go_wp2_with fail
        refine (l1CmpD_any B _ _ (trimL N) b _ d6.o (HB.o _ Y.o)).mono ?_; rintro e w4 ⟨rfl,H⟩; rw [a7.o]; have A:Hid (IsR (w.heap.size+1) w4 (.slice (some ⟨g,0,none⟩) 0 cap) (trimL N)∧RowT w4 w.heap.size Q∧Up w w4):=⟨b4.o.below H,k5.o.kept H,Y.o.trans (H.mono Y.o.size)⟩; clear H
        go_wp2
        go_roundw
        case rel=>exact ⟨i,trimL N,Q,b6.o,A.o.1,by go_num,A.o.2.1,A.o.2.2⟩
        case measure=>simp [intOf]
      | succ m=>
        obtain ⟨y,hy⟩:=exW (N.getD m 0); have I:=o9.o m (by omega); rw [hy] at I; have HY:=Hd hy; clear hy
        by_cases h0:y=0
        ·have hz:((y:Int)==0)=true:=by rw [beq_iff_eq]; omega
         have HE:Hid (trimL (N.take m)=trimL N):=by rw [← trimL_take_zero N m (by omega) (by rw [HY.o,h0])]; exact HP.o
         clear h0
         go_wp2
         go_round
         case rel=>exact ⟨m,by omega,val_int (by omega),HE.o⟩
         case measure=>simp [intOf]
        ·have hz:((y:Int)==0)=false:=by rw [beq_eq_false_iff_ne]; omega
         have b4:Hid (IsR (w.heap.size+1) w3 (.slice (some ⟨g,0,none⟩) (m+1) cap) (trimL N)):=f5.o (m+1) hk (HP.o.symm.trans (trimL_take_pos N m (by omega) (by rw [HY.o]; exact h0))); have d6:Hid (IsL B w3 (.slice (some ⟨g,0,none⟩) (m+1) cap) (trimL N)):=b4.o.isL.mono e9.o; have b3:Hid ((trimL N).length=m+1):=by obtain ⟨_,_,e,_⟩:=d6.o; simp at e; exact e.2.1.symm
         clear h0; obtain ⟨cm,i9⟩:=exW (cmpL (trimL N) b); have a7:=Hd i9; have q7 : -1≤cm∧cm≤1:=by rw [← i9]; exact cmpL_bd _ b
         obtain ⟨u2,u5⟩:=q7; clear i9
         go_wp2_with fail
         refine (l1CmpD_any B _ _ (trimL N) b _ d6.o (HB.o _ Y.o)).mono ?_; rintro e w4 ⟨rfl,H⟩; rw [a7.o]; have A:Hid (IsR (w.heap.size+1) w4 (.slice (some ⟨g,0,none⟩) (m+1) cap) (trimL N)∧RowT w4 w.heap.size Q∧Up w w4):=⟨b4.o.below H,k5.o.kept H,Y.o.trans (H.mono Y.o.size)⟩; clear H I
         by_cases d1:cm<0
         ·have b6:Hid (SD a b (trimL N) Q i):=G.o (cmpL_lt_val _ b (trimL_ok N HN.o.1) F.o.2.1 (trimL_trim N) F.o.2.2.1 (by rw [a7.o]; exact d1))
          go_wp2
          go_roundw
          case rel=>exact ⟨i,trimL N,Q,b6.o,A.o.1,by go_num,A.o.2.1,A.o.2.2⟩
          case measure=>simp [intOf]
         ·have p3:Hid (val b≤val N∧b.length≤(trimL N).length):=by
           have h:=cmpL_ge (trimL N) b (trimL_ok N HN.o.1) F.o.2.1 (trimL_trim N) F.o.2.2.1 (by rw [a7.o]; omega); rw [val_trimL] at h; exact ⟨h.2,h.1⟩
          have x7:0≤cm:=by omega
          clear d1
          go_wp2
          go_loopw [12,13] (fun lov hiv wq=>∃ lo hi:Nat,lov=.int .u64 (lo:Nat)∧hiv=.int .u64 (hi:Nat)∧Between (val b) (val N) lo hi∧Up w4 wq) (fun lov hiv _=>(intOf hiv).toNat - (intOf lov).toNat)
          case atStart=>exact ⟨0,999999999,rfl,rfl,between_first _ _ HN.o.2.2,Below.refl _ _⟩
          case round=>
           obtain ⟨lo,hi,rfl,rfl,e2,l6⟩:=hrel; have a6:=Hd e2; have a3:=Hd l6; have x5:=e2.1; have x6:=e2.2.1; clear e2 l6; have h7:Hid (Up w wr):=A.o.2.2.trans (a3.o.mono A.o.2.2.size); have k7:Hid (IsR (w.heap.size+1) wr (.slice (some ⟨g,0,none⟩) (m+1) cap) (trimL N)):=A.o.1.below a3.o; have i3:Hid (RowT wr w.heap.size Q):=A.o.2.1.kept a3.o
           by_cases j2:lo<hi
           ·obtain ⟨M,hM⟩:=exW ((lo+hi+1) / 2); have w8:((lo:Int)+(hi:Int)+1) / 2=(M:Int):=by omega
            have HM:=Hd hM; have q4:M<1000000000:=by omega
            have w0:1≤M:=by omega
            clear hM
            go_wp2_with fail
            refine (l1MulD_any B _ b M _ (HB.o _ h7.o) hlb q4).mono ?_; rintro e w5 ⟨v5,L5,rfl,e0,m8,n0,r4,l5⟩; have p4:Hid (IsL B w5 v5 L5):=e0.mono (by have:=h7.o.size; have:=n3.o; omega); have i5:Hid (isTrim L5∧val L5=val b*M∧okL L5):=⟨m8,n0,by obtain ⟨_,_,_,_,_,h,_⟩:=e0; exact h⟩; have h6:=Hd l5; obtain ⟨p5,c5,e5,_⟩:=id e0; subst e5; clear e0 m8 n0 r4 l5
            go_wp2_with fail
            refine (l1CmpD_any B _ _ L5 (trimL N) _ p4.o ((k7.o.below h6.o).isL.mono e9.o)).mono ?_; rintro e w6 ⟨rfl,b8⟩; have J:Hid (Up w4 w6):=a3.o.trans ((h6.o.trans (b8.mono h6.o.size)).mono a3.o.size); clear b8; have ho:=cmpL_ord L5 (trimL N) i5.o.2.2 (trimL_ok N HN.o.1) i5.o.1 (trimL_trim N); rw [val_trimL,i5.o.2.1] at ho
            by_cases hc:M*val b≤val N
            ·have q0:Hid (Between (val b) (val N) M hi):=by
              have h:=between_up a6.o j2 (by rw [HM.o]; exact hc); rw [HM.o] at h; exact h
             obtain ⟨cx,L⟩:=exW (cmpL L5 (trimL N)); have l7:cx≤0:=by rw [← L,ho]; exact ord_le _ _ (by rw [Nat.mul_comm]; exact hc)
             rw [L]; clear L ho hc
             go_wp2
             go_roundw
             case rel=>exact ⟨M,hi,rfl,rfl,q0.o,J.o⟩
             case measure=>simp [intOf]; have:=HM.o; omega
            ·have p1:Hid (Between (val b) (val N) lo (M - 1)):=by
              have h:=between_down a6.o j2 (by rw [HM.o]; omega); rw [HM.o] at h; exact h
             obtain ⟨cx,L⟩:=exW (cmpL L5 (trimL N)); have l7:0<cx:=by rw [← L,ho]; exact ord_gt _ _ (by rw [Nat.mul_comm]; omega)
             rw [L]; clear L ho hc
             go_wp2
             go_roundw
             case rel=>exact ⟨lo,M - 1,rfl,val_int (by omega),p1.o,J.o⟩
             case measure=>simp [intOf]; have:=HM.o; omega
           ·obtain rfl:lo=hi:=by omega
            have h8:Hid (1≤lo∧lo*val b≤val N∧val N<(lo+1)*val b):=by
             refine ⟨?_,a6.o.2.2.1,a6.o.2.2.2⟩; apply Nat.pos_of_ne_zero; rintro rfl; have h1:=a6.o.2.2.2; have h2:=p3.o.1; omega
            have u6:=h8.o.1; have r6:=i3.o.cell i (by have:=s.o.qlen; have:=s.o.le; omega); have r7:=i3.o.frozen i; have K:Hid (RowT (wr.setCell ⟨w.heap.size,i,none⟩ (.int .u32 (lo:Nat))) w.heap.size (Q.set i lo)∧IsR (w.heap.size+1) (wr.setCell ⟨w.heap.size,i,none⟩ (.int .u32 (lo:Nat))) (.slice (some ⟨g,0,none⟩) (m+1) cap) (trimL N)∧Up w (wr.setCell ⟨w.heap.size,i,none⟩ (.int .u32 (lo:Nat)))):=
             ⟨i3.o.set _ _ (by have:=s.o.qlen; have:=s.o.le; omega),k7.o.setCell _ _ (by show w.heap.size<w.heap.size+1; omega),h7.o.setCell leR _⟩
            obtain ⟨W5,i7⟩:=exW (wr.setCell ⟨w.heap.size,i,none⟩ (.int .u32 (lo:Nat))); have q1:=Hd i7; rw [i7] at K; clear i7 j2
            go_wp2_with fail
            rw [q1.o]; clear r6 r7; refine (l1MulD_any B _ b lo _ (HB.o _ K.o.2.2) hlb (by omega)).mono ?_; rintro e w6 ⟨v6,L6,rfl,e1,m9,n1,r5,b8⟩; have d4:Hid (IsL B w6 v6 L6∧isTrim L6∧val L6=val b*lo∧okL L6):=⟨e1.mono (by have:=K.o.2.2.size; have:=n3.o; omega),m9,n1,by obtain ⟨_,_,_,_,_,h,_⟩:=e1; exact h⟩; have J:=Hd b8; obtain ⟨p6,c6,e6,_⟩:=id e1; subst e6; clear e1 m9 n1 r5 b8
            go_wp2_with fail
            have c9:val L6≤val (trimL N):=by rw [d4.o.2.2.1,val_trimL,Nat.mul_comm]; exact h8.o.2.1
            have d0:=l1SubD_len B (.slice (some ⟨g,0,none⟩) (m+1) cap) (.slice p6 L6.length c6) (trimL N) L6 w6 ((K.o.2.1.below J.o).isL.mono e9.o) d4.o.1 (by have:=d5.o; have:=trimL_len N; omega) (len_of_le L6 (trimL N) d4.o.2.1 (trimL_ok N HN.o.1) c9) c9; rw [b3.o] at d0; refine d0.mono ?_; clear d0 c9; rintro e w7 ⟨S,rfl,hS,j4,m5,i8⟩; have V:okL S:=by obtain ⟨_,_,_,_,_,h,_⟩:=hS; exact h
            have HS:Hid (okL S∧S.length=m+1∧val S+lo*val b=val N):=⟨V,m5,by rw [d4.o.2.2.1,val_trimL] at j4; rw [Nat.mul_comm lo]; exact j4⟩; have hG:w.heap.size+1≤w6.heap.size:=by have:=K.o.1.lt; have:=J.o.size; omega
            have j9:Hid (∀ q,q<S.length→w7.cell? ⟨w6.heap.size,q,none⟩=some (.int .u32 (S.getD q 0:Nat))):=fun q hq=>by
             obtain ⟨_,_,_,_,j0⟩:=hS.cells; obtain ⟨b',g9,e,_,hc⟩:=j0 q hq; simp only [Option.some.injEq,Addr.mk.injEq,and_true] at e; obtain ⟨rfl,rfl⟩:=e; rw [Nat.zero_add] at hc; exact hc
            have k1:Hid (w6.heap.size<w7.heap.size):=by
             obtain ⟨_,_,_,_,j0⟩:=hS.cells; obtain ⟨b',g9,e,d1,hc⟩:=j0 0 (by omega); simp only [Option.some.injEq,Addr.mk.injEq,and_true] at e; obtain ⟨rfl,rfl⟩:=e; exact d1
            have d7:Hid (RowT w7 w.heap.size (Q.set i lo)∧Up w w7):=⟨(K.o.1.kept J.o).kept i8,K.o.2.2.trans ((J.o.trans (i8.mono J.o.size)).mono K.o.2.2.size)⟩; have a8:Hid (∀ k,k≤S.length→trimL S=S.take k→IsR (w.heap.size+1) w7 (.slice (some ⟨w6.heap.size,0,none⟩) k (m+1)) (trimL S)):=fun k hk he=>IsR.cut hG k1.o (by unfold maxLen; have:=d5.o; have:=trimL_len N; have:=b3.o; omega) V (by omega) j9.o k hk he; have f9:Hid (SD a b (trimL S) (Q.set i lo) i):=by
             refine i2.o (by omega) ?_ ?_ (trimL_ok S V) (trimL_trim S)
             ·rw [val_trimL]; have:=HS.o.2.2; omega
             ·rw [val_trimL]; have h1:=HS.o.2.2; have h2:=h8.o.2.2; rw [Nat.add_mul,Nat.one_mul] at h2; omega
            clear hS j4 m5 i8 V hG
            go_wp2
            go_loop [16] (fun n=>∃ k:Nat,k≤S.length∧n=.int .i64 k∧trimL (S.take k)=trimL S) (fun n=>(intOf n).toNat)
            case atStart=>exact ⟨S.length,leR,val_int (by have:=HS.o.2.1; omega),by rw [List.take_length]⟩
            case round=>
             obtain ⟨k,hk,rfl,hp⟩:=hrel; have i1:=Hd hp; have i6:=HS.o.2.1; clear hp
             cases k with
             | zero=>
               have b5:Hid (IsR (w.heap.size+1) w7 (.slice (some ⟨w6.heap.size,0,none⟩) 0 (m+1)) (trimL S)):=a8.o 0 (by omega) (by rw [← i1.o]; rfl); clear i6
               go_wp2
               go_roundw
               case rel=>exact ⟨i,trimL S,Q.set i lo,f9.o,b5.o,by go_num,d7.o.1,d7.o.2⟩
               case measure=>simp [intOf]
             | succ p=>
               obtain ⟨y,hy⟩:=exW (S.getD p 0); have I:=j9.o p (by omega); rw [hy] at I; have l1:=Hd hy; have x8:p<m+1:=by omega
               clear hy
               by_cases h0:y=0
               ·have hz:((y:Int)==0)=true:=by rw [beq_iff_eq]; omega
                have p2:Hid (trimL (S.take p)=trimL S):=by rw [← trimL_take_zero S p (by omega) (by rw [l1.o,h0])]; exact i1.o
                clear h0 i6
                go_wp2
                go_round
                case rel=>exact ⟨p,by have:=HS.o.2.1; omega,val_int (by omega),p2.o⟩
                case measure=>simp [intOf]
               ·have hz:((y:Int)==0)=false:=by rw [beq_eq_false_iff_ne]; omega
                have b5:Hid (IsR (w.heap.size+1) w7 (.slice (some ⟨w6.heap.size,0,none⟩) (p+1) (m+1)) (trimL S)):=a8.o (p+1) (by omega) (i1.o.symm.trans (trimL_take_pos S p (by omega) (by rw [l1.o]; exact h0))); clear h0 i6
                go_wp2
                go_roundw
                case rel=>exact ⟨i,trimL S,Q.set i lo,f9.o,b5.o,by go_num,d7.o.1,d7.o.2⟩
                case measure=>simp [intOf]
 case' _=>
  have z1:decide ((T:Int)<0)=false:=by rw [decide_eq_false_iff_not]; omega
  have p0:=n4.o.2; have z2:decide (a.length<T)=false:=by rw [decide_eq_false_iff_not]; omega
  have z3:decide ((a.length:Int)<(T:Int))=false:=by rw [decide_eq_false_iff_not]; omega
  clear p0
  go_enter Tryz.func69,Tryz.ntmps69
  go_wp2_with (at_make; refine wpList_make_full _ rfl _ _ 47 rfl w.heap.size 85 i0 (.int .u32 0) 1 Tryz.underlying47 Z g6 g7 .i64 .i64 _ _ a.length rfl rfl (by first|rfl|omega) (by first|rfl|omega) (by first|omega|(rw [g8]; omega)) (by unfold maxLen; omega) leR ?_)
  intro w1 D g4
  first|rw [made_zero] at D|rw [made_zero'] at D
  have b7:RowT w1 w.heap.size (List.replicate a.length 0):=(row_of_full D).tail; have g2:Up w w1:=(Below.refl _ _).grown g4 leR (fun k h=>by cases h); have n6:=Hd b7; have e8:=Hd g2; have a9:Hid (w.heap.size<w1.heap.size):=b7.lt; clear D g4 b7 g2; have o0:=n4.o.2
  go_wp2_with (at_builtin; refine wpList_append_own _ rfl _ _ 47 rfl (w.heap.size+1) 85 i0 (.int .u32 0) 1 4 Tryz.underlying47 Z g6 g7 g8 rfl (by decide) _ 0 [] rfl (World.ownsRow_nil _ _ _ _) ⟨ba,oa+T,none⟩ (a.length - T) (ca - T) (U32s (a.drop T)) rfl (by simp) (src_cells (o5.o _ e8.o)) (one_cells _) (by unfold maxLen; omega) (by omega) (by have:=a9.o; omega) ?_)
 rotate_left
 case' _=>
  have z1:decide ((T:Int)<0)=false:=by rw [decide_eq_false_iff_not]; omega
  have v1:=Hd u1; have p0:=n4.o.2; have z2:decide (a.length<T)=false:=by rw [decide_eq_false_iff_not]; omega
  have z3:decide ((a.length:Int)<(T:Int))=false:=by rw [decide_eq_false_iff_not]; omega
  clear p0 u1
  go_enter Tryz.func69,Tryz.ntmps69
  go_wp2_with (at_make; refine wpList_make_full _ rfl _ _ 47 rfl w.heap.size 85 i0 (.int .u32 0) 1 Tryz.underlying47 Z g6 g7 .i64 .i64 _ _ a.length rfl rfl (by first|rfl|omega) (by first|rfl|omega) (by first|omega|(rw [g8]; omega)) (by unfold maxLen; omega) leR ?_)
  intro w1 D g4
  first|rw [made_zero] at D|rw [made_zero'] at D
  have b7:RowT w1 w.heap.size (List.replicate a.length 0):=(row_of_full D).tail; have g2:Up w w1:=(Below.refl _ _).grown g4 leR (fun k h=>by cases h); have n6:=Hd b7; have e8:=Hd g2; have a9:Hid (w.heap.size<w1.heap.size):=b7.lt; clear D g4 b7 g2; have o0:=n4.o.2
  go_wp2_with (at_builtin; refine wpList_append_own _ rfl _ _ 47 rfl (w.heap.size+1) 85 i0 (.int .u32 0) 1 4 Tryz.underlying47 Z g6 g7 g8 rfl (by decide) _ 0 [] rfl (World.ownsRow_nil _ _ _ _) ⟨ba,oa,none⟩ (a.length - T) 0 (U32s (a.drop T)) rfl (by simp) (fun q u hq=>by have:=v1.o; rw [show a.drop T=[] from List.drop_eq_nil_of_le (by omega)] at hq; simp at hq) (one_cells _) (by unfold maxLen; omega) (by omega) (by have:=a9.o; omega) ?_)
 rotate_left
 all_goals
  intro v2 w2 O c7 _
  try rw [← List.map_drop] at O
  have t:=O; have l2:Up w w2:=e8.o.grown c7 e8.o.size (fun k h=>by cases h); have k0:Hid (IsR (w.heap.size+1) w2 v2 (a.drop T)):=IsR.of_owns' (e:=85) (R:=a.drop T) t l0.o.rok; have p8:Hid (RowT w2 w.heap.size (List.replicate a.length 0)):=by
   obtain ⟨tl,h⟩:=n6.o; exact ⟨tl,(c7.block _ a9.o (by simp [Value.ownBlock])).trans h⟩
  have o8:=Hd l2; obtain ⟨pr,lr,cr,r8⟩:∃ pr lr cr,v2=.slice pr lr cr:=by
   obtain ⟨_,_,e,_⟩:=k0.o.isL; exact ⟨_,_,_,e⟩
  subst r8; clear O t c7 l2
  go_wp2
  go_loopw [7,9] (fun rv iv wr=>∃ (j:Nat) (R Q:List Nat),SD a b R Q j∧IsR (w.heap.size+1) wr rv R∧iv=.int .i64 ((j:Int) - 1)∧RowT wr w.heap.size Q∧Up w wr) (fun _ iv _=>(intOf iv+1).toNat)
  case atStart=>exact ⟨T,_,_,l0.o,k0.o,val_int (by omega),p8.o,o8.o⟩
  case round=>
   obtain ⟨j,R,Q,j3,l9,rfl,hQ,hB⟩:=hrel; have s:=Hd j3; have f7:=Hd l9; have i4:=Hd hQ; have a5:=Hd hB; have x4:=j3.le; clear j3 l9 hQ hB
   cases j with
   | zero=>
     have HE:Hid (val a=val Q*val b+val R∧val R<val b):=by
      have e:=s.o.eq; unfold vfrom at e; rw [List.drop_zero,List.drop_zero] at e; exact ⟨e,s.o.lt⟩
     have p9:Hid (IsL w.heap.size wr (.slice (some ⟨w.heap.size,0,none⟩) a.length a.length) Q):=by
      have h:=i4.o.isL (B:=w.heap.size) (cap:=a.length) leR s.o.qok (by have:=s.o.qlen; omega) (by unfold maxLen; omega); rw [s.o.qlen] at h; exact h
     go_wp2
     go_ret2
     exact ⟨_,_,Q,R,rfl,⟨p9.o,f7.o.isL.mono (by omega)⟩,HE.o.1,HE.o.2,a5.o⟩
   | succ i=>
     have b9:=HA.o i (by omega); rw [← a5.o.cell (p:=⟨ba,oa+i,none⟩) q5] at b9; have j5:=okL_getD a F.o.1 i (by omega); have G:Hid (val (trimL (a.getD i 0::R))<val b→SD a b (trimL (a.getD i 0::R)) Q i):=fun h=>s.o.cont h j5 F.o.2.1; have i2:Hid (∀ {q:Nat} {R':List Nat},q<1000000000→val (a.getD i 0::R)=q*val b+val R'→val R'<val b→okL R'→isTrim R'→SD a b R' (Q.set i q) i):=fun {q R'} h1 h2 h3 h4 h5=>s.o.put h1 h2 h3 h4 h5 F.o.2.1; have d8:Hid (val (a.getD i 0::R)<val b*1000000000):=s.o.window j5; obtain ⟨x,hx⟩:=exW (a.getD i 0); rw [hx] at b9 j5 G i2 d8; obtain ⟨N,hN⟩:=exW (x::R); have g3:okL N:=by
      rw [← hN]; intro y hy
      rcases List.mem_cons.1 hy with e|e
      ·omega
      ·exact s.o.rok y e
     have x0:=s.o.rlen; have d5:Hid (N.length=R.length+1∧N.length≤100001):=by
      rw [← hN]; exact ⟨by simp,by simp; omega⟩
     rw [hN] at G i2 d8; have HN:Hid (okL N∧True∧val N<val b*1000000000):=⟨g3,trivial,d8.o⟩; have p7:Hid (U32s N=Value.int .u32 (x:Nat)::U32s R):=by rw [← hN]; rfl
     have E:Hid (w.heap.size<wr.heap.size):=i4.o.lt; clear hx hN g3 d8
     go_wp2_with (at_builtin; refine wpList_append_R rfl _ _ 47 rfl (w.heap.size+1) (w.heap.size+1) 85 i0 (.int .u32 0) 4 Tryz.underlying47 Z g6 g7 g8 rfl _ 1 [.int .u32 (x:Nat)] rfl (owns_one wr _ _ _ (by have:=E.o; omega)) _ R rfl (f7.o.below (below_alloc _ _)) (by unfold maxLen; omega) (by omega) (by have:=E.o; simp; omega) ?_)
     intro v3 w3 t c8; rw [← p7.o] at t; have l3:Up w w3:=(a5.o.alloc a5.o.size _).grown c8 (by have:=a5.o.size; simp; omega) (fun k h=>by simp [Value.ownBlock] at h; have:=E.o; omega); have k5:Hid (RowT w3 w.heap.size Q):=by
      obtain ⟨tl,h⟩:=i4.o; refine ⟨tl,(c8.block _ (by have:=E.o; simp; omega) (by simp [Value.ownBlock]; have:=E.o; omega)).trans ?_⟩; exact (heap_alloc_old wr _ E.o).trans h
     have Y:=Hd l3; obtain ⟨_,⟨_,m6⟩|⟨g,cap,r9,q8,q9,r3,l8,j1⟩⟩:=IsR.of_owns' (e:=85) t HN.o.1
     ·exfalso; have:=d5.o.1; rw [m6] at this; simp at this
     subst r9; have o9:=Hd j1; have f5:Hid (∀ k,k≤N.length→trimL N=N.take k→IsR (w.heap.size+1) w3 (.slice (some ⟨g,0,none⟩) k cap) (trimL N)):=fun k hk he=>IsR.cut q8 q9 l8 HN.o.1 r3 j1 k hk he; have w9:=d5.o.2; unfold maxLen at l8; clear t c8 l3 j1 b9
     go_wp2
     go_loop [11] (fun n=>∃ k:Nat,k≤N.length∧n=.int .i64 k∧trimL (N.take k)=trimL N) (fun n=>(intOf n).toNat)
     case atStart=>exact ⟨N.length,leR,rfl,by rw [List.take_length]⟩
     case round=>
      obtain ⟨k,hk,rfl,hp⟩:=hrel; have HP:=Hd hp; clear hp
      cases k with
      | zero=>
        have HE:Hid (trimL N=[]):=by rw [← HP.o]; rfl
        have b4:Hid (IsR (w.heap.size+1) w3 (.slice (some ⟨g,0,none⟩) 0 cap) (trimL N)):=f5.o 0 (by omega) (by rw [← HP.o]; rfl); have d6:Hid (IsL B w3 (.slice (some ⟨g,0,none⟩) 0 cap) (trimL N)):=b4.o.isL.mono e9.o; have a7:Hid (cmpL (trimL N) b = -1):=by rw [HE.o]; exact cmpL_nil b F.o.2.2.2
        have b6:Hid (SD a b (trimL N) Q i):=G.o (by rw [HE.o]; exact val_pos b F.o.2.2.1 F.o.2.2.2)
        go_wp2_with fail
        refine (l1CmpD_any B _ _ (trimL N) b _ d6.o (HB.o _ Y.o)).mono ?_; rintro e w4 ⟨rfl,H⟩; rw [a7.o]; have A:Hid (IsR (w.heap.size+1) w4 (.slice (some ⟨g,0,none⟩) 0 cap) (trimL N)∧RowT w4 w.heap.size Q∧Up w w4):=⟨b4.o.below H,k5.o.kept H,Y.o.trans (H.mono Y.o.size)⟩; clear H
        go_wp2
        go_roundw
        case rel=>exact ⟨i,trimL N,Q,b6.o,A.o.1,by go_num,A.o.2.1,A.o.2.2⟩
        case measure=>simp [intOf]
      | succ m=>
        obtain ⟨y,hy⟩:=exW (N.getD m 0); have I:=o9.o m (by omega); rw [hy] at I; have HY:=Hd hy; clear hy
        by_cases h0:y=0
        ·have hz:((y:Int)==0)=true:=by rw [beq_iff_eq]; omega
         have HE:Hid (trimL (N.take m)=trimL N):=by rw [← trimL_take_zero N m (by omega) (by rw [HY.o,h0])]; exact HP.o
         clear h0
         go_wp2
         go_round
         case rel=>exact ⟨m,by omega,val_int (by omega),HE.o⟩
         case measure=>simp [intOf]
        ·have hz:((y:Int)==0)=false:=by rw [beq_eq_false_iff_ne]; omega
         have b4:Hid (IsR (w.heap.size+1) w3 (.slice (some ⟨g,0,none⟩) (m+1) cap) (trimL N)):=f5.o (m+1) hk (HP.o.symm.trans (trimL_take_pos N m (by omega) (by rw [HY.o]; exact h0))); have d6:Hid (IsL B w3 (.slice (some ⟨g,0,none⟩) (m+1) cap) (trimL N)):=b4.o.isL.mono e9.o; have b3:Hid ((trimL N).length=m+1):=by obtain ⟨_,_,e,_⟩:=d6.o; simp at e; exact e.2.1.symm
         clear h0; obtain ⟨cm,i9⟩:=exW (cmpL (trimL N) b); have a7:=Hd i9; have q7 : -1≤cm∧cm≤1:=by rw [← i9]; exact cmpL_bd _ b
         obtain ⟨u2,u5⟩:=q7; clear i9
         go_wp2_with fail
         refine (l1CmpD_any B _ _ (trimL N) b _ d6.o (HB.o _ Y.o)).mono ?_; rintro e w4 ⟨rfl,H⟩; rw [a7.o]; have A:Hid (IsR (w.heap.size+1) w4 (.slice (some ⟨g,0,none⟩) (m+1) cap) (trimL N)∧RowT w4 w.heap.size Q∧Up w w4):=⟨b4.o.below H,k5.o.kept H,Y.o.trans (H.mono Y.o.size)⟩; clear H I
         by_cases d1:cm<0
         ·have b6:Hid (SD a b (trimL N) Q i):=G.o (cmpL_lt_val _ b (trimL_ok N HN.o.1) F.o.2.1 (trimL_trim N) F.o.2.2.1 (by rw [a7.o]; exact d1))
          go_wp2
          go_roundw
          case rel=>exact ⟨i,trimL N,Q,b6.o,A.o.1,by go_num,A.o.2.1,A.o.2.2⟩
          case measure=>simp [intOf]
         ·have p3:Hid (val b≤val N∧b.length≤(trimL N).length):=by
           have h:=cmpL_ge (trimL N) b (trimL_ok N HN.o.1) F.o.2.1 (trimL_trim N) F.o.2.2.1 (by rw [a7.o]; omega); rw [val_trimL] at h; exact ⟨h.2,h.1⟩
          have x7:0≤cm:=by omega
          clear d1
          go_wp2
          go_loopw [12,13] (fun lov hiv wq=>∃ lo hi:Nat,lov=.int .u64 (lo:Nat)∧hiv=.int .u64 (hi:Nat)∧Between (val b) (val N) lo hi∧Up w4 wq) (fun lov hiv _=>(intOf hiv).toNat - (intOf lov).toNat)
          case atStart=>exact ⟨0,999999999,rfl,rfl,between_first _ _ HN.o.2.2,Below.refl _ _⟩
          case round=>
           obtain ⟨lo,hi,rfl,rfl,e2,l6⟩:=hrel; have a6:=Hd e2; have a3:=Hd l6; have x5:=e2.1; have x6:=e2.2.1; clear e2 l6; have h7:Hid (Up w wr):=A.o.2.2.trans (a3.o.mono A.o.2.2.size); have k7:Hid (IsR (w.heap.size+1) wr (.slice (some ⟨g,0,none⟩) (m+1) cap) (trimL N)):=A.o.1.below a3.o; have i3:Hid (RowT wr w.heap.size Q):=A.o.2.1.kept a3.o
           by_cases j2:lo<hi
           ·obtain ⟨M,hM⟩:=exW ((lo+hi+1) / 2); have w8:((lo:Int)+(hi:Int)+1) / 2=(M:Int):=by omega
            have HM:=Hd hM; have q4:M<1000000000:=by omega
            have w0:1≤M:=by omega
            clear hM
            go_wp2_with fail
            refine (l1MulD_any B _ b M _ (HB.o _ h7.o) hlb q4).mono ?_; rintro e w5 ⟨v5,L5,rfl,e0,m8,n0,r4,l5⟩; have p4:Hid (IsL B w5 v5 L5):=e0.mono (by have:=h7.o.size; have:=n3.o; omega); have i5:Hid (isTrim L5∧val L5=val b*M∧okL L5):=⟨m8,n0,by obtain ⟨_,_,_,_,_,h,_⟩:=e0; exact h⟩; have h6:=Hd l5; obtain ⟨p5,c5,e5,_⟩:=id e0; subst e5; clear e0 m8 n0 r4 l5
            go_wp2_with fail
            refine (l1CmpD_any B _ _ L5 (trimL N) _ p4.o ((k7.o.below h6.o).isL.mono e9.o)).mono ?_; rintro e w6 ⟨rfl,b8⟩; have J:Hid (Up w4 w6):=a3.o.trans ((h6.o.trans (b8.mono h6.o.size)).mono a3.o.size); clear b8; have ho:=cmpL_ord L5 (trimL N) i5.o.2.2 (trimL_ok N HN.o.1) i5.o.1 (trimL_trim N); rw [val_trimL,i5.o.2.1] at ho
            by_cases hc:M*val b≤val N
            ·have q0:Hid (Between (val b) (val N) M hi):=by
              have h:=between_up a6.o j2 (by rw [HM.o]; exact hc); rw [HM.o] at h; exact h
             obtain ⟨cx,L⟩:=exW (cmpL L5 (trimL N)); have l7:cx≤0:=by rw [← L,ho]; exact ord_le _ _ (by rw [Nat.mul_comm]; exact hc)
             rw [L]; clear L ho hc
             go_wp2
             go_roundw
             case rel=>exact ⟨M,hi,rfl,rfl,q0.o,J.o⟩
             case measure=>simp [intOf]; have:=HM.o; omega
            ·have p1:Hid (Between (val b) (val N) lo (M - 1)):=by
              have h:=between_down a6.o j2 (by rw [HM.o]; omega); rw [HM.o] at h; exact h
             obtain ⟨cx,L⟩:=exW (cmpL L5 (trimL N)); have l7:0<cx:=by rw [← L,ho]; exact ord_gt _ _ (by rw [Nat.mul_comm]; omega)
             rw [L]; clear L ho hc
             go_wp2
             go_roundw
             case rel=>exact ⟨lo,M - 1,rfl,val_int (by omega),p1.o,J.o⟩
             case measure=>simp [intOf]; have:=HM.o; omega
           ·obtain rfl:lo=hi:=by omega
            have h8:Hid (1≤lo∧lo*val b≤val N∧val N<(lo+1)*val b):=by
             refine ⟨?_,a6.o.2.2.1,a6.o.2.2.2⟩; apply Nat.pos_of_ne_zero; rintro rfl; have h1:=a6.o.2.2.2; have h2:=p3.o.1; omega
            have u6:=h8.o.1; have r6:=i3.o.cell i (by have:=s.o.qlen; have:=s.o.le; omega); have r7:=i3.o.frozen i; have K:Hid (RowT (wr.setCell ⟨w.heap.size,i,none⟩ (.int .u32 (lo:Nat))) w.heap.size (Q.set i lo)∧IsR (w.heap.size+1) (wr.setCell ⟨w.heap.size,i,none⟩ (.int .u32 (lo:Nat))) (.slice (some ⟨g,0,none⟩) (m+1) cap) (trimL N)∧Up w (wr.setCell ⟨w.heap.size,i,none⟩ (.int .u32 (lo:Nat)))):=
             ⟨i3.o.set _ _ (by have:=s.o.qlen; have:=s.o.le; omega),k7.o.setCell _ _ (by show w.heap.size<w.heap.size+1; omega),h7.o.setCell leR _⟩
            obtain ⟨W5,i7⟩:=exW (wr.setCell ⟨w.heap.size,i,none⟩ (.int .u32 (lo:Nat))); have q1:=Hd i7; rw [i7] at K; clear i7 j2
            go_wp2_with fail
            rw [q1.o]; clear r6 r7; refine (l1MulD_any B _ b lo _ (HB.o _ K.o.2.2) hlb (by omega)).mono ?_; rintro e w6 ⟨v6,L6,rfl,e1,m9,n1,r5,b8⟩; have d4:Hid (IsL B w6 v6 L6∧isTrim L6∧val L6=val b*lo∧okL L6):=⟨e1.mono (by have:=K.o.2.2.size; have:=n3.o; omega),m9,n1,by obtain ⟨_,_,_,_,_,h,_⟩:=e1; exact h⟩; have J:=Hd b8; obtain ⟨p6,c6,e6,_⟩:=id e1; subst e6; clear e1 m9 n1 r5 b8
            go_wp2_with fail
            have c9:val L6≤val (trimL N):=by rw [d4.o.2.2.1,val_trimL,Nat.mul_comm]; exact h8.o.2.1
            have d0:=l1SubD_len B (.slice (some ⟨g,0,none⟩) (m+1) cap) (.slice p6 L6.length c6) (trimL N) L6 w6 ((K.o.2.1.below J.o).isL.mono e9.o) d4.o.1 (by have:=d5.o; have:=trimL_len N; omega) (len_of_le L6 (trimL N) d4.o.2.1 (trimL_ok N HN.o.1) c9) c9; rw [b3.o] at d0; refine d0.mono ?_; clear d0 c9; rintro e w7 ⟨S,rfl,hS,j4,m5,i8⟩; have V:okL S:=by obtain ⟨_,_,_,_,_,h,_⟩:=hS; exact h
            have HS:Hid (okL S∧S.length=m+1∧val S+lo*val b=val N):=⟨V,m5,by rw [d4.o.2.2.1,val_trimL] at j4; rw [Nat.mul_comm lo]; exact j4⟩; have hG:w.heap.size+1≤w6.heap.size:=by have:=K.o.1.lt; have:=J.o.size; omega
            have j9:Hid (∀ q,q<S.length→w7.cell? ⟨w6.heap.size,q,none⟩=some (.int .u32 (S.getD q 0:Nat))):=fun q hq=>by
             obtain ⟨_,_,_,_,j0⟩:=hS.cells; obtain ⟨b',g9,e,_,hc⟩:=j0 q hq; simp only [Option.some.injEq,Addr.mk.injEq,and_true] at e; obtain ⟨rfl,rfl⟩:=e; rw [Nat.zero_add] at hc; exact hc
            have k1:Hid (w6.heap.size<w7.heap.size):=by
             obtain ⟨_,_,_,_,j0⟩:=hS.cells; obtain ⟨b',g9,e,d1,hc⟩:=j0 0 (by omega); simp only [Option.some.injEq,Addr.mk.injEq,and_true] at e; obtain ⟨rfl,rfl⟩:=e; exact d1
            have d7:Hid (RowT w7 w.heap.size (Q.set i lo)∧Up w w7):=⟨(K.o.1.kept J.o).kept i8,K.o.2.2.trans ((J.o.trans (i8.mono J.o.size)).mono K.o.2.2.size)⟩; have a8:Hid (∀ k,k≤S.length→trimL S=S.take k→IsR (w.heap.size+1) w7 (.slice (some ⟨w6.heap.size,0,none⟩) k (m+1)) (trimL S)):=fun k hk he=>IsR.cut hG k1.o (by unfold maxLen; have:=d5.o; have:=trimL_len N; have:=b3.o; omega) V (by omega) j9.o k hk he; have f9:Hid (SD a b (trimL S) (Q.set i lo) i):=by
             refine i2.o (by omega) ?_ ?_ (trimL_ok S V) (trimL_trim S)
             ·rw [val_trimL]; have:=HS.o.2.2; omega
             ·rw [val_trimL]; have h1:=HS.o.2.2; have h2:=h8.o.2.2; rw [Nat.add_mul,Nat.one_mul] at h2; omega
            clear hS j4 m5 i8 V hG
            go_wp2
            go_loop [16] (fun n=>∃ k:Nat,k≤S.length∧n=.int .i64 k∧trimL (S.take k)=trimL S) (fun n=>(intOf n).toNat)
            case atStart=>exact ⟨S.length,leR,val_int (by have:=HS.o.2.1; omega),by rw [List.take_length]⟩
            case round=>
             obtain ⟨k,hk,rfl,hp⟩:=hrel; have i1:=Hd hp; have i6:=HS.o.2.1; clear hp
             cases k with
             | zero=>
               have b5:Hid (IsR (w.heap.size+1) w7 (.slice (some ⟨w6.heap.size,0,none⟩) 0 (m+1)) (trimL S)):=a8.o 0 (by omega) (by rw [← i1.o]; rfl); clear i6
               go_wp2
               go_roundw
               case rel=>exact ⟨i,trimL S,Q.set i lo,f9.o,b5.o,by go_num,d7.o.1,d7.o.2⟩
               case measure=>simp [intOf]
             | succ p=>
               obtain ⟨y,hy⟩:=exW (S.getD p 0); have I:=j9.o p (by omega); rw [hy] at I; have l1:=Hd hy; have x8:p<m+1:=by omega
               clear hy
               by_cases h0:y=0
               ·have hz:((y:Int)==0)=true:=by rw [beq_iff_eq]; omega
                have p2:Hid (trimL (S.take p)=trimL S):=by rw [← trimL_take_zero S p (by omega) (by rw [l1.o,h0])]; exact i1.o
                clear h0 i6
                go_wp2
                go_round
                case rel=>exact ⟨p,by have:=HS.o.2.1; omega,val_int (by omega),p2.o⟩
                case measure=>simp [intOf]
               ·have hz:((y:Int)==0)=false:=by rw [beq_eq_false_iff_ne]; omega
                have b5:Hid (IsR (w.heap.size+1) w7 (.slice (some ⟨w6.heap.size,0,none⟩) (p+1) (m+1)) (trimL S)):=a8.o (p+1) (by omega) (i1.o.symm.trans (trimL_take_pos S p (by omega) (by rw [l1.o]; exact h0))); clear h0 i6
                go_wp2
                go_roundw
                case rel=>exact ⟨i,trimL S,Q.set i lo,f9.o,b5.o,by go_num,d7.o.1,d7.o.2⟩
                case measure=>simp [intOf]
theorem l1Limbs_nil (B:Nat) (z:Value) (neg:Bool) (w:World) (h:IsZ B w z neg []) :
 Calls Tryz.prog 62 #[z] w fun e w'=>e=.returned (.slice none 0 0)∧Up w w':=by
 obtain ⟨j,m,h⟩:=h
 rcases h with ⟨i,_⟩|⟨_,rfl⟩
 ·simp at i
 cases neg
 all_goals
  simp only [sg,val]
  go_enter Tryz.func62,Tryz.ntmps62
  go_wp2
  go_ret
  exact ⟨rfl,below_alloc _ _⟩
theorem l1Limbs_two (B:Nat) (z:Value) (neg:Bool) (t:List Nat) (w:World) (h:IsZ B w z neg t) (hB:B≤w.heap.size) :
 Calls Tryz.prog 62 #[z] w fun e w'=>∃ v,e=.returned v∧IsL B w' v t∧(t=[]→v=.slice none 0 0)∧Up w w':=by
 by_cases j:t=[]
 ·subst j; refine (l1Limbs_nil B z neg w h).mono ?_; rintro e w' ⟨rfl,i⟩; exact ⟨_,rfl,⟨none,0,rfl,leR,(by unfold maxLen; omega),(fun x hx=>by cases hx),.inl rfl⟩,fun _=>rfl,i⟩
 refine (l1Limbs_any B z neg t w h hB).mono ?_; rintro e w' ⟨v,rfl,m,i⟩; exact ⟨v,rfl,m,fun h=>absurd h j,i⟩
theorem l1Zero_ex (z0:Int) (zn:Bool) (za:Option Addr) (zl zc:Nat) (w:World) :
 Calls Tryz.prog 66 #[.agg #[.int .i64 z0,.bool zn,.slice za zl zc]] w fun e w'=>e=.returned (.bool (((zl:Int)==0)&&(z0==0)))∧Up w w':=by
 by_cases h:zl=0
 ·subst h
  go_enter Tryz.func66,Tryz.ntmps66
  go_wp2
  go_ret
  exact ⟨by simp,below_alloc _ _⟩
 have z:((zl:Int)==0)=false:=by rw [beq_eq_false_iff_ne]; omega
 go_enter Tryz.func66,Tryz.ntmps66
 go_wp2
 go_ret
 exact ⟨by simp [z],below_alloc _ _⟩
theorem l1DivD_nil (B:Nat) (vb:Value) (b:List Nat) (w:World) (hb:IsL B w vb b) (hlb:b.length≤100000) (htb:isTrim b) (hne:b≠[]) :
 Calls Tryz.prog 69 #[.slice none 0 0,vb] w fun e w'=>∃ v u Q U,e=.returned (.tuple #[v,u])∧(IsL w.heap.size w' v Q∧IsL w.heap.size w' u U)∧val []=val Q*val b+val U∧val U<val b∧Up w w':=by
 obtain ⟨L,s,D,E,F⟩:=info_parts Tryz.info_u32; obtain ⟨T,O,rfl,_,_,H,_⟩:=hb; have J:Hid (0<val b):=val_pos b htb hne; have K:0<b.length:=by
  apply Nat.pos_of_ne_zero; intro e; exact hne (List.eq_nil_of_length_eq_zero e)
 by_cases S:b.length=1
 all_goals
  go_enter Tryz.func69,Tryz.ntmps69
  go_wp2_with (at_make; refine wpList_make_full _ rfl _ _ 47 rfl w.heap.size 85 L (.int .u32 0) 1 Tryz.underlying47 s D E .i64 .i64 _ _ 0 rfl rfl (by first|rfl|omega) (by first|rfl|omega) (by first|omega|(rw [F]; omega)) (by unfold maxLen; omega) leR ?_)
  intro M t m; have j:Up w M:=(Below.refl _ _).grown m leR (fun k h=>by cases h); have A:=Hd j; clear t m j
  go_wp2
  go_loopw [7,9] (fun rv iv wr=>rv=.slice none 0 0∧iv=.int .i64 (-1)∧Up w wr) (fun _ _ _=>0)
  case atStart=>exact ⟨rfl,rfl,A.o⟩
  case round=>
   obtain ⟨rfl,rfl,G⟩:=hrel; have I:=Hd G; clear G; have i:Hid (∀ W pp,IsL w.heap.size W (.slice pp 0 0) []):=fun W pp=>⟨pp,0,rfl,leR,(by unfold maxLen; omega),(fun x hx=>by cases hx),.inl rfl⟩
   go_wp2
   go_ret2
   exact ⟨_,_,[],[],rfl,⟨i.o _ _,i.o _ _⟩,by simp [val],J.o,I.o⟩
theorem l1DivD_any (B:Nat) (va vb:Value) (a b:List Nat) (w:World) (hBw:B≤w.heap.size) (hla:a.length≤100000) (ha:IsL B w va a) (hnil:a=[]→va=.slice none 0 0) (hb:IsL B w vb b) (hlb:b.length≤100000) (htb:isTrim b) (hne:b≠[]) :
 Calls Tryz.prog 69 #[va,vb] w fun e w'=>∃ v u Q U,e=.returned (.tuple #[v,u])∧(IsL w.heap.size w' v Q∧IsL w.heap.size w' u U)∧val a=val Q*val b+val U∧val U<val b∧Up w w':=by
 by_cases h:a=[]
 ·rw [hnil h,h]; exact l1DivD_nil B vb b w hb hlb htb hne
 obtain ⟨t,m,rfl,_,_,_,i⟩:=id ha
 rcases i with i|⟨j,s,rfl,_⟩
 ·exact absurd i h
 exact l1DivD_some B j s m vb a b w hBw hla ha h hb hlb htb hne
end Go.Proofs.YtnhbmpnhijgpmaaGreatDoor
