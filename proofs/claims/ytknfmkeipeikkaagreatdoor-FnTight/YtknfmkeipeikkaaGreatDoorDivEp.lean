import Derived.Test.YtknfmkeipeikkaaGreatDoorDivCp
import Derived.Test.YtknfmkeipeikkaaGreatDoorPlusAp
import Derived.Laws.AppendOwnNone
import Derived.Deep.QuietTactic
import Derived.BigQuiet
import Derived.WalkSmall
set_option maxRecDepth 100000
set_option maxHeartbeats 8000000
namespace Go.Proofs.YtknfmkeipeikkaaGreatDoor
open Go.ChangeShapes Go.WideShapes Go.ChangeAt Go.RowKit
theorem owns_one (w:World) (base e:Nat) (x:Value) (hb:base≤w.heap.size):(w.alloc (.cells #[x] e)).ownsRow base e 1 (.slice (some ⟨w.heap.size,0,none⟩) 1 1) 1 [x]:=by
 refine ⟨rfl,.inr ⟨w.heap.size,1,#[x],rfl,hb,?_,leR,(by unfold maxLen; omega),rfl,rfl⟩⟩; exact heap_alloc_new w _
theorem src_cells {W:World} {g off:Nat} {R:List Nat} (h:∀ i,i<R.length→W.cell? ⟨g,off+i,none⟩=some (.int .u32 (R.getD i 0:Nat))):∀ j u,(U32s R)[j]? = some u→W.cell? ((⟨g,off,none⟩:Addr).add j)=some u:=by
 intro j v s; simp only [U32s,List.getElem?_map,Option.map_eq_some_iff] at s; obtain ⟨x,y,rfl⟩:=s; obtain ⟨m,D⟩:=List.getElem?_eq_some_iff.1 y; rw [show (Addr.add ⟨g,off,none⟩ j)=⟨g,off+j,none⟩ by simp [Addr.add],h j m,List.getD_eq_getElem?_getD,y]; rfl
theorem one_cells (R:List Nat):∀ u∈U32s R,u.oneCell'=true:=by
 intro v h; simp only [U32s,List.mem_map] at h; obtain ⟨x,_,rfl⟩:=h; rfl
theorem IsR.of_owns' {base e n:Nat} {W:World} {v:Value} {R:List Nat} (h:W.ownsRow base e 1 v n (U32s R)) (hok:okL R):IsR base W v R:=by
 have hn:n=R.length:=by have:=h.1; simp at this; omega
 subst hn; exact IsR.of_owns h hok
theorem cmpL_nil (b:List Nat) (h:b≠[]):cmpL [] b = -1:=by
 unfold cmpL; have:0<b.length:=by
  apply Nat.pos_of_ne_zero; intro e; exact h (List.eq_nil_of_length_eq_zero e)
 simp [this]
theorem ord_le (x y:Nat) (h:x≤y):ord x y≤0:=by
 unfold ord
 split
 ·omega
 first|omega|(split<;>omega)
theorem ord_gt (x y:Nat) (h:y<x):0<ord x y:=by
 unfold ord
 split
 ·omega
 first|omega|(split<;>omega)
theorem len_of_le (u b:List Nat) (hu:isTrim u) (hb:okL b) (h:val u≤val b):u.length≤b.length:=by
 by_cases hne:u=[]
 ·rw [hne]; exact Nat.zero_le _
 have m:=val_ge u hu hne; have h2:=val_lt b hb; apply Nat.le_of_not_lt; intro j; have h3:1000000000 ^ b.length≤1000000000 ^ (u.length - 1):=Nat.pow_le_pow_right (by decide) (by omega); omega
theorem wpList_append_R {P:Program} {w:World} {ops:Array Oper} {rest:List Oper} {o:Oper} {a:Act} {Q:Exit→Act→World→Prop} (hgd:o.guard=none) (s x:Operand) (t:TypeId)
 (ho:o.op=.call { callee:=.builtin .append,args:=#[s,x],argTypes:=#[t,t] })
 (base b2:Nat) (e:TypeId) (i:TypeInfo) (z:Value) (bytes:Nat) (ht:P.underlying t=some (.slice e)) (hi:P.info? e=some i) (hz:i.zero=some z)
 (hsize:i.size=1) (hby:i.bytes=bytes) (hzs:z.cells.size=1)
 (v:Value) (n:Nat) (xs:List Value) (hs:a.eval s=v) (hown:w.ownsRow base e 1 v n xs)
 (rv:Value) (R:List Nat) (hx:a.eval x=rv) (hR:IsR b2 w rv R)
 (h63:n+R.length≤maxLen) (hbytes:(n+R.length)*bytes≤140737488355328) (hbase:base≤w.heap.size)
 (h:∀ v' w',w'.ownsRow base e 1 v' (n+R.length) (xs++U32s R)→w.grownBy w' v.ownBlock→wpList P ops Q rest (a.put o.dst v') w'):wpList P ops Q (o::rest) a w:=by
 obtain ⟨_,⟨rfl,rfl⟩|⟨g,cap,rfl,_,_,_,_,j⟩⟩:=hR
 ·exact wpList_append_own_none hgd s x t ho base e i 1 ht hi v n xs hs hown hx (h v w (by simpa [U32s] using hown) ⟨rfl,rfl,rfl,leR,fun _ _ _=>rfl⟩)
 exact wpList_append_own w hgd s x t ho base e i z 1 bytes ht hi hz hsize hby hzs (by omega) v n xs hs hown ⟨g,0,none⟩ R.length cap (U32s R) hx (by simp) (src_cells (fun i hi=>by rw [Nat.zero_add]; exact j i hi)) (one_cells R) h63 hbytes hbase (fun v' w' h1 h2 _=>h v' w' h1 h2)
theorem l1DivD_some (B ba oa ca:Nat) (vb:Value) (a b:List Nat) (w:World) (hBw:B≤w.heap.size) (hla:a.length≤100000) (ha:IsL B w (.slice (some ⟨ba,oa,none⟩) a.length ca) a) (hane:a≠[]) (hb:IsL B w vb b) (hlb:b.length≤100000) (htb:isTrim b) (hne:b≠[]) :
 Calls Tryz.prog 76 #[.slice (some ⟨ba,oa,none⟩) a.length ca,vb] w fun e w'=>∃ v u Q U,e=.returned (.tuple #[v,u])∧(IsL w.heap.size w' v Q∧IsL w.heap.size w' u U)∧val a=val Q*val b+val U∧val U<val b∧Up w w':=by
 obtain ⟨i0,a8,h8,h9,i1⟩:=info_parts Tryz.info_u32; have HB:Hid (∀ W,Up w W→IsL B W vb b):=fun W hW=>hb.below hW; obtain ⟨pb,cb,rfl,_,_,t8,_⟩:=hb; obtain ⟨_,y4,w9,p0,d2⟩:=ha.cells; have x0:0<a.length:=by
  apply Nat.pos_of_ne_zero; intro e; exact hane (List.eq_nil_of_length_eq_zero e)
 have y5:0<b.length:=by
  apply Nat.pos_of_ne_zero; intro e; exact hne (List.eq_nil_of_length_eq_zero e)
 have q9:ba<w.heap.size:=by
  obtain ⟨b',i2,e,d7,_⟩:=d2 0 x0; simp only [Option.some.injEq,Addr.mk.injEq,and_true] at e; omega
 have HA:Hid (∀ i,i<a.length→w.cell? ⟨ba,oa+i,none⟩=some (.int .u32 (a.getD i 0:Nat))):=fun i hi=>by
  obtain ⟨b',i2,e,_,hc⟩:=d2 i hi; simp only [Option.some.injEq,Addr.mk.injEq,and_true] at e; obtain ⟨rfl,rfl⟩:=e; exact hc
 have l6:Hid (SD a b (a.drop (a.length+1 - b.length)) (List.replicate a.length 0) (a.length+1 - b.length)):=sd_first a b p0 htb hne; obtain ⟨T,hT⟩:=exW (a.length+1 - b.length); rw [hT] at l6; have o6:T≤a.length:=by omega
 have HT:Hid (T=a.length+1 - b.length):=hT.symm; unfold maxLen at w9; have J:Hid (okL a∧okL b∧isTrim b∧b≠[]):=⟨p0,t8,htb,hne⟩; clear ha d2 hane htb hne; have y2:Hid (T=0∨T≤ca):=.inr (by omega); have o1:Hid (T=a.length+1 - b.length∧T≤a.length):=⟨HT.o,o6⟩; have r3:((a.length:Int) - (b.length:Int)+1<0∧T=0)∨((a.length:Int) - (b.length:Int)+1=(T:Int)∧T<ca)∨((a.length:Int) - (b.length:Int)+1=(T:Int)∧ca=T∧a.length=T):=by omega
 have g3:Hid (B≤w.heap.size+1):=by unfold Hid; omega
 have o0:=Hd hBw; have o9:Hid (∀ W,Up w W→∀ i,i<(a.drop T).length→W.cell? ⟨ba,oa+T+i,none⟩=some (.int .u32 ((a.drop T).getD i 0:Nat))):=fun W hW i hi=>by rw [hW.cell (p:=⟨ba,oa+T+i,none⟩) q9,Nat.add_assoc,HA.o (T+i) (by simp at hi; omega),drop_getD]
 clear hT HT o6
 rcases r3 with ⟨t9,o7⟩|⟨t9,o7⟩|⟨t9,o7,u0⟩
 ·have HE:=Hd o7; have z1:decide ((a.length:Int) - (b.length:Int)+1<0)=true:=by rw [decide_eq_true_iff]; omega
  clear o7
  go_enter Tryz.func76,Tryz.ntmps76
  go_wp2_with (at_make; refine wpList_make_full _ rfl _ _ 51 rfl w.heap.size 87 i0 (.int .u32 0) 1 Tryz.underlying51 a8 h8 h9 .i64 .i64 _ _ a.length rfl rfl (by first|rfl|omega) (by first|rfl|omega) (by first|omega|(rw [i1]; omega)) (by unfold maxLen; omega) leR ?_)
  intro w1 H h7
  first|rw [made_zero] at H|rw [made_zero'] at H
  have d0:RowT w1 w.heap.size (List.replicate a.length 0):=(row_of_full H).tail; have g9:Up w w1:=(Below.refl _ _).grown h7 leR (fun k h=>by cases h); have o3:=Hd d0; have g2:=Hd g9; have b7:Hid (w.heap.size<w1.heap.size):=d0.lt; clear H h7 d0 g9
  go_wp2_with (at_builtin; refine wpList_append_own _ rfl _ _ 51 rfl (w.heap.size+1) 87 i0 (.int .u32 0) 1 4 Tryz.underlying51 a8 h8 h9 i1 rfl (by decide) _ 0 [] rfl (World.ownsRow_nil _ _ _ _) ⟨ba,oa,none⟩ a.length ca (U32s (a.drop T)) rfl (by rw [HE.o]; simp) (by have h:=src_cells (o9.o _ g2.o); rw [HE.o] at h ⊢; exact h) (one_cells _) (by unfold maxLen; omega) (by omega) (by have:=b7.o; omega) ?_)
  intro v2 w2 a5 d3 _
  try rw [← List.map_drop] at a5
  have D:=a5; have l8:Up w w2:=g2.o.grown d3 g2.o.size (fun k h=>by cases h); have l1:Hid (IsR (w.heap.size+1) w2 v2 (a.drop T)):=IsR.of_owns' (e:=87) (R:=a.drop T) D l6.o.rok; have q2:Hid (RowT w2 w.heap.size (List.replicate a.length 0)):=by
   obtain ⟨tl,h⟩:=o3.o; exact ⟨tl,(d3.block _ b7.o (by simp [Value.ownBlock])).trans h⟩
  have p2:=Hd l8; obtain ⟨pr,lr,cr,s2⟩:∃ pr lr cr,v2=.slice pr lr cr:=by
   obtain ⟨_,_,e,_⟩:=l1.o.isL; exact ⟨_,_,_,e⟩
  subst s2; clear a5 D d3 l8
  go_wp2
  go_loopw [7,9] (fun rv iv wr=>∃ (j:Nat) (R Q:List Nat),SD a b R Q j∧IsR (w.heap.size+1) wr rv R∧iv=.int .i64 ((j:Int) - 1)∧RowT wr w.heap.size Q∧Up w wr) (fun _ iv _=>(intOf iv+1).toNat)
  case atStart=>exact ⟨T,_,_,l6.o,l1.o,val_int (by have:=HE.o; omega),q2.o,p2.o⟩
  case round=>
   obtain ⟨j,R,Q,j9,n0,rfl,hQ,hB⟩:=hrel; have s:=Hd j9; have g5:=Hd n0; have j0:=Hd hQ; have b3:=Hd hB; have x1:=j9.le; clear j9 n0 hQ hB
   cases j with
   | zero=>
     have HE:Hid (val a=val Q*val b+val R∧val R<val b):=by
      have e:=s.o.eq; unfold vfrom at e; rw [List.drop_zero,List.drop_zero] at e; exact ⟨e,s.o.lt⟩
     have q3:Hid (IsL w.heap.size wr (.slice (some ⟨w.heap.size,0,none⟩) a.length a.length) Q):=by
      have h:=j0.o.isL (B:=w.heap.size) (cap:=a.length) leR s.o.qok (by have:=s.o.qlen; omega) (by unfold maxLen; omega); rw [s.o.qlen] at h; exact h
     go_wp2
     go_ret2
     exact ⟨_,_,Q,R,rfl,⟨q3.o,g5.o.isL.mono (by omega)⟩,HE.o.1,HE.o.2,b3.o⟩
   | succ i=>
     have d2:=HA.o i (by omega); rw [← b3.o.cell (p:=⟨ba,oa+i,none⟩) q9] at d2; have k1:=okL_getD a J.o.1 i (by omega); have K:Hid (val (trimL (a.getD i 0::R))<val b→SD a b (trimL (a.getD i 0::R)) Q i):=fun h=>s.o.cont h k1 J.o.2.1; have i8:Hid (∀ {q:Nat} {R':List Nat},q<1000000000→val (a.getD i 0::R)=q*val b+val R'→val R'<val b→okL R'→isTrim R'→SD a b R' (Q.set i q) i):=fun {q R'} h1 h2 h3 h4 h5=>s.o.put h1 h2 h3 h4 h5 J.o.2.1; have e7:Hid (val (a.getD i 0::R)<val b*1000000000):=s.o.window k1; obtain ⟨x,hx⟩:=exW (a.getD i 0); rw [hx] at d2 k1 K i8 e7; obtain ⟨N,hN⟩:=exW (x::R); have h6:okL N:=by
      rw [← hN]; intro y hy
      rcases List.mem_cons.1 hy with e|e
      ·omega
      ·exact s.o.rok y e
     have w0:=s.o.rlen; have e2:Hid (N.length=R.length+1∧N.length≤100001):=by
      rw [← hN]; exact ⟨by simp,by simp; omega⟩
     rw [hN] at K i8 e7; have HN:Hid (okL N∧True∧val N<val b*1000000000):=⟨h6,trivial,e7.o⟩; have q1:Hid (U32s N=Value.int .u32 (x:Nat)::U32s R):=by rw [← hN]; rfl
     have I:Hid (w.heap.size<wr.heap.size):=j0.o.lt; clear hx hN h6 e7
     go_wp2_with (at_builtin; refine wpList_append_R rfl _ _ 51 rfl (w.heap.size+1) (w.heap.size+1) 87 i0 (.int .u32 0) 4 Tryz.underlying51 a8 h8 h9 i1 rfl _ 1 [.int .u32 (x:Nat)] rfl (owns_one wr _ _ _ (by have:=I.o; omega)) _ R rfl (g5.o.below (below_alloc _ _)) (by unfold maxLen; omega) (by omega) (by have:=I.o; simp; omega) ?_)
     intro v3 w3 D d4; rw [← q1.o] at D; have l9:Up w w3:=(b3.o.alloc b3.o.size _).grown d4 (by have:=b3.o.size; simp; omega) (fun k h=>by simp [Value.ownBlock] at h; have:=I.o; omega); have l3:Hid (RowT w3 w.heap.size Q):=by
      obtain ⟨tl,h⟩:=j0.o; refine ⟨tl,(d4.block _ (by have:=I.o; simp; omega) (by simp [Value.ownBlock]; have:=I.o; omega)).trans ?_⟩; exact (heap_alloc_old wr _ I.o).trans h
     have a7:=Hd l9; obtain ⟨_,⟨_,n2⟩|⟨g,cap,s3,r5,r6,r7,m9,j7⟩⟩:=IsR.of_owns' (e:=87) D HN.o.1
     ·exfalso; have:=e2.o.1; rw [n2] at this; simp at this
     subst s3; have p3:=Hd j7; have g4:Hid (∀ k,k≤N.length→trimL N=N.take k→IsR (w.heap.size+1) w3 (.slice (some ⟨g,0,none⟩) k cap) (trimL N)):=fun k hk he=>IsR.cut r5 r6 m9 HN.o.1 r7 j7 k hk he; have v9:=e2.o.2; unfold maxLen at m9; clear D d4 l9 j7 d2
     go_wp2
     go_loop [11] (fun n=>∃ k:Nat,k≤N.length∧n=.int .i64 k∧trimL (N.take k)=trimL N) (fun n=>(intOf n).toNat)
     case atStart=>exact ⟨N.length,leR,rfl,by rw [List.take_length]⟩
     case round=>
      obtain ⟨k,hk,rfl,hp⟩:=hrel; have HP:=Hd hp; clear hp
      cases k with
      | zero=>
        have HE:Hid (trimL N=[]):=by rw [← HP.o]; rfl
        have b9:Hid (IsR (w.heap.size+1) w3 (.slice (some ⟨g,0,none⟩) 0 cap) (trimL N)):=g4.o 0 (by omega) (by rw [← HP.o]; rfl); have e3:Hid (IsL B w3 (.slice (some ⟨g,0,none⟩) 0 cap) (trimL N)):=b9.o.isL.mono g3.o; have b5:Hid (cmpL (trimL N) b = -1):=by rw [HE.o]; exact cmpL_nil b J.o.2.2.2
        have c9:Hid (SD a b (trimL N) Q i):=K.o (by rw [HE.o]; exact val_pos b J.o.2.2.1 J.o.2.2.2)
        go_wp2_with fail
        refine (l1CmpD_any B _ _ (trimL N) b _ e3.o (HB.o _ a7.o)).mono ?_; rintro e w4 ⟨rfl,O⟩; rw [b5.o]; have E:Hid (IsR (w.heap.size+1) w4 (.slice (some ⟨g,0,none⟩) 0 cap) (trimL N)∧RowT w4 w.heap.size Q∧Up w w4):=⟨b9.o.below O,l3.o.kept O,a7.o.trans (O.mono a7.o.size)⟩; clear O
        go_wp2
        go_roundw
        case rel=>exact ⟨i,trimL N,Q,c9.o,E.o.1,by go_num,E.o.2.1,E.o.2.2⟩
        case measure=>simp [intOf]
      | succ m=>
        obtain ⟨y,hy⟩:=exW (N.getD m 0); have V:=p3.o m (by omega); rw [hy] at V; have HY:=Hd hy; clear hy
        by_cases h0:y=0
        ·have hz:((y:Int)==0)=true:=by rw [beq_iff_eq]; omega
         have HE:Hid (trimL (N.take m)=trimL N):=by rw [← trimL_take_zero N m (by omega) (by rw [HY.o,h0])]; exact HP.o
         clear h0
         go_wp2
         go_round
         case rel=>exact ⟨m,by omega,val_int (by omega),HE.o⟩
         case measure=>simp [intOf]
        ·have hz:((y:Int)==0)=false:=by rw [beq_eq_false_iff_ne]; omega
         have b9:Hid (IsR (w.heap.size+1) w3 (.slice (some ⟨g,0,none⟩) (m+1) cap) (trimL N)):=g4.o (m+1) hk (HP.o.symm.trans (trimL_take_pos N m (by omega) (by rw [HY.o]; exact h0))); have e3:Hid (IsL B w3 (.slice (some ⟨g,0,none⟩) (m+1) cap) (trimL N)):=b9.o.isL.mono g3.o; have b8:Hid ((trimL N).length=m+1):=by obtain ⟨_,_,e,_⟩:=e3.o; simp at e; exact e.2.1.symm
         clear h0; obtain ⟨cm,j5⟩:=exW (cmpL (trimL N) b); have b5:=Hd j5; have r4 : -1≤cm∧cm≤1:=by rw [← j5]; exact cmpL_bd _ b
         obtain ⟨u1,u2⟩:=r4; clear j5
         go_wp2_with fail
         refine (l1CmpD_any B _ _ (trimL N) b _ e3.o (HB.o _ a7.o)).mono ?_; rintro e w4 ⟨rfl,O⟩; rw [b5.o]; have E:Hid (IsR (w.heap.size+1) w4 (.slice (some ⟨g,0,none⟩) (m+1) cap) (trimL N)∧RowT w4 w.heap.size Q∧Up w w4):=⟨b9.o.below O,l3.o.kept O,a7.o.trans (O.mono a7.o.size)⟩; clear O V
         by_cases d7:cm<0
         ·have c9:Hid (SD a b (trimL N) Q i):=K.o (cmpL_lt_val _ b (trimL_ok N HN.o.1) J.o.2.1 (trimL_trim N) J.o.2.2.1 (by rw [b5.o]; exact d7))
          go_wp2
          go_roundw
          case rel=>exact ⟨i,trimL N,Q,c9.o,E.o.1,by go_num,E.o.2.1,E.o.2.2⟩
          case measure=>simp [intOf]
         ·have p9:Hid (val b≤val N∧b.length≤(trimL N).length):=by
           have h:=cmpL_ge (trimL N) b (trimL_ok N HN.o.1) J.o.2.1 (trimL_trim N) J.o.2.2.1 (by rw [b5.o]; omega); rw [val_trimL] at h; exact ⟨h.2,h.1⟩
          have x4:0≤cm:=by omega
          clear d7
          go_wp2
          go_loopw [12,13] (fun lov hiv wq=>∃ lo hi:Nat,lov=.int .u64 (lo:Nat)∧hiv=.int .u64 (hi:Nat)∧Between (val b) (val N) lo hi∧Up w4 wq) (fun lov hiv _=>(intOf hiv).toNat - (intOf lov).toNat)
          case atStart=>exact ⟨0,999999999,rfl,rfl,between_first _ _ HN.o.2.2,Below.refl _ _⟩
          case round=>
           obtain ⟨lo,hi,rfl,rfl,f7,m7⟩:=hrel; have b4:=Hd f7; have a9:=Hd m7; have x2:=f7.1; have x3:=f7.2.1; clear f7 m7; have i4:Hid (Up w wr):=E.o.2.2.trans (a9.o.mono E.o.2.2.size); have l4:Hid (IsR (w.heap.size+1) wr (.slice (some ⟨g,0,none⟩) (m+1) cap) (trimL N)):=E.o.1.below a9.o; have i9:Hid (RowT wr w.heap.size Q):=E.o.2.1.kept a9.o
           by_cases j8:lo<hi
           ·obtain ⟨M,hM⟩:=exW ((lo+hi+1) / 2); have v8:((lo:Int)+(hi:Int)+1) / 2=(M:Int):=by omega
            have HM:=Hd hM; have q8:M<1000000000:=by omega
            have v7:1≤M:=by omega
            clear hM
            go_wp2_with fail
            refine (l1MulD_any B _ b M _ (HB.o _ i4.o) hlb q8).mono ?_; rintro e w5 ⟨v5,L5,rfl,e9,n5,n7,r8,m6⟩; have q0:Hid (IsL B w5 v5 L5):=e9.mono (by have:=i4.o.size; have:=o0.o; omega); have j1:Hid (isTrim L5∧val L5=val b*M∧okL L5):=⟨n5,n7,by obtain ⟨_,_,_,_,_,h,_⟩:=e9; exact h⟩; have i3:=Hd m6; obtain ⟨p5,c5,e5,_⟩:=id e9; subst e5; clear e9 n5 n7 r8 m6
            go_wp2_with fail
            refine (l1CmpD_any B _ _ L5 (trimL N) _ q0.o ((l4.o.below i3.o).isL.mono g3.o)).mono ?_; rintro e w6 ⟨rfl,d1⟩; have Y:Hid (Up w4 w6):=a9.o.trans ((i3.o.trans (d1.mono i3.o.size)).mono a9.o.size); clear d1; have ho:=cmpL_ord L5 (trimL N) j1.o.2.2 (trimL_ok N HN.o.1) j1.o.1 (trimL_trim N); rw [val_trimL,j1.o.2.1] at ho
            by_cases hc:M*val b≤val N
            ·have q4:Hid (Between (val b) (val N) M hi):=by
              have h:=between_up b4.o j8 (by rw [HM.o]; exact hc); rw [HM.o] at h; exact h
             obtain ⟨cx,a3⟩:=exW (cmpL L5 (trimL N)); have m8:cx≤0:=by rw [← a3,ho]; exact ord_le _ _ (by rw [Nat.mul_comm]; exact hc)
             rw [a3]; clear a3 ho hc
             go_wp2
             go_roundw
             case rel=>exact ⟨M,hi,rfl,rfl,q4.o,Y.o⟩
             case measure=>simp [intOf]; have:=HM.o; omega
            ·have p7:Hid (Between (val b) (val N) lo (M - 1)):=by
              have h:=between_down b4.o j8 (by rw [HM.o]; omega); rw [HM.o] at h; exact h
             obtain ⟨cx,a3⟩:=exW (cmpL L5 (trimL N)); have m8:0<cx:=by rw [← a3,ho]; exact ord_gt _ _ (by rw [Nat.mul_comm]; omega)
             rw [a3]; clear a3 ho hc
             go_wp2
             go_roundw
             case rel=>exact ⟨lo,M - 1,rfl,val_int (by omega),p7.o,Y.o⟩
             case measure=>simp [intOf]; have:=HM.o; omega
           ·obtain rfl:lo=hi:=by omega
            have i5:Hid (1≤lo∧lo*val b≤val N∧val N<(lo+1)*val b):=by
             refine ⟨?_,b4.o.2.2.1,b4.o.2.2.2⟩; apply Nat.pos_of_ne_zero; rintro rfl; have h1:=b4.o.2.2.2; have h2:=p9.o.1; omega
            have u5:=i5.o.1; have s0:=i9.o.cell i (by have:=s.o.qlen; have:=s.o.le; omega); have s1:=i9.o.frozen i; have Z:Hid (RowT (wr.setCell ⟨w.heap.size,i,none⟩ (.int .u32 (lo:Nat))) w.heap.size (Q.set i lo)∧IsR (w.heap.size+1) (wr.setCell ⟨w.heap.size,i,none⟩ (.int .u32 (lo:Nat))) (.slice (some ⟨g,0,none⟩) (m+1) cap) (trimL N)∧Up w (wr.setCell ⟨w.heap.size,i,none⟩ (.int .u32 (lo:Nat)))):=
             ⟨i9.o.set _ _ (by have:=s.o.qlen; have:=s.o.le; omega),l4.o.setCell _ _ (by show w.heap.size<w.heap.size+1; omega),i4.o.setCell leR _⟩
            obtain ⟨W5,j3⟩:=exW (wr.setCell ⟨w.heap.size,i,none⟩ (.int .u32 (lo:Nat))); have q5:=Hd j3; rw [j3] at Z; clear j3 j8
            go_wp2_with fail
            rw [q5.o]; clear s0 s1; refine (l1MulD_any B _ b lo _ (HB.o _ Z.o.2.2) hlb (by omega)).mono ?_; rintro e w6 ⟨v6,L6,rfl,f5,n6,n8,r9,d1⟩; have e0:Hid (IsL B w6 v6 L6∧isTrim L6∧val L6=val b*lo∧okL L6):=⟨f5.mono (by have:=Z.o.2.2.size; have:=o0.o; omega),n6,n8,by obtain ⟨_,_,_,_,_,h,_⟩:=f5; exact h⟩; have Y:=Hd d1; obtain ⟨p6,c6,e6,_⟩:=id f5; subst e6; clear f5 n6 n8 r9 d1
            go_wp2_with fail
            have d5:val L6≤val (trimL N):=by rw [e0.o.2.2.1,val_trimL,Nat.mul_comm]; exact i5.o.2.1
            have d6:=l1SubD_len B (.slice (some ⟨g,0,none⟩) (m+1) cap) (.slice p6 L6.length c6) (trimL N) L6 w6 ((Z.o.2.1.below Y.o).isL.mono g3.o) e0.o.1 (by have:=e2.o; have:=trimL_len N; omega) (len_of_le L6 (trimL N) e0.o.2.1 (trimL_ok N HN.o.1) d5) d5; rw [b8.o] at d6; refine d6.mono ?_; clear d6 d5; rintro e w7 ⟨S,rfl,hS,k0,n1,j4⟩; have a6:okL S:=by obtain ⟨_,_,_,_,_,h,_⟩:=hS; exact h
            have HS:Hid (okL S∧S.length=m+1∧val S+lo*val b=val N):=⟨a6,n1,by rw [e0.o.2.2.1,val_trimL] at k0; rw [Nat.mul_comm lo]; exact k0⟩; have hG:w.heap.size+1≤w6.heap.size:=by have:=Z.o.1.lt; have:=Y.o.size; omega
            have l0:Hid (∀ q,q<S.length→w7.cell? ⟨w6.heap.size,q,none⟩=some (.int .u32 (S.getD q 0:Nat))):=fun q hq=>by
             obtain ⟨_,_,_,_,j6⟩:=hS.cells; obtain ⟨b',i2,e,_,hc⟩:=j6 q hq; simp only [Option.some.injEq,Addr.mk.injEq,and_true] at e; obtain ⟨rfl,rfl⟩:=e; rw [Nat.zero_add] at hc; exact hc
            have l2:Hid (w6.heap.size<w7.heap.size):=by
             obtain ⟨_,_,_,_,j6⟩:=hS.cells; obtain ⟨b',i2,e,d7,hc⟩:=j6 0 (by omega); simp only [Option.some.injEq,Addr.mk.injEq,and_true] at e; obtain ⟨rfl,rfl⟩:=e; exact d7
            have e4:Hid (RowT w7 w.heap.size (Q.set i lo)∧Up w w7):=⟨(Z.o.1.kept Y.o).kept j4,Z.o.2.2.trans ((Y.o.trans (j4.mono Y.o.size)).mono Z.o.2.2.size)⟩; have b6:Hid (∀ k,k≤S.length→trimL S=S.take k→IsR (w.heap.size+1) w7 (.slice (some ⟨w6.heap.size,0,none⟩) k (m+1)) (trimL S)):=fun k hk he=>IsR.cut hG l2.o (by unfold maxLen; have:=e2.o; have:=trimL_len N; have:=b8.o; omega) a6 (by omega) l0.o k hk he; have g6:Hid (SD a b (trimL S) (Q.set i lo) i):=by
             refine i8.o (by omega) ?_ ?_ (trimL_ok S a6) (trimL_trim S)
             ·rw [val_trimL]; have:=HS.o.2.2; omega
             ·rw [val_trimL]; have h1:=HS.o.2.2; have h2:=i5.o.2.2; rw [Nat.add_mul,Nat.one_mul] at h2; omega
            clear hS k0 n1 j4 a6 hG
            go_wp2
            go_loop [16] (fun n=>∃ k:Nat,k≤S.length∧n=.int .i64 k∧trimL (S.take k)=trimL S) (fun n=>(intOf n).toNat)
            case atStart=>exact ⟨S.length,leR,val_int (by have:=HS.o.2.1; omega),by rw [List.take_length]⟩
            case round=>
             obtain ⟨k,hk,rfl,hp⟩:=hrel; have i7:=Hd hp; have j2:=HS.o.2.1; clear hp
             cases k with
             | zero=>
               have c7:Hid (IsR (w.heap.size+1) w7 (.slice (some ⟨w6.heap.size,0,none⟩) 0 (m+1)) (trimL S)):=b6.o 0 (by omega) (by rw [← i7.o]; rfl); clear j2
               go_wp2
               go_roundw
               case rel=>exact ⟨i,trimL S,Q.set i lo,g6.o,c7.o,by go_num,e4.o.1,e4.o.2⟩
               case measure=>simp [intOf]
             | succ p=>
               obtain ⟨y,hy⟩:=exW (S.getD p 0); have V:=l0.o p (by omega); rw [hy] at V; have l7:=Hd hy; have x5:p<m+1:=by omega
               clear hy
               by_cases h0:y=0
               ·have hz:((y:Int)==0)=true:=by rw [beq_iff_eq]; omega
                have p8:Hid (trimL (S.take p)=trimL S):=by rw [← trimL_take_zero S p (by omega) (by rw [l7.o,h0])]; exact i7.o
                clear h0 j2
                go_wp2
                go_round
                case rel=>exact ⟨p,by have:=HS.o.2.1; omega,val_int (by omega),p8.o⟩
                case measure=>simp [intOf]
               ·have hz:((y:Int)==0)=false:=by rw [beq_eq_false_iff_ne]; omega
                have c7:Hid (IsR (w.heap.size+1) w7 (.slice (some ⟨w6.heap.size,0,none⟩) (p+1) (m+1)) (trimL S)):=b6.o (p+1) (by omega) (i7.o.symm.trans (trimL_take_pos S p (by omega) (by rw [l7.o]; exact h0))); clear h0 j2
                go_wp2
                go_roundw
                case rel=>exact ⟨i,trimL S,Q.set i lo,g6.o,c7.o,by go_num,e4.o.1,e4.o.2⟩
                case measure=>simp [intOf]
 case' _=>
  have z1:decide ((T:Int)<0)=false:=by rw [decide_eq_false_iff_not]; omega
  have p4:=o1.o.2; have z2:decide (a.length<T)=false:=by rw [decide_eq_false_iff_not]; omega
  have z3:decide ((a.length:Int)<(T:Int))=false:=by rw [decide_eq_false_iff_not]; omega
  clear p4
  go_enter Tryz.func76,Tryz.ntmps76
  go_wp2_with (at_make; refine wpList_make_full _ rfl _ _ 51 rfl w.heap.size 87 i0 (.int .u32 0) 1 Tryz.underlying51 a8 h8 h9 .i64 .i64 _ _ a.length rfl rfl (by first|rfl|omega) (by first|rfl|omega) (by first|omega|(rw [i1]; omega)) (by unfold maxLen; omega) leR ?_)
  intro w1 H h7
  first|rw [made_zero] at H|rw [made_zero'] at H
  have d0:RowT w1 w.heap.size (List.replicate a.length 0):=(row_of_full H).tail; have g9:Up w w1:=(Below.refl _ _).grown h7 leR (fun k h=>by cases h); have o3:=Hd d0; have g2:=Hd g9; have b7:Hid (w.heap.size<w1.heap.size):=d0.lt; clear H h7 d0 g9; have o6:=o1.o.2
  go_wp2_with (at_builtin; refine wpList_append_own _ rfl _ _ 51 rfl (w.heap.size+1) 87 i0 (.int .u32 0) 1 4 Tryz.underlying51 a8 h8 h9 i1 rfl (by decide) _ 0 [] rfl (World.ownsRow_nil _ _ _ _) ⟨ba,oa+T,none⟩ (a.length - T) (ca - T) (U32s (a.drop T)) rfl (by simp) (src_cells (o9.o _ g2.o)) (one_cells _) (by unfold maxLen; omega) (by omega) (by have:=b7.o; omega) ?_)
 rotate_left
 case' _=>
  have z1:decide ((T:Int)<0)=false:=by rw [decide_eq_false_iff_not]; omega
  have u9:=Hd u0; have p4:=o1.o.2; have z2:decide (a.length<T)=false:=by rw [decide_eq_false_iff_not]; omega
  have z3:decide ((a.length:Int)<(T:Int))=false:=by rw [decide_eq_false_iff_not]; omega
  clear p4 u0
  go_enter Tryz.func76,Tryz.ntmps76
  go_wp2_with (at_make; refine wpList_make_full _ rfl _ _ 51 rfl w.heap.size 87 i0 (.int .u32 0) 1 Tryz.underlying51 a8 h8 h9 .i64 .i64 _ _ a.length rfl rfl (by first|rfl|omega) (by first|rfl|omega) (by first|omega|(rw [i1]; omega)) (by unfold maxLen; omega) leR ?_)
  intro w1 H h7
  first|rw [made_zero] at H|rw [made_zero'] at H
  have d0:RowT w1 w.heap.size (List.replicate a.length 0):=(row_of_full H).tail; have g9:Up w w1:=(Below.refl _ _).grown h7 leR (fun k h=>by cases h); have o3:=Hd d0; have g2:=Hd g9; have b7:Hid (w.heap.size<w1.heap.size):=d0.lt; clear H h7 d0 g9; have o6:=o1.o.2
  go_wp2_with (at_builtin; refine wpList_append_own _ rfl _ _ 51 rfl (w.heap.size+1) 87 i0 (.int .u32 0) 1 4 Tryz.underlying51 a8 h8 h9 i1 rfl (by decide) _ 0 [] rfl (World.ownsRow_nil _ _ _ _) ⟨ba,oa,none⟩ (a.length - T) 0 (U32s (a.drop T)) rfl (by simp) (fun q u hq=>by have:=u9.o; rw [show a.drop T=[] from List.drop_eq_nil_of_le (by omega)] at hq; simp at hq) (one_cells _) (by unfold maxLen; omega) (by omega) (by have:=b7.o; omega) ?_)
 rotate_left
 all_goals
  intro v2 w2 a5 d3 _
  try rw [← List.map_drop] at a5
  have D:=a5; have l8:Up w w2:=g2.o.grown d3 g2.o.size (fun k h=>by cases h); have l1:Hid (IsR (w.heap.size+1) w2 v2 (a.drop T)):=IsR.of_owns' (e:=87) (R:=a.drop T) D l6.o.rok; have q2:Hid (RowT w2 w.heap.size (List.replicate a.length 0)):=by
   obtain ⟨tl,h⟩:=o3.o; exact ⟨tl,(d3.block _ b7.o (by simp [Value.ownBlock])).trans h⟩
  have p2:=Hd l8; obtain ⟨pr,lr,cr,s2⟩:∃ pr lr cr,v2=.slice pr lr cr:=by
   obtain ⟨_,_,e,_⟩:=l1.o.isL; exact ⟨_,_,_,e⟩
  subst s2; clear a5 D d3 l8
  go_wp2
  go_loopw [7,9] (fun rv iv wr=>∃ (j:Nat) (R Q:List Nat),SD a b R Q j∧IsR (w.heap.size+1) wr rv R∧iv=.int .i64 ((j:Int) - 1)∧RowT wr w.heap.size Q∧Up w wr) (fun _ iv _=>(intOf iv+1).toNat)
  case atStart=>exact ⟨T,_,_,l6.o,l1.o,val_int (by omega),q2.o,p2.o⟩
  case round=>
   obtain ⟨j,R,Q,j9,n0,rfl,hQ,hB⟩:=hrel; have s:=Hd j9; have g5:=Hd n0; have j0:=Hd hQ; have b3:=Hd hB; have x1:=j9.le; clear j9 n0 hQ hB
   cases j with
   | zero=>
     have HE:Hid (val a=val Q*val b+val R∧val R<val b):=by
      have e:=s.o.eq; unfold vfrom at e; rw [List.drop_zero,List.drop_zero] at e; exact ⟨e,s.o.lt⟩
     have q3:Hid (IsL w.heap.size wr (.slice (some ⟨w.heap.size,0,none⟩) a.length a.length) Q):=by
      have h:=j0.o.isL (B:=w.heap.size) (cap:=a.length) leR s.o.qok (by have:=s.o.qlen; omega) (by unfold maxLen; omega); rw [s.o.qlen] at h; exact h
     go_wp2
     go_ret2
     exact ⟨_,_,Q,R,rfl,⟨q3.o,g5.o.isL.mono (by omega)⟩,HE.o.1,HE.o.2,b3.o⟩
   | succ i=>
     have d2:=HA.o i (by omega); rw [← b3.o.cell (p:=⟨ba,oa+i,none⟩) q9] at d2; have k1:=okL_getD a J.o.1 i (by omega); have K:Hid (val (trimL (a.getD i 0::R))<val b→SD a b (trimL (a.getD i 0::R)) Q i):=fun h=>s.o.cont h k1 J.o.2.1; have i8:Hid (∀ {q:Nat} {R':List Nat},q<1000000000→val (a.getD i 0::R)=q*val b+val R'→val R'<val b→okL R'→isTrim R'→SD a b R' (Q.set i q) i):=fun {q R'} h1 h2 h3 h4 h5=>s.o.put h1 h2 h3 h4 h5 J.o.2.1; have e7:Hid (val (a.getD i 0::R)<val b*1000000000):=s.o.window k1; obtain ⟨x,hx⟩:=exW (a.getD i 0); rw [hx] at d2 k1 K i8 e7; obtain ⟨N,hN⟩:=exW (x::R); have h6:okL N:=by
      rw [← hN]; intro y hy
      rcases List.mem_cons.1 hy with e|e
      ·omega
      ·exact s.o.rok y e
     have w0:=s.o.rlen; have e2:Hid (N.length=R.length+1∧N.length≤100001):=by
      rw [← hN]; exact ⟨by simp,by simp; omega⟩
     rw [hN] at K i8 e7; have HN:Hid (okL N∧True∧val N<val b*1000000000):=⟨h6,trivial,e7.o⟩; have q1:Hid (U32s N=Value.int .u32 (x:Nat)::U32s R):=by rw [← hN]; rfl
     have I:Hid (w.heap.size<wr.heap.size):=j0.o.lt; clear hx hN h6 e7
     go_wp2_with (at_builtin; refine wpList_append_R rfl _ _ 51 rfl (w.heap.size+1) (w.heap.size+1) 87 i0 (.int .u32 0) 4 Tryz.underlying51 a8 h8 h9 i1 rfl _ 1 [.int .u32 (x:Nat)] rfl (owns_one wr _ _ _ (by have:=I.o; omega)) _ R rfl (g5.o.below (below_alloc _ _)) (by unfold maxLen; omega) (by omega) (by have:=I.o; simp; omega) ?_)
     intro v3 w3 D d4; rw [← q1.o] at D; have l9:Up w w3:=(b3.o.alloc b3.o.size _).grown d4 (by have:=b3.o.size; simp; omega) (fun k h=>by simp [Value.ownBlock] at h; have:=I.o; omega); have l3:Hid (RowT w3 w.heap.size Q):=by
      obtain ⟨tl,h⟩:=j0.o; refine ⟨tl,(d4.block _ (by have:=I.o; simp; omega) (by simp [Value.ownBlock]; have:=I.o; omega)).trans ?_⟩; exact (heap_alloc_old wr _ I.o).trans h
     have a7:=Hd l9; obtain ⟨_,⟨_,n2⟩|⟨g,cap,s3,r5,r6,r7,m9,j7⟩⟩:=IsR.of_owns' (e:=87) D HN.o.1
     ·exfalso; have:=e2.o.1; rw [n2] at this; simp at this
     subst s3; have p3:=Hd j7; have g4:Hid (∀ k,k≤N.length→trimL N=N.take k→IsR (w.heap.size+1) w3 (.slice (some ⟨g,0,none⟩) k cap) (trimL N)):=fun k hk he=>IsR.cut r5 r6 m9 HN.o.1 r7 j7 k hk he; have v9:=e2.o.2; unfold maxLen at m9; clear D d4 l9 j7 d2
     go_wp2
     go_loop [11] (fun n=>∃ k:Nat,k≤N.length∧n=.int .i64 k∧trimL (N.take k)=trimL N) (fun n=>(intOf n).toNat)
     case atStart=>exact ⟨N.length,leR,rfl,by rw [List.take_length]⟩
     case round=>
      obtain ⟨k,hk,rfl,hp⟩:=hrel; have HP:=Hd hp; clear hp
      cases k with
      | zero=>
        have HE:Hid (trimL N=[]):=by rw [← HP.o]; rfl
        have b9:Hid (IsR (w.heap.size+1) w3 (.slice (some ⟨g,0,none⟩) 0 cap) (trimL N)):=g4.o 0 (by omega) (by rw [← HP.o]; rfl); have e3:Hid (IsL B w3 (.slice (some ⟨g,0,none⟩) 0 cap) (trimL N)):=b9.o.isL.mono g3.o; have b5:Hid (cmpL (trimL N) b = -1):=by rw [HE.o]; exact cmpL_nil b J.o.2.2.2
        have c9:Hid (SD a b (trimL N) Q i):=K.o (by rw [HE.o]; exact val_pos b J.o.2.2.1 J.o.2.2.2)
        go_wp2_with fail
        refine (l1CmpD_any B _ _ (trimL N) b _ e3.o (HB.o _ a7.o)).mono ?_; rintro e w4 ⟨rfl,O⟩; rw [b5.o]; have E:Hid (IsR (w.heap.size+1) w4 (.slice (some ⟨g,0,none⟩) 0 cap) (trimL N)∧RowT w4 w.heap.size Q∧Up w w4):=⟨b9.o.below O,l3.o.kept O,a7.o.trans (O.mono a7.o.size)⟩; clear O
        go_wp2
        go_roundw
        case rel=>exact ⟨i,trimL N,Q,c9.o,E.o.1,by go_num,E.o.2.1,E.o.2.2⟩
        case measure=>simp [intOf]
      | succ m=>
        obtain ⟨y,hy⟩:=exW (N.getD m 0); have V:=p3.o m (by omega); rw [hy] at V; have HY:=Hd hy; clear hy
        by_cases h0:y=0
        ·have hz:((y:Int)==0)=true:=by rw [beq_iff_eq]; omega
         have HE:Hid (trimL (N.take m)=trimL N):=by rw [← trimL_take_zero N m (by omega) (by rw [HY.o,h0])]; exact HP.o
         clear h0
         go_wp2
         go_round
         case rel=>exact ⟨m,by omega,val_int (by omega),HE.o⟩
         case measure=>simp [intOf]
        ·have hz:((y:Int)==0)=false:=by rw [beq_eq_false_iff_ne]; omega
         have b9:Hid (IsR (w.heap.size+1) w3 (.slice (some ⟨g,0,none⟩) (m+1) cap) (trimL N)):=g4.o (m+1) hk (HP.o.symm.trans (trimL_take_pos N m (by omega) (by rw [HY.o]; exact h0))); have e3:Hid (IsL B w3 (.slice (some ⟨g,0,none⟩) (m+1) cap) (trimL N)):=b9.o.isL.mono g3.o; have b8:Hid ((trimL N).length=m+1):=by obtain ⟨_,_,e,_⟩:=e3.o; simp at e; exact e.2.1.symm
         clear h0; obtain ⟨cm,j5⟩:=exW (cmpL (trimL N) b); have b5:=Hd j5; have r4 : -1≤cm∧cm≤1:=by rw [← j5]; exact cmpL_bd _ b
         obtain ⟨u1,u2⟩:=r4; clear j5
         go_wp2_with fail
         refine (l1CmpD_any B _ _ (trimL N) b _ e3.o (HB.o _ a7.o)).mono ?_; rintro e w4 ⟨rfl,O⟩; rw [b5.o]; have E:Hid (IsR (w.heap.size+1) w4 (.slice (some ⟨g,0,none⟩) (m+1) cap) (trimL N)∧RowT w4 w.heap.size Q∧Up w w4):=⟨b9.o.below O,l3.o.kept O,a7.o.trans (O.mono a7.o.size)⟩; clear O V
         by_cases d7:cm<0
         ·have c9:Hid (SD a b (trimL N) Q i):=K.o (cmpL_lt_val _ b (trimL_ok N HN.o.1) J.o.2.1 (trimL_trim N) J.o.2.2.1 (by rw [b5.o]; exact d7))
          go_wp2
          go_roundw
          case rel=>exact ⟨i,trimL N,Q,c9.o,E.o.1,by go_num,E.o.2.1,E.o.2.2⟩
          case measure=>simp [intOf]
         ·have p9:Hid (val b≤val N∧b.length≤(trimL N).length):=by
           have h:=cmpL_ge (trimL N) b (trimL_ok N HN.o.1) J.o.2.1 (trimL_trim N) J.o.2.2.1 (by rw [b5.o]; omega); rw [val_trimL] at h; exact ⟨h.2,h.1⟩
          have x4:0≤cm:=by omega
          clear d7
          go_wp2
          go_loopw [12,13] (fun lov hiv wq=>∃ lo hi:Nat,lov=.int .u64 (lo:Nat)∧hiv=.int .u64 (hi:Nat)∧Between (val b) (val N) lo hi∧Up w4 wq) (fun lov hiv _=>(intOf hiv).toNat - (intOf lov).toNat)
          case atStart=>exact ⟨0,999999999,rfl,rfl,between_first _ _ HN.o.2.2,Below.refl _ _⟩
          case round=>
           obtain ⟨lo,hi,rfl,rfl,f7,m7⟩:=hrel; have b4:=Hd f7; have a9:=Hd m7; have x2:=f7.1; have x3:=f7.2.1; clear f7 m7; have i4:Hid (Up w wr):=E.o.2.2.trans (a9.o.mono E.o.2.2.size); have l4:Hid (IsR (w.heap.size+1) wr (.slice (some ⟨g,0,none⟩) (m+1) cap) (trimL N)):=E.o.1.below a9.o; have i9:Hid (RowT wr w.heap.size Q):=E.o.2.1.kept a9.o
           by_cases j8:lo<hi
           ·obtain ⟨M,hM⟩:=exW ((lo+hi+1) / 2); have v8:((lo:Int)+(hi:Int)+1) / 2=(M:Int):=by omega
            have HM:=Hd hM; have q8:M<1000000000:=by omega
            have v7:1≤M:=by omega
            clear hM
            go_wp2_with fail
            refine (l1MulD_any B _ b M _ (HB.o _ i4.o) hlb q8).mono ?_; rintro e w5 ⟨v5,L5,rfl,e9,n5,n7,r8,m6⟩; have q0:Hid (IsL B w5 v5 L5):=e9.mono (by have:=i4.o.size; have:=o0.o; omega); have j1:Hid (isTrim L5∧val L5=val b*M∧okL L5):=⟨n5,n7,by obtain ⟨_,_,_,_,_,h,_⟩:=e9; exact h⟩; have i3:=Hd m6; obtain ⟨p5,c5,e5,_⟩:=id e9; subst e5; clear e9 n5 n7 r8 m6
            go_wp2_with fail
            refine (l1CmpD_any B _ _ L5 (trimL N) _ q0.o ((l4.o.below i3.o).isL.mono g3.o)).mono ?_; rintro e w6 ⟨rfl,d1⟩; have Y:Hid (Up w4 w6):=a9.o.trans ((i3.o.trans (d1.mono i3.o.size)).mono a9.o.size); clear d1; have ho:=cmpL_ord L5 (trimL N) j1.o.2.2 (trimL_ok N HN.o.1) j1.o.1 (trimL_trim N); rw [val_trimL,j1.o.2.1] at ho
            by_cases hc:M*val b≤val N
            ·have q4:Hid (Between (val b) (val N) M hi):=by
              have h:=between_up b4.o j8 (by rw [HM.o]; exact hc); rw [HM.o] at h; exact h
             obtain ⟨cx,a3⟩:=exW (cmpL L5 (trimL N)); have m8:cx≤0:=by rw [← a3,ho]; exact ord_le _ _ (by rw [Nat.mul_comm]; exact hc)
             rw [a3]; clear a3 ho hc
             go_wp2
             go_roundw
             case rel=>exact ⟨M,hi,rfl,rfl,q4.o,Y.o⟩
             case measure=>simp [intOf]; have:=HM.o; omega
            ·have p7:Hid (Between (val b) (val N) lo (M - 1)):=by
              have h:=between_down b4.o j8 (by rw [HM.o]; omega); rw [HM.o] at h; exact h
             obtain ⟨cx,a3⟩:=exW (cmpL L5 (trimL N)); have m8:0<cx:=by rw [← a3,ho]; exact ord_gt _ _ (by rw [Nat.mul_comm]; omega)
             rw [a3]; clear a3 ho hc
             go_wp2
             go_roundw
             case rel=>exact ⟨lo,M - 1,rfl,val_int (by omega),p7.o,Y.o⟩
             case measure=>simp [intOf]; have:=HM.o; omega
           ·obtain rfl:lo=hi:=by omega
            have i5:Hid (1≤lo∧lo*val b≤val N∧val N<(lo+1)*val b):=by
             refine ⟨?_,b4.o.2.2.1,b4.o.2.2.2⟩; apply Nat.pos_of_ne_zero; rintro rfl; have h1:=b4.o.2.2.2; have h2:=p9.o.1; omega
            have u5:=i5.o.1; have s0:=i9.o.cell i (by have:=s.o.qlen; have:=s.o.le; omega); have s1:=i9.o.frozen i; have Z:Hid (RowT (wr.setCell ⟨w.heap.size,i,none⟩ (.int .u32 (lo:Nat))) w.heap.size (Q.set i lo)∧IsR (w.heap.size+1) (wr.setCell ⟨w.heap.size,i,none⟩ (.int .u32 (lo:Nat))) (.slice (some ⟨g,0,none⟩) (m+1) cap) (trimL N)∧Up w (wr.setCell ⟨w.heap.size,i,none⟩ (.int .u32 (lo:Nat)))):=
             ⟨i9.o.set _ _ (by have:=s.o.qlen; have:=s.o.le; omega),l4.o.setCell _ _ (by show w.heap.size<w.heap.size+1; omega),i4.o.setCell leR _⟩
            obtain ⟨W5,j3⟩:=exW (wr.setCell ⟨w.heap.size,i,none⟩ (.int .u32 (lo:Nat))); have q5:=Hd j3; rw [j3] at Z; clear j3 j8
            go_wp2_with fail
            rw [q5.o]; clear s0 s1; refine (l1MulD_any B _ b lo _ (HB.o _ Z.o.2.2) hlb (by omega)).mono ?_; rintro e w6 ⟨v6,L6,rfl,f5,n6,n8,r9,d1⟩; have e0:Hid (IsL B w6 v6 L6∧isTrim L6∧val L6=val b*lo∧okL L6):=⟨f5.mono (by have:=Z.o.2.2.size; have:=o0.o; omega),n6,n8,by obtain ⟨_,_,_,_,_,h,_⟩:=f5; exact h⟩; have Y:=Hd d1; obtain ⟨p6,c6,e6,_⟩:=id f5; subst e6; clear f5 n6 n8 r9 d1
            go_wp2_with fail
            have d5:val L6≤val (trimL N):=by rw [e0.o.2.2.1,val_trimL,Nat.mul_comm]; exact i5.o.2.1
            have d6:=l1SubD_len B (.slice (some ⟨g,0,none⟩) (m+1) cap) (.slice p6 L6.length c6) (trimL N) L6 w6 ((Z.o.2.1.below Y.o).isL.mono g3.o) e0.o.1 (by have:=e2.o; have:=trimL_len N; omega) (len_of_le L6 (trimL N) e0.o.2.1 (trimL_ok N HN.o.1) d5) d5; rw [b8.o] at d6; refine d6.mono ?_; clear d6 d5; rintro e w7 ⟨S,rfl,hS,k0,n1,j4⟩; have a6:okL S:=by obtain ⟨_,_,_,_,_,h,_⟩:=hS; exact h
            have HS:Hid (okL S∧S.length=m+1∧val S+lo*val b=val N):=⟨a6,n1,by rw [e0.o.2.2.1,val_trimL] at k0; rw [Nat.mul_comm lo]; exact k0⟩; have hG:w.heap.size+1≤w6.heap.size:=by have:=Z.o.1.lt; have:=Y.o.size; omega
            have l0:Hid (∀ q,q<S.length→w7.cell? ⟨w6.heap.size,q,none⟩=some (.int .u32 (S.getD q 0:Nat))):=fun q hq=>by
             obtain ⟨_,_,_,_,j6⟩:=hS.cells; obtain ⟨b',i2,e,_,hc⟩:=j6 q hq; simp only [Option.some.injEq,Addr.mk.injEq,and_true] at e; obtain ⟨rfl,rfl⟩:=e; rw [Nat.zero_add] at hc; exact hc
            have l2:Hid (w6.heap.size<w7.heap.size):=by
             obtain ⟨_,_,_,_,j6⟩:=hS.cells; obtain ⟨b',i2,e,d7,hc⟩:=j6 0 (by omega); simp only [Option.some.injEq,Addr.mk.injEq,and_true] at e; obtain ⟨rfl,rfl⟩:=e; exact d7
            have e4:Hid (RowT w7 w.heap.size (Q.set i lo)∧Up w w7):=⟨(Z.o.1.kept Y.o).kept j4,Z.o.2.2.trans ((Y.o.trans (j4.mono Y.o.size)).mono Z.o.2.2.size)⟩; have b6:Hid (∀ k,k≤S.length→trimL S=S.take k→IsR (w.heap.size+1) w7 (.slice (some ⟨w6.heap.size,0,none⟩) k (m+1)) (trimL S)):=fun k hk he=>IsR.cut hG l2.o (by unfold maxLen; have:=e2.o; have:=trimL_len N; have:=b8.o; omega) a6 (by omega) l0.o k hk he; have g6:Hid (SD a b (trimL S) (Q.set i lo) i):=by
             refine i8.o (by omega) ?_ ?_ (trimL_ok S a6) (trimL_trim S)
             ·rw [val_trimL]; have:=HS.o.2.2; omega
             ·rw [val_trimL]; have h1:=HS.o.2.2; have h2:=i5.o.2.2; rw [Nat.add_mul,Nat.one_mul] at h2; omega
            clear hS k0 n1 j4 a6 hG
            go_wp2
            go_loop [16] (fun n=>∃ k:Nat,k≤S.length∧n=.int .i64 k∧trimL (S.take k)=trimL S) (fun n=>(intOf n).toNat)
            case atStart=>exact ⟨S.length,leR,val_int (by have:=HS.o.2.1; omega),by rw [List.take_length]⟩
            case round=>
             obtain ⟨k,hk,rfl,hp⟩:=hrel; have i7:=Hd hp; have j2:=HS.o.2.1; clear hp
             cases k with
             | zero=>
               have c7:Hid (IsR (w.heap.size+1) w7 (.slice (some ⟨w6.heap.size,0,none⟩) 0 (m+1)) (trimL S)):=b6.o 0 (by omega) (by rw [← i7.o]; rfl); clear j2
               go_wp2
               go_roundw
               case rel=>exact ⟨i,trimL S,Q.set i lo,g6.o,c7.o,by go_num,e4.o.1,e4.o.2⟩
               case measure=>simp [intOf]
             | succ p=>
               obtain ⟨y,hy⟩:=exW (S.getD p 0); have V:=l0.o p (by omega); rw [hy] at V; have l7:=Hd hy; have x5:p<m+1:=by omega
               clear hy
               by_cases h0:y=0
               ·have hz:((y:Int)==0)=true:=by rw [beq_iff_eq]; omega
                have p8:Hid (trimL (S.take p)=trimL S):=by rw [← trimL_take_zero S p (by omega) (by rw [l7.o,h0])]; exact i7.o
                clear h0 j2
                go_wp2
                go_round
                case rel=>exact ⟨p,by have:=HS.o.2.1; omega,val_int (by omega),p8.o⟩
                case measure=>simp [intOf]
               ·have hz:((y:Int)==0)=false:=by rw [beq_eq_false_iff_ne]; omega
                have c7:Hid (IsR (w.heap.size+1) w7 (.slice (some ⟨w6.heap.size,0,none⟩) (p+1) (m+1)) (trimL S)):=b6.o (p+1) (by omega) (i7.o.symm.trans (trimL_take_pos S p (by omega) (by rw [l7.o]; exact h0))); clear h0 j2
                go_wp2
                go_roundw
                case rel=>exact ⟨i,trimL S,Q.set i lo,g6.o,c7.o,by go_num,e4.o.1,e4.o.2⟩
                case measure=>simp [intOf]
theorem l1Limbs_nil (B:Nat) (z:Value) (neg:Bool) (w:World) (h:IsZ B w z neg []) :
 Calls Tryz.prog 72 #[z] w fun e w'=>e=.returned (.slice none 0 0)∧Up w w':=by
 obtain ⟨j,m,h⟩:=h
 rcases h with ⟨h2,_⟩|⟨_,rfl⟩
 ·simp at h2
 cases neg
 all_goals
  simp only [sg,val]
  go_enter Tryz.func72,Tryz.ntmps72
  go_wp2
  go_ret
  exact ⟨rfl,below_alloc _ _⟩
theorem l1Limbs_two (B:Nat) (z:Value) (neg:Bool) (t:List Nat) (w:World) (h:IsZ B w z neg t) (hB:B≤w.heap.size) :
 Calls Tryz.prog 72 #[z] w fun e w'=>∃ v,e=.returned v∧IsL B w' v t∧(t=[]→v=.slice none 0 0)∧Up w w':=by
 by_cases j:t=[]
 ·subst j; refine (l1Limbs_nil B z neg w h).mono ?_; rintro e w' ⟨rfl,hb⟩; exact ⟨_,rfl,⟨none,0,rfl,leR,(by unfold maxLen; omega),(fun x hx=>by cases hx),.inl rfl⟩,fun _=>rfl,hb⟩
 refine (l1Limbs_any B z neg t w h hB).mono ?_; rintro e w' ⟨v,rfl,m,hb⟩; exact ⟨v,rfl,m,fun h=>absurd h j,hb⟩
theorem l1Zero_ex (z0:Int) (zn:Bool) (za:Option Addr) (zl zc:Nat) (w:World) :
 Calls Tryz.prog 70 #[.agg #[.int .i64 z0,.bool zn,.slice za zl zc]] w fun e w'=>e=.returned (.bool (((zl:Int)==0)&&(z0==0)))∧Up w w':=by
 by_cases h:zl=0
 ·subst h
  go_enter Tryz.func70,Tryz.ntmps70
  go_wp2
  go_ret
  exact ⟨by simp,below_alloc _ _⟩
 have z:((zl:Int)==0)=false:=by rw [beq_eq_false_iff_ne]; omega
 go_enter Tryz.func70,Tryz.ntmps70
 go_wp2
 go_ret
 exact ⟨by simp [z],below_alloc _ _⟩
theorem l1DivD_nil (B:Nat) (vb:Value) (b:List Nat) (w:World) (hb:IsL B w vb b) (hlb:b.length≤100000) (htb:isTrim b) (hne:b≠[]) :
 Calls Tryz.prog 76 #[.slice none 0 0,vb] w fun e w'=>∃ v u Q U,e=.returned (.tuple #[v,u])∧(IsL w.heap.size w' v Q∧IsL w.heap.size w' u U)∧val []=val Q*val b+val U∧val U<val b∧Up w w':=by
 obtain ⟨Y,y,H,I,J⟩:=info_parts Tryz.info_u32; obtain ⟨pb,cb,rfl,_,_,M,_⟩:=hb; have T:Hid (0<val b):=val_pos b htb hne; have V:0<b.length:=by
  apply Nat.pos_of_ne_zero; intro e; exact hne (List.eq_nil_of_length_eq_zero e)
 by_cases h1:b.length=1
 all_goals
  go_enter Tryz.func76,Tryz.ntmps76
  go_wp2_with (at_make; refine wpList_make_full _ rfl _ _ 51 rfl w.heap.size 87 Y (.int .u32 0) 1 Tryz.underlying51 y H I .i64 .i64 _ _ 0 rfl rfl (by first|rfl|omega) (by first|rfl|omega) (by first|omega|(rw [J]; omega)) (by unfold maxLen; omega) leR ?_)
  intro Z D s; have m:Up w Z:=(Below.refl _ _).grown s leR (fun k h=>by cases h); have E:=Hd m; clear D s m
  go_wp2
  go_loopw [7,9] (fun rv iv wr=>rv=.slice none 0 0∧iv=.int .i64 (-1)∧Up w wr) (fun _ _ _=>0)
  case atStart=>exact ⟨rfl,rfl,E.o⟩
  case round=>
   obtain ⟨rfl,rfl,K⟩:=hrel; have O:=Hd K; clear K; have j:Hid (∀ W pp,IsL w.heap.size W (.slice pp 0 0) []):=fun W pp=>⟨pp,0,rfl,leR,(by unfold maxLen; omega),(fun x hx=>by cases hx),.inl rfl⟩
   go_wp2
   go_ret2
   exact ⟨_,_,[],[],rfl,⟨j.o _ _,j.o _ _⟩,by simp [val],T.o,O.o⟩
theorem l1DivD_any (B:Nat) (va vb:Value) (a b:List Nat) (w:World) (hBw:B≤w.heap.size) (hla:a.length≤100000) (ha:IsL B w va a) (hnil:a=[]→va=.slice none 0 0) (hb:IsL B w vb b) (hlb:b.length≤100000) (htb:isTrim b) (hne:b≠[]) :
 Calls Tryz.prog 76 #[va,vb] w fun e w'=>∃ v u Q U,e=.returned (.tuple #[v,u])∧(IsL w.heap.size w' v Q∧IsL w.heap.size w' u U)∧val a=val Q*val b+val U∧val U<val b∧Up w w':=by
 by_cases h:a=[]
 ·rw [hnil h,h]; exact l1DivD_nil B vb b w hb hlb htb hne
 obtain ⟨D,s,rfl,_,_,_,j⟩:=id ha
 rcases j with j|⟨m,y,rfl,_⟩
 ·exact absurd j h
 exact l1DivD_some B m y s vb a b w hBw hla ha h hb hlb htb hne
end Go.Proofs.YtknfmkeipeikkaaGreatDoor
