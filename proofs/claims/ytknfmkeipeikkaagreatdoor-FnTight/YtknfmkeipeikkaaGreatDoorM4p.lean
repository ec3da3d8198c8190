import Derived.Test.YtknfmkeipeikkaaGreatDoorM2p
import Derived.Test.YtknfmkeipeikkaaGreatDoorReadImplp
set_option maxRecDepth 100000
set_option maxHeartbeats 2000000
namespace Go.Proofs.YtknfmkeipeikkaaGreatDoor
open Go.ChangeShapes Go.WideShapes Go.ChangeAt Go.RowKit
theorem limb_step (P s:Nat):P*(s % 1000000000)+P*1000000000*(s / 1000000000)=P*s:=by
 rw [Nat.mul_assoc,← Nat.mul_add,Nat.add_comm,Nat.div_add_mod]
theorem made_zero' (n:Nat):(madeCells #[Value.int .u32 0] n).toList=U32s (List.replicate n 0):=by
 rw [toList_madeCells_one]; simp [U32s]
theorem okL_getD (t:List Nat) (h:okL t) (i:Nat) (hi:i<t.length):t.getD i 0<1000000000:=by
 rw [List.getD_eq_getElem?_getD,List.getElem?_eq_getElem hi]; exact h _ (List.getElem_mem _)
theorem add_step (P A Bv La c x y:Nat) (h:La+P*c=A+Bv):La+P*((c+x+y) % 1000000000)+P*1000000000*((c+x+y) / 1000000000)=A+P*x+(Bv+P*y):=by
 have j:=limb_step P (c+x+y); rw [Nat.mul_add,Nat.mul_add] at j; omega
theorem add_end (P Q c A Bv V:Nat) (hQ:Q=P*1000000000) (h:V+Q*c=A+Bv) (hA:A<P) (hB:Bv<P):V=A+Bv:=by
 cases c with
 | zero=>rw [Nat.mul_zero] at h; omega
 | succ c=>
   rw [Nat.mul_succ] at h; generalize Q*c=X at h; omega
theorem val_lt_of (a:List Nat) (h:okL a) (n:Nat) (hn:a.length≤n):val a<1000000000 ^ n:=Nat.lt_of_lt_of_le (val_lt a h) (Nat.pow_le_pow_right (by decide) hn)
theorem l1AddD_any (B:Nat) (va vb:Value) (a b:List Nat) (w:World) (ha:IsL B w va a) (hb:IsL B w vb b) (hla:a.length≤1000000) (hlb:b.length≤1000000) :
 Calls Tryz.prog 95 #[va,vb] w fun e w'=>∃ v L,e=.returned v∧IsL w.heap.size w' v L∧val L=val a+val b∧Up w w':=by
 obtain ⟨i0,d0,d6,d7,d8⟩:=info_parts Tryz.info_u32; obtain ⟨pa,ca,rfl,_⟩:=id ha; obtain ⟨pb,cb,rfl,_⟩:=id hb; obtain ⟨_,_,_,a6,U⟩:=ha.cells; obtain ⟨_,_,_,a7,V⟩:=hb.cells; have HA:=Hd U; have HB:=Hd V; clear U V ha hb
 by_cases hl:a.length<b.length
 ·have z:decide ((a.length:Int)<b.length)=true:=by rw [decide_eq_true_iff]; omega
  go_enter Tryz.func95,Tryz.ntmps95
  go_wp2_with (at_make; refine wpList_make_full _ rfl _ _ 51 rfl w.heap.size 87 i0 (.int .u32 0) 1 Tryz.underlying51 d0 d6 d7 .i64 .i64 _ _ (b.length+1) rfl rfl ?pm0 ?pm1 ?pm2 ?pm3 ?pm4 ?_)
  try (case pm0=>omega)
  try (case pm1=>omega)
  try (case pm2=>(first|omega|(rw [d8]; omega)))
  try (case pm3=>(unfold maxLen; omega))
  try (case pm4=>exact leR)
  intro w1 J b6
  first|rw [made_zero] at J|rw [made_zero'] at J
  have I:Row w1 w.heap.size (List.replicate (b.length+1) 0):=row_of_full J; have b4:Up w w1:=(Below.refl _ _).grown b6 leR (fun k h=>by cases h); clear J b6
  go_wp2
  go_loopw [7,8] (fun cv iv wr=>∃ (i c:Nat) (L:List Nat),i≤b.length+1∧c≤1∧L.length=b.length+1∧okL L∧Row wr w.heap.size L∧cv=.int .u64 (c:Nat)∧iv=.int .i64 i ∧
   val (L.take i)+1000000000 ^ i*c=val (a.take i)+val (b.take i)∧Up w wr) (fun _ iv _=>b.length+1 - (intOf iv).toNat)
  case atStart=>exact ⟨0,0,_,by omega,by omega,by simp,fun x hx=>by rw [List.eq_of_mem_replicate hx]; omega,I,rfl,rfl,by simp [val],b4⟩
  case round=>
   clear I b4; obtain ⟨i,c,L,hi,hc,a3,m,I,rfl,rfl,D,T⟩:=hrel
   by_cases e7:i≤b.length
   ·by_cases b3:i<a.length
    ·by_cases a5:i<b.length
     ·obtain ⟨ba,oa,rfl,a8,U⟩:=HA.o i b3; rw [← T.cell (p:=⟨ba,oa+i,none⟩) a8] at U; have b9:=okL_getD a a6 i b3; obtain ⟨bb,ob,rfl,a9,V⟩:=HB.o i a5; rw [← T.cell (p:=⟨bb,ob+i,none⟩) a9] at V; have c9:=okL_getD b a7 i a5; have j:=add_step (1000000000 ^ i) _ _ _ c (a.getD i 0) (b.getD i 0) D; rw [← val_take_succ,← val_take_succ] at j; obtain ⟨x,hx⟩:=exW (a.getD i 0); rw [hx] at U b9 j; obtain ⟨y,hy⟩:=exW (b.getD i 0); rw [hy] at V c9 j; have H:Hid (val ((L.set i ((c+x+y) % 1000000000)).take (i+1))+1000000000 ^ (i+1)*((c+x+y) / 1000000000)=val (a.take (i+1))+val (b.take (i+1))):=by
       unfold Hid
       rw [val_take_set L i _ (by omega),Nat.pow_succ]; exact j
      clear j D hx hy; obtain ⟨s,Z⟩:=exW (c+x+y); have b7:s<2000000000:=by omega
      rw [Z] at H; have Y:=I.cell i (by omega); have b5:=I.frozen i; have O:Hid (Row (wr.setCell ⟨w.heap.size,i,none⟩ (.int .u32 ((s % 1000000000:Nat):Int))) w.heap.size (L.set i (s % 1000000000))):=I.set i _; have K:Hid (∀ u,Up w (wr.setCell ⟨w.heap.size,i,none⟩ u)):=fun u=>T.setCell leR u; have M:Hid (okL (L.set i (s % 1000000000))):=okL_set L m i _ (Nat.mod_lt _ (by decide)); have E:=Hd Z; clear I T Z m
      go_wp2
      go_roundw
      case rel=>
       refine ⟨i+1,s / 1000000000,L.set i (s % 1000000000),by omega,by omega,by simp [a3],M.o,?_,val_int (by rw [← E.o]; simp),by go_num,H.o,K.o _⟩; have h:=O.o; rw [← E.o] at h ⊢
       simpa using h
      case measure=>simp [intOf]; omega
     ·exfalso; omega
    ·by_cases a5:i<b.length
     ·have b8:a.getD i 0=0:=by rw [List.getD_eq_getElem?_getD,List.getElem?_eq_none (by omega)]; rfl
      obtain ⟨bb,ob,rfl,a9,V⟩:=HB.o i a5; rw [← T.cell (p:=⟨bb,ob+i,none⟩) a9] at V; have c9:=okL_getD b a7 i a5; have j:=add_step (1000000000 ^ i) _ _ _ c (a.getD i 0) (b.getD i 0) D; rw [← val_take_succ,← val_take_succ] at j; rw [b8,Nat.add_zero] at j; obtain ⟨y,hy⟩:=exW (b.getD i 0); rw [hy] at V c9 j; have H:Hid (val ((L.set i ((c+y) % 1000000000)).take (i+1))+1000000000 ^ (i+1)*((c+y) / 1000000000)=val (a.take (i+1))+val (b.take (i+1))):=by
       unfold Hid
       rw [val_take_set L i _ (by omega),Nat.pow_succ]; exact j
      clear j D hy; obtain ⟨s,Z⟩:=exW (c+y); have b7:s<2000000000:=by omega
      rw [Z] at H; have Y:=I.cell i (by omega); have b5:=I.frozen i; have O:Hid (Row (wr.setCell ⟨w.heap.size,i,none⟩ (.int .u32 ((s % 1000000000:Nat):Int))) w.heap.size (L.set i (s % 1000000000))):=I.set i _; have K:Hid (∀ u,Up w (wr.setCell ⟨w.heap.size,i,none⟩ u)):=fun u=>T.setCell leR u; have M:Hid (okL (L.set i (s % 1000000000))):=okL_set L m i _ (Nat.mod_lt _ (by decide)); have E:=Hd Z; clear I T Z m
      go_wp2
      go_roundw
      case rel=>
       refine ⟨i+1,s / 1000000000,L.set i (s % 1000000000),by omega,by omega,by simp [a3],M.o,?_,val_int (by rw [← E.o]; simp),by go_num,H.o,K.o _⟩; have h:=O.o; rw [← E.o] at h ⊢
       simpa using h
      case measure=>simp [intOf]; omega
     ·have b8:a.getD i 0=0:=by rw [List.getD_eq_getElem?_getD,List.getElem?_eq_none (by omega)]; rfl
      have c7:b.getD i 0=0:=by rw [List.getD_eq_getElem?_getD,List.getElem?_eq_none (by omega)]; rfl
      have j:=add_step (1000000000 ^ i) _ _ _ c (a.getD i 0) (b.getD i 0) D; rw [← val_take_succ,← val_take_succ] at j; rw [b8,Nat.add_zero] at j; rw [c7,Nat.add_zero] at j; have H:Hid (val ((L.set i ((c) % 1000000000)).take (i+1))+1000000000 ^ (i+1)*((c) / 1000000000)=val (a.take (i+1))+val (b.take (i+1))):=by
       unfold Hid
       rw [val_take_set L i _ (by omega),Nat.pow_succ]; exact j
      clear j D; obtain ⟨s,Z⟩:=exW c; have b7:s<2000000000:=by omega
      rw [Z] at H; have Y:=I.cell i (by omega); have b5:=I.frozen i; have O:Hid (Row (wr.setCell ⟨w.heap.size,i,none⟩ (.int .u32 ((s % 1000000000:Nat):Int))) w.heap.size (L.set i (s % 1000000000))):=I.set i _; have K:Hid (∀ u,Up w (wr.setCell ⟨w.heap.size,i,none⟩ u)):=fun u=>T.setCell leR u; have M:Hid (okL (L.set i (s % 1000000000))):=okL_set L m i _ (Nat.mod_lt _ (by decide)); have E:=Hd Z; clear I T Z m
      go_wp2
      go_roundw
      case rel=>
       refine ⟨i+1,s / 1000000000,L.set i (s % 1000000000),by omega,by omega,by simp [a3],M.o,?_,val_int (by rw [← E.o]; simp),by go_num,H.o,K.o _⟩; have h:=O.o; rw [← E.o] at h ⊢
       simpa using h
      case measure=>simp [intOf]; omega
   ·obtain rfl:i=b.length+1:=by omega
    have hE:=add_end (1000000000 ^ (b.length)) _ c _ _ _ (Nat.pow_succ ..) D (by rw [List.take_of_length_le (by omega)]; exact val_lt_of a a6 _ (by omega)) (by rw [List.take_of_length_le (by omega)]; exact val_lt_of b a7 _ (by omega)); rw [List.take_of_length_le (by omega),List.take_of_length_le (by omega),List.take_of_length_le (by omega)] at hE; have HE:=Hd hE; have HL:Hid (IsL w.heap.size wr (.slice (some ⟨w.heap.size,0,none⟩) (b.length+1) (b.length+1)) L):=by
     have:=I.isL (B:=w.heap.size) (cap:=b.length+1) leR m (by omega) (by unfold maxLen; omega); rw [a3] at this; exact this
    have d2:=Hd T; clear hE D I T m
    go_wp2
    go_ret
    exact ⟨_,L,rfl,HL.o,HE.o,d2.o⟩
 have z:decide ((a.length:Int)<b.length)=false:=by rw [decide_eq_false_iff_not]; omega
 go_enter Tryz.func95,Tryz.ntmps95
 go_wp2_with (at_make; refine wpList_make_full _ rfl _ _ 51 rfl w.heap.size 87 i0 (.int .u32 0) 1 Tryz.underlying51 d0 d6 d7 .i64 .i64 _ _ (a.length+1) rfl rfl ?qm0 ?qm1 ?qm2 ?qm3 ?qm4 ?_)
 try (case qm0=>omega)
 try (case qm1=>omega)
 try (case qm2=>(first|omega|(rw [d8]; omega)))
 try (case qm3=>(unfold maxLen; omega))
 try (case qm4=>exact leR)
 intro w1 J b6
 first|rw [made_zero] at J|rw [made_zero'] at J
 have I:Row w1 w.heap.size (List.replicate (a.length+1) 0):=row_of_full J; have b4:Up w w1:=(Below.refl _ _).grown b6 leR (fun k h=>by cases h); clear J b6
 go_wp2
 go_loopw [7,8] (fun cv iv wr=>∃ (i c:Nat) (L:List Nat),i≤a.length+1∧c≤1∧L.length=a.length+1∧okL L∧Row wr w.heap.size L∧cv=.int .u64 (c:Nat)∧iv=.int .i64 i ∧
  val (L.take i)+1000000000 ^ i*c=val (a.take i)+val (b.take i)∧Up w wr) (fun _ iv _=>a.length+1 - (intOf iv).toNat)
 case atStart=>exact ⟨0,0,_,by omega,by omega,by simp,fun x hx=>by rw [List.eq_of_mem_replicate hx]; omega,I,rfl,rfl,by simp [val],b4⟩
 case round=>
  clear I b4; obtain ⟨i,c,L,hi,hc,a3,m,I,rfl,rfl,D,T⟩:=hrel
  by_cases e7:i≤a.length
  ·by_cases b3:i<a.length
   ·by_cases a5:i<b.length
    ·obtain ⟨ba,oa,rfl,a8,U⟩:=HA.o i b3; rw [← T.cell (p:=⟨ba,oa+i,none⟩) a8] at U; have b9:=okL_getD a a6 i b3; obtain ⟨bb,ob,rfl,a9,V⟩:=HB.o i a5; rw [← T.cell (p:=⟨bb,ob+i,none⟩) a9] at V; have c9:=okL_getD b a7 i a5; have j:=add_step (1000000000 ^ i) _ _ _ c (a.getD i 0) (b.getD i 0) D; rw [← val_take_succ,← val_take_succ] at j; obtain ⟨x,hx⟩:=exW (a.getD i 0); rw [hx] at U b9 j; obtain ⟨y,hy⟩:=exW (b.getD i 0); rw [hy] at V c9 j; have H:Hid (val ((L.set i ((c+x+y) % 1000000000)).take (i+1))+1000000000 ^ (i+1)*((c+x+y) / 1000000000)=val (a.take (i+1))+val (b.take (i+1))):=by
      unfold Hid
      rw [val_take_set L i _ (by omega),Nat.pow_succ]; exact j
     clear j D hx hy; obtain ⟨s,Z⟩:=exW (c+x+y); have b7:s<2000000000:=by omega
     rw [Z] at H; have Y:=I.cell i (by omega); have b5:=I.frozen i; have O:Hid (Row (wr.setCell ⟨w.heap.size,i,none⟩ (.int .u32 ((s % 1000000000:Nat):Int))) w.heap.size (L.set i (s % 1000000000))):=I.set i _; have K:Hid (∀ u,Up w (wr.setCell ⟨w.heap.size,i,none⟩ u)):=fun u=>T.setCell leR u; have M:Hid (okL (L.set i (s % 1000000000))):=okL_set L m i _ (Nat.mod_lt _ (by decide)); have E:=Hd Z; clear I T Z m
     go_wp2
     go_roundw
     case rel=>
      refine ⟨i+1,s / 1000000000,L.set i (s % 1000000000),by omega,by omega,by simp [a3],M.o,?_,val_int (by rw [← E.o]; simp),by go_num,H.o,K.o _⟩; have h:=O.o; rw [← E.o] at h ⊢
      simpa using h
     case measure=>simp [intOf]; omega
    ·obtain ⟨ba,oa,rfl,a8,U⟩:=HA.o i b3; rw [← T.cell (p:=⟨ba,oa+i,none⟩) a8] at U; have b9:=okL_getD a a6 i b3; have c7:b.getD i 0=0:=by rw [List.getD_eq_getElem?_getD,List.getElem?_eq_none (by omega)]; rfl
     have j:=add_step (1000000000 ^ i) _ _ _ c (a.getD i 0) (b.getD i 0) D; rw [← val_take_succ,← val_take_succ] at j; rw [c7,Nat.add_zero] at j; obtain ⟨x,hx⟩:=exW (a.getD i 0); rw [hx] at U b9 j; have H:Hid (val ((L.set i ((c+x) % 1000000000)).take (i+1))+1000000000 ^ (i+1)*((c+x) / 1000000000)=val (a.take (i+1))+val (b.take (i+1))):=by
      unfold Hid
      rw [val_take_set L i _ (by omega),Nat.pow_succ]; exact j
     clear j D hx; obtain ⟨s,Z⟩:=exW (c+x); have b7:s<2000000000:=by omega
     rw [Z] at H; have Y:=I.cell i (by omega); have b5:=I.frozen i; have O:Hid (Row (wr.setCell ⟨w.heap.size,i,none⟩ (.int .u32 ((s % 1000000000:Nat):Int))) w.heap.size (L.set i (s % 1000000000))):=I.set i _; have K:Hid (∀ u,Up w (wr.setCell ⟨w.heap.size,i,none⟩ u)):=fun u=>T.setCell leR u; have M:Hid (okL (L.set i (s % 1000000000))):=okL_set L m i _ (Nat.mod_lt _ (by decide)); have E:=Hd Z; clear I T Z m
     go_wp2
     go_roundw
     case rel=>
      refine ⟨i+1,s / 1000000000,L.set i (s % 1000000000),by omega,by omega,by simp [a3],M.o,?_,val_int (by rw [← E.o]; simp),by go_num,H.o,K.o _⟩; have h:=O.o; rw [← E.o] at h ⊢
      simpa using h
     case measure=>simp [intOf]; omega
   ·by_cases a5:i<b.length
    ·exfalso; omega
    ·have b8:a.getD i 0=0:=by rw [List.getD_eq_getElem?_getD,List.getElem?_eq_none (by omega)]; rfl
     have c7:b.getD i 0=0:=by rw [List.getD_eq_getElem?_getD,List.getElem?_eq_none (by omega)]; rfl
     have j:=add_step (1000000000 ^ i) _ _ _ c (a.getD i 0) (b.getD i 0) D; rw [← val_take_succ,← val_take_succ] at j; rw [b8,Nat.add_zero] at j; rw [c7,Nat.add_zero] at j; have H:Hid (val ((L.set i ((c) % 1000000000)).take (i+1))+1000000000 ^ (i+1)*((c) / 1000000000)=val (a.take (i+1))+val (b.take (i+1))):=by
      unfold Hid
      rw [val_take_set L i _ (by omega),Nat.pow_succ]; exact j
     clear j D; obtain ⟨s,Z⟩:=exW c; have b7:s<2000000000:=by omega
     rw [Z] at H; have Y:=I.cell i (by omega); have b5:=I.frozen i; have O:Hid (Row (wr.setCell ⟨w.heap.size,i,none⟩ (.int .u32 ((s % 1000000000:Nat):Int))) w.heap.size (L.set i (s % 1000000000))):=I.set i _; have K:Hid (∀ u,Up w (wr.setCell ⟨w.heap.size,i,none⟩ u)):=fun u=>T.setCell leR u; have M:Hid (okL (L.set i (s % 1000000000))):=okL_set L m i _ (Nat.mod_lt _ (by decide)); have E:=Hd Z; clear I T Z m
     go_wp2
     go_roundw
     case rel=>
      refine ⟨i+1,s / 1000000000,L.set i (s % 1000000000),by omega,by omega,by simp [a3],M.o,?_,val_int (by rw [← E.o]; simp),by go_num,H.o,K.o _⟩; have h:=O.o; rw [← E.o] at h ⊢
      simpa using h
     case measure=>simp [intOf]; omega
  ·obtain rfl:i=a.length+1:=by omega
   have hE:=add_end (1000000000 ^ (a.length)) _ c _ _ _ (Nat.pow_succ ..) D (by rw [List.take_of_length_le (by omega)]; exact val_lt_of a a6 _ (by omega)) (by rw [List.take_of_length_le (by omega)]; exact val_lt_of b a7 _ (by omega)); rw [List.take_of_length_le (by omega),List.take_of_length_le (by omega),List.take_of_length_le (by omega)] at hE; have HE:=Hd hE; have HL:Hid (IsL w.heap.size wr (.slice (some ⟨w.heap.size,0,none⟩) (a.length+1) (a.length+1)) L):=by
    have:=I.isL (B:=w.heap.size) (cap:=a.length+1) leR m (by omega) (by unfold maxLen; omega); rw [a3] at this; exact this
   have d2:=Hd T; clear hE D I T m
   go_wp2
   go_ret
   exact ⟨_,L,rfl,HL.o,HE.o,d2.o⟩
theorem into_step (P A Bv La c x y d c':Nat) (h:La+P*c=A+Bv) (hd:d+1000000000*c'=x+c+y):La+P*d+P*1000000000*c'=A+P*x+(Bv+P*y):=by
 have j:P*(d+1000000000*c')=P*(x+c+y):=by rw [hd]
 rw [Nat.mul_add,Nat.mul_add,Nat.mul_add,← Nat.mul_assoc] at j; omega
theorem val_from (L A:List Nat) (i n:Nat) (hi:i≤n) (hl:L.length=A.length) (hd:L.drop i=A.drop i) (V:Nat) (h:val (L.take i)=val (A.take i)+V):val (L.take n)=val (A.take n)+V:=by
 have j:∀ X:List Nat,i≤X.length→val (X.take n)=val (X.take i)+1000000000 ^ i*val ((X.drop i).take (n - i)):=fun X hX=>by
  have m:X.take n=X.take i++(X.drop i).take (n - i):=by rw [show n=i+(n - i) by omega,List.take_add]; simp
  rw [m,val_append,List.length_take,Nat.min_eq_left hX]
 by_cases hX:i≤A.length
 ·rw [j L (by omega),j A hX,hd,h]; omega
 rw [List.take_of_length_le (by omega),List.take_of_length_le (by omega)] at h ⊢; exact h
theorem drop_set_succ (L A:List Nat) (i x:Nat) (h:L.drop i=A.drop i):(L.set i x).drop (i+1)=A.drop (i+1):=by
 rw [List.drop_set_of_lt (by omega),← List.drop_drop,← List.drop_drop,h]
theorem getD_drop (L A:List Nat) (i:Nat) (h:L.drop i=A.drop i):L.getD i 0=A.getD i 0:=by
 have j:∀ X:List Nat,X.getD i 0=(X.drop i).getD 0 0:=fun X=>by simp [List.getD_eq_getElem?_getD]
 rw [j L,j A,h]
theorem addInto_any (R n cap:Nat) (vb:Value) (pb:Option Addr) (cb:Nat) (A b:List Nat) (w:World) (hR:Row w R A) (hAok:okL A) (hn:n≤A.length) (hA:A.length≤1000000) (hbn:b.length≤n) (hbok:okL b)
 (hvb:vb=.slice pb b.length cb) (hcap:n≤cap)
 (hcb:∀ i,i<b.length→∃ c off,pb=some ⟨c,off,none⟩∧c<R∧w.cell? ⟨c,off+i,none⟩=some (.int .u32 (b.getD i 0:Nat))) :
 Calls Tryz.prog 104 #[.slice (some ⟨R,0,none⟩) n cap,vb] w fun e w'=>∃ c L,e=.returned (.int .u32 (c:Nat))∧Row w' R L∧L.length=A.length∧okL L∧L.drop n=A.drop n∧c≤1 ∧
  val (L.take n)+1000000000 ^ n*c=val (A.take n)+val b∧Below R w w':=by
 subst hvb; have HB:=Hd hcb; clear hcb
 go_enter Tryz.func104,Tryz.ntmps104
 go_wp2
 go_loopw [5,10] (fun cv iv wr=>∃ (i c:Nat) (L:List Nat),i≤n∧c≤1∧L.length=A.length∧okL L∧Row wr R L∧L.drop i=A.drop i∧cv=.int .u32 (c:Nat)∧iv=.int .i64 i ∧
  val (L.take i)+1000000000 ^ i*c=val (A.take i)+val (b.take i)∧Below R w wr) (fun _ iv _=>n - (intOf iv).toNat)
 case atStart=>exact ⟨0,0,A,by omega,by omega,rfl,hAok,hR,rfl,rfl,rfl,by simp [val],Below.refl _ _⟩
 case round=>
  clear hR; obtain ⟨i,c,L,hi,hc,U,m,hR,s,rfl,rfl,j,Z⟩:=hrel
  by_cases e8:i<n
  ·have D:=hR.cell i (by omega); have hx:=getD_drop L A i s; have a5:=okL_getD A hAok i (by omega); rw [hx] at D; clear hx; obtain ⟨x,hx⟩:=exW (A.getD i 0); rw [hx] at a5 D
   by_cases b5:i<b.length
   ·obtain ⟨bb,ob,rfl,b6,hcb⟩:=HB.o i b5; rw [← Z.cell (p:=⟨bb,ob+i,none⟩) b6] at hcb; have b4:=okL_getD b hbok i b5; obtain ⟨y,hy⟩:=exW (b.getD i 0); rw [hy] at hcb b4
    by_cases hov:1000000000≤x+c+y
    ·skip
     have H:=into_step (1000000000 ^ i) _ _ _ c x y (x+c+y - 1000000000) 1 j (by omega); have T:Hid (val ((L.set i (x+c+y - 1000000000)).take (i+1))+1000000000 ^ (i+1)*1=val (A.take (i+1))+val (b.take (i+1))):=by
      unfold Hid
      rw [val_take_set L i _ (by omega),val_take_succ,val_take_succ,hx,hy,Nat.pow_succ]; exact H
     have b3:=hR.frozen i; have O:Hid (Row (wr.setCell ⟨R,i,none⟩ (.int .u32 (((x+c+y - 1000000000):Nat):Int))) R (L.set i (x+c+y - 1000000000))):=hR.set i _; have I:Hid (∀ u,Below R w (wr.setCell ⟨R,i,none⟩ u)):=fun u=>Z.setCell leR u; have K:Hid (okL (L.set i (x+c+y - 1000000000))):=okL_set L m i _ (by omega); have J:Hid ((L.set i (x+c+y - 1000000000)).drop (i+1)=A.drop (i+1)):=drop_set_succ L A i _ s; clear H j hx hy hR Z m s; obtain ⟨X,V⟩:∃ X:Int,(x:Int)=X:=⟨_,rfl⟩; have HX:=Hd V; have x1:0≤X:=by omega
     have x2:X<1000000000:=by omega
     rw [V] at D; obtain ⟨C,hC⟩:∃ C:Int,(c:Int)=C:=⟨_,rfl⟩; have HC:=Hd hC; have c1:0≤C:=by omega
     have c2:C≤1:=by omega
     rw [hC]; obtain ⟨Y,hY⟩:∃ Y:Int,(y:Int)=Y:=⟨_,rfl⟩; have HY:=Hd hY; have y1:0≤Y:=by omega
     have y2:Y<1000000000:=by omega
     rw [hY] at hcb; have t1:1000000000≤X+C+Y:=by omega
     have M:=(id hov:_); have E:Hid _:=hov; clear V a5 hov hC hY b4 M
     go_wp2
     go_roundw
     case rel=>
      refine ⟨i+1,1,L.set i (x+c+y - 1000000000),by omega,by omega,by simp [U],K.o,?_,J.o,rfl,by go_num,T.o,I.o _⟩; have h:=O.o; rw [show ((((x+c+y - 1000000000)):Nat):Int)=_ from ?_] at h
      ·exact h
      ·have:=E.o; have:=HX.o; have:=HC.o; have:=HY.o; omega
     case measure=>simp [intOf]; omega
    ·skip
     have H:=into_step (1000000000 ^ i) _ _ _ c x y (x+c+y) 0 j (by omega); have T:Hid (val ((L.set i (x+c+y)).take (i+1))+1000000000 ^ (i+1)*0=val (A.take (i+1))+val (b.take (i+1))):=by
      unfold Hid
      rw [val_take_set L i _ (by omega),val_take_succ,val_take_succ,hx,hy,Nat.pow_succ]; exact H
     have b3:=hR.frozen i; have O:Hid (Row (wr.setCell ⟨R,i,none⟩ (.int .u32 (((x+c+y):Nat):Int))) R (L.set i (x+c+y))):=hR.set i _; have I:Hid (∀ u,Below R w (wr.setCell ⟨R,i,none⟩ u)):=fun u=>Z.setCell leR u; have K:Hid (okL (L.set i (x+c+y))):=okL_set L m i _ (by omega); have J:Hid ((L.set i (x+c+y)).drop (i+1)=A.drop (i+1)):=drop_set_succ L A i _ s; clear H j hx hy hR Z m s; obtain ⟨X,V⟩:∃ X:Int,(x:Int)=X:=⟨_,rfl⟩; have HX:=Hd V; have x1:0≤X:=by omega
     have x2:X<1000000000:=by omega
     rw [V] at D; obtain ⟨C,hC⟩:∃ C:Int,(c:Int)=C:=⟨_,rfl⟩; have HC:=Hd hC; have c1:0≤C:=by omega
     have c2:C≤1:=by omega
     rw [hC]; obtain ⟨Y,hY⟩:∃ Y:Int,(y:Int)=Y:=⟨_,rfl⟩; have HY:=Hd hY; have y1:0≤Y:=by omega
     have y2:Y<1000000000:=by omega
     rw [hY] at hcb; have t1:X+C+Y<1000000000:=by omega
     have M:=(id hov:_); have E:Hid _:=hov; clear V a5 hov hC hY b4 M
     go_wp2
     go_roundw
     case rel=>
      refine ⟨i+1,0,L.set i (x+c+y),by omega,by omega,by simp [U],K.o,?_,J.o,rfl,by go_num,T.o,I.o _⟩; have h:=O.o; rw [show ((((x+c+y)):Nat):Int)=_ from ?_] at h
      ·exact h
      ·have:=E.o; have:=HX.o; have:=HC.o; have:=HY.o; omega
     case measure=>simp [intOf]; omega
   ·have hy:b.getD i 0=0:=by rw [List.getD_eq_getElem?_getD,List.getElem?_eq_none (by omega)]; rfl
    by_cases d3:c=0
    ·subst d3; have hE:=val_from L A i n hi U s (val b) (by rw [Nat.mul_zero,Nat.add_zero,List.take_of_length_le (show b.length≤i by omega)] at j; exact j); have HE:Hid (∃ c' L',Row wr R L'∧L'.length=A.length∧okL L'∧L'.drop n=A.drop n∧c'=0∧val (L'.take n)+1000000000 ^ n*c'=val (A.take n)+val b):=⟨0,L,hR,U,m,by rw [show n=i+(n - i) by omega,← List.drop_drop,← List.drop_drop,s],rfl,by rw [hE]; omega⟩; have b7:=Hd Z; clear hE j hR Z m s hx hy
     go_wp2
     go_ret
     obtain ⟨c',L',e1,e2,e3,e4,rfl,e5⟩:=HE.o; exact ⟨0,L',rfl,e1,e2,e3,e4,by omega,e5,b7.o⟩
    ·obtain rfl:c=1:=by omega
     by_cases hov:1000000000≤x+1
     ·skip
      have H:=into_step (1000000000 ^ i) _ _ _ 1 x 0 (x+1 - 1000000000) 1 j (by omega); have T:Hid (val ((L.set i (x+1 - 1000000000)).take (i+1))+1000000000 ^ (i+1)*1=val (A.take (i+1))+val (b.take (i+1))):=by
       unfold Hid
       rw [val_take_set L i _ (by omega),val_take_succ,val_take_succ,hx,hy,Nat.pow_succ]; exact H
      have b3:=hR.frozen i; have O:Hid (Row (wr.setCell ⟨R,i,none⟩ (.int .u32 (((x+1 - 1000000000):Nat):Int))) R (L.set i (x+1 - 1000000000))):=hR.set i _; have I:Hid (∀ u,Below R w (wr.setCell ⟨R,i,none⟩ u)):=fun u=>Z.setCell leR u; have K:Hid (okL (L.set i (x+1 - 1000000000))):=okL_set L m i _ (by omega); have J:Hid ((L.set i (x+1 - 1000000000)).drop (i+1)=A.drop (i+1)):=drop_set_succ L A i _ s; clear H j hx hy hR Z m s; obtain ⟨X,V⟩:∃ X:Int,(x:Int)=X:=⟨_,rfl⟩; have HX:=Hd V; have x1:0≤X:=by omega
      have x2:X<1000000000:=by omega
      rw [V] at D; have t1:1000000000≤X+1:=by omega
      have M:=(id hov:_); have E:Hid _:=hov; clear V a5 hov M
      go_wp2
      go_roundw
      case rel=>
       refine ⟨i+1,1,L.set i (x+1 - 1000000000),by omega,by omega,by simp [U],K.o,?_,J.o,rfl,by go_num,T.o,I.o _⟩; have h:=O.o; rw [show ((((x+1 - 1000000000)):Nat):Int)=_ from ?_] at h
       ·exact h
       ·have:=E.o; have:=HX.o; omega
      case measure=>simp [intOf]; omega
     ·skip
      have H:=into_step (1000000000 ^ i) _ _ _ 1 x 0 (x+1) 0 j (by omega); have T:Hid (val ((L.set i (x+1)).take (i+1))+1000000000 ^ (i+1)*0=val (A.take (i+1))+val (b.take (i+1))):=by
       unfold Hid
       rw [val_take_set L i _ (by omega),val_take_succ,val_take_succ,hx,hy,Nat.pow_succ]; exact H
      have b3:=hR.frozen i; have O:Hid (Row (wr.setCell ⟨R,i,none⟩ (.int .u32 (((x+1):Nat):Int))) R (L.set i (x+1))):=hR.set i _; have I:Hid (∀ u,Below R w (wr.setCell ⟨R,i,none⟩ u)):=fun u=>Z.setCell leR u; have K:Hid (okL (L.set i (x+1))):=okL_set L m i _ (by omega); have J:Hid ((L.set i (x+1)).drop (i+1)=A.drop (i+1)):=drop_set_succ L A i _ s; clear H j hx hy hR Z m s; obtain ⟨X,V⟩:∃ X:Int,(x:Int)=X:=⟨_,rfl⟩; have HX:=Hd V; have x1:0≤X:=by omega
      have x2:X<1000000000:=by omega
      rw [V] at D; have t1:X+1<1000000000:=by omega
      have M:=(id hov:_); have E:Hid _:=hov; clear V a5 hov M
      go_wp2
      go_roundw
      case rel=>
       refine ⟨i+1,0,L.set i (x+1),by omega,by omega,by simp [U],K.o,?_,J.o,rfl,by go_num,T.o,I.o _⟩; have h:=O.o; rw [show ((((x+1)):Nat):Int)=_ from ?_] at h
       ·exact h
       ·have:=E.o; have:=HX.o; omega
      case measure=>simp [intOf]; omega
  ·obtain rfl:i=n:=by omega
   rw [List.take_of_length_le (show b.length≤i by omega)] at j; have HE:Hid (Row wr R L∧L.length=A.length∧okL L∧L.drop i=A.drop i∧val (L.take i)+1000000000 ^ i*c=val (A.take i)+val b∧Below R w wr):=⟨hR,U,m,s,j,Z⟩; clear j hR Z m s
   go_wp2
   go_ret
   obtain ⟨e1,e2,e3,e4,e5,e6⟩:=HE.o; exact ⟨c,L,rfl,e1,e2,e3,e4,hc,e5,e6⟩
def RowT (w:World) (R:Nat) (l:List Nat):Prop:=∃ tail:List Value,w.heap[R]? = some (.cells (U32s l++tail).toArray 87 (0,0))
theorem Row.tail {w:World} {R:Nat} {l:List Nat} (h:Row w R l):RowT w R l:=⟨[],by rw [List.append_nil]; exact h⟩
theorem RowT.lt {w:World} {R:Nat} {l:List Nat} (h:RowT w R l):R<w.heap.size:=by
 obtain ⟨t,h⟩:=h; exact (Array.getElem?_eq_some_iff.1 h).1
theorem RowT.cell {w:World} {R:Nat} {l:List Nat} (h:RowT w R l) (i:Nat) (hi:i<l.length):w.cell? ⟨R,i,none⟩=some (.int .u32 (l.getD i 0:Nat)):=by
 obtain ⟨t,h⟩:=h; simp [World.cell?,h,List.getElem?_append,hi,List.getD_eq_getElem?_getD]
theorem RowT.frozen {w:World} {R:Nat} {l:List Nat} (h:RowT w R l) (i:Nat):w.frozen? ⟨R,i,none⟩=false:=by
 obtain ⟨t,h⟩:=h; simp [World.frozen?,h]
theorem RowT.set {w:World} {R:Nat} {l:List Nat} (h:RowT w R l) (i x:Nat) (hi:i<l.length):RowT (w.setCell ⟨R,i,none⟩ (.int .u32 (x:Nat))) R (l.set i x):=by
 obtain ⟨t,h⟩:=h; refine ⟨t,?_⟩; obtain ⟨j,hk⟩:=Array.getElem?_eq_some_iff.1 h
 show (w.heap.modify R _)[R]? = _
 rw [Array.getElem?_eq_getElem (by rw [Array.size_modify]; exact j),Array.getElem_modify_self,hk]; simp [U32s,List.map_set,hi]
theorem RowT.isL {w:World} {R B cap:Nat} {l:List Nat} (h:RowT w R l) (hB:B≤R) (hok:okL l) (hc:l.length≤cap) (hm:cap≤maxLen):IsL B w (.slice (some ⟨R,0,none⟩) l.length cap) l:=
 ⟨_,cap,rfl,hc,hm,hok,.inr ⟨R,0,rfl,hB,h.lt,fun i hi=>by rw [Nat.zero_add]; exact h.cell i hi⟩⟩
theorem val_set (l:List Nat) (j x:Nat) (hj:j<l.length):val (l.set j x)+1000000000 ^ j*l.getD j 0=val l+1000000000 ^ j*x:=by
 induction l generalizing j with
 | nil=>simp at hj
 | cons y l ih=>
   cases j with
   | zero=>simp [val]; omega
   | succ j=>
     have h:=ih j (by simpa using hj); simp only [List.set_cons_succ,val,List.getD_cons_succ,Nat.pow_succ,Nat.mul_comm _ 1000000000,Nat.mul_assoc]; omega
theorem scadd_step (P VL VN VA K c x F d c':Nat) (h:VL+P*c=VA+K) (hs:VN+P*x=VL+P*d) (hd:d+1000000000*c'=c+F+x):VN+P*1000000000*c'=VA+(K+P*F):=by
 have j:P*(d+1000000000*c')=P*(c+F+x):=by rw [hd]
 rw [Nat.mul_add,Nat.mul_add,Nat.mul_add,← Nat.mul_assoc] at j; omega
theorem scadd_sum (off i f v y:Nat):1000000000 ^ off*(f*(v+1000000000 ^ i*y))=1000000000 ^ off*(f*v)+1000000000 ^ (off+i)*(f*y):=by
 rw [Nat.mul_add,Nat.mul_add,Nat.pow_add,Nat.mul_left_comm f,Nat.mul_assoc]
theorem addScaled_any (R off cap f:Nat) (vb:Value) (pb:Option Addr) (cb:Nat) (A b:List Nat) (w:World) (hR:RowT w R A) (hAok:okL A) (hn:off+b.length≤A.length) (hA:A.length≤1000000) (hbok:okL b)
 (hvb:vb=.slice pb b.length cb) (_hcap:b.length≤cap) (hf:f<1000000000)
 (hcb:∀ i,i<b.length→∃ c off,pb=some ⟨c,off,none⟩∧c<R∧w.cell? ⟨c,off+i,none⟩=some (.int .u32 (b.getD i 0:Nat))) :
 Calls Tryz.prog 114 #[.slice (some ⟨R,off,none⟩) b.length cap,vb,.int .u64 (f:Nat)] w fun e w'=>∃ c L,e=.returned (.int .u32 (c:Nat))∧RowT w' R L∧L.length=A.length∧okL L∧L.drop (off+b.length)=A.drop (off+b.length)∧c≤f ∧
  val L+1000000000 ^ (off+b.length)*c=val A+1000000000 ^ off*(f*val b)∧Below R w w':=by
 subst hvb; have HB:=Hd hcb; clear hcb
 go_enter Tryz.func114,Tryz.ntmps114
 go_wp2
 go_loopw [7,12] (fun cv iv wr=>∃ (i c:Nat) (L:List Nat),i≤b.length∧c≤f∧L.length=A.length∧okL L∧RowT wr R L∧L.drop (off+i)=A.drop (off+i)∧cv=.int .u64 (c:Nat)∧iv=.int .i64 i ∧
  val L+1000000000 ^ (off+i)*c=val A+1000000000 ^ off*(f*val (b.take i))∧Below R w wr) (fun _ iv _=>b.length - (intOf iv).toNat)
 case atStart=>exact ⟨0,0,A,by omega,by omega,rfl,hAok,hR,rfl,rfl,rfl,by simp [val],Below.refl _ _⟩
 case round=>
  clear hR; obtain ⟨i,c,L,hi,M,K,j,hR,E,rfl,rfl,m,J⟩:=hrel
  by_cases O:i<b.length
  ·have s:=hR.cell (off+i) (by omega); have V:=okL_getD L j (off+i) (by omega); obtain ⟨x,hx⟩:=exW (L.getD (off+i) 0); rw [hx] at V s; obtain ⟨bb,ob,rfl,T,hcb⟩:=HB.o i O; rw [← J.cell (p:=⟨bb,ob+i,none⟩) T] at hcb; have Z:=okL_getD b hbok i O; obtain ⟨y,hy⟩:=exW (b.getD i 0); rw [hy] at hcb Z; obtain ⟨F,hF⟩:=exW (f*y); have b5:F≤f*999999999:=by rw [← hF]; exact Nat.mul_le_mul_left f (by omega)
   have H:=val_set L (off+i) ((c+F+x) % 1000000000) (by omega); rw [hx] at H; have U:=scadd_step (1000000000 ^ (off+i)) _ _ _ _ c x F ((c+F+x) % 1000000000) ((c+F+x) / 1000000000) m H (by omega); have b3:Hid (val (L.set (off+i) ((c+F+x) % 1000000000))+1000000000 ^ (off+(i+1))*((c+F+x) / 1000000000)=val A+1000000000 ^ off*(f*val (b.take (i+1)))):=by
    unfold Hid
    rw [val_take_succ,hy,scadd_sum,hF,← Nat.add_assoc,Nat.pow_succ]; exact U
   have d9:=hR.frozen (off+i); have a9:Hid (RowT (wr.setCell ⟨R,off+i,none⟩ (.int .u32 ((((c+F+x) % 1000000000):Nat):Int))) R (L.set (off+i) ((c+F+x) % 1000000000))):=hR.set (off+i) _ (by omega); have a5:Hid (∀ u,Below R w (wr.setCell ⟨R,off+i,none⟩ u)):=fun u=>J.setCell leR u; have a8:Hid (okL (L.set (off+i) ((c+F+x) % 1000000000))):=okL_set L j (off+i) _ (Nat.mod_lt _ (by decide)); have a7:Hid ((L.set (off+i) ((c+F+x) % 1000000000)).drop (off+(i+1))=A.drop (off+(i+1))):=drop_set_succ L A (off+i) _ E; have a6:Hid ((c+F+x) / 1000000000≤f):=by
    unfold Hid
    omega
   clear U m hx hy hR J j E H; obtain ⟨X,hX⟩:∃ X:Int,(x:Int)=X:=⟨_,rfl⟩; have HX:=Hd hX; have x1:0≤X:=by omega
   have x2:X<1000000000:=by omega
   rw [hX] at s; obtain ⟨C,hC⟩:∃ C:Int,(c:Int)=C:=⟨_,rfl⟩; have HC:=Hd hC; have c1:0≤C:=by omega
   have c2:C<1000000000:=by omega
   rw [hC]; obtain ⟨G,hG⟩:∃ G:Int,(f:Int)=G:=⟨_,rfl⟩; rw [hG]; obtain ⟨Y,hY⟩:∃ Y:Int,(y:Int)=Y:=⟨_,rfl⟩; have D:(F:Int)=G*Y:=by rw [← hF,← hG,← hY]; rfl
   have I:=Hd D; have g1:0≤G*Y:=by rw [← D]; omega
   have g2:G*Y≤999999999000000000:=by rw [← D]; omega
   have y1:0≤Y:=by omega
   have y2:Y<1000000000:=by omega
   rw [hY] at hcb; clear hX V hC hG hY D Z hF b5 M
   go_wp2
   go_roundw
   case rel=>
    refine ⟨i+1,(c+F+x) / 1000000000,L.set (off+i) ((c+F+x) % 1000000000),by omega,a6.o,by simp [K],a8.o,?_,a7.o,?_,by go_num,b3.o,a5.o _⟩
    ·have h:=a9.o; rw [show ((((c+F+x) % 1000000000):Nat):Int)=_ from ?_] at h
     ·exact h
     ·have:=HX.o; have:=HC.o; have:=I.o; omega
    ·congr 1; have:=HX.o; have:=HC.o; have:=I.o; omega
   case measure=>simp [intOf]; omega
  ·obtain rfl:i=b.length:=by omega
   rw [List.take_of_length_le leR] at m; have HE:Hid (RowT wr R L∧L.length=A.length∧okL L∧L.drop (off+b.length)=A.drop (off+b.length)∧val L+1000000000 ^ (off+b.length)*c=val A+1000000000 ^ off*(f*val b)∧Below R w wr):=⟨hR,K,j,E,m,J⟩; clear m hR J j E
   go_wp2
   go_ret
   obtain ⟨e1,e2,e3,e4,e5,e6⟩:=HE.o; exact ⟨c,L,rfl,e1,e2,e3,e4,M,e5,e6⟩
theorem scaled_step (P A Bv La c x y d c' f:Nat) (h:La+f*Bv=A+P*c) (hd:d+(c+f*y)=x+1000000000*c'):La+P*d+f*(Bv+P*y)=A+P*x+P*1000000000*c':=by
 have j:P*(d+(c+f*y))=P*(x+1000000000*c'):=by rw [hd]
 rw [Nat.mul_add,Nat.mul_add,Nat.mul_add,← Nat.mul_assoc,← Nat.mul_assoc] at j; rw [Nat.mul_add,← Nat.mul_assoc,Nat.mul_comm f P]; omega
theorem subScaled_any (R n cap f:Nat) (vb:Value) (pb:Option Addr) (cb:Nat) (A b:List Nat) (w:World) (hR:RowT w R A) (hAok:okL A) (hn:n≤A.length) (hA:A.length≤1000000) (hbn:b.length≤n) (hbok:okL b)
 (hvb:vb=.slice pb b.length cb) (hcap:n≤cap) (hf:f≤1000000000)
 (hcb:∀ i,i<b.length→∃ c off,pb=some ⟨c,off,none⟩∧c<R∧w.cell? ⟨c,off+i,none⟩=some (.int .u32 (b.getD i 0:Nat))) :
 Calls Tryz.prog 106 #[.slice (some ⟨R,0,none⟩) n cap,vb,.int .u64 (f:Nat)] w fun e w'=>∃ c L,e=.returned (.int .u64 (c:Nat))∧RowT w' R L∧L.length=A.length∧okL L∧L.drop n=A.drop n∧c≤f ∧
  val (L.take n)+f*val b=val (A.take n)+1000000000 ^ n*c∧Below R w w':=by
 subst hvb; have HB:=Hd hcb; clear hcb
 go_enter Tryz.func106,Tryz.ntmps106
 go_wp2
 go_loopw [7,12] (fun cv iv wr=>∃ (i c:Nat) (L:List Nat),i≤n∧c≤f∧L.length=A.length∧okL L∧RowT wr R L∧L.drop i=A.drop i∧cv=.int .u64 (c:Nat)∧iv=.int .i64 i ∧
  val (L.take i)+f*val (b.take i)=val (A.take i)+1000000000 ^ i*c∧Below R w wr) (fun _ iv _=>n - (intOf iv).toNat)
 case atStart=>exact ⟨0,0,A,by omega,by omega,rfl,hAok,hR,rfl,rfl,rfl,by simp [val],Below.refl _ _⟩
 case round=>
  clear hR; obtain ⟨i,c,L,hi,b6,a3,s,hR,D,rfl,rfl,j,M⟩:=hrel; have hc:c≤1000000000:=by omega
  by_cases g5:i<n
  ·have E:=hR.cell i (by omega); have hx:=getD_drop L A i D; have b7:=okL_getD A hAok i (by omega); rw [hx] at E; clear hx; obtain ⟨x,hx⟩:=exW (A.getD i 0); rw [hx] at b7 E
   by_cases d3:i<b.length
   ·obtain ⟨bb,ob,rfl,d4,hcb⟩:=HB.o i d3; rw [← M.cell (p:=⟨bb,ob+i,none⟩) d4] at hcb; have d1:=okL_getD b hbok i d3; obtain ⟨y,hy⟩:=exW (b.getD i 0); rw [hy] at hcb d1; obtain ⟨F,hF⟩:=exW (f*y); have d2:F≤f*999999999:=by rw [← hF]; exact Nat.mul_le_mul_left f (by omega)
    by_cases K:x<(c+F) % 1000000000
    ·skip
     have I:=scaled_step (1000000000 ^ i) _ _ _ c x y (x+1000000000 - (c+F) % 1000000000) ((c+F) / 1000000000+1) f j (by rw [hF]; omega); have V:Hid (val ((L.set i (x+1000000000 - (c+F) % 1000000000)).take (i+1))+f*val (b.take (i+1))=val (A.take (i+1))+1000000000 ^ (i+1)*((c+F) / 1000000000+1)):=by
      unfold Hid
      rw [val_take_set L i _ (by omega),val_take_succ,val_take_succ,hx,hy,Nat.pow_succ]; exact I
     have d0:=hR.frozen i; have b5:Hid (∀ u:Nat,RowT ((wr.setCell ⟨R,i,none⟩ (.int .u32 (u:Nat))).setCell ⟨R,i,none⟩ (.int .u32 (((x+1000000000 - (c+F) % 1000000000):Nat):Int))) R (L.set i (x+1000000000 - (c+F) % 1000000000))):=fun u=>by
      have h:=(hR.set i u (by omega)).set i (x+1000000000 - (c+F) % 1000000000) (by simp; omega); rw [List.set_set] at h; exact h
     have b4:Hid (RowT (wr.setCell ⟨R,i,none⟩ (.int .u32 (((x+1000000000 - (c+F) % 1000000000):Nat):Int))) R (L.set i (x+1000000000 - (c+F) % 1000000000))):=hR.set i _ (by omega); have H:Hid (∀ u v,Below R w (wr.setCell ⟨R,i,none⟩ u)∧Below R w ((wr.setCell ⟨R,i,none⟩ u).setCell ⟨R,i,none⟩ v)):=fun u v=>⟨M.setCell leR u,(M.setCell leR u).setCell leR v⟩; have U:Hid (okL (L.set i (x+1000000000 - (c+F) % 1000000000))):=okL_set L s i _ (by omega); have T:Hid ((L.set i (x+1000000000 - (c+F) % 1000000000)).drop (i+1)=A.drop (i+1)):=drop_set_succ L A i _ D; have O:Hid ((c+F) / 1000000000+1≤f):=by
      unfold Hid
      omega
     clear I j hx hy hR M s D; obtain ⟨X,hX⟩:∃ X:Int,(x:Int)=X:=⟨_,rfl⟩; have HX:=Hd hX; have x1:0≤X:=by omega
     have x2:X<1000000000:=by omega
     rw [hX] at E; obtain ⟨C,Z⟩:∃ C:Int,(c:Int)=C:=⟨_,rfl⟩; have HC:=Hd Z; have c1:0≤C:=by omega
     have c2:C≤1000000000:=by omega
     rw [Z]; obtain ⟨G,hG⟩:∃ G:Int,(f:Int)=G:=⟨_,rfl⟩; rw [hG]; obtain ⟨Y,hY⟩:∃ Y:Int,(y:Int)=Y:=⟨_,rfl⟩; have J:(F:Int)=G*Y:=by rw [← hF,← hG,← hY]; rfl
     have a7:=Hd J; have g1:0≤G*Y:=by rw [← J]; omega
     have g2:G*Y≤999999999000000000:=by rw [← J]; omega
     have y1:0≤Y:=by omega
     have y2:Y<1000000000:=by omega
     rw [hY] at hcb; have t1:X<(C+G*Y) % 1000000000:=by omega
     have m:Hid _:=K; clear hX b7 K Z hG hY J d1 hF d2 hc b6
     go_wp2
     go_roundw
     case rel=>
      refine ⟨i+1,(c+F) / 1000000000+1,L.set i (x+1000000000 - (c+F) % 1000000000),by omega,O.o,by simp [a3],U.o,?_,T.o,?_,by go_num,V.o,?_⟩
      ·have h:=b5.o (x+1000000000); rw [show ((((x+1000000000 - (c+F) % 1000000000)):Nat):Int)=_ from ?_,show (((x+1000000000:Nat)):Int)=_ from ?_] at h
       ·exact h
       ·have:=HX.o; have:=HC.o; have:=m.o; have:=a7.o;  omega
       ·have:=HX.o; have:=HC.o; have:=m.o; have:=a7.o;  omega
      ·congr 1; have:=HX.o; have:=HC.o; have:=m.o; have:=a7.o;  omega
      ·first|exact (H.o _ (.bool true)).1|exact (H.o _ _).2
     case measure=>simp [intOf]; omega
    ·skip
     have I:=scaled_step (1000000000 ^ i) _ _ _ c x y (x - (c+F) % 1000000000) ((c+F) / 1000000000) f j (by rw [hF]; omega); have V:Hid (val ((L.set i (x - (c+F) % 1000000000)).take (i+1))+f*val (b.take (i+1))=val (A.take (i+1))+1000000000 ^ (i+1)*((c+F) / 1000000000)):=by
      unfold Hid
      rw [val_take_set L i _ (by omega),val_take_succ,val_take_succ,hx,hy,Nat.pow_succ]; exact I
     have d0:=hR.frozen i; have b5:Hid (∀ u:Nat,RowT ((wr.setCell ⟨R,i,none⟩ (.int .u32 (u:Nat))).setCell ⟨R,i,none⟩ (.int .u32 (((x - (c+F) % 1000000000):Nat):Int))) R (L.set i (x - (c+F) % 1000000000))):=fun u=>by
      have h:=(hR.set i u (by omega)).set i (x - (c+F) % 1000000000) (by simp; omega); rw [List.set_set] at h; exact h
     have b4:Hid (RowT (wr.setCell ⟨R,i,none⟩ (.int .u32 (((x - (c+F) % 1000000000):Nat):Int))) R (L.set i (x - (c+F) % 1000000000))):=hR.set i _ (by omega); have H:Hid (∀ u v,Below R w (wr.setCell ⟨R,i,none⟩ u)∧Below R w ((wr.setCell ⟨R,i,none⟩ u).setCell ⟨R,i,none⟩ v)):=fun u v=>⟨M.setCell leR u,(M.setCell leR u).setCell leR v⟩; have U:Hid (okL (L.set i (x - (c+F) % 1000000000))):=okL_set L s i _ (by omega); have T:Hid ((L.set i (x - (c+F) % 1000000000)).drop (i+1)=A.drop (i+1)):=drop_set_succ L A i _ D; have O:Hid ((c+F) / 1000000000≤f):=by
      unfold Hid
      omega
     clear I j hx hy hR M s D; obtain ⟨X,hX⟩:∃ X:Int,(x:Int)=X:=⟨_,rfl⟩; have HX:=Hd hX; have x1:0≤X:=by omega
     have x2:X<1000000000:=by omega
     rw [hX] at E; obtain ⟨C,Z⟩:∃ C:Int,(c:Int)=C:=⟨_,rfl⟩; have HC:=Hd Z; have c1:0≤C:=by omega
     have c2:C≤1000000000:=by omega
     rw [Z]; obtain ⟨G,hG⟩:∃ G:Int,(f:Int)=G:=⟨_,rfl⟩; rw [hG]; obtain ⟨Y,hY⟩:∃ Y:Int,(y:Int)=Y:=⟨_,rfl⟩; have J:(F:Int)=G*Y:=by rw [← hF,← hG,← hY]; rfl
     have a7:=Hd J; have g1:0≤G*Y:=by rw [← J]; omega
     have g2:G*Y≤999999999000000000:=by rw [← J]; omega
     have y1:0≤Y:=by omega
     have y2:Y<1000000000:=by omega
     rw [hY] at hcb; have t1:(C+G*Y) % 1000000000≤X:=by omega
     have m:Hid _:=K; clear hX b7 K Z hG hY J d1 hF d2 hc b6
     go_wp2
     go_roundw
     case rel=>
      refine ⟨i+1,(c+F) / 1000000000,L.set i (x - (c+F) % 1000000000),by omega,O.o,by simp [a3],U.o,?_,T.o,?_,by go_num,V.o,?_⟩
      ·have h:=b4.o; rw [show ((((x - (c+F) % 1000000000)):Nat):Int)=_ from ?_] at h
       ·exact h
       ·have:=HX.o; have:=HC.o; have:=m.o; have:=a7.o;  omega
      ·congr 1; have:=HX.o; have:=HC.o; have:=m.o; have:=a7.o;  omega
      ·first|exact (H.o _ (.bool true)).1|exact (H.o _ _).2
     case measure=>simp [intOf]; omega
   ·have hy:b.getD i 0=0:=by rw [List.getD_eq_getElem?_getD,List.getElem?_eq_none (by omega)]; rfl
    by_cases c9:c=0
    ·subst c9; have hE:val (L.take n)+f*val b=val (A.take n):=by
      rw [Nat.mul_zero,Nat.add_zero,List.take_of_length_le (show b.length≤i by omega)] at j; exact (val_from A L i n hi a3.symm D.symm (f*val b) j.symm).symm
     have HE:Hid (RowT wr R L∧L.length=A.length∧okL L∧L.drop n=A.drop n∧val (L.take n)+f*val b=val (A.take n)+1000000000 ^ n*0∧Below R w wr):=⟨hR,a3,s,by rw [show n=i+(n - i) by omega,← List.drop_drop,← List.drop_drop,D],by rw [hE,Nat.mul_zero,Nat.add_zero],M⟩; clear hE j hR M s D hx hy
     go_wp2
     go_ret
     obtain ⟨e1,e2,e3,e4,e5,e6⟩:=HE.o; exact ⟨0,L,rfl,e1,e2,e3,e4,by omega,e5,e6⟩
    ·by_cases K:x<c % 1000000000
     ·skip
      have I:=scaled_step (1000000000 ^ i) _ _ _ c x 0 (x+1000000000 - c % 1000000000) (c / 1000000000+1) f j (by rw [Nat.mul_zero]; omega); have V:Hid (val ((L.set i (x+1000000000 - c % 1000000000)).take (i+1))+f*val (b.take (i+1))=val (A.take (i+1))+1000000000 ^ (i+1)*(c / 1000000000+1)):=by
       unfold Hid
       rw [val_take_set L i _ (by omega),val_take_succ,val_take_succ,hx,hy,Nat.pow_succ]; exact I
      have d0:=hR.frozen i; have b5:Hid (∀ u:Nat,RowT ((wr.setCell ⟨R,i,none⟩ (.int .u32 (u:Nat))).setCell ⟨R,i,none⟩ (.int .u32 (((x+1000000000 - c % 1000000000):Nat):Int))) R (L.set i (x+1000000000 - c % 1000000000))):=fun u=>by
       have h:=(hR.set i u (by omega)).set i (x+1000000000 - c % 1000000000) (by simp; omega); rw [List.set_set] at h; exact h
      have b4:Hid (RowT (wr.setCell ⟨R,i,none⟩ (.int .u32 (((x+1000000000 - c % 1000000000):Nat):Int))) R (L.set i (x+1000000000 - c % 1000000000))):=hR.set i _ (by omega); have H:Hid (∀ u v,Below R w (wr.setCell ⟨R,i,none⟩ u)∧Below R w ((wr.setCell ⟨R,i,none⟩ u).setCell ⟨R,i,none⟩ v)):=fun u v=>⟨M.setCell leR u,(M.setCell leR u).setCell leR v⟩; have U:Hid (okL (L.set i (x+1000000000 - c % 1000000000))):=okL_set L s i _ (by omega); have T:Hid ((L.set i (x+1000000000 - c % 1000000000)).drop (i+1)=A.drop (i+1)):=drop_set_succ L A i _ D; have O:Hid (c / 1000000000+1≤f):=by
       unfold Hid
       omega
      clear I j hx hy hR M s D; obtain ⟨X,hX⟩:∃ X:Int,(x:Int)=X:=⟨_,rfl⟩; have HX:=Hd hX; have x1:0≤X:=by omega
      have x2:X<1000000000:=by omega
      rw [hX] at E; obtain ⟨C,Z⟩:∃ C:Int,(c:Int)=C:=⟨_,rfl⟩; have HC:=Hd Z; have c1:0≤C:=by omega
      have c2:C≤1000000000:=by omega
      rw [Z]; obtain ⟨G,hG⟩:∃ G:Int,(f:Int)=G:=⟨_,rfl⟩; rw [hG]; have t1:X<C % 1000000000:=by omega
      have m:Hid _:=K; have t2:0<C:=by omega
      clear hX b7 K Z hG c9 hc b6
      go_wp2
      go_roundw
      case rel=>
       refine ⟨i+1,c / 1000000000+1,L.set i (x+1000000000 - c % 1000000000),by omega,O.o,by simp [a3],U.o,?_,T.o,?_,by go_num,V.o,?_⟩
       ·have h:=b5.o (x+1000000000); rw [show ((((x+1000000000 - c % 1000000000)):Nat):Int)=_ from ?_,show (((x+1000000000:Nat)):Int)=_ from ?_] at h
        ·exact h
        ·have:=HX.o; have:=HC.o; have:=m.o;  omega
        ·have:=HX.o; have:=HC.o; have:=m.o;  omega
       ·congr 1; have:=HX.o; have:=HC.o; have:=m.o;  omega
       ·first|exact (H.o _ (.bool true)).1|exact (H.o _ _).2
      case measure=>simp [intOf]; omega
     ·skip
      have I:=scaled_step (1000000000 ^ i) _ _ _ c x 0 (x - c % 1000000000) (c / 1000000000) f j (by rw [Nat.mul_zero]; omega); have V:Hid (val ((L.set i (x - c % 1000000000)).take (i+1))+f*val (b.take (i+1))=val (A.take (i+1))+1000000000 ^ (i+1)*(c / 1000000000)):=by
       unfold Hid
       rw [val_take_set L i _ (by omega),val_take_succ,val_take_succ,hx,hy,Nat.pow_succ]; exact I
      have d0:=hR.frozen i; have b5:Hid (∀ u:Nat,RowT ((wr.setCell ⟨R,i,none⟩ (.int .u32 (u:Nat))).setCell ⟨R,i,none⟩ (.int .u32 (((x - c % 1000000000):Nat):Int))) R (L.set i (x - c % 1000000000))):=fun u=>by
       have h:=(hR.set i u (by omega)).set i (x - c % 1000000000) (by simp; omega); rw [List.set_set] at h; exact h
      have b4:Hid (RowT (wr.setCell ⟨R,i,none⟩ (.int .u32 (((x - c % 1000000000):Nat):Int))) R (L.set i (x - c % 1000000000))):=hR.set i _ (by omega); have H:Hid (∀ u v,Below R w (wr.setCell ⟨R,i,none⟩ u)∧Below R w ((wr.setCell ⟨R,i,none⟩ u).setCell ⟨R,i,none⟩ v)):=fun u v=>⟨M.setCell leR u,(M.setCell leR u).setCell leR v⟩; have U:Hid (okL (L.set i (x - c % 1000000000))):=okL_set L s i _ (by omega); have T:Hid ((L.set i (x - c % 1000000000)).drop (i+1)=A.drop (i+1)):=drop_set_succ L A i _ D; have O:Hid (c / 1000000000≤f):=by
       unfold Hid
       omega
      clear I j hx hy hR M s D; obtain ⟨X,hX⟩:∃ X:Int,(x:Int)=X:=⟨_,rfl⟩; have HX:=Hd hX; have x1:0≤X:=by omega
      have x2:X<1000000000:=by omega
      rw [hX] at E; obtain ⟨C,Z⟩:∃ C:Int,(c:Int)=C:=⟨_,rfl⟩; have HC:=Hd Z; have c1:0≤C:=by omega
      have c2:C≤1000000000:=by omega
      rw [Z]; obtain ⟨G,hG⟩:∃ G:Int,(f:Int)=G:=⟨_,rfl⟩; rw [hG]; have t1:C % 1000000000≤X:=by omega
      have m:Hid _:=K; have t2:0<C:=by omega
      clear hX b7 K Z hG c9 hc b6
      go_wp2
      go_roundw
      case rel=>
       refine ⟨i+1,c / 1000000000,L.set i (x - c % 1000000000),by omega,O.o,by simp [a3],U.o,?_,T.o,?_,by go_num,V.o,?_⟩
       ·have h:=b4.o; rw [show ((((x - c % 1000000000)):Nat):Int)=_ from ?_] at h
        ·exact h
        ·have:=HX.o; have:=HC.o; have:=m.o;  omega
       ·congr 1; have:=HX.o; have:=HC.o; have:=m.o;  omega
       ·first|exact (H.o _ (.bool true)).1|exact (H.o _ _).2
      case measure=>simp [intOf]; omega
  ·obtain rfl:i=n:=by omega
   rw [List.take_of_length_le (show b.length≤i by omega)] at j; have HE:Hid (RowT wr R L∧L.length=A.length∧okL L∧L.drop i=A.drop i∧val (L.take i)+f*val b=val (A.take i)+1000000000 ^ i*c∧Below R w wr):=⟨hR,a3,s,D,j,M⟩; clear j hR M s D
   go_wp2
   go_ret
   obtain ⟨e1,e2,e3,e4,e5,e6⟩:=HE.o; exact ⟨c,L,rfl,e1,e2,e3,e4,b6,e5,e6⟩
theorem sub_step (P A Bv La c x y d c':Nat) (h:La+Bv=A+P*c) (hd:d+c+y=x+1000000000*c'):La+P*d+(Bv+P*y)=A+P*x+P*1000000000*c':=by
 have j:P*(d+c+y)=P*(x+1000000000*c'):=by rw [hd]
 rw [Nat.mul_add,Nat.mul_add,Nat.mul_add,← Nat.mul_assoc] at j; omega
theorem sub_end (P c A Bv V:Nat) (h:V+Bv=A+P*c) (hV:V<P) (hB:Bv≤A):V+Bv=A:=by
 cases c with
 | zero=>rw [Nat.mul_zero] at h; omega
 | succ c=>
   rw [Nat.mul_succ] at h; generalize P*c=X at h; omega
theorem l1SubD_any (B:Nat) (va vb:Value) (a b:List Nat) (w:World) (ha:IsL B w va a) (hb:IsL B w vb b) (hla:a.length≤1000000) (hlb:b.length≤a.length) (hle:val b≤val a) :
 Calls Tryz.prog 94 #[va,vb] w fun e w'=>∃ v L,e=.returned v∧IsL w.heap.size w' v L∧val L+val b=val a∧Up w w':=by
 obtain ⟨i0,b4,d1,d2,d3⟩:=info_parts Tryz.info_u32; obtain ⟨pa,ca,rfl,_⟩:=id ha; obtain ⟨pb,cb,rfl,_⟩:=id hb; obtain ⟨_,_,_,a5,U⟩:=ha.cells; obtain ⟨_,_,_,a6,V⟩:=hb.cells; have HA:=Hd U; have HB:=Hd V; have b9:=Hd hle; clear U V ha hb hle
 go_enter Tryz.func94,Tryz.ntmps94
 go_wp2_with (at_make; refine wpList_make_full _ rfl _ _ 51 rfl w.heap.size 87 i0 (.int .u32 0) 1 Tryz.underlying51 b4 d1 d2 .i64 .i64 _ _ a.length rfl rfl ?m0 ?m1 ?m2 ?m3 ?m4 ?_)
 try (case m0=>first|rfl|omega)
 try (case m1=>first|rfl|omega)
 try (case m2=>(first|omega|(rw [d3]; omega)))
 try (case m3=>(unfold maxLen; omega))
 try (case m4=>exact leR)
 intro w1 M a8
 first|rw [made_zero] at M|rw [made_zero'] at M
 have D:Row w1 w.heap.size (List.replicate a.length 0):=row_of_full M; have a3:Up w w1:=(Below.refl _ _).grown a8 leR (fun k h=>by cases h); clear M a8
 go_wp2
 go_loopw [6,14] (fun cv iv wr=>∃ (i c:Nat) (L:List Nat),i≤a.length∧c≤1∧L.length=a.length∧okL L∧Row wr w.heap.size L∧cv=.int .i64 (c:Nat)∧iv=.int .i64 i ∧
  val (L.take i)+val (b.take i)=val (a.take i)+1000000000 ^ i*c∧Up w wr) (fun _ iv _=>a.length - (intOf iv).toNat)
 case atStart=>exact ⟨0,0,_,by omega,by omega,by simp,fun x hx=>by rw [List.eq_of_mem_replicate hx]; omega,D,rfl,rfl,by simp [val],a3⟩
 case round=>
  clear D a3; obtain ⟨i,c,L,hi,hc,T,j,D,rfl,rfl,m,O⟩:=hrel
  by_cases b3:i<a.length
  ·obtain ⟨ba,oa,rfl,b5,U⟩:=HA.o i b3; rw [← O.cell (p:=⟨ba,oa+i,none⟩) b5] at U; have c9:=okL_getD a a5 i b3; obtain ⟨x,hx⟩:=exW (a.getD i 0); rw [hx] at U c9
   by_cases a9:i<b.length
   ·obtain ⟨bb,ob,rfl,b6,V⟩:=HB.o i a9; rw [← O.cell (p:=⟨bb,ob+i,none⟩) b6] at V; have d0:=okL_getD b a6 i a9; obtain ⟨y,hy⟩:=exW (b.getD i 0); rw [hy] at V d0
    by_cases a7:x<c+y
    ·have s:=sub_step (1000000000 ^ i) _ _ _ c x y (x+1000000000 - c - y) 1 m (by omega); have J:Hid (val ((L.set i (x+1000000000 - c - y)).take (i+1))+val (b.take (i+1))=val (a.take (i+1))+1000000000 ^ (i+1)*1):=by
      unfold Hid
      rw [val_take_set L i _ (by omega),val_take_succ,val_take_succ,hx,hy,Nat.pow_succ]; exact s
     have K:=D.cell i (by omega); have Z:=D.frozen i; have I:Hid (Row (wr.setCell ⟨w.heap.size,i,none⟩ (.int .u32 (((x+1000000000 - c - y):Nat):Int))) w.heap.size (L.set i (x+1000000000 - c - y))):=D.set i _; have E:Hid (∀ u,Up w (wr.setCell ⟨w.heap.size,i,none⟩ u)):=fun u=>O.setCell leR u; have H:Hid (okL (L.set i (x+1000000000 - c - y))):=okL_set L j i _ (by omega); clear s m hx hy D O j
     go_wp2
     go_roundw
     case rel=>
      refine ⟨i+1,1,L.set i (x+1000000000 - c - y),by omega,by omega,by simp [T],H.o,?_,rfl,by go_num,J.o,E.o _⟩; have h:=I.o; rw [show ((((x+1000000000 - c - y)):Nat):Int)=_ from ?_] at h
      ·exact h
      ·omega
     case measure=>simp [intOf]; omega
    ·have s:=sub_step (1000000000 ^ i) _ _ _ c x y (x - c - y) 0 m (by omega); have J:Hid (val ((L.set i (x - c - y)).take (i+1))+val (b.take (i+1))=val (a.take (i+1))+1000000000 ^ (i+1)*0):=by
      unfold Hid
      rw [val_take_set L i _ (by omega),val_take_succ,val_take_succ,hx,hy,Nat.pow_succ]; exact s
     have K:=D.cell i (by omega); have Z:=D.frozen i; have I:Hid (Row (wr.setCell ⟨w.heap.size,i,none⟩ (.int .u32 (((x - c - y):Nat):Int))) w.heap.size (L.set i (x - c - y))):=D.set i _; have E:Hid (∀ u,Up w (wr.setCell ⟨w.heap.size,i,none⟩ u)):=fun u=>O.setCell leR u; have H:Hid (okL (L.set i (x - c - y))):=okL_set L j i _ (by omega); clear s m hx hy D O j
     go_wp2
     go_roundw
     case rel=>
      refine ⟨i+1,0,L.set i (x - c - y),by omega,by omega,by simp [T],H.o,?_,rfl,by go_num,J.o,E.o _⟩; have h:=I.o; rw [show ((((x - c - y)):Nat):Int)=_ from ?_] at h
      ·exact h
      ·omega
     case measure=>simp [intOf]; omega
   ·have Y:b.getD i 0=0:=by rw [List.getD_eq_getElem?_getD,List.getElem?_eq_none (by omega)]; rfl
    by_cases a7:x<c
    ·have s:=sub_step (1000000000 ^ i) _ _ _ c x 0 (x+1000000000 - c) 1 m (by omega); have J:Hid (val ((L.set i (x+1000000000 - c)).take (i+1))+val (b.take (i+1))=val (a.take (i+1))+1000000000 ^ (i+1)*1):=by
      unfold Hid
      rw [val_take_set L i _ (by omega),val_take_succ,val_take_succ,hx,Y,Nat.pow_succ]; exact s
     have K:=D.cell i (by omega); have Z:=D.frozen i; have I:Hid (Row (wr.setCell ⟨w.heap.size,i,none⟩ (.int .u32 (((x+1000000000 - c):Nat):Int))) w.heap.size (L.set i (x+1000000000 - c))):=D.set i _; have E:Hid (∀ u,Up w (wr.setCell ⟨w.heap.size,i,none⟩ u)):=fun u=>O.setCell leR u; have H:Hid (okL (L.set i (x+1000000000 - c))):=okL_set L j i _ (by omega); clear s m hx Y D O j
     go_wp2
     go_roundw
     case rel=>
      refine ⟨i+1,1,L.set i (x+1000000000 - c),by omega,by omega,by simp [T],H.o,?_,rfl,by go_num,J.o,E.o _⟩; have h:=I.o; rw [show ((((x+1000000000 - c)):Nat):Int)=_ from ?_] at h
      ·exact h
      ·omega
     case measure=>simp [intOf]; omega
    ·have s:=sub_step (1000000000 ^ i) _ _ _ c x 0 (x - c) 0 m (by omega); have J:Hid (val ((L.set i (x - c)).take (i+1))+val (b.take (i+1))=val (a.take (i+1))+1000000000 ^ (i+1)*0):=by
      unfold Hid
      rw [val_take_set L i _ (by omega),val_take_succ,val_take_succ,hx,Y,Nat.pow_succ]; exact s
     have K:=D.cell i (by omega); have Z:=D.frozen i; have I:Hid (Row (wr.setCell ⟨w.heap.size,i,none⟩ (.int .u32 (((x - c):Nat):Int))) w.heap.size (L.set i (x - c))):=D.set i _; have E:Hid (∀ u,Up w (wr.setCell ⟨w.heap.size,i,none⟩ u)):=fun u=>O.setCell leR u; have H:Hid (okL (L.set i (x - c))):=okL_set L j i _ (by omega); clear s m hx Y D O j
     go_wp2
     go_roundw
     case rel=>
      refine ⟨i+1,0,L.set i (x - c),by omega,by omega,by simp [T],H.o,?_,rfl,by go_num,J.o,E.o _⟩; have h:=I.o; rw [show ((((x - c)):Nat):Int)=_ from ?_] at h
      ·exact h
      ·omega
     case measure=>simp [intOf]; omega
  ·obtain rfl:i=a.length:=by omega
   have hE:=sub_end (1000000000 ^ a.length) c _ _ _ m (by rw [List.take_of_length_le (by omega)]; exact val_lt_of L j _ (by omega)) (by rw [List.take_of_length_le (by omega),List.take_of_length_le (by omega)]; exact b9.o); rw [List.take_of_length_le (by omega),List.take_of_length_le (by omega),List.take_of_length_le (by omega)] at hE; have HE:=Hd hE; have HL:Hid (IsL w.heap.size wr (.slice (some ⟨w.heap.size,0,none⟩) a.length a.length) L):=by
    have:=D.isL (B:=w.heap.size) (cap:=a.length) leR j (by omega) (by unfold maxLen; omega); rw [T] at this; exact this
   have b8:=Hd O; clear hE m D O j
   go_wp2
   go_ret
   exact ⟨_,L,rfl,HL.o,HE.o,b8.o⟩
end Go.Proofs.YtknfmkeipeikkaaGreatDoor
