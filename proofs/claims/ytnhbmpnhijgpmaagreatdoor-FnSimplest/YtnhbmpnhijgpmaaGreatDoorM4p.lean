import Derived.Test.YtnhbmpnhijgpmaaGreatDoorM2p
import Derived.Test.YtnhbmpnhijgpmaaGreatDoorReadImplp
set_option maxRecDepth 100000
set_option maxHeartbeats 2000000
namespace Go.Proofs.YtnhbmpnhijgpmaaGreatDoor
open Go.ChangeShapes Go.WideShapes Go.ChangeAt Go.RowKit
theorem limb_step (P s:Nat):P*(s % 1000000000)+P*1000000000*(s / 1000000000)=P*s:=by
 rw [Nat.mul_assoc,← Nat.mul_add,Nat.add_comm,Nat.div_add_mod]
theorem made_zero' (n:Nat):(madeCells #[Value.int .u32 0] n).toList=U32s (List.replicate n 0):=by
 rw [toList_madeCells_one]; simp [U32s]
theorem okL_getD (t:List Nat) (h:okL t) (i:Nat) (hi:i<t.length):t.getD i 0<1000000000:=by
 rw [List.getD_eq_getElem?_getD,List.getElem?_eq_getElem hi]; exact h _ (List.getElem_mem _)
theorem add_step (P A Bv La c x y:Nat) (h:La+P*c=A+Bv):La+P*((c+x+y) % 1000000000)+P*1000000000*((c+x+y) / 1000000000)=A+P*x+(Bv+P*y):=by
 have i:=limb_step P (c+x+y); rw [Nat.mul_add,Nat.mul_add] at i; omega
theorem add_end (P Q c A Bv V:Nat) (hQ:Q=P*1000000000) (h:V+Q*c=A+Bv) (hA:A<P) (hB:Bv<P):V=A+Bv:=by
 cases c with
 | zero=>rw [Nat.mul_zero] at h; omega
 | succ c=>
   rw [Nat.mul_succ] at h; generalize Q*c=X at h; omega
theorem val_lt_of (a:List Nat) (h:okL a) (n:Nat) (hn:a.length≤n):val a<1000000000 ^ n:=Nat.lt_of_lt_of_le (val_lt a h) (Nat.pow_le_pow_right (by decide) hn)
theorem l1AddD_any (B:Nat) (va vb:Value) (a b:List Nat) (w:World) (ha:IsL B w va a) (hb:IsL B w vb b) (hla:a.length≤1000000) (hlb:b.length≤1000000) :
 Calls Tryz.prog 90 #[va,vb] w fun e w'=>∃ v L,e=.returned v∧IsL w.heap.size w' v L∧val L=val a+val b∧Up w w':=by
 obtain ⟨i0,b5,c7,c8,c9⟩:=info_parts Tryz.info_u32; obtain ⟨pa,ca,rfl,_⟩:=id ha; obtain ⟨pb,cb,rfl,_⟩:=id hb; obtain ⟨_,_,_,U,K⟩:=ha.cells; obtain ⟨_,_,_,V,M⟩:=hb.cells; have HA:=Hd K; have HB:=Hd M; clear K M ha hb
 by_cases hl:a.length<b.length
 ·have z:decide ((a.length:Int)<b.length)=true:=by rw [decide_eq_true_iff]; omega
  go_enter Tryz.func90,Tryz.ntmps90
  go_wp2_with (at_make; refine wpList_make_full _ rfl _ _ 47 rfl w.heap.size 85 i0 (.int .u32 0) 1 Tryz.underlying47 b5 c7 c8 .i64 .i64 _ _ (b.length+1) rfl rfl ?pm0 ?pm1 ?pm2 ?pm3 ?pm4 ?_)
  try (case pm0=>omega)
  try (case pm1=>omega)
  try (case pm2=>(first|omega|(rw [c9]; omega)))
  try (case pm3=>(unfold maxLen; omega))
  try (case pm4=>exact leR)
  intro w1 F a6
  first|rw [made_zero] at F|rw [made_zero'] at F
  have E:Row w1 w.heap.size (List.replicate (b.length+1) 0):=row_of_full F; have a3:Up w w1:=(Below.refl _ _).grown a6 leR (fun k h=>by cases h); clear F a6
  go_wp2
  go_loopw [7,8] (fun cv iv wr=>∃ (i c:Nat) (L:List Nat),i≤b.length+1∧c≤1∧L.length=b.length+1∧okL L∧Row wr w.heap.size L∧cv=.int .u64 (c:Nat)∧iv=.int .i64 i ∧
   val (L.take i)+1000000000 ^ i*c=val (a.take i)+val (b.take i)∧Up w wr) (fun _ iv _=>b.length+1 - (intOf iv).toNat)
  case atStart=>exact ⟨0,0,_,by omega,by omega,by simp,fun x hx=>by rw [List.eq_of_mem_replicate hx]; omega,E,rfl,rfl,by simp [val],a3⟩
  case round=>
   clear E a3; obtain ⟨i,c,L,hi,hc,S,m,E,rfl,rfl,t,J⟩:=hrel
   by_cases d7:i≤b.length
   ·by_cases Z:i<a.length
    ·by_cases T:i<b.length
     ·obtain ⟨ba,oa,rfl,W,K⟩:=HA.o i Z; rw [← J.cell (p:=⟨ba,oa+i,none⟩) W] at K; have a9:=okL_getD a U i Z; obtain ⟨bb,ob,rfl,Y,M⟩:=HB.o i T; rw [← J.cell (p:=⟨bb,ob+i,none⟩) Y] at M; have b4:=okL_getD b V i T; have j:=add_step (1000000000 ^ i) _ _ _ c (a.getD i 0) (b.getD i 0) t; rw [← val_take_succ,← val_take_succ] at j; obtain ⟨x,hx⟩:=exW (a.getD i 0); rw [hx] at K a9 j; obtain ⟨y,hy⟩:=exW (b.getD i 0); rw [hy] at M b4 j; have D:Hid (val ((L.set i ((c+x+y) % 1000000000)).take (i+1))+1000000000 ^ (i+1)*((c+x+y) / 1000000000)=val (a.take (i+1))+val (b.take (i+1))):=by
       unfold Hid
       rw [val_take_set L i _ (by omega),Nat.pow_succ]; exact j
      clear j t hx hy; obtain ⟨s,Q⟩:=exW (c+x+y); have a7:s<2000000000:=by omega
      rw [Q] at D; have O:=E.cell i (by omega); have a5:=E.frozen i; have I:Hid (Row (wr.setCell ⟨w.heap.size,i,none⟩ (.int .u32 ((s % 1000000000:Nat):Int))) w.heap.size (L.set i (s % 1000000000))):=E.set i _; have G:Hid (∀ u,Up w (wr.setCell ⟨w.heap.size,i,none⟩ u)):=fun u=>J.setCell leR u; have H:Hid (okL (L.set i (s % 1000000000))):=okL_set L m i _ (Nat.mod_lt _ (by decide)); have A:=Hd Q; clear E J Q m
      go_wp2
      go_roundw
      case rel=>
       refine ⟨i+1,s / 1000000000,L.set i (s % 1000000000),by omega,by omega,by simp [S],H.o,?_,val_int (by rw [← A.o]; simp),by go_num,D.o,G.o _⟩; have h:=I.o; rw [← A.o] at h ⊢
       simpa using h
      case measure=>simp [intOf]; omega
     ·exfalso; omega
    ·by_cases T:i<b.length
     ·have a8:a.getD i 0=0:=by rw [List.getD_eq_getElem?_getD,List.getElem?_eq_none (by omega)]; rfl
      obtain ⟨bb,ob,rfl,Y,M⟩:=HB.o i T; rw [← J.cell (p:=⟨bb,ob+i,none⟩) Y] at M; have b4:=okL_getD b V i T; have j:=add_step (1000000000 ^ i) _ _ _ c (a.getD i 0) (b.getD i 0) t; rw [← val_take_succ,← val_take_succ] at j; rw [a8,Nat.add_zero] at j; obtain ⟨y,hy⟩:=exW (b.getD i 0); rw [hy] at M b4 j; have D:Hid (val ((L.set i ((c+y) % 1000000000)).take (i+1))+1000000000 ^ (i+1)*((c+y) / 1000000000)=val (a.take (i+1))+val (b.take (i+1))):=by
       unfold Hid
       rw [val_take_set L i _ (by omega),Nat.pow_succ]; exact j
      clear j t hy; obtain ⟨s,Q⟩:=exW (c+y); have a7:s<2000000000:=by omega
      rw [Q] at D; have O:=E.cell i (by omega); have a5:=E.frozen i; have I:Hid (Row (wr.setCell ⟨w.heap.size,i,none⟩ (.int .u32 ((s % 1000000000:Nat):Int))) w.heap.size (L.set i (s % 1000000000))):=E.set i _; have G:Hid (∀ u,Up w (wr.setCell ⟨w.heap.size,i,none⟩ u)):=fun u=>J.setCell leR u; have H:Hid (okL (L.set i (s % 1000000000))):=okL_set L m i _ (Nat.mod_lt _ (by decide)); have A:=Hd Q; clear E J Q m
      go_wp2
      go_roundw
      case rel=>
       refine ⟨i+1,s / 1000000000,L.set i (s % 1000000000),by omega,by omega,by simp [S],H.o,?_,val_int (by rw [← A.o]; simp),by go_num,D.o,G.o _⟩; have h:=I.o; rw [← A.o] at h ⊢
       simpa using h
      case measure=>simp [intOf]; omega
     ·have a8:a.getD i 0=0:=by rw [List.getD_eq_getElem?_getD,List.getElem?_eq_none (by omega)]; rfl
      have b3:b.getD i 0=0:=by rw [List.getD_eq_getElem?_getD,List.getElem?_eq_none (by omega)]; rfl
      have j:=add_step (1000000000 ^ i) _ _ _ c (a.getD i 0) (b.getD i 0) t; rw [← val_take_succ,← val_take_succ] at j; rw [a8,Nat.add_zero] at j; rw [b3,Nat.add_zero] at j; have D:Hid (val ((L.set i ((c) % 1000000000)).take (i+1))+1000000000 ^ (i+1)*((c) / 1000000000)=val (a.take (i+1))+val (b.take (i+1))):=by
       unfold Hid
       rw [val_take_set L i _ (by omega),Nat.pow_succ]; exact j
      clear j t; obtain ⟨s,Q⟩:=exW c; have a7:s<2000000000:=by omega
      rw [Q] at D; have O:=E.cell i (by omega); have a5:=E.frozen i; have I:Hid (Row (wr.setCell ⟨w.heap.size,i,none⟩ (.int .u32 ((s % 1000000000:Nat):Int))) w.heap.size (L.set i (s % 1000000000))):=E.set i _; have G:Hid (∀ u,Up w (wr.setCell ⟨w.heap.size,i,none⟩ u)):=fun u=>J.setCell leR u; have H:Hid (okL (L.set i (s % 1000000000))):=okL_set L m i _ (Nat.mod_lt _ (by decide)); have A:=Hd Q; clear E J Q m
      go_wp2
      go_roundw
      case rel=>
       refine ⟨i+1,s / 1000000000,L.set i (s % 1000000000),by omega,by omega,by simp [S],H.o,?_,val_int (by rw [← A.o]; simp),by go_num,D.o,G.o _⟩; have h:=I.o; rw [← A.o] at h ⊢
       simpa using h
      case measure=>simp [intOf]; omega
   ·obtain rfl:i=b.length+1:=by omega
    have hE:=add_end (1000000000 ^ (b.length)) _ c _ _ _ (Nat.pow_succ ..) t (by rw [List.take_of_length_le (by omega)]; exact val_lt_of a U _ (by omega)) (by rw [List.take_of_length_le (by omega)]; exact val_lt_of b V _ (by omega)); rw [List.take_of_length_le (by omega),List.take_of_length_le (by omega),List.take_of_length_le (by omega)] at hE; have HE:=Hd hE; have HL:Hid (IsL w.heap.size wr (.slice (some ⟨w.heap.size,0,none⟩) (b.length+1) (b.length+1)) L):=by
     have:=E.isL (B:=w.heap.size) (cap:=b.length+1) leR m (by omega) (by unfold maxLen; omega); rw [S] at this; exact this
    have b7:=Hd J; clear hE t E J m
    go_wp2
    go_ret
    exact ⟨_,L,rfl,HL.o,HE.o,b7.o⟩
 have z:decide ((a.length:Int)<b.length)=false:=by rw [decide_eq_false_iff_not]; omega
 go_enter Tryz.func90,Tryz.ntmps90
 go_wp2_with (at_make; refine wpList_make_full _ rfl _ _ 47 rfl w.heap.size 85 i0 (.int .u32 0) 1 Tryz.underlying47 b5 c7 c8 .i64 .i64 _ _ (a.length+1) rfl rfl ?qm0 ?qm1 ?qm2 ?qm3 ?qm4 ?_)
 try (case qm0=>omega)
 try (case qm1=>omega)
 try (case qm2=>(first|omega|(rw [c9]; omega)))
 try (case qm3=>(unfold maxLen; omega))
 try (case qm4=>exact leR)
 intro w1 F a6
 first|rw [made_zero] at F|rw [made_zero'] at F
 have E:Row w1 w.heap.size (List.replicate (a.length+1) 0):=row_of_full F; have a3:Up w w1:=(Below.refl _ _).grown a6 leR (fun k h=>by cases h); clear F a6
 go_wp2
 go_loopw [7,8] (fun cv iv wr=>∃ (i c:Nat) (L:List Nat),i≤a.length+1∧c≤1∧L.length=a.length+1∧okL L∧Row wr w.heap.size L∧cv=.int .u64 (c:Nat)∧iv=.int .i64 i ∧
  val (L.take i)+1000000000 ^ i*c=val (a.take i)+val (b.take i)∧Up w wr) (fun _ iv _=>a.length+1 - (intOf iv).toNat)
 case atStart=>exact ⟨0,0,_,by omega,by omega,by simp,fun x hx=>by rw [List.eq_of_mem_replicate hx]; omega,E,rfl,rfl,by simp [val],a3⟩
 case round=>
  clear E a3; obtain ⟨i,c,L,hi,hc,S,m,E,rfl,rfl,t,J⟩:=hrel
  by_cases d7:i≤a.length
  ·by_cases Z:i<a.length
   ·by_cases T:i<b.length
    ·obtain ⟨ba,oa,rfl,W,K⟩:=HA.o i Z; rw [← J.cell (p:=⟨ba,oa+i,none⟩) W] at K; have a9:=okL_getD a U i Z; obtain ⟨bb,ob,rfl,Y,M⟩:=HB.o i T; rw [← J.cell (p:=⟨bb,ob+i,none⟩) Y] at M; have b4:=okL_getD b V i T; have j:=add_step (1000000000 ^ i) _ _ _ c (a.getD i 0) (b.getD i 0) t; rw [← val_take_succ,← val_take_succ] at j; obtain ⟨x,hx⟩:=exW (a.getD i 0); rw [hx] at K a9 j; obtain ⟨y,hy⟩:=exW (b.getD i 0); rw [hy] at M b4 j; have D:Hid (val ((L.set i ((c+x+y) % 1000000000)).take (i+1))+1000000000 ^ (i+1)*((c+x+y) / 1000000000)=val (a.take (i+1))+val (b.take (i+1))):=by
      unfold Hid
      rw [val_take_set L i _ (by omega),Nat.pow_succ]; exact j
     clear j t hx hy; obtain ⟨s,Q⟩:=exW (c+x+y); have a7:s<2000000000:=by omega
     rw [Q] at D; have O:=E.cell i (by omega); have a5:=E.frozen i; have I:Hid (Row (wr.setCell ⟨w.heap.size,i,none⟩ (.int .u32 ((s % 1000000000:Nat):Int))) w.heap.size (L.set i (s % 1000000000))):=E.set i _; have G:Hid (∀ u,Up w (wr.setCell ⟨w.heap.size,i,none⟩ u)):=fun u=>J.setCell leR u; have H:Hid (okL (L.set i (s % 1000000000))):=okL_set L m i _ (Nat.mod_lt _ (by decide)); have A:=Hd Q; clear E J Q m
     go_wp2
     go_roundw
     case rel=>
      refine ⟨i+1,s / 1000000000,L.set i (s % 1000000000),by omega,by omega,by simp [S],H.o,?_,val_int (by rw [← A.o]; simp),by go_num,D.o,G.o _⟩; have h:=I.o; rw [← A.o] at h ⊢
      simpa using h
     case measure=>simp [intOf]; omega
    ·obtain ⟨ba,oa,rfl,W,K⟩:=HA.o i Z; rw [← J.cell (p:=⟨ba,oa+i,none⟩) W] at K; have a9:=okL_getD a U i Z; have b3:b.getD i 0=0:=by rw [List.getD_eq_getElem?_getD,List.getElem?_eq_none (by omega)]; rfl
     have j:=add_step (1000000000 ^ i) _ _ _ c (a.getD i 0) (b.getD i 0) t; rw [← val_take_succ,← val_take_succ] at j; rw [b3,Nat.add_zero] at j; obtain ⟨x,hx⟩:=exW (a.getD i 0); rw [hx] at K a9 j; have D:Hid (val ((L.set i ((c+x) % 1000000000)).take (i+1))+1000000000 ^ (i+1)*((c+x) / 1000000000)=val (a.take (i+1))+val (b.take (i+1))):=by
      unfold Hid
      rw [val_take_set L i _ (by omega),Nat.pow_succ]; exact j
     clear j t hx; obtain ⟨s,Q⟩:=exW (c+x); have a7:s<2000000000:=by omega
     rw [Q] at D; have O:=E.cell i (by omega); have a5:=E.frozen i; have I:Hid (Row (wr.setCell ⟨w.heap.size,i,none⟩ (.int .u32 ((s % 1000000000:Nat):Int))) w.heap.size (L.set i (s % 1000000000))):=E.set i _; have G:Hid (∀ u,Up w (wr.setCell ⟨w.heap.size,i,none⟩ u)):=fun u=>J.setCell leR u; have H:Hid (okL (L.set i (s % 1000000000))):=okL_set L m i _ (Nat.mod_lt _ (by decide)); have A:=Hd Q; clear E J Q m
     go_wp2
     go_roundw
     case rel=>
      refine ⟨i+1,s / 1000000000,L.set i (s % 1000000000),by omega,by omega,by simp [S],H.o,?_,val_int (by rw [← A.o]; simp),by go_num,D.o,G.o _⟩; have h:=I.o; rw [← A.o] at h ⊢
      simpa using h
     case measure=>simp [intOf]; omega
   ·by_cases T:i<b.length
    ·exfalso; omega
    ·have a8:a.getD i 0=0:=by rw [List.getD_eq_getElem?_getD,List.getElem?_eq_none (by omega)]; rfl
     have b3:b.getD i 0=0:=by rw [List.getD_eq_getElem?_getD,List.getElem?_eq_none (by omega)]; rfl
     have j:=add_step (1000000000 ^ i) _ _ _ c (a.getD i 0) (b.getD i 0) t; rw [← val_take_succ,← val_take_succ] at j; rw [a8,Nat.add_zero] at j; rw [b3,Nat.add_zero] at j; have D:Hid (val ((L.set i ((c) % 1000000000)).take (i+1))+1000000000 ^ (i+1)*((c) / 1000000000)=val (a.take (i+1))+val (b.take (i+1))):=by
      unfold Hid
      rw [val_take_set L i _ (by omega),Nat.pow_succ]; exact j
     clear j t; obtain ⟨s,Q⟩:=exW c; have a7:s<2000000000:=by omega
     rw [Q] at D; have O:=E.cell i (by omega); have a5:=E.frozen i; have I:Hid (Row (wr.setCell ⟨w.heap.size,i,none⟩ (.int .u32 ((s % 1000000000:Nat):Int))) w.heap.size (L.set i (s % 1000000000))):=E.set i _; have G:Hid (∀ u,Up w (wr.setCell ⟨w.heap.size,i,none⟩ u)):=fun u=>J.setCell leR u; have H:Hid (okL (L.set i (s % 1000000000))):=okL_set L m i _ (Nat.mod_lt _ (by decide)); have A:=Hd Q; clear E J Q m
     go_wp2
     go_roundw
     case rel=>
      refine ⟨i+1,s / 1000000000,L.set i (s % 1000000000),by omega,by omega,by simp [S],H.o,?_,val_int (by rw [← A.o]; simp),by go_num,D.o,G.o _⟩; have h:=I.o; rw [← A.o] at h ⊢
      simpa using h
     case measure=>simp [intOf]; omega
  ·obtain rfl:i=a.length+1:=by omega
   have hE:=add_end (1000000000 ^ (a.length)) _ c _ _ _ (Nat.pow_succ ..) t (by rw [List.take_of_length_le (by omega)]; exact val_lt_of a U _ (by omega)) (by rw [List.take_of_length_le (by omega)]; exact val_lt_of b V _ (by omega)); rw [List.take_of_length_le (by omega),List.take_of_length_le (by omega),List.take_of_length_le (by omega)] at hE; have HE:=Hd hE; have HL:Hid (IsL w.heap.size wr (.slice (some ⟨w.heap.size,0,none⟩) (a.length+1) (a.length+1)) L):=by
    have:=E.isL (B:=w.heap.size) (cap:=a.length+1) leR m (by omega) (by unfold maxLen; omega); rw [S] at this; exact this
   have b7:=Hd J; clear hE t E J m
   go_wp2
   go_ret
   exact ⟨_,L,rfl,HL.o,HE.o,b7.o⟩
theorem into_step (P A Bv La c x y d c':Nat) (h:La+P*c=A+Bv) (hd:d+1000000000*c'=x+c+y):La+P*d+P*1000000000*c'=A+P*x+(Bv+P*y):=by
 have i:P*(d+1000000000*c')=P*(x+c+y):=by rw [hd]
 rw [Nat.mul_add,Nat.mul_add,Nat.mul_add,← Nat.mul_assoc] at i; omega
theorem val_from (L A:List Nat) (i n:Nat) (hi:i≤n) (hl:L.length=A.length) (hd:L.drop i=A.drop i) (V:Nat) (h:val (L.take i)=val (A.take i)+V):val (L.take n)=val (A.take n)+V:=by
 have j:∀ X:List Nat,i≤X.length→val (X.take n)=val (X.take i)+1000000000 ^ i*val ((X.drop i).take (n - i)):=fun X hX=>by
  have m:X.take n=X.take i++(X.drop i).take (n - i):=by rw [show n=i+(n - i) by omega,List.take_add]; simp
  rw [m,val_append,List.length_take,Nat.min_eq_left hX]
 by_cases hX:i≤A.length
 ·rw [j L (by omega),j A hX,hd,h]; omega
 rw [List.take_of_length_le (by omega),List.take_of_length_le (by omega)] at h ⊢; exact h
theorem drop_set_succ (L A:List Nat) (i x:Nat) (h:L.drop i=A.drop i):(L.set i x).drop (i+1)=A.drop (i+1):=by
 rw [List.drop_set_of_lt (by omega),← List.drop_drop,← List.drop_drop,h]
theorem getD_drop (L A:List Nat) (i:Nat) (h:L.drop i=A.drop i):L.getD i 0=A.getD i 0:=by
 have j:∀ X:List Nat,X.getD i 0=(X.drop i).getD 0 0:=fun X=>by simp [List.getD_eq_getElem?_getD]
 rw [j L,j A,h]
theorem addInto_any (R n cap:Nat) (vb:Value) (pb:Option Addr) (cb:Nat) (A b:List Nat) (w:World) (hR:Row w R A) (hAok:okL A) (hn:n≤A.length) (hA:A.length≤1000000) (hbn:b.length≤n) (hbok:okL b)
 (hvb:vb=.slice pb b.length cb) (hcap:n≤cap)
 (hcb:∀ i,i<b.length→∃ c off,pb=some ⟨c,off,none⟩∧c<R∧w.cell? ⟨c,off+i,none⟩=some (.int .u32 (b.getD i 0:Nat))) :
 Calls Tryz.prog 116 #[.slice (some ⟨R,0,none⟩) n cap,vb] w fun e w'=>∃ c L,e=.returned (.int .u32 (c:Nat))∧Row w' R L∧L.length=A.length∧okL L∧L.drop n=A.drop n∧c≤1 ∧
  val (L.take n)+1000000000 ^ n*c=val (A.take n)+val b∧Below R w w':=by
 subst hvb; have HB:=Hd hcb; clear hcb
 go_enter Tryz.func116,Tryz.ntmps116
 go_wp2
 go_loopw [5,10] (fun cv iv wr=>∃ (i c:Nat) (L:List Nat),i≤n∧c≤1∧L.length=A.length∧okL L∧Row wr R L∧L.drop i=A.drop i∧cv=.int .u32 (c:Nat)∧iv=.int .i64 i ∧
  val (L.take i)+1000000000 ^ i*c=val (A.take i)+val (b.take i)∧Below R w wr) (fun _ iv _=>n - (intOf iv).toNat)
 case atStart=>exact ⟨0,0,A,by omega,by omega,rfl,hAok,hR,rfl,rfl,rfl,by simp [val],Below.refl _ _⟩
 case round=>
  clear hR; obtain ⟨i,c,L,hi,hc,M,m,hR,s,rfl,rfl,j,Q⟩:=hrel
  by_cases d4:i<n
  ·have t:=hR.cell i (by omega); have S:=getD_drop L A i s; have T:=okL_getD A hAok i (by omega); rw [S] at t; clear S; obtain ⟨x,S⟩:=exW (A.getD i 0); rw [S] at T t
   by_cases a6:i<b.length
   ·obtain ⟨bb,ob,rfl,a7,hcb⟩:=HB.o i a6; rw [← Q.cell (p:=⟨bb,ob+i,none⟩) a7] at hcb; have a5:=okL_getD b hbok i a6; obtain ⟨y,U⟩:=exW (b.getD i 0); rw [U] at hcb a5
    by_cases hov:1000000000≤x+c+y
    ·skip
     have E:=into_step (1000000000 ^ i) _ _ _ c x y (x+c+y - 1000000000) 1 j (by omega); have K:Hid (val ((L.set i (x+c+y - 1000000000)).take (i+1))+1000000000 ^ (i+1)*1=val (A.take (i+1))+val (b.take (i+1))):=by
      unfold Hid
      rw [val_take_set L i _ (by omega),val_take_succ,val_take_succ,S,U,Nat.pow_succ]; exact E
     have a3:=hR.frozen i; have J:Hid (Row (wr.setCell ⟨R,i,none⟩ (.int .u32 (((x+c+y - 1000000000):Nat):Int))) R (L.set i (x+c+y - 1000000000))):=hR.set i _; have F:Hid (∀ u,Below R w (wr.setCell ⟨R,i,none⟩ u)):=fun u=>Q.setCell leR u; have H:Hid (okL (L.set i (x+c+y - 1000000000))):=okL_set L m i _ (by omega); have G:Hid ((L.set i (x+c+y - 1000000000)).drop (i+1)=A.drop (i+1)):=drop_set_succ L A i _ s; clear E j S U hR Q m s; obtain ⟨X,O⟩:∃ X:Int,(x:Int)=X:=⟨_,rfl⟩; have V:=Hd O; have x1:0≤X:=by omega
     have x2:X<1000000000:=by omega
     rw [O] at t; obtain ⟨C,W⟩:∃ C:Int,(c:Int)=C:=⟨_,rfl⟩; have HC:=Hd W; have c1:0≤C:=by omega
     have c2:C≤1:=by omega
     rw [W]; obtain ⟨Y,Z⟩:∃ Y:Int,(y:Int)=Y:=⟨_,rfl⟩; have HY:=Hd Z; have y1:0≤Y:=by omega
     have y2:Y<1000000000:=by omega
     rw [Z] at hcb; have t1:1000000000≤X+C+Y:=by omega
     have I:=(id hov:_); have D:Hid _:=hov; clear O T hov W Z a5 I
     go_wp2
     go_roundw
     case rel=>
      refine ⟨i+1,1,L.set i (x+c+y - 1000000000),by omega,by omega,by simp [M],H.o,?_,G.o,rfl,by go_num,K.o,F.o _⟩; have h:=J.o; rw [show ((((x+c+y - 1000000000)):Nat):Int)=_ from ?_] at h
      ·exact h
      ·have:=D.o; have:=V.o; have:=HC.o; have:=HY.o; omega
     case measure=>simp [intOf]; omega
    ·skip
     have E:=into_step (1000000000 ^ i) _ _ _ c x y (x+c+y) 0 j (by omega); have K:Hid (val ((L.set i (x+c+y)).take (i+1))+1000000000 ^ (i+1)*0=val (A.take (i+1))+val (b.take (i+1))):=by
      unfold Hid
      rw [val_take_set L i _ (by omega),val_take_succ,val_take_succ,S,U,Nat.pow_succ]; exact E
     have a3:=hR.frozen i; have J:Hid (Row (wr.setCell ⟨R,i,none⟩ (.int .u32 (((x+c+y):Nat):Int))) R (L.set i (x+c+y))):=hR.set i _; have F:Hid (∀ u,Below R w (wr.setCell ⟨R,i,none⟩ u)):=fun u=>Q.setCell leR u; have H:Hid (okL (L.set i (x+c+y))):=okL_set L m i _ (by omega); have G:Hid ((L.set i (x+c+y)).drop (i+1)=A.drop (i+1)):=drop_set_succ L A i _ s; clear E j S U hR Q m s; obtain ⟨X,O⟩:∃ X:Int,(x:Int)=X:=⟨_,rfl⟩; have V:=Hd O; have x1:0≤X:=by omega
     have x2:X<1000000000:=by omega
     rw [O] at t; obtain ⟨C,W⟩:∃ C:Int,(c:Int)=C:=⟨_,rfl⟩; have HC:=Hd W; have c1:0≤C:=by omega
     have c2:C≤1:=by omega
     rw [W]; obtain ⟨Y,Z⟩:∃ Y:Int,(y:Int)=Y:=⟨_,rfl⟩; have HY:=Hd Z; have y1:0≤Y:=by omega
     have y2:Y<1000000000:=by omega
     rw [Z] at hcb; have t1:X+C+Y<1000000000:=by omega
     have I:=(id hov:_); have D:Hid _:=hov; clear O T hov W Z a5 I
     go_wp2
     go_roundw
     case rel=>
      refine ⟨i+1,0,L.set i (x+c+y),by omega,by omega,by simp [M],H.o,?_,G.o,rfl,by go_num,K.o,F.o _⟩; have h:=J.o; rw [show ((((x+c+y)):Nat):Int)=_ from ?_] at h
      ·exact h
      ·have:=D.o; have:=V.o; have:=HC.o; have:=HY.o; omega
     case measure=>simp [intOf]; omega
   ·have U:b.getD i 0=0:=by rw [List.getD_eq_getElem?_getD,List.getElem?_eq_none (by omega)]; rfl
    by_cases c6:c=0
    ·subst c6; have hE:=val_from L A i n hi M s (val b) (by rw [Nat.mul_zero,Nat.add_zero,List.take_of_length_le (show b.length≤i by omega)] at j; exact j); have HE:Hid (∃ c' L',Row wr R L'∧L'.length=A.length∧okL L'∧L'.drop n=A.drop n∧c'=0∧val (L'.take n)+1000000000 ^ n*c'=val (A.take n)+val b):=⟨0,L,hR,M,m,by rw [show n=i+(n - i) by omega,← List.drop_drop,← List.drop_drop,s],rfl,by rw [hE]; omega⟩; have a8:=Hd Q; clear hE j hR Q m s S U
     go_wp2
     go_ret
     obtain ⟨c',L',e1,e2,e3,e4,rfl,e5⟩:=HE.o; exact ⟨0,L',rfl,e1,e2,e3,e4,by omega,e5,a8.o⟩
    ·obtain rfl:c=1:=by omega
     by_cases hov:1000000000≤x+1
     ·skip
      have E:=into_step (1000000000 ^ i) _ _ _ 1 x 0 (x+1 - 1000000000) 1 j (by omega); have K:Hid (val ((L.set i (x+1 - 1000000000)).take (i+1))+1000000000 ^ (i+1)*1=val (A.take (i+1))+val (b.take (i+1))):=by
       unfold Hid
       rw [val_take_set L i _ (by omega),val_take_succ,val_take_succ,S,U,Nat.pow_succ]; exact E
      have a3:=hR.frozen i; have J:Hid (Row (wr.setCell ⟨R,i,none⟩ (.int .u32 (((x+1 - 1000000000):Nat):Int))) R (L.set i (x+1 - 1000000000))):=hR.set i _; have F:Hid (∀ u,Below R w (wr.setCell ⟨R,i,none⟩ u)):=fun u=>Q.setCell leR u; have H:Hid (okL (L.set i (x+1 - 1000000000))):=okL_set L m i _ (by omega); have G:Hid ((L.set i (x+1 - 1000000000)).drop (i+1)=A.drop (i+1)):=drop_set_succ L A i _ s; clear E j S U hR Q m s; obtain ⟨X,O⟩:∃ X:Int,(x:Int)=X:=⟨_,rfl⟩; have V:=Hd O; have x1:0≤X:=by omega
      have x2:X<1000000000:=by omega
      rw [O] at t; have t1:1000000000≤X+1:=by omega
      have I:=(id hov:_); have D:Hid _:=hov; clear O T hov I
      go_wp2
      go_roundw
      case rel=>
       refine ⟨i+1,1,L.set i (x+1 - 1000000000),by omega,by omega,by simp [M],H.o,?_,G.o,rfl,by go_num,K.o,F.o _⟩; have h:=J.o; rw [show ((((x+1 - 1000000000)):Nat):Int)=_ from ?_] at h
       ·exact h
       ·have:=D.o; have:=V.o; omega
      case measure=>simp [intOf]; omega
     ·skip
      have E:=into_step (1000000000 ^ i) _ _ _ 1 x 0 (x+1) 0 j (by omega); have K:Hid (val ((L.set i (x+1)).take (i+1))+1000000000 ^ (i+1)*0=val (A.take (i+1))+val (b.take (i+1))):=by
       unfold Hid
       rw [val_take_set L i _ (by omega),val_take_succ,val_take_succ,S,U,Nat.pow_succ]; exact E
      have a3:=hR.frozen i; have J:Hid (Row (wr.setCell ⟨R,i,none⟩ (.int .u32 (((x+1):Nat):Int))) R (L.set i (x+1))):=hR.set i _; have F:Hid (∀ u,Below R w (wr.setCell ⟨R,i,none⟩ u)):=fun u=>Q.setCell leR u; have H:Hid (okL (L.set i (x+1))):=okL_set L m i _ (by omega); have G:Hid ((L.set i (x+1)).drop (i+1)=A.drop (i+1)):=drop_set_succ L A i _ s; clear E j S U hR Q m s; obtain ⟨X,O⟩:∃ X:Int,(x:Int)=X:=⟨_,rfl⟩; have V:=Hd O; have x1:0≤X:=by omega
      have x2:X<1000000000:=by omega
      rw [O] at t; have t1:X+1<1000000000:=by omega
      have I:=(id hov:_); have D:Hid _:=hov; clear O T hov I
      go_wp2
      go_roundw
      case rel=>
       refine ⟨i+1,0,L.set i (x+1),by omega,by omega,by simp [M],H.o,?_,G.o,rfl,by go_num,K.o,F.o _⟩; have h:=J.o; rw [show ((((x+1)):Nat):Int)=_ from ?_] at h
       ·exact h
       ·have:=D.o; have:=V.o; omega
      case measure=>simp [intOf]; omega
  ·obtain rfl:i=n:=by omega
   rw [List.take_of_length_le (show b.length≤i by omega)] at j; have HE:Hid (Row wr R L∧L.length=A.length∧okL L∧L.drop i=A.drop i∧val (L.take i)+1000000000 ^ i*c=val (A.take i)+val b∧Below R w wr):=⟨hR,M,m,s,j,Q⟩; clear j hR Q m s
   go_wp2
   go_ret
   obtain ⟨e1,e2,e3,e4,e5,e6⟩:=HE.o; exact ⟨c,L,rfl,e1,e2,e3,e4,hc,e5,e6⟩
def RowT (w:World) (R:Nat) (l:List Nat):Prop:=∃ tail:List Value,w.heap[R]? = some (.cells (U32s l++tail).toArray 85 (0,0))
theorem Row.tail {w:World} {R:Nat} {l:List Nat} (h:Row w R l):RowT w R l:=⟨[],by rw [List.append_nil]; exact h⟩
theorem RowT.lt {w:World} {R:Nat} {l:List Nat} (h:RowT w R l):R<w.heap.size:=by
 obtain ⟨t,h⟩:=h; exact (Array.getElem?_eq_some_iff.1 h).1
theorem RowT.cell {w:World} {R:Nat} {l:List Nat} (h:RowT w R l) (i:Nat) (hi:i<l.length):w.cell? ⟨R,i,none⟩=some (.int .u32 (l.getD i 0:Nat)):=by
 obtain ⟨t,h⟩:=h; simp [World.cell?,h,List.getElem?_append,hi,List.getD_eq_getElem?_getD]
theorem RowT.frozen {w:World} {R:Nat} {l:List Nat} (h:RowT w R l) (i:Nat):w.frozen? ⟨R,i,none⟩=false:=by
 obtain ⟨t,h⟩:=h; simp [World.frozen?,h]
theorem RowT.set {w:World} {R:Nat} {l:List Nat} (h:RowT w R l) (i x:Nat) (hi:i<l.length):RowT (w.setCell ⟨R,i,none⟩ (.int .u32 (x:Nat))) R (l.set i x):=by
 obtain ⟨t,h⟩:=h; refine ⟨t,?_⟩; obtain ⟨j,m⟩:=Array.getElem?_eq_some_iff.1 h
 show (w.heap.modify R _)[R]? = _
 rw [Array.getElem?_eq_getElem (by rw [Array.size_modify]; exact j),Array.getElem_modify_self,m]; simp [U32s,List.map_set,hi]
theorem RowT.isL {w:World} {R B cap:Nat} {l:List Nat} (h:RowT w R l) (hB:B≤R) (hok:okL l) (hc:l.length≤cap) (hm:cap≤maxLen):IsL B w (.slice (some ⟨R,0,none⟩) l.length cap) l:=
 ⟨_,cap,rfl,hc,hm,hok,.inr ⟨R,0,rfl,hB,h.lt,fun i hi=>by rw [Nat.zero_add]; exact h.cell i hi⟩⟩
theorem val_set (l:List Nat) (j x:Nat) (hj:j<l.length):val (l.set j x)+1000000000 ^ j*l.getD j 0=val l+1000000000 ^ j*x:=by
 induction l generalizing j with
 | nil=>simp at hj
 | cons y l ih=>
   cases j with
   | zero=>simp [val]; omega
   | succ j=>
     have h:=ih j (by simpa using hj); simp only [List.set_cons_succ,val,List.getD_cons_succ,Nat.pow_succ,Nat.mul_comm _ 1000000000,Nat.mul_assoc]; omega
theorem scadd_step (P VL VN VA K c x F d c':Nat) (h:VL+P*c=VA+K) (hs:VN+P*x=VL+P*d) (hd:d+1000000000*c'=c+F+x):VN+P*1000000000*c'=VA+(K+P*F):=by
 have i:P*(d+1000000000*c')=P*(c+F+x):=by rw [hd]
 rw [Nat.mul_add,Nat.mul_add,Nat.mul_add,← Nat.mul_assoc] at i; omega
theorem scadd_sum (off i f v y:Nat):1000000000 ^ off*(f*(v+1000000000 ^ i*y))=1000000000 ^ off*(f*v)+1000000000 ^ (off+i)*(f*y):=by
 rw [Nat.mul_add,Nat.mul_add,Nat.pow_add,Nat.mul_left_comm f,Nat.mul_assoc]
theorem addScaled_any (R off cap f:Nat) (vb:Value) (pb:Option Addr) (cb:Nat) (A b:List Nat) (w:World) (hR:RowT w R A) (hAok:okL A) (hn:off+b.length≤A.length) (hA:A.length≤1000000) (hbok:okL b)
 (hvb:vb=.slice pb b.length cb) (_hcap:b.length≤cap) (hf:f<1000000000)
 (hcb:∀ i,i<b.length→∃ c off,pb=some ⟨c,off,none⟩∧c<R∧w.cell? ⟨c,off+i,none⟩=some (.int .u32 (b.getD i 0:Nat))) :
 Calls Tryz.prog 115 #[.slice (some ⟨R,off,none⟩) b.length cap,vb,.int .u64 (f:Nat)] w fun e w'=>∃ c L,e=.returned (.int .u32 (c:Nat))∧RowT w' R L∧L.length=A.length∧okL L∧L.drop (off+b.length)=A.drop (off+b.length)∧c≤f ∧
  val L+1000000000 ^ (off+b.length)*c=val A+1000000000 ^ off*(f*val b)∧Below R w w':=by
 subst hvb; have HB:=Hd hcb; clear hcb
 go_enter Tryz.func115,Tryz.ntmps115
 go_wp2
 go_loopw [7,12] (fun cv iv wr=>∃ (i c:Nat) (L:List Nat),i≤b.length∧c≤f∧L.length=A.length∧okL L∧RowT wr R L∧L.drop (off+i)=A.drop (off+i)∧cv=.int .u64 (c:Nat)∧iv=.int .i64 i ∧
  val L+1000000000 ^ (off+i)*c=val A+1000000000 ^ off*(f*val (b.take i))∧Below R w wr) (fun _ iv _=>b.length - (intOf iv).toNat)
 case atStart=>exact ⟨0,0,A,by omega,by omega,rfl,hAok,hR,rfl,rfl,rfl,by simp [val],Below.refl _ _⟩
 case round=>
  clear hR; obtain ⟨i,c,L,hi,K,J,j,hR,D,rfl,rfl,m,I⟩:=hrel
  by_cases M:i<b.length
  ·have s:=hR.cell (off+i) (by omega); have S:=okL_getD L j (off+i) (by omega); obtain ⟨x,hx⟩:=exW (L.getD (off+i) 0); rw [hx] at S s; obtain ⟨bb,ob,rfl,O,hcb⟩:=HB.o i M; rw [← I.cell (p:=⟨bb,ob+i,none⟩) O] at hcb; have T:=okL_getD b hbok i M; obtain ⟨y,hy⟩:=exW (b.getD i 0); rw [hy] at hcb T; obtain ⟨F,U⟩:=exW (f*y); have a8:F≤f*999999999:=by rw [← U]; exact Nat.mul_le_mul_left f (by omega)
   have E:=val_set L (off+i) ((c+F+x) % 1000000000) (by omega); rw [hx] at E; have Q:=scadd_step (1000000000 ^ (off+i)) _ _ _ _ c x F ((c+F+x) % 1000000000) ((c+F+x) / 1000000000) m E (by omega); have a6:Hid (val (L.set (off+i) ((c+F+x) % 1000000000))+1000000000 ^ (off+(i+1))*((c+F+x) / 1000000000)=val A+1000000000 ^ off*(f*val (b.take (i+1)))):=by
    unfold Hid
    rw [val_take_succ,hy,scadd_sum,U,← Nat.add_assoc,Nat.pow_succ]; exact Q
   have d4:=hR.frozen (off+i); have a5:Hid (RowT (wr.setCell ⟨R,off+i,none⟩ (.int .u32 ((((c+F+x) % 1000000000):Nat):Int))) R (L.set (off+i) ((c+F+x) % 1000000000))):=hR.set (off+i) _ (by omega); have V:Hid (∀ u,Below R w (wr.setCell ⟨R,off+i,none⟩ u)):=fun u=>I.setCell leR u; have a3:Hid (okL (L.set (off+i) ((c+F+x) % 1000000000))):=okL_set L j (off+i) _ (Nat.mod_lt _ (by decide)); have Z:Hid ((L.set (off+i) ((c+F+x) % 1000000000)).drop (off+(i+1))=A.drop (off+(i+1))):=drop_set_succ L A (off+i) _ D; have W:Hid ((c+F+x) / 1000000000≤f):=by
    unfold Hid
    omega
   clear Q m hx hy hR I j D E; obtain ⟨X,hX⟩:∃ X:Int,(x:Int)=X:=⟨_,rfl⟩; have HX:=Hd hX; have x1:0≤X:=by omega
   have x2:X<1000000000:=by omega
   rw [hX] at s; obtain ⟨C,hC⟩:∃ C:Int,(c:Int)=C:=⟨_,rfl⟩; have HC:=Hd hC; have c1:0≤C:=by omega
   have c2:C<1000000000:=by omega
   rw [hC]; obtain ⟨G,hG⟩:∃ G:Int,(f:Int)=G:=⟨_,rfl⟩; rw [hG]; obtain ⟨Y,hY⟩:∃ Y:Int,(y:Int)=Y:=⟨_,rfl⟩; have t:(F:Int)=G*Y:=by rw [← U,← hG,← hY]; rfl
   have H:=Hd t; have g1:0≤G*Y:=by rw [← t]; omega
   have g2:G*Y≤999999999000000000:=by rw [← t]; omega
   have y1:0≤Y:=by omega
   have y2:Y<1000000000:=by omega
   rw [hY] at hcb; clear hX S hC hG hY t T U a8 K
   go_wp2
   go_roundw
   case rel=>
    refine ⟨i+1,(c+F+x) / 1000000000,L.set (off+i) ((c+F+x) % 1000000000),by omega,W.o,by simp [J],a3.o,?_,Z.o,?_,by go_num,a6.o,V.o _⟩
    ·have h:=a5.o; rw [show ((((c+F+x) % 1000000000):Nat):Int)=_ from ?_] at h
     ·exact h
     ·have:=HX.o; have:=HC.o; have:=H.o; omega
    ·congr 1; have:=HX.o; have:=HC.o; have:=H.o; omega
   case measure=>simp [intOf]; omega
  ·obtain rfl:i=b.length:=by omega
   rw [List.take_of_length_le leR] at m; have HE:Hid (RowT wr R L∧L.length=A.length∧okL L∧L.drop (off+b.length)=A.drop (off+b.length)∧val L+1000000000 ^ (off+b.length)*c=val A+1000000000 ^ off*(f*val b)∧Below R w wr):=⟨hR,J,j,D,m,I⟩; clear m hR I j D
   go_wp2
   go_ret
   obtain ⟨e1,e2,e3,e4,e5,e6⟩:=HE.o; exact ⟨c,L,rfl,e1,e2,e3,e4,K,e5,e6⟩
theorem scaled_step (P A Bv La c x y d c' f:Nat) (h:La+f*Bv=A+P*c) (hd:d+(c+f*y)=x+1000000000*c'):La+P*d+f*(Bv+P*y)=A+P*x+P*1000000000*c':=by
 have i:P*(d+(c+f*y))=P*(x+1000000000*c'):=by rw [hd]
 rw [Nat.mul_add,Nat.mul_add,Nat.mul_add,← Nat.mul_assoc,← Nat.mul_assoc] at i; rw [Nat.mul_add,← Nat.mul_assoc,Nat.mul_comm f P]; omega
theorem subScaled_any (R n cap f:Nat) (vb:Value) (pb:Option Addr) (cb:Nat) (A b:List Nat) (w:World) (hR:RowT w R A) (hAok:okL A) (hn:n≤A.length) (hA:A.length≤1000000) (hbn:b.length≤n) (hbok:okL b)
 (hvb:vb=.slice pb b.length cb) (hcap:n≤cap) (hf:f≤1000000000)
 (hcb:∀ i,i<b.length→∃ c off,pb=some ⟨c,off,none⟩∧c<R∧w.cell? ⟨c,off+i,none⟩=some (.int .u32 (b.getD i 0:Nat))) :
 Calls Tryz.prog 118 #[.slice (some ⟨R,0,none⟩) n cap,vb,.int .u64 (f:Nat)] w fun e w'=>∃ c L,e=.returned (.int .u64 (c:Nat))∧RowT w' R L∧L.length=A.length∧okL L∧L.drop n=A.drop n∧c≤f ∧
  val (L.take n)+f*val b=val (A.take n)+1000000000 ^ n*c∧Below R w w':=by
 subst hvb; have HB:=Hd hcb; clear hcb
 go_enter Tryz.func118,Tryz.ntmps118
 go_wp2
 go_loopw [7,12] (fun cv iv wr=>∃ (i c:Nat) (L:List Nat),i≤n∧c≤f∧L.length=A.length∧okL L∧RowT wr R L∧L.drop i=A.drop i∧cv=.int .u64 (c:Nat)∧iv=.int .i64 i ∧
  val (L.take i)+f*val (b.take i)=val (A.take i)+1000000000 ^ i*c∧Below R w wr) (fun _ iv _=>n - (intOf iv).toNat)
 case atStart=>exact ⟨0,0,A,by omega,by omega,rfl,hAok,hR,rfl,rfl,rfl,by simp [val],Below.refl _ _⟩
 case round=>
  clear hR; obtain ⟨i,c,L,hi,a9,U,s,hR,t,rfl,rfl,j,K⟩:=hrel; have hc:c≤1000000000:=by omega
  by_cases f5:i<n
  ·have D:=hR.cell i (by omega); have hx:=getD_drop L A i t; have b3:=okL_getD A hAok i (by omega); rw [hx] at D; clear hx; obtain ⟨x,hx⟩:=exW (A.getD i 0); rw [hx] at b3 D
   by_cases c7:i<b.length
   ·obtain ⟨bb,ob,rfl,c8,hcb⟩:=HB.o i c7; rw [← K.cell (p:=⟨bb,ob+i,none⟩) c8] at hcb; have b9:=okL_getD b hbok i c7; obtain ⟨y,hy⟩:=exW (b.getD i 0); rw [hy] at hcb b9; obtain ⟨F,hF⟩:=exW (f*y); have c6:F≤f*999999999:=by rw [← hF]; exact Nat.mul_le_mul_left f (by omega)
    by_cases J:x<(c+F) % 1000000000
    ·skip
     have H:=scaled_step (1000000000 ^ i) _ _ _ c x y (x+1000000000 - (c+F) % 1000000000) ((c+F) / 1000000000+1) f j (by rw [hF]; omega); have S:Hid (val ((L.set i (x+1000000000 - (c+F) % 1000000000)).take (i+1))+f*val (b.take (i+1))=val (A.take (i+1))+1000000000 ^ (i+1)*((c+F) / 1000000000+1)):=by
      unfold Hid
      rw [val_take_set L i _ (by omega),val_take_succ,val_take_succ,hx,hy,Nat.pow_succ]; exact H
     have b8:=hR.frozen i; have a8:Hid (∀ u:Nat,RowT ((wr.setCell ⟨R,i,none⟩ (.int .u32 (u:Nat))).setCell ⟨R,i,none⟩ (.int .u32 (((x+1000000000 - (c+F) % 1000000000):Nat):Int))) R (L.set i (x+1000000000 - (c+F) % 1000000000))):=fun u=>by
      have h:=(hR.set i u (by omega)).set i (x+1000000000 - (c+F) % 1000000000) (by simp; omega); rw [List.set_set] at h; exact h
     have a7:Hid (RowT (wr.setCell ⟨R,i,none⟩ (.int .u32 (((x+1000000000 - (c+F) % 1000000000):Nat):Int))) R (L.set i (x+1000000000 - (c+F) % 1000000000))):=hR.set i _ (by omega); have E:Hid (∀ u v,Below R w (wr.setCell ⟨R,i,none⟩ u)∧Below R w ((wr.setCell ⟨R,i,none⟩ u).setCell ⟨R,i,none⟩ v)):=fun u v=>⟨K.setCell leR u,(K.setCell leR u).setCell leR v⟩; have Q:Hid (okL (L.set i (x+1000000000 - (c+F) % 1000000000))):=okL_set L s i _ (by omega); have O:Hid ((L.set i (x+1000000000 - (c+F) % 1000000000)).drop (i+1)=A.drop (i+1)):=drop_set_succ L A i _ t; have M:Hid ((c+F) / 1000000000+1≤f):=by
      unfold Hid
      omega
     clear H j hx hy hR K s t; obtain ⟨X,V⟩:∃ X:Int,(x:Int)=X:=⟨_,rfl⟩; have HX:=Hd V; have x1:0≤X:=by omega
     have x2:X<1000000000:=by omega
     rw [V] at D; obtain ⟨C,T⟩:∃ C:Int,(c:Int)=C:=⟨_,rfl⟩; have W:=Hd T; have c1:0≤C:=by omega
     have c2:C≤1000000000:=by omega
     rw [T]; obtain ⟨G,hG⟩:∃ G:Int,(f:Int)=G:=⟨_,rfl⟩; rw [hG]; obtain ⟨Y,hY⟩:∃ Y:Int,(y:Int)=Y:=⟨_,rfl⟩; have I:(F:Int)=G*Y:=by rw [← hF,← hG,← hY]; rfl
     have Z:=Hd I; have g1:0≤G*Y:=by rw [← I]; omega
     have g2:G*Y≤999999999000000000:=by rw [← I]; omega
     have y1:0≤Y:=by omega
     have y2:Y<1000000000:=by omega
     rw [hY] at hcb; have t1:X<(C+G*Y) % 1000000000:=by omega
     have m:Hid _:=J; clear V b3 J T hG hY I b9 hF c6 hc a9
     go_wp2
     go_roundw
     case rel=>
      refine ⟨i+1,(c+F) / 1000000000+1,L.set i (x+1000000000 - (c+F) % 1000000000),by omega,M.o,by simp [U],Q.o,?_,O.o,?_,by go_num,S.o,?_⟩
      ·have h:=a8.o (x+1000000000); rw [show ((((x+1000000000 - (c+F) % 1000000000)):Nat):Int)=_ from ?_,show (((x+1000000000:Nat)):Int)=_ from ?_] at h
       ·exact h
       ·have:=HX.o; have:=W.o; have:=m.o; have:=Z.o;  omega
       ·have:=HX.o; have:=W.o; have:=m.o; have:=Z.o;  omega
      ·congr 1; have:=HX.o; have:=W.o; have:=m.o; have:=Z.o;  omega
      ·first|exact (E.o _ (.bool true)).1|exact (E.o _ _).2
     case measure=>simp [intOf]; omega
    ·skip
     have H:=scaled_step (1000000000 ^ i) _ _ _ c x y (x - (c+F) % 1000000000) ((c+F) / 1000000000) f j (by rw [hF]; omega); have S:Hid (val ((L.set i (x - (c+F) % 1000000000)).take (i+1))+f*val (b.take (i+1))=val (A.take (i+1))+1000000000 ^ (i+1)*((c+F) / 1000000000)):=by
      unfold Hid
      rw [val_take_set L i _ (by omega),val_take_succ,val_take_succ,hx,hy,Nat.pow_succ]; exact H
     have b8:=hR.frozen i; have a8:Hid (∀ u:Nat,RowT ((wr.setCell ⟨R,i,none⟩ (.int .u32 (u:Nat))).setCell ⟨R,i,none⟩ (.int .u32 (((x - (c+F) % 1000000000):Nat):Int))) R (L.set i (x - (c+F) % 1000000000))):=fun u=>by
      have h:=(hR.set i u (by omega)).set i (x - (c+F) % 1000000000) (by simp; omega); rw [List.set_set] at h; exact h
     have a7:Hid (RowT (wr.setCell ⟨R,i,none⟩ (.int .u32 (((x - (c+F) % 1000000000):Nat):Int))) R (L.set i (x - (c+F) % 1000000000))):=hR.set i _ (by omega); have E:Hid (∀ u v,Below R w (wr.setCell ⟨R,i,none⟩ u)∧Below R w ((wr.setCell ⟨R,i,none⟩ u).setCell ⟨R,i,none⟩ v)):=fun u v=>⟨K.setCell leR u,(K.setCell leR u).setCell leR v⟩; have Q:Hid (okL (L.set i (x - (c+F) % 1000000000))):=okL_set L s i _ (by omega); have O:Hid ((L.set i (x - (c+F) % 1000000000)).drop (i+1)=A.drop (i+1)):=drop_set_succ L A i _ t; have M:Hid ((c+F) / 1000000000≤f):=by
      unfold Hid
      omega
     clear H j hx hy hR K s t; obtain ⟨X,V⟩:∃ X:Int,(x:Int)=X:=⟨_,rfl⟩; have HX:=Hd V; have x1:0≤X:=by omega
     have x2:X<1000000000:=by omega
     rw [V] at D; obtain ⟨C,T⟩:∃ C:Int,(c:Int)=C:=⟨_,rfl⟩; have W:=Hd T; have c1:0≤C:=by omega
     have c2:C≤1000000000:=by omega
     rw [T]; obtain ⟨G,hG⟩:∃ G:Int,(f:Int)=G:=⟨_,rfl⟩; rw [hG]; obtain ⟨Y,hY⟩:∃ Y:Int,(y:Int)=Y:=⟨_,rfl⟩; have I:(F:Int)=G*Y:=by rw [← hF,← hG,← hY]; rfl
     have Z:=Hd I; have g1:0≤G*Y:=by rw [← I]; omega
     have g2:G*Y≤999999999000000000:=by rw [← I]; omega
     have y1:0≤Y:=by omega
     have y2:Y<1000000000:=by omega
     rw [hY] at hcb; have t1:(C+G*Y) % 1000000000≤X:=by omega
     have m:Hid _:=J; clear V b3 J T hG hY I b9 hF c6 hc a9
     go_wp2
     go_roundw
     case rel=>
      refine ⟨i+1,(c+F) / 1000000000,L.set i (x - (c+F) % 1000000000),by omega,M.o,by simp [U],Q.o,?_,O.o,?_,by go_num,S.o,?_⟩
      ·have h:=a7.o; rw [show ((((x - (c+F) % 1000000000)):Nat):Int)=_ from ?_] at h
       ·exact h
       ·have:=HX.o; have:=W.o; have:=m.o; have:=Z.o;  omega
      ·congr 1; have:=HX.o; have:=W.o; have:=m.o; have:=Z.o;  omega
      ·first|exact (E.o _ (.bool true)).1|exact (E.o _ _).2
     case measure=>simp [intOf]; omega
   ·have hy:b.getD i 0=0:=by rw [List.getD_eq_getElem?_getD,List.getElem?_eq_none (by omega)]; rfl
    by_cases b7:c=0
    ·subst b7; have hE:val (L.take n)+f*val b=val (A.take n):=by
      rw [Nat.mul_zero,Nat.add_zero,List.take_of_length_le (show b.length≤i by omega)] at j; exact (val_from A L i n hi U.symm t.symm (f*val b) j.symm).symm
     have HE:Hid (RowT wr R L∧L.length=A.length∧okL L∧L.drop n=A.drop n∧val (L.take n)+f*val b=val (A.take n)+1000000000 ^ n*0∧Below R w wr):=⟨hR,U,s,by rw [show n=i+(n - i) by omega,← List.drop_drop,← List.drop_drop,t],by rw [hE,Nat.mul_zero,Nat.add_zero],K⟩; clear hE j hR K s t hx hy
     go_wp2
     go_ret
     obtain ⟨e1,e2,e3,e4,e5,e6⟩:=HE.o; exact ⟨0,L,rfl,e1,e2,e3,e4,by omega,e5,e6⟩
    ·by_cases J:x<c % 1000000000
     ·skip
      have H:=scaled_step (1000000000 ^ i) _ _ _ c x 0 (x+1000000000 - c % 1000000000) (c / 1000000000+1) f j (by rw [Nat.mul_zero]; omega); have S:Hid (val ((L.set i (x+1000000000 - c % 1000000000)).take (i+1))+f*val (b.take (i+1))=val (A.take (i+1))+1000000000 ^ (i+1)*(c / 1000000000+1)):=by
       unfold Hid
       rw [val_take_set L i _ (by omega),val_take_succ,val_take_succ,hx,hy,Nat.pow_succ]; exact H
      have b8:=hR.frozen i; have a8:Hid (∀ u:Nat,RowT ((wr.setCell ⟨R,i,none⟩ (.int .u32 (u:Nat))).setCell ⟨R,i,none⟩ (.int .u32 (((x+1000000000 - c % 1000000000):Nat):Int))) R (L.set i (x+1000000000 - c % 1000000000))):=fun u=>by
       have h:=(hR.set i u (by omega)).set i (x+1000000000 - c % 1000000000) (by simp; omega); rw [List.set_set] at h; exact h
      have a7:Hid (RowT (wr.setCell ⟨R,i,none⟩ (.int .u32 (((x+1000000000 - c % 1000000000):Nat):Int))) R (L.set i (x+1000000000 - c % 1000000000))):=hR.set i _ (by omega); have E:Hid (∀ u v,Below R w (wr.setCell ⟨R,i,none⟩ u)∧Below R w ((wr.setCell ⟨R,i,none⟩ u).setCell ⟨R,i,none⟩ v)):=fun u v=>⟨K.setCell leR u,(K.setCell leR u).setCell leR v⟩; have Q:Hid (okL (L.set i (x+1000000000 - c % 1000000000))):=okL_set L s i _ (by omega); have O:Hid ((L.set i (x+1000000000 - c % 1000000000)).drop (i+1)=A.drop (i+1)):=drop_set_succ L A i _ t; have M:Hid (c / 1000000000+1≤f):=by
       unfold Hid
       omega
      clear H j hx hy hR K s t; obtain ⟨X,V⟩:∃ X:Int,(x:Int)=X:=⟨_,rfl⟩; have HX:=Hd V; have x1:0≤X:=by omega
      have x2:X<1000000000:=by omega
      rw [V] at D; obtain ⟨C,T⟩:∃ C:Int,(c:Int)=C:=⟨_,rfl⟩; have W:=Hd T; have c1:0≤C:=by omega
      have c2:C≤1000000000:=by omega
      rw [T]; obtain ⟨G,hG⟩:∃ G:Int,(f:Int)=G:=⟨_,rfl⟩; rw [hG]; have t1:X<C % 1000000000:=by omega
      have m:Hid _:=J; have t2:0<C:=by omega
      clear V b3 J T hG b7 hc a9
      go_wp2
      go_roundw
      case rel=>
       refine ⟨i+1,c / 1000000000+1,L.set i (x+1000000000 - c % 1000000000),by omega,M.o,by simp [U],Q.o,?_,O.o,?_,by go_num,S.o,?_⟩
       ·have h:=a8.o (x+1000000000); rw [show ((((x+1000000000 - c % 1000000000)):Nat):Int)=_ from ?_,show (((x+1000000000:Nat)):Int)=_ from ?_] at h
        ·exact h
        ·have:=HX.o; have:=W.o; have:=m.o;  omega
        ·have:=HX.o; have:=W.o; have:=m.o;  omega
       ·congr 1; have:=HX.o; have:=W.o; have:=m.o;  omega
       ·first|exact (E.o _ (.bool true)).1|exact (E.o _ _).2
      case measure=>simp [intOf]; omega
     ·skip
      have H:=scaled_step (1000000000 ^ i) _ _ _ c x 0 (x - c % 1000000000) (c / 1000000000) f j (by rw [Nat.mul_zero]; omega); have S:Hid (val ((L.set i (x - c % 1000000000)).take (i+1))+f*val (b.take (i+1))=val (A.take (i+1))+1000000000 ^ (i+1)*(c / 1000000000)):=by
       unfold Hid
       rw [val_take_set L i _ (by omega),val_take_succ,val_take_succ,hx,hy,Nat.pow_succ]; exact H
      have b8:=hR.frozen i; have a8:Hid (∀ u:Nat,RowT ((wr.setCell ⟨R,i,none⟩ (.int .u32 (u:Nat))).setCell ⟨R,i,none⟩ (.int .u32 (((x - c % 1000000000):Nat):Int))) R (L.set i (x - c % 1000000000))):=fun u=>by
       have h:=(hR.set i u (by omega)).set i (x - c % 1000000000) (by simp; omega); rw [List.set_set] at h; exact h
      have a7:Hid (RowT (wr.setCell ⟨R,i,none⟩ (.int .u32 (((x - c % 1000000000):Nat):Int))) R (L.set i (x - c % 1000000000))):=hR.set i _ (by omega); have E:Hid (∀ u v,Below R w (wr.setCell ⟨R,i,none⟩ u)∧Below R w ((wr.setCell ⟨R,i,none⟩ u).setCell ⟨R,i,none⟩ v)):=fun u v=>⟨K.setCell leR u,(K.setCell leR u).setCell leR v⟩; have Q:Hid (okL (L.set i (x - c % 1000000000))):=okL_set L s i _ (by omega); have O:Hid ((L.set i (x - c % 1000000000)).drop (i+1)=A.drop (i+1)):=drop_set_succ L A i _ t; have M:Hid (c / 1000000000≤f):=by
       unfold Hid
       omega
      clear H j hx hy hR K s t; obtain ⟨X,V⟩:∃ X:Int,(x:Int)=X:=⟨_,rfl⟩; have HX:=Hd V; have x1:0≤X:=by omega
      have x2:X<1000000000:=by omega
      rw [V] at D; obtain ⟨C,T⟩:∃ C:Int,(c:Int)=C:=⟨_,rfl⟩; have W:=Hd T; have c1:0≤C:=by omega
      have c2:C≤1000000000:=by omega
      rw [T]; obtain ⟨G,hG⟩:∃ G:Int,(f:Int)=G:=⟨_,rfl⟩; rw [hG]; have t1:C % 1000000000≤X:=by omega
      have m:Hid _:=J; have t2:0<C:=by omega
      clear V b3 J T hG b7 hc a9
      go_wp2
      go_roundw
      case rel=>
       refine ⟨i+1,c / 1000000000,L.set i (x - c % 1000000000),by omega,M.o,by simp [U],Q.o,?_,O.o,?_,by go_num,S.o,?_⟩
       ·have h:=a7.o; rw [show ((((x - c % 1000000000)):Nat):Int)=_ from ?_] at h
        ·exact h
        ·have:=HX.o; have:=W.o; have:=m.o;  omega
       ·congr 1; have:=HX.o; have:=W.o; have:=m.o;  omega
       ·first|exact (E.o _ (.bool true)).1|exact (E.o _ _).2
      case measure=>simp [intOf]; omega
  ·obtain rfl:i=n:=by omega
   rw [List.take_of_length_le (show b.length≤i by omega)] at j; have HE:Hid (RowT wr R L∧L.length=A.length∧okL L∧L.drop i=A.drop i∧val (L.take i)+f*val b=val (A.take i)+1000000000 ^ i*c∧Below R w wr):=⟨hR,U,s,t,j,K⟩; clear j hR K s t
   go_wp2
   go_ret
   obtain ⟨e1,e2,e3,e4,e5,e6⟩:=HE.o; exact ⟨c,L,rfl,e1,e2,e3,e4,a9,e5,e6⟩
theorem sub_step (P A Bv La c x y d c':Nat) (h:La+Bv=A+P*c) (hd:d+c+y=x+1000000000*c'):La+P*d+(Bv+P*y)=A+P*x+P*1000000000*c':=by
 have i:P*(d+c+y)=P*(x+1000000000*c'):=by rw [hd]
 rw [Nat.mul_add,Nat.mul_add,Nat.mul_add,← Nat.mul_assoc] at i; omega
theorem sub_end (P c A Bv V:Nat) (h:V+Bv=A+P*c) (hV:V<P) (hB:Bv≤A):V+Bv=A:=by
 cases c with
 | zero=>rw [Nat.mul_zero] at h; omega
 | succ c=>
   rw [Nat.mul_succ] at h; generalize P*c=X at h; omega
theorem l1SubD_any (B:Nat) (va vb:Value) (a b:List Nat) (w:World) (ha:IsL B w va a) (hb:IsL B w vb b) (hla:a.length≤1000000) (hlb:b.length≤a.length) (hle:val b≤val a) :
 Calls Tryz.prog 91 #[va,vb] w fun e w'=>∃ v L,e=.returned v∧IsL w.heap.size w' v L∧val L+val b=val a∧Up w w':=by
 obtain ⟨i0,a3,b6,b7,b8⟩:=info_parts Tryz.info_u32; obtain ⟨pa,ca,rfl,_⟩:=id ha; obtain ⟨pb,cb,rfl,_⟩:=id hb; obtain ⟨_,_,_,T,K⟩:=ha.cells; obtain ⟨_,_,_,U,M⟩:=hb.cells; have HA:=Hd K; have HB:=Hd M; have a9:=Hd hle; clear K M ha hb hle
 go_enter Tryz.func91,Tryz.ntmps91
 go_wp2_with (at_make; refine wpList_make_full _ rfl _ _ 47 rfl w.heap.size 85 i0 (.int .u32 0) 1 Tryz.underlying47 a3 b6 b7 .i64 .i64 _ _ a.length rfl rfl ?m0 ?m1 ?m2 ?m3 ?m4 ?_)
 try (case m0=>first|rfl|omega)
 try (case m1=>first|rfl|omega)
 try (case m2=>(first|omega|(rw [b8]; omega)))
 try (case m3=>(unfold maxLen; omega))
 try (case m4=>exact leR)
 intro w1 H W
 first|rw [made_zero] at H|rw [made_zero'] at H
 have t:Row w1 w.heap.size (List.replicate a.length 0):=row_of_full H; have S:Up w w1:=(Below.refl _ _).grown W leR (fun k h=>by cases h); clear H W
 go_wp2
 go_loopw [6,14] (fun cv iv wr=>∃ (i c:Nat) (L:List Nat),i≤a.length∧c≤1∧L.length=a.length∧okL L∧Row wr w.heap.size L∧cv=.int .i64 (c:Nat)∧iv=.int .i64 i ∧
  val (L.take i)+val (b.take i)=val (a.take i)+1000000000 ^ i*c∧Up w wr) (fun _ iv _=>a.length - (intOf iv).toNat)
 case atStart=>exact ⟨0,0,_,by omega,by omega,by simp,fun x hx=>by rw [List.eq_of_mem_replicate hx]; omega,t,rfl,rfl,by simp [val],S⟩
 case round=>
  clear t S; obtain ⟨i,c,L,hi,hc,J,j,t,rfl,rfl,m,I⟩:=hrel
  by_cases Z:i<a.length
  ·obtain ⟨ba,oa,rfl,a5,K⟩:=HA.o i Z; rw [← I.cell (p:=⟨ba,oa+i,none⟩) a5] at K; have b4:=okL_getD a T i Z; obtain ⟨x,hx⟩:=exW (a.getD i 0); rw [hx] at K b4
   by_cases Y:i<b.length
   ·obtain ⟨bb,ob,rfl,a6,M⟩:=HB.o i Y; rw [← I.cell (p:=⟨bb,ob+i,none⟩) a6] at M; have b5:=okL_getD b U i Y; obtain ⟨y,hy⟩:=exW (b.getD i 0); rw [hy] at M b5
    by_cases V:x<c+y
    ·have s:=sub_step (1000000000 ^ i) _ _ _ c x y (x+1000000000 - c - y) 1 m (by omega); have F:Hid (val ((L.set i (x+1000000000 - c - y)).take (i+1))+val (b.take (i+1))=val (a.take (i+1))+1000000000 ^ (i+1)*1):=by
      unfold Hid
      rw [val_take_set L i _ (by omega),val_take_succ,val_take_succ,hx,hy,Nat.pow_succ]; exact s
     have G:=t.cell i (by omega); have Q:=t.frozen i; have E:Hid (Row (wr.setCell ⟨w.heap.size,i,none⟩ (.int .u32 (((x+1000000000 - c - y):Nat):Int))) w.heap.size (L.set i (x+1000000000 - c - y))):=t.set i _; have A:Hid (∀ u,Up w (wr.setCell ⟨w.heap.size,i,none⟩ u)):=fun u=>I.setCell leR u; have D:Hid (okL (L.set i (x+1000000000 - c - y))):=okL_set L j i _ (by omega); clear s m hx hy t I j
     go_wp2
     go_roundw
     case rel=>
      refine ⟨i+1,1,L.set i (x+1000000000 - c - y),by omega,by omega,by simp [J],D.o,?_,rfl,by go_num,F.o,A.o _⟩; have h:=E.o; rw [show ((((x+1000000000 - c - y)):Nat):Int)=_ from ?_] at h
      ·exact h
      ·omega
     case measure=>simp [intOf]; omega
    ·have s:=sub_step (1000000000 ^ i) _ _ _ c x y (x - c - y) 0 m (by omega); have F:Hid (val ((L.set i (x - c - y)).take (i+1))+val (b.take (i+1))=val (a.take (i+1))+1000000000 ^ (i+1)*0):=by
      unfold Hid
      rw [val_take_set L i _ (by omega),val_take_succ,val_take_succ,hx,hy,Nat.pow_succ]; exact s
     have G:=t.cell i (by omega); have Q:=t.frozen i; have E:Hid (Row (wr.setCell ⟨w.heap.size,i,none⟩ (.int .u32 (((x - c - y):Nat):Int))) w.heap.size (L.set i (x - c - y))):=t.set i _; have A:Hid (∀ u,Up w (wr.setCell ⟨w.heap.size,i,none⟩ u)):=fun u=>I.setCell leR u; have D:Hid (okL (L.set i (x - c - y))):=okL_set L j i _ (by omega); clear s m hx hy t I j
     go_wp2
     go_roundw
     case rel=>
      refine ⟨i+1,0,L.set i (x - c - y),by omega,by omega,by simp [J],D.o,?_,rfl,by go_num,F.o,A.o _⟩; have h:=E.o; rw [show ((((x - c - y)):Nat):Int)=_ from ?_] at h
      ·exact h
      ·omega
     case measure=>simp [intOf]; omega
   ·have O:b.getD i 0=0:=by rw [List.getD_eq_getElem?_getD,List.getElem?_eq_none (by omega)]; rfl
    by_cases V:x<c
    ·have s:=sub_step (1000000000 ^ i) _ _ _ c x 0 (x+1000000000 - c) 1 m (by omega); have F:Hid (val ((L.set i (x+1000000000 - c)).take (i+1))+val (b.take (i+1))=val (a.take (i+1))+1000000000 ^ (i+1)*1):=by
      unfold Hid
      rw [val_take_set L i _ (by omega),val_take_succ,val_take_succ,hx,O,Nat.pow_succ]; exact s
     have G:=t.cell i (by omega); have Q:=t.frozen i; have E:Hid (Row (wr.setCell ⟨w.heap.size,i,none⟩ (.int .u32 (((x+1000000000 - c):Nat):Int))) w.heap.size (L.set i (x+1000000000 - c))):=t.set i _; have A:Hid (∀ u,Up w (wr.setCell ⟨w.heap.size,i,none⟩ u)):=fun u=>I.setCell leR u; have D:Hid (okL (L.set i (x+1000000000 - c))):=okL_set L j i _ (by omega); clear s m hx O t I j
     go_wp2
     go_roundw
     case rel=>
      refine ⟨i+1,1,L.set i (x+1000000000 - c),by omega,by omega,by simp [J],D.o,?_,rfl,by go_num,F.o,A.o _⟩; have h:=E.o; rw [show ((((x+1000000000 - c)):Nat):Int)=_ from ?_] at h
      ·exact h
      ·omega
     case measure=>simp [intOf]; omega
    ·have s:=sub_step (1000000000 ^ i) _ _ _ c x 0 (x - c) 0 m (by omega); have F:Hid (val ((L.set i (x - c)).take (i+1))+val (b.take (i+1))=val (a.take (i+1))+1000000000 ^ (i+1)*0):=by
      unfold Hid
      rw [val_take_set L i _ (by omega),val_take_succ,val_take_succ,hx,O,Nat.pow_succ]; exact s
     have G:=t.cell i (by omega); have Q:=t.frozen i; have E:Hid (Row (wr.setCell ⟨w.heap.size,i,none⟩ (.int .u32 (((x - c):Nat):Int))) w.heap.size (L.set i (x - c))):=t.set i _; have A:Hid (∀ u,Up w (wr.setCell ⟨w.heap.size,i,none⟩ u)):=fun u=>I.setCell leR u; have D:Hid (okL (L.set i (x - c))):=okL_set L j i _ (by omega); clear s m hx O t I j
     go_wp2
     go_roundw
     case rel=>
      refine ⟨i+1,0,L.set i (x - c),by omega,by omega,by simp [J],D.o,?_,rfl,by go_num,F.o,A.o _⟩; have h:=E.o; rw [show ((((x - c)):Nat):Int)=_ from ?_] at h
      ·exact h
      ·omega
     case measure=>simp [intOf]; omega
  ·obtain rfl:i=a.length:=by omega
   have hE:=sub_end (1000000000 ^ a.length) c _ _ _ m (by rw [List.take_of_length_le (by omega)]; exact val_lt_of L j _ (by omega)) (by rw [List.take_of_length_le (by omega),List.take_of_length_le (by omega)]; exact a9.o); rw [List.take_of_length_le (by omega),List.take_of_length_le (by omega),List.take_of_length_le (by omega)] at hE; have HE:=Hd hE; have HL:Hid (IsL w.heap.size wr (.slice (some ⟨w.heap.size,0,none⟩) a.length a.length) L):=by
    have:=t.isL (B:=w.heap.size) (cap:=a.length) leR j (by omega) (by unfold maxLen; omega); rw [J] at this; exact this
   have a8:=Hd I; clear hE m t I j
   go_wp2
   go_ret
   exact ⟨_,L,rfl,HL.o,HE.o,a8.o⟩
end Go.Proofs.YtnhbmpnhijgpmaaGreatDoor
