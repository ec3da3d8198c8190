import Derived.Test.YtnhbmpnhijgpmaaGreatDoorReadImplp
import Derived.Test.YtnhbmpnhijgpmaaGreatDoorM2p
import Derived.Maps.AppendAt
set_option maxRecDepth 100000
set_option maxHeartbeats 2000000
namespace Go.Proofs.YtnhbmpnhijgpmaaGreatDoor
open Go.ChangeShapes Go.WideShapes Go.ChangeAt Go.RowKit
def part (d:List UInt8) (a b:Nat):Nat:=num ((d.take b).drop a)
theorem part_self (d:List UInt8) (a:Nat):part d a a=0:=by
 unfold part; rw [List.drop_eq_nil_of_le (List.length_take_le _ _)]; rfl
theorem part_succ (d:ByteArray) (a j:Nat) (h1:a≤j) (h2:j<d.size):part d.data.toList a (j+1)=part d.data.toList a j*10+(d[j].toNat - 48):=by
 unfold part; rw [take_snoc d j h2,List.drop_append_of_le_length (by rw [List.length_take,← Lib.size_eq]; omega),num_snoc]
theorem part_succ' (d:ByteArray) (dl:List UInt8) (hd:d.data.toList=dl) (a j:Nat) (h1:a≤j) (h2:j<d.size):part dl a (j+1)=part dl a j*10+(d[j].toNat - 48):=by
 subst hd; exact part_succ d a j h1 h2
theorem part_lt8 (d:List UInt8) (h:∀ c∈d,dig c) (a j:Nat) (hj:j<a+9):part d a j<100000000:=by
 unfold part; have m:=num_lt ((d.take j).drop a) (fun c hc=>h c (List.mem_of_mem_take (List.mem_of_mem_drop hc))); have i:((d.take j).drop a).length≤8:=by rw [List.length_drop,List.length_take]; omega
 have h3:10 ^ ((d.take j).drop a).length≤10 ^ 8:=Nat.pow_le_pow_right (by omega) i; have:(10:Nat) ^ 8=100000000:=by decide
 omega
theorem IsZ.setCell {B:Nat} {w:World} {z:Value} {neg:Bool} {t:List Nat} (h:IsZ B w z neg t) (p:Addr) (u:Value) (hp:p.block<B):IsZ B (w.setCell p u) z neg t:=by
 obtain ⟨i,j,h3⟩:=h; refine ⟨i,j,?_⟩
 rcases h3 with ⟨h3,v,rfl,m⟩|h3
 ·exact .inl ⟨h3,v,rfl,m.setCell p u hp⟩
 exact .inr h3
theorem IsZ.mono {B B':Nat} {w:World} {z:Value} {neg:Bool} {t:List Nat} (h:IsZ B w z neg t) (hb:B'≤B):IsZ B' w z neg t:=by
 obtain ⟨i,j,h3⟩:=h; refine ⟨i,j,?_⟩
 rcases h3 with ⟨h3,v,rfl,m⟩|h3
 ·exact .inl ⟨h3,v,rfl,m.mono hb⟩
 exact .inr h3
theorem IsZ.shape {B:Nat} {w:World} {z:Value} {neg:Bool} {t:List Nat} (h:IsZ B w z neg t):∃ (z0:Int) (zn:Bool) (za:Option Addr) (zl zc:Nat),z=.agg #[.int .i64 z0,.bool zn,.slice za zl zc]:=by
 obtain ⟨i,j,h3⟩:=h
 rcases h3 with ⟨h3,v,rfl,a,cap,rfl,_⟩|⟨_,rfl⟩
 ·exact ⟨_,_,_,_,_,rfl⟩
 exact ⟨_,_,_,_,_,rfl⟩
theorem l1Read_pos (s:ByteArray) (w:World) (hi:isIntB s=true) (hn:isNeg s=false) :
 Calls Tryz.prog 38 #[.string s] w fun e w'=>∃ z,e=.returned z∧IsZ w.heap.size w' z false (trimL (chunks (s).data.toList))∧Up w w':=by
 obtain ⟨H,a6,a7⟩:=isIntB_dig s hi; rw [dgs_pos s hn] at H a6 a7; obtain ⟨dl,M⟩:=exW ((s).data.toList); have I:=Hd M; have HZ:Hid (dl.length=s.size):=by unfold Hid; rw [← M,← Lib.size_eq]
 rw [Lib.size_eq,M,HZ.o] at a6 a7; rw [M] at H ⊢; have U:=Hd H; have d5:0<s.size:=by omega
 have hm:((s[0].toNat:Int)==45)=false:=by have:=isNeg_no s hn d5; simp; omega
 obtain ⟨i0,T,b4,b5,b6⟩:=info_parts Tryz.info_u32; obtain ⟨W0,W⟩:=exW (w.alloc (.cells #[.int .i64 0,.bool false,.slice none 0 0] 49)); have D:=Hd W; have a9:W0.heap.size=w.heap.size+1:=by rw [← W]; simp
 have F:=Hd a9; clear hi H a9 W hn M
 go_enter Tryz.func38,Tryz.ntmps38
 go_wp2
 rw [D.o]
 go_loopw [4,5] (fun v e wr=>∃ k:Nat,9*k≤s.size+8∧e=.int .i64 ((s.size:Nat) - 9*k) ∧
  wr.ownsRow (w.heap.size+1) 85 1 v k ((List.range k).map (fun i=>Value.int .u32 (chunk dl i:Nat)))∧Below (w.heap.size+1) W0 wr)
  (fun _ e _=>(intOf e).toNat)
 case atStart=>exact ⟨0,by omega,val_int (by omega),World.ownsRow_nil _ _ _ _,Below.refl _ _⟩
 case round=>
  obtain ⟨k,hk,rfl,A,J⟩:=hrel
  by_cases e5:9*k<s.size
  ·by_cases h9:9*k+9≤s.size
   ·
    go_wp2_with fail
    go_loop [7,8] (fun t i=>∃ j:Nat,s.size - 9*k - 9≤j∧j≤s.size - 9*k∧i=.int .i64 j∧t=.int .u32 (part dl (s.size - 9*k - 9) j:Nat)) (fun _ i=>s.size - 9*k - (intOf i).toNat)
    case atStart=>exact ⟨s.size - 9*k - 9,leR,by omega,val_int (by omega),by rw [part_self]; rfl⟩
    case round=>
     obtain ⟨j,Z,d1,rfl,rfl⟩:=hrel
     by_cases d3:j<s.size - 9*k
     ·have O:j<(s).size:=by rw [Lib.size_eq,I.o,HZ.o]; omega
      have d2:j<s.size:=by omega
      have d4:=part_lt8 dl U.o (s.size - 9*k - 9) j (by omega); have c9:=dig_at (s) (by rw [I.o]; exact U.o) j O; have HS:Hid (part dl (s.size - 9*k - 9) (j+1)=part dl (s.size - 9*k - 9) j*10+((s)[j].toNat - 48)):=part_succ' (s) dl I.o (s.size - 9*k - 9) j Z O
      go_wp2
      go_round
      case rel=>exact ⟨j+1,by omega,by omega,by go_num,by rw [HS.o]; exact val_int (by omega)⟩
      case measure=>simp [intOf]; omega
     ·have Q:j=s.size - 9*k:=by omega
      have L:Hid (part dl (s.size - 9*k - 9) j=chunk dl k):=by
       unfold Hid
       rw [Q]; unfold part chunk; rw [HZ.o]
      have d0:=chunk_lt dl k U.o; rw [L.o]; clear Q L
      go_wp2_with (at_builtin; refine wpList_append_own _ rfl _ _ 47 rfl (w.heap.size+1) 85 i0 (.int .u32 0) 1 4 Tryz.underlying47 T b4 b5 b6 rfl (by decide) _ _ _ rfl (A.alloc _) ⟨wr.heap.size,0,none⟩ 1 1 [.int .u32 (chunk dl k:Nat)] rfl rfl (cell_one_new _ _ _) ?pac2 ?pac3 ?pac4 ?pac5 ?_)
      case pac2=>first|rfl|(intro u hu; simp at hu; subst hu; rfl)
      case pac3=>unfold maxLen; omega
      case pac4=>omega
      case pac5=>have:=J.size; have:=F.o; simp; omega
      intro v' K G m _; have V:Below (w.heap.size+1) W0 K:=(J.alloc (by have:=J.size; have:=F.o; omega) _).grown m (by have:=J.size; have:=F.o; simp; omega) (fun q hq=>(A.lt q hq).1); clear m A J
      go_wp2
      go_roundw
      case rel=>exact ⟨k+1,by omega,val_int (by omega),by rw [List.range_succ,List.map_append]; exact G,V⟩
      case measure=>simp [intOf]; omega
   ·
    go_wp2_with fail
    go_loop [7,8] (fun t i=>∃ j:Nat,0≤j∧j≤s.size - 9*k∧i=.int .i64 j∧t=.int .u32 (part dl (0) j:Nat)) (fun _ i=>s.size - 9*k - (intOf i).toNat)
    case atStart=>exact ⟨0,leR,by omega,val_int (by omega),by rw [part_self]; rfl⟩
    case round=>
     obtain ⟨j,Z,d1,rfl,rfl⟩:=hrel
     by_cases d3:j<s.size - 9*k
     ·have O:j<(s).size:=by rw [Lib.size_eq,I.o,HZ.o]; omega
      have d2:j<s.size:=by omega
      have d4:=part_lt8 dl U.o (0) j (by omega); have c9:=dig_at (s) (by rw [I.o]; exact U.o) j O; have HS:Hid (part dl (0) (j+1)=part dl (0) j*10+((s)[j].toNat - 48)):=part_succ' (s) dl I.o (0) j Z O
      go_wp2
      go_round
      case rel=>exact ⟨j+1,by omega,by omega,by go_num,by rw [HS.o]; exact val_int (by omega)⟩
      case measure=>simp [intOf]; omega
     ·have Q:j=s.size - 9*k:=by omega
      have L:Hid (part dl (0) j=chunk dl k):=by
       unfold Hid
       rw [Q]; unfold part chunk; rw [HZ.o]; rw [show s.size - 9*k - 9=0 by omega]
      have d0:=chunk_lt dl k U.o; rw [L.o]; clear Q L
      go_wp2_with (at_builtin; refine wpList_append_own _ rfl _ _ 47 rfl (w.heap.size+1) 85 i0 (.int .u32 0) 1 4 Tryz.underlying47 T b4 b5 b6 rfl (by decide) _ _ _ rfl (A.alloc _) ⟨wr.heap.size,0,none⟩ 1 1 [.int .u32 (chunk dl k:Nat)] rfl rfl (cell_one_new _ _ _) ?pbc2 ?pbc3 ?pbc4 ?pbc5 ?_)
      case pbc2=>first|rfl|(intro u hu; simp at hu; subst hu; rfl)
      case pbc3=>unfold maxLen; omega
      case pbc4=>omega
      case pbc5=>have:=J.size; have:=F.o; simp; omega
      intro v' K G m _; have V:Below (w.heap.size+1) W0 K:=(J.alloc (by have:=J.size; have:=F.o; omega) _).grown m (by have:=J.size; have:=F.o; simp; omega) (fun q hq=>(A.lt q hq).1); clear m A J
      go_wp2
      go_roundw
      case rel=>exact ⟨k+1,by omega,val_int (by omega),by rw [List.range_succ,List.map_append]; exact G,V⟩
      case measure=>simp [intOf]; omega
  ·have a8:k=cnt (s.size):=by unfold cnt; omega
   have hL:IsL (w.heap.size+1) wr u4 (chunks dl):=by
    unfold chunks; rw [HZ.o,← a8]; refine isL_of_owns (e:=85) ?_ (fun x hx=>?_)
    ·simpa [Function.comp_def] using A
    ·rw [List.mem_map] at hx; obtain ⟨i,_,rfl⟩:=hx; exact chunk_lt dl i U.o
   have HL:=Hd hL; clear hL A a8
   go_wp2_with fail
   refine (l1Make_any _ _ _ _ _ HL.o).mono ?_; rintro e K ⟨z,rfl,hcut,Y⟩; have hZ:=(hcut _ _ HL.o).below Y; have E:Below (w.heap.size+1) W0 K:=J.trans (Y.mono (by have:=J.size; have:=F.o; omega)); have c6:K.cell? ⟨w.heap.size,0,none⟩=some (.int .i64 0):=by
    rw [E.cell (p:=⟨w.heap.size,0,none⟩) (Nat.lt_succ_self _),← D.o,World.cell?_alloc_at _ _ _ _ rfl]; rfl
   have c7:K.cell? ⟨w.heap.size,1,none⟩=some (.bool false):=by
    rw [E.cell (p:=⟨w.heap.size,1,none⟩) (Nat.lt_succ_self _),← D.o,World.cell?_alloc_at _ _ _ _ rfl]; rfl
   have c8:K.cell? ⟨w.heap.size,2,none⟩=some (.slice none 0 0):=by
    rw [E.cell (p:=⟨w.heap.size,2,none⟩) (Nat.lt_succ_self _),← D.o,World.cell?_alloc_at _ _ _ _ rfl]; rfl
   have e2:K.frozen? ⟨w.heap.size,0,none⟩=false:=by
    rw [E.frozen (p:=⟨w.heap.size,0,none⟩) (Nat.lt_succ_self _),← D.o,World.frozen?_alloc_at _ _ _ _ rfl]
   have e3:K.frozen? ⟨w.heap.size,1,none⟩=false:=by
    rw [E.frozen (p:=⟨w.heap.size,1,none⟩) (Nat.lt_succ_self _),← D.o,World.frozen?_alloc_at _ _ _ _ rfl]
   have e4:K.frozen? ⟨w.heap.size,2,none⟩=false:=by
    rw [E.frozen (p:=⟨w.heap.size,2,none⟩) (Nat.lt_succ_self _),← D.o,World.frozen?_alloc_at _ _ _ _ rfl]
   have S:Up w K:=by
    have h0:=below_alloc w (.cells #[.int .i64 0,.bool false,.slice none 0 0] 49); rw [D.o] at h0; exact h0.trans (E.mono (Nat.le_succ _))
   have HB:=Hd S; have b8:=Hd hZ; obtain ⟨z0,zn,za,zl,zc,d6⟩:=hZ.shape; subst d6; clear hcut Y E J S hZ
   go_wp2
   refine bodyPost_ret ?_ rfl ⟨_,rfl,(((b8.o.setCell _ _ (Nat.lt_succ_self _)).setCell _ _ (Nat.lt_succ_self _)).setCell _ _ (Nat.lt_succ_self _)).mono (Nat.le_succ _),((HB.o.setCell leR _).setCell leR _).setCell leR _⟩; simp [results,Tryz.results38,go_sem,c6,c7,c8]
theorem l1Read_neg (s:ByteArray) (w:World) (hi:isIntB s=true) (hn:isNeg s=true) :
 Calls Tryz.prog 38 #[.string s] w fun e w'=>∃ z,e=.returned z∧IsZ w.heap.size w' z true (trimL (chunks (s.extract 1 s.size).data.toList))∧Up w w':=by
 obtain ⟨H,a6,a7⟩:=isIntB_dig s hi; rw [dgs_neg s hn] at H a6 a7; obtain ⟨dl,M⟩:=exW ((s.extract 1 s.size).data.toList); have I:=Hd M; have HZ:Hid (dl.length=(s.size - 1)):=by unfold Hid; rw [← M,← Lib.size_eq]; exact ext_size s
 rw [Lib.size_eq,M,HZ.o] at a6 a7; rw [M] at H ⊢; have U:=Hd H; have e5:0<s.size:=by omega
 have hm:((s[0].toNat:Int)==45)=true:=by have:=(isNeg_yes s hn).2; simp; omega
 obtain ⟨i0,T,b4,b5,b6⟩:=info_parts Tryz.info_u32; obtain ⟨W0,W⟩:=exW (w.alloc (.cells #[.int .i64 0,.bool false,.slice none 0 0] 49)); have D:=Hd W; have a9:W0.heap.size=w.heap.size+1:=by rw [← W]; simp
 have F:=Hd a9; clear hi H a9 W hn M
 go_enter Tryz.func38,Tryz.ntmps38
 go_wp2
 rw [D.o]
 go_loopw [4,5] (fun v e wr=>∃ k:Nat,9*k≤(s.size - 1)+8∧e=.int .i64 (((s.size - 1):Nat) - 9*k) ∧
  wr.ownsRow (w.heap.size+1) 85 1 v k ((List.range k).map (fun i=>Value.int .u32 (chunk dl i:Nat)))∧Below (w.heap.size+1) W0 wr)
  (fun _ e _=>(intOf e).toNat)
 case atStart=>exact ⟨0,by omega,val_int (by omega),World.ownsRow_nil _ _ _ _,Below.refl _ _⟩
 case round=>
  obtain ⟨k,hk,rfl,A,J⟩:=hrel
  by_cases e4:9*k<(s.size - 1)
  ·by_cases h9:9*k+9≤(s.size - 1)
   ·
    go_wp2_with fail
    go_loop [7,8] (fun t i=>∃ j:Nat,(s.size - 1) - 9*k - 9≤j∧j≤(s.size - 1) - 9*k∧i=.int .i64 j∧t=.int .u32 (part dl ((s.size - 1) - 9*k - 9) j:Nat)) (fun _ i=>(s.size - 1) - 9*k - (intOf i).toNat)
    case atStart=>exact ⟨(s.size - 1) - 9*k - 9,leR,by omega,val_int (by omega),by rw [part_self]; rfl⟩
    case round=>
     obtain ⟨j,Z,d1,rfl,rfl⟩:=hrel
     by_cases d3:j<(s.size - 1) - 9*k
     ·have O:j<(s.extract 1 s.size).size:=by rw [Lib.size_eq,I.o,HZ.o]; omega
      have d2:j<(s.size - 1):=by omega
      have d4:=part_lt8 dl U.o ((s.size - 1) - 9*k - 9) j (by omega); have c9:=dig_at (s.extract 1 s.size) (by rw [I.o]; exact U.o) j O; have HS:Hid (part dl ((s.size - 1) - 9*k - 9) (j+1)=part dl ((s.size - 1) - 9*k - 9) j*10+((s.extract 1 s.size)[j].toNat - 48)):=part_succ' (s.extract 1 s.size) dl I.o ((s.size - 1) - 9*k - 9) j Z O
      go_wp2
      go_round
      case rel=>exact ⟨j+1,by omega,by omega,by go_num,by rw [HS.o]; exact val_int (by omega)⟩
      case measure=>simp [intOf]; omega
     ·have Q:j=(s.size - 1) - 9*k:=by omega
      have L:Hid (part dl ((s.size - 1) - 9*k - 9) j=chunk dl k):=by
       unfold Hid
       rw [Q]; unfold part chunk; rw [HZ.o]
      have d0:=chunk_lt dl k U.o; rw [L.o]; clear Q L
      go_wp2_with (at_builtin; refine wpList_append_own _ rfl _ _ 47 rfl (w.heap.size+1) 85 i0 (.int .u32 0) 1 4 Tryz.underlying47 T b4 b5 b6 rfl (by decide) _ _ _ rfl (A.alloc _) ⟨wr.heap.size,0,none⟩ 1 1 [.int .u32 (chunk dl k:Nat)] rfl rfl (cell_one_new _ _ _) ?nac2 ?nac3 ?nac4 ?nac5 ?_)
      case nac2=>first|rfl|(intro u hu; simp at hu; subst hu; rfl)
      case nac3=>unfold maxLen; omega
      case nac4=>omega
      case nac5=>have:=J.size; have:=F.o; simp; omega
      intro v' K G m _; have V:Below (w.heap.size+1) W0 K:=(J.alloc (by have:=J.size; have:=F.o; omega) _).grown m (by have:=J.size; have:=F.o; simp; omega) (fun q hq=>(A.lt q hq).1); clear m A J
      go_wp2
      go_roundw
      case rel=>exact ⟨k+1,by omega,val_int (by omega),by rw [List.range_succ,List.map_append]; exact G,V⟩
      case measure=>simp [intOf]; omega
   ·
    go_wp2_with fail
    go_loop [7,8] (fun t i=>∃ j:Nat,0≤j∧j≤(s.size - 1) - 9*k∧i=.int .i64 j∧t=.int .u32 (part dl (0) j:Nat)) (fun _ i=>(s.size - 1) - 9*k - (intOf i).toNat)
    case atStart=>exact ⟨0,leR,by omega,val_int (by omega),by rw [part_self]; rfl⟩
    case round=>
     obtain ⟨j,Z,d1,rfl,rfl⟩:=hrel
     by_cases d3:j<(s.size - 1) - 9*k
     ·have O:j<(s.extract 1 s.size).size:=by rw [Lib.size_eq,I.o,HZ.o]; omega
      have d2:j<(s.size - 1):=by omega
      have d4:=part_lt8 dl U.o (0) j (by omega); have c9:=dig_at (s.extract 1 s.size) (by rw [I.o]; exact U.o) j O; have HS:Hid (part dl (0) (j+1)=part dl (0) j*10+((s.extract 1 s.size)[j].toNat - 48)):=part_succ' (s.extract 1 s.size) dl I.o (0) j Z O
      go_wp2
      go_round
      case rel=>exact ⟨j+1,by omega,by omega,by go_num,by rw [HS.o]; exact val_int (by omega)⟩
      case measure=>simp [intOf]; omega
     ·have Q:j=(s.size - 1) - 9*k:=by omega
      have L:Hid (part dl (0) j=chunk dl k):=by
       unfold Hid
       rw [Q]; unfold part chunk; rw [HZ.o]; rw [show (s.size - 1) - 9*k - 9=0 by omega]
      have d0:=chunk_lt dl k U.o; rw [L.o]; clear Q L
      go_wp2_with (at_builtin; refine wpList_append_own _ rfl _ _ 47 rfl (w.heap.size+1) 85 i0 (.int .u32 0) 1 4 Tryz.underlying47 T b4 b5 b6 rfl (by decide) _ _ _ rfl (A.alloc _) ⟨wr.heap.size,0,none⟩ 1 1 [.int .u32 (chunk dl k:Nat)] rfl rfl (cell_one_new _ _ _) ?nbc2 ?nbc3 ?nbc4 ?nbc5 ?_)
      case nbc2=>first|rfl|(intro u hu; simp at hu; subst hu; rfl)
      case nbc3=>unfold maxLen; omega
      case nbc4=>omega
      case nbc5=>have:=J.size; have:=F.o; simp; omega
      intro v' K G m _; have V:Below (w.heap.size+1) W0 K:=(J.alloc (by have:=J.size; have:=F.o; omega) _).grown m (by have:=J.size; have:=F.o; simp; omega) (fun q hq=>(A.lt q hq).1); clear m A J
      go_wp2
      go_roundw
      case rel=>exact ⟨k+1,by omega,val_int (by omega),by rw [List.range_succ,List.map_append]; exact G,V⟩
      case measure=>simp [intOf]; omega
  ·have a8:k=cnt ((s.size - 1)):=by unfold cnt; omega
   have hL:IsL (w.heap.size+1) wr u4 (chunks dl):=by
    unfold chunks; rw [HZ.o,← a8]; refine isL_of_owns (e:=85) ?_ (fun x hx=>?_)
    ·simpa [Function.comp_def] using A
    ·rw [List.mem_map] at hx; obtain ⟨i,_,rfl⟩:=hx; exact chunk_lt dl i U.o
   have HL:=Hd hL; clear hL A a8
   go_wp2_with fail
   refine (l1Make_any _ _ _ _ _ HL.o).mono ?_; rintro e K ⟨z,rfl,hcut,Y⟩; have hZ:=(hcut _ _ HL.o).below Y; have E:Below (w.heap.size+1) W0 K:=J.trans (Y.mono (by have:=J.size; have:=F.o; omega)); have c6:K.cell? ⟨w.heap.size,0,none⟩=some (.int .i64 0):=by
    rw [E.cell (p:=⟨w.heap.size,0,none⟩) (Nat.lt_succ_self _),← D.o,World.cell?_alloc_at _ _ _ _ rfl]; rfl
   have c7:K.cell? ⟨w.heap.size,1,none⟩=some (.bool false):=by
    rw [E.cell (p:=⟨w.heap.size,1,none⟩) (Nat.lt_succ_self _),← D.o,World.cell?_alloc_at _ _ _ _ rfl]; rfl
   have c8:K.cell? ⟨w.heap.size,2,none⟩=some (.slice none 0 0):=by
    rw [E.cell (p:=⟨w.heap.size,2,none⟩) (Nat.lt_succ_self _),← D.o,World.cell?_alloc_at _ _ _ _ rfl]; rfl
   have e1:K.frozen? ⟨w.heap.size,0,none⟩=false:=by
    rw [E.frozen (p:=⟨w.heap.size,0,none⟩) (Nat.lt_succ_self _),← D.o,World.frozen?_alloc_at _ _ _ _ rfl]
   have e2:K.frozen? ⟨w.heap.size,1,none⟩=false:=by
    rw [E.frozen (p:=⟨w.heap.size,1,none⟩) (Nat.lt_succ_self _),← D.o,World.frozen?_alloc_at _ _ _ _ rfl]
   have e3:K.frozen? ⟨w.heap.size,2,none⟩=false:=by
    rw [E.frozen (p:=⟨w.heap.size,2,none⟩) (Nat.lt_succ_self _),← D.o,World.frozen?_alloc_at _ _ _ _ rfl]
   have S:Up w K:=by
    have h0:=below_alloc w (.cells #[.int .i64 0,.bool false,.slice none 0 0] 49); rw [D.o] at h0; exact h0.trans (E.mono (Nat.le_succ _))
   have HB:=Hd S; have b8:=Hd hZ; obtain ⟨z0,zn,za,zl,zc,d5⟩:=hZ.shape; subst d5; clear hcut Y E J S hZ
   go_wp2
   refine bodyPost_ret ?_ rfl ⟨_,rfl,(((b8.o.setCell _ _ (Nat.lt_succ_self _)).setCell _ _ (Nat.lt_succ_self _)).setCell _ _ (Nat.lt_succ_self _)).mono (Nat.le_succ _),((HB.o.setCell leR _).setCell leR _).setCell leR _⟩; simp [results,Tryz.results38,go_sem,c6,c7,c8]
theorem l1Read_any (s:ByteArray) (w:World) (hi:isIntB s=true) :
 Calls Tryz.prog 38 #[.string s] w fun e w'=>∃ z,e=.returned z∧IsZ w.heap.size w' z (isNeg s) (trimL (chunks (dgs s).data.toList))∧Up w w':=by
 cases hn:isNeg s
 ·rw [dgs_pos s hn]; exact l1Read_pos s w hi hn
 rw [dgs_neg s hn]; exact l1Read_neg s w hi hn
end Go.Proofs.YtnhbmpnhijgpmaaGreatDoor
