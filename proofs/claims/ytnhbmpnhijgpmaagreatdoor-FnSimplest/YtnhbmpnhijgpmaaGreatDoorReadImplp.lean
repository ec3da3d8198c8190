import Derived.Test.YtnhbmpnhijgpmaaGreatDoorM1p
import Derived.Maps.AppendAt
set_option maxRecDepth 100000
set_option maxHeartbeats 1000000
namespace Go.Proofs.YtnhbmpnhijgpmaaGreatDoor
open Go.ChangeShapes Go.WideShapes Go.ChangeAt Go.RowKit
theorem Tryz.info_u32:(Tryz.prog.info? 85).map (fun i=>(i.zero,i.size,i.bytes))=some (some (.int .u32 0),1,4):=by kernel_rfl
theorem readInteger_no (s:ByteArray) (w:World) (hs:s.size≤maxLen) (hi:isIntB s=false) :
 Calls Tryz.prog 72 #[.string s] w fun e w'=>e=.returned (.tuple #[.agg #[.bool false,.slice none 0 0],.bool false])∧Up w w':=by
 have i:=Hd hi; clear hi
 go_enter Tryz.func72,Tryz.ntmps72
 go_wp2_with (go_at_call 94; refine (isInt_impl _ _ hs).mono ?_; rintro e w' ⟨rfl,rfl⟩; rw [i.o])
 refine bodyPost_ret (v:=.tuple #[.agg #[.bool false,.slice none 0 0],.bool false]) ?_ rfl ⟨rfl,below_alloc _ _⟩; simp [results,Tryz.results72,go_sem]
theorem isIntB_dig (s:ByteArray) (h:isIntB s=true):(∀ c∈(dgs s).data.toList,dig c)∧0<(dgs s).size∧(dgs s).size≤2500:=by
 unfold isIntB at h; simp only [Bool.and_eq_true,decide_eq_true_eq] at h; obtain ⟨⟨⟨i,j⟩,h3⟩,_⟩:=h; refine ⟨fun c hc=>?_,i,j⟩; rw [List.all_eq_true] at h3; have:=h3 c hc
 simpa [isDig,dig] using this
theorem isNeg_size (s:ByteArray):decide ((dgs s).size<s.size)=isNeg s:=by
 cases h:isNeg s with
 | true=>
   obtain ⟨i,_⟩:=isNeg_yes s h; rw [dgs_neg s h,ext_size]; simp; omega
 | false=>rw [dgs_pos s h]; simp
theorem chunk_ext (d:ByteArray) (k:Nat):num (d.extract (d.size - 9*k - 9) (d.size - 9*k)).data.toList=chunk d.data.toList k:=by
 unfold chunk; rw [Lib.extract_data,← Lib.size_eq]
 congr 1
 rw [List.drop_take]
theorem cutInteger_any (s:ByteArray) (w:World) (hs:s.size≤maxLen) (hi:isIntB s=true) :
 Calls Tryz.prog 95 #[.string s] w fun e w'=>∃ v,e=.returned (.agg #[.bool (negOf (isNeg s) (trimL (chunks (dgs s).data.toList))),v]) ∧
  IsL w.heap.size w' v (trimL (chunks (dgs s).data.toList))∧Up w w':=by
 obtain ⟨H,b4,b5⟩:=isIntB_dig s hi; obtain ⟨d,hd⟩:=exW (dgs s); rw [hd] at H b4 b5 ⊢; have HD:=Hd hd; have HG:=Hd H; obtain ⟨i0,I,Q,S,T⟩:=info_parts Tryz.info_u32; clear hi hd H
 go_enter Tryz.func95,Tryz.ntmps95
 go_wp2_with (first
  | (go_at_call 107; refine (trim_any _ _ hs).mono ?_; rintro e w' ⟨rfl,rfl⟩; rw [HD.o])
  | (at_make; refine wpList_make_own _ rfl _ _ 47 rfl (w.heap.size+1) 85 i0 (.int .u32 0) 1 Tryz.underlying47 I Q S .i64 .i64 _ (d.size / 9+1) rfl rfl ?m1 ?m2 ?m3 ?m4 ?_))
 case m1=>omega
 case m2=>rw [T]; omega
 case m3=>unfold maxLen; omega
 case m4=>simp
 intro wm j A; obtain ⟨U,L⟩:=exW (w.alloc (.cells #[.bool false,.slice none 0 0] 55)); have G:=Hd L; rw [L] at A; have a3:U.heap.size=w.heap.size+1:=by rw [← L]; simp
 have W:Below (w.heap.size+1) U wm:=(Below.refl _ _).grown A (by omega) (fun k h=>by cases h); have t:=Hd a3; clear A L a3
 go_wp2
 go_loopw [4,5] (fun v e wr=>∃ k:Nat,9*k≤d.size+8∧e=.int .i64 (d.size - 9*k) ∧
  wr.ownsRow (w.heap.size+1) 85 1 v k ((List.range k).map (fun i=>Value.int .u32 (chunk d.data.toList i:Nat)))∧Below (w.heap.size+1) U wr)
  (fun _ e _=>(intOf e).toNat)
 case atStart=>exact ⟨0,by omega,by simp,j,W⟩
 case round=>
  clear j W; obtain ⟨k,hk,rfl,j,E⟩:=hrel
  by_cases d5:9*k<d.size
  ·have d1:=chunk_lt d.data.toList k HG.o; have d4:k≤d.size:=by omega
   go_wp2_with fail
   ·rw [show d.extract ((d.size:Int) - 9*k - 9).toNat (d.size - 9*k)=d.extract (d.size - 9*k - 9) (d.size - 9*k) by rw [show ((d.size:Int) - 9*k - 9).toNat=d.size - 9*k - 9 by omega]]; refine (readLimb_any _ _ ?ph9 ?phdg).mono ?_
    case ph9=>rw [ByteArray.size_extract]; omega
    case phdg=>
     intro c Y; rw [Lib.extract_data] at Y; exact HG.o c (List.mem_of_mem_drop (List.mem_of_mem_take Y))
    rintro e w' ⟨rfl,rfl⟩; rw [chunk_ext]
    go_wp2_with (at_builtin; refine wpList_append_own _ rfl _ _ 47 rfl (w.heap.size+1) 85 i0 (.int .u32 0) 1 4 Tryz.underlying47 I Q S T rfl (by decide) _ _ _ rfl (j.alloc _) ⟨w'.heap.size,0,none⟩ 1 1 [.int .u32 (chunk d.data.toList k:Nat)] rfl rfl (cell_one_new _ _ _) ?pc2 ?pc3 ?pc4 ?pc5 ?_)
    case pc2=>intro u hu; simp at hu; subst hu; rfl
    case pc3=>unfold maxLen; omega
    case pc4=>omega
    case pc5=>have:=E.size; have:=t.o; simp; omega
    intro v' K D m _; have M:Below (w.heap.size+1) U K:=(E.alloc (by have:=E.size; have:=t.o; omega) _).grown m (by have:=E.size; have:=t.o; simp; omega) (fun q hq=>(j.lt q hq).1); clear m j E
    go_wp2
    go_roundw
    case rel=>exact ⟨k+1,by omega,val_int (by omega),by rw [List.range_succ,List.map_append]; exact D,M⟩
    case measure=>simp [intOf]; omega
   ·rw [show d.extract 0 (d.size - 9*k)=d.extract (d.size - 9*k - 9) (d.size - 9*k) by rw [show d.size - 9*k - 9=0 by omega]]; refine (readLimb_any _ _ ?qh9 ?qhdg).mono ?_
    case qh9=>rw [ByteArray.size_extract]; omega
    case qhdg=>
     intro c Y; rw [Lib.extract_data] at Y; exact HG.o c (List.mem_of_mem_drop (List.mem_of_mem_take Y))
    rintro e w' ⟨rfl,rfl⟩; rw [chunk_ext]
    go_wp2_with (at_builtin; refine wpList_append_own _ rfl _ _ 47 rfl (w.heap.size+1) 85 i0 (.int .u32 0) 1 4 Tryz.underlying47 I Q S T rfl (by decide) _ _ _ rfl (j.alloc _) ⟨w'.heap.size,0,none⟩ 1 1 [.int .u32 (chunk d.data.toList k:Nat)] rfl rfl (cell_one_new _ _ _) ?qc2 ?qc3 ?qc4 ?qc5 ?_)
    case qc2=>intro u hu; simp at hu; subst hu; rfl
    case qc3=>unfold maxLen; omega
    case qc4=>omega
    case qc5=>have:=E.size; have:=t.o; simp; omega
    intro v' K D m _; have M:Below (w.heap.size+1) U K:=(E.alloc (by have:=E.size; have:=t.o; omega) _).grown m (by have:=E.size; have:=t.o; simp; omega) (fun q hq=>(j.lt q hq).1); clear m j E
    go_wp2
    go_roundw
    case rel=>exact ⟨k+1,by omega,val_int (by omega),by rw [List.range_succ,List.map_append]; exact D,M⟩
    case measure=>simp [intOf]; omega
  ·have Z:k=cnt d.size:=by unfold cnt; omega
   have hL:IsL (w.heap.size+1) wr u4 (chunks d.data.toList):=by
    unfold chunks; rw [← Lib.size_eq,← Z]; refine isL_of_owns (e:=85) ?_ (fun x hx=>?_)
    ·simpa [Function.comp_def] using j
    ·rw [List.mem_map] at hx; obtain ⟨i,_,rfl⟩:=hx; exact chunk_lt d.data.toList i HG.o
   have HL:=Hd hL; clear hL j Z
   go_wp2_with fail
   refine (makeInteger_any _ _ _ _ _ HL.o).mono ?_; rintro e K ⟨v',rfl,hcut,O⟩; have HC:Hid (IsL (w.heap.size+1) K v' (trimL (chunks d.data.toList))):=(hcut _ _ HL.o).below O; have F:Below (w.heap.size+1) U K:=E.trans (O.mono (by have:=E.size; have:=t.o; omega)); have a8:K.cell? ⟨w.heap.size,0,none⟩=some (.bool false):=by
    rw [F.cell (p:=⟨w.heap.size,0,none⟩) (Nat.lt_succ_self _),← G.o,World.cell?_alloc_at _ _ _ _ rfl]; rfl
   have a9:K.cell? ⟨w.heap.size,1,none⟩=some (.slice none 0 0):=by
    rw [F.cell (p:=⟨w.heap.size,1,none⟩) (Nat.lt_succ_self _),← G.o,World.cell?_alloc_at _ _ _ _ rfl]; rfl
   have d2:K.frozen? ⟨w.heap.size,0,none⟩=false:=by
    rw [F.frozen (p:=⟨w.heap.size,0,none⟩) (Nat.lt_succ_self _),← G.o,World.frozen?_alloc_at _ _ _ _ rfl]
   have d3:K.frozen? ⟨w.heap.size,1,none⟩=false:=by
    rw [F.frozen (p:=⟨w.heap.size,1,none⟩) (Nat.lt_succ_self _),← G.o,World.frozen?_alloc_at _ _ _ _ rfl]
   have J:Up w K:=by
    have h0:=below_alloc w (.cells #[.bool false,.slice none 0 0] 55); rw [G.o] at h0; exact h0.trans (F.mono (Nat.le_succ _))
   have HB:=Hd J; obtain ⟨a',V,b6,_⟩:=hcut _ _ HL.o; subst b6; clear hcut O F E J
   go_wp2
   refine bodyPost_ret (v:=.agg #[.bool (negOf (decide (d.size<s.size)) (trimL (chunks d.data.toList))),.slice a' (trimL (chunks d.data.toList)).length V]) ?_ rfl
    ⟨_,by rw [← isNeg_size s,HD.o],((HC.o.setCell _ _ (Nat.lt_succ_self _)).setCell _ _ (Nat.lt_succ_self _)).mono (Nat.le_succ _),(HB.o.setCell leR _).setCell leR _⟩
   simp [results,Tryz.results95,go_sem,a8,a9]
theorem readInteger_yes (s:ByteArray) (w:World) (hs:s.size≤maxLen) (hi:isIntB s=true) :
 Calls Tryz.prog 72 #[.string s] w fun e w'=>∃ v,e=.returned (.tuple #[.agg #[.bool (negOf (isNeg s) (trimL (chunks (dgs s).data.toList))),v],.bool true]) ∧
  IsL w.heap.size w' v (trimL (chunks (dgs s).data.toList))∧Up w w':=by
 have i:=Hd hi; clear hi
 go_enter Tryz.func72,Tryz.ntmps72
 go_wp2_with (go_at_call 94; refine (isInt_impl _ _ hs).mono ?_; rintro e w' ⟨rfl,F⟩; subst w'; rw [i.o])
 have E:Hid (∀ W,Below (w.alloc (.cells #[.bool false,.slice none 0 0] 55)).heap.size (w.alloc (.cells #[.bool false,.slice none 0 0] 55)) W→(W.cell? ⟨w.heap.size,0,none⟩=some (.bool false)∧W.cell? ⟨w.heap.size,1,none⟩=some (.slice none 0 0))∧(W.frozen? ⟨w.heap.size,0,none⟩=false∧W.frozen? ⟨w.heap.size,1,none⟩=false)∧Up w W):=fun W hW=>by
  have hl:w.heap.size<(w.alloc (.cells #[.bool false,.slice none 0 0] 55)).heap.size:=by simp
  refine ⟨⟨?_,?_⟩,⟨?_,?_⟩,(below_alloc _ _).trans (hW.mono (Nat.le_of_lt hl))⟩
  ·rw [hW.cell (p:=⟨w.heap.size,0,none⟩) hl,World.cell?_alloc_at _ _ _ _ rfl]; rfl
  ·rw [hW.cell (p:=⟨w.heap.size,1,none⟩) hl,World.cell?_alloc_at _ _ _ _ rfl]; rfl
  ·rw [hW.frozen (p:=⟨w.heap.size,0,none⟩) hl,World.frozen?_alloc_at _ _ _ _ rfl]
  rw [hW.frozen (p:=⟨w.heap.size,1,none⟩) hl,World.frozen?_alloc_at _ _ _ _ rfl]
 refine (cutInteger_any s _ hs i.o).mono ?_; rintro e u ⟨v,rfl,t,m⟩; obtain ⟨⟨c0,c1⟩,⟨f0,f1⟩,j⟩:=E.o u m; have D:Hid (IsL (w.heap.size+1) u v (trimL (chunks (dgs s).data.toList))):=t.mono (by simp); have A:=Hd j; obtain ⟨p,k,rfl,_⟩:=t; clear m j
 go_wp2
 refine bodyPost_ret (v:=.tuple #[.agg #[.bool (negOf (isNeg s) (trimL (chunks (dgs s).data.toList))),.slice p (trimL (chunks (dgs s).data.toList)).length k],.bool true]) ?_ rfl
  ⟨_,rfl,((D.o.setCell _ _ (Nat.lt_succ_self _)).setCell _ _ (Nat.lt_succ_self _)).mono (Nat.le_succ _),(A.o.setCell leR _).setCell leR _⟩
 simp [results,Tryz.results72,go_sem,c0,c1]
end Go.Proofs.YtnhbmpnhijgpmaaGreatDoor
