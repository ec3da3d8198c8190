import Derived.Test.YtknfmkeipeikkaaGreatDoorM1p
import Derived.Maps.AppendAt
set_option maxRecDepth 100000
set_option maxHeartbeats 1000000
namespace Go.Proofs.YtknfmkeipeikkaaGreatDoor
open Go.ChangeShapes Go.WideShapes Go.ChangeAt Go.RowKit
theorem Tryz.info_u32:(Tryz.prog.info? 87).map (fun i=>(i.zero,i.size,i.bytes))=some (some (.int .u32 0),1,4):=by kernel_rfl
theorem isIntB_dig (s:ByteArray) (h:isIntB s=true):(∀ c∈(dgs s).data.toList,dig c)∧0<(dgs s).size∧(dgs s).size≤2500:=by
 unfold isIntB at h; simp only [Bool.and_eq_true,decide_eq_true_eq] at h; obtain ⟨⟨⟨j,h2⟩,h3⟩,_⟩:=h; refine ⟨fun c hc=>?_,j,h2⟩; rw [List.all_eq_true] at h3; have:=h3 c hc
 simpa [isDig,dig] using this
theorem isNeg_size (s:ByteArray):decide ((dgs s).size<s.size)=isNeg s:=by
 cases h:isNeg s with
 | true=>
   obtain ⟨j,_⟩:=isNeg_yes s h; rw [dgs_neg s h,ext_size]; simp; omega
 | false=>rw [dgs_pos s h]; simp
theorem chunk_ext (d:ByteArray) (k:Nat):num (d.extract (d.size - 9*k - 9) (d.size - 9*k)).data.toList=chunk d.data.toList k:=by
 unfold chunk; rw [Lib.extract_data,← Lib.size_eq]
 congr 1
 rw [List.drop_take]
theorem cutInteger_any (s:ByteArray) (w:World) (hs:s.size≤maxLen) (hi:isIntB s=true) :
 Calls Tryz.prog 32 #[.string s] w fun e w'=>∃ v,e=.returned (.agg #[.bool (negOf (isNeg s) (trimL (chunks (dgs s).data.toList))),v]) ∧
  IsL w.heap.size w' v (trimL (chunks (dgs s).data.toList))∧Up w w':=by
 obtain ⟨K,c9,d0⟩:=isIntB_dig s hi; obtain ⟨d,hd⟩:=exW (dgs s); rw [hd] at K c9 d0 ⊢; have HD:=Hd hd; have HG:=Hd K; obtain ⟨i0,M,Z,a3,a5⟩:=info_parts Tryz.info_u32; clear hi hd K
 go_enter Tryz.func32,Tryz.ntmps32
 go_wp2_with (first
  | (go_at_call 62; refine (trim_any _ _ hs).mono ?_; rintro e w' ⟨rfl,rfl⟩; rw [HD.o])
  | (at_make; refine wpList_make_own _ rfl _ _ 51 rfl (w.heap.size+1) 87 i0 (.int .u32 0) 1 Tryz.underlying51 M Z a3 .i64 .i64 _ (d.size / 9+1) rfl rfl ?m1 ?m2 ?m3 ?m4 ?_))
 case m1=>omega
 case m2=>rw [a5]; omega
 case m3=>unfold maxLen; omega
 case m4=>simp
 intro wm j D; obtain ⟨W0,U⟩:=exW (w.alloc (.cells #[.bool false,.slice none 0 0] 67)); have J:=Hd U; rw [U] at D; have b4:W0.heap.size=w.heap.size+1:=by rw [← U]; simp
 have a8:Below (w.heap.size+1) W0 wm:=(Below.refl _ _).grown D (by omega) (fun k h=>by cases h); have y:=Hd b4; clear D U b4
 go_wp2
 go_loopw [4,5] (fun v e wr=>∃ k:Nat,9*k≤d.size+8∧e=.int .i64 (d.size - 9*k) ∧
  wr.ownsRow (w.heap.size+1) 87 1 v k ((List.range k).map (fun i=>Value.int .u32 (chunk d.data.toList i:Nat)))∧Below (w.heap.size+1) W0 wr)
  (fun _ e _=>(intOf e).toNat)
 case atStart=>exact ⟨0,by omega,by simp,j,a8⟩
 case round=>
  clear j a8; obtain ⟨k,hk,rfl,j,H⟩:=hrel
  by_cases e5:9*k<d.size
  ·have e0:=chunk_lt d.data.toList k HG.o; have e4:k≤d.size:=by omega
   go_wp2_with fail
   ·rw [show d.extract ((d.size:Int) - 9*k - 9).toNat (d.size - 9*k)=d.extract (d.size - 9*k - 9) (d.size - 9*k) by rw [show ((d.size:Int) - 9*k - 9).toNat=d.size - 9*k - 9 by omega]]; refine (readLimb_any _ _ ?ph9 ?phdg).mono ?_
    case ph9=>rw [ByteArray.size_extract]; omega
    case phdg=>
     intro c hc; rw [Lib.extract_data] at hc; exact HG.o c (List.mem_of_mem_drop (List.mem_of_mem_take hc))
    rintro e w' ⟨rfl,rfl⟩; rw [chunk_ext]
    go_wp2_with (at_builtin; refine wpList_append_own _ rfl _ _ 51 rfl (w.heap.size+1) 87 i0 (.int .u32 0) 1 4 Tryz.underlying51 M Z a3 a5 rfl (by decide) _ _ _ rfl (j.alloc _) ⟨w'.heap.size,0,none⟩ 1 1 [.int .u32 (chunk d.data.toList k:Nat)] rfl rfl (cell_one_new _ _ _) ?pc2 ?pc3 ?pc4 ?pc5 ?_)
    case pc2=>intro u hu; simp at hu; subst hu; rfl
    case pc3=>unfold maxLen; omega
    case pc4=>omega
    case pc5=>have:=H.size; have:=y.o; simp; omega
    intro v' T E m _; have V:Below (w.heap.size+1) W0 T:=(H.alloc (by have:=H.size; have:=y.o; omega) _).grown m (by have:=H.size; have:=y.o; simp; omega) (fun q hq=>(j.lt q hq).1); clear m j H
    go_wp2
    go_roundw
    case rel=>exact ⟨k+1,by omega,val_int (by omega),by rw [List.range_succ,List.map_append]; exact E,V⟩
    case measure=>simp [intOf]; omega
   ·rw [show d.extract 0 (d.size - 9*k)=d.extract (d.size - 9*k - 9) (d.size - 9*k) by rw [show d.size - 9*k - 9=0 by omega]]; refine (readLimb_any _ _ ?qh9 ?qhdg).mono ?_
    case qh9=>rw [ByteArray.size_extract]; omega
    case qhdg=>
     intro c hc; rw [Lib.extract_data] at hc; exact HG.o c (List.mem_of_mem_drop (List.mem_of_mem_take hc))
    rintro e w' ⟨rfl,rfl⟩; rw [chunk_ext]
    go_wp2_with (at_builtin; refine wpList_append_own _ rfl _ _ 51 rfl (w.heap.size+1) 87 i0 (.int .u32 0) 1 4 Tryz.underlying51 M Z a3 a5 rfl (by decide) _ _ _ rfl (j.alloc _) ⟨w'.heap.size,0,none⟩ 1 1 [.int .u32 (chunk d.data.toList k:Nat)] rfl rfl (cell_one_new _ _ _) ?qc2 ?qc3 ?qc4 ?qc5 ?_)
    case qc2=>intro u hu; simp at hu; subst hu; rfl
    case qc3=>unfold maxLen; omega
    case qc4=>omega
    case qc5=>have:=H.size; have:=y.o; simp; omega
    intro v' T E m _; have V:Below (w.heap.size+1) W0 T:=(H.alloc (by have:=H.size; have:=y.o; omega) _).grown m (by have:=H.size; have:=y.o; simp; omega) (fun q hq=>(j.lt q hq).1); clear m j H
    go_wp2
    go_roundw
    case rel=>exact ⟨k+1,by omega,val_int (by omega),by rw [List.range_succ,List.map_append]; exact E,V⟩
    case measure=>simp [intOf]; omega
  ·have b3:k=cnt d.size:=by unfold cnt; omega
   have hL:IsL (w.heap.size+1) wr u4 (chunks d.data.toList):=by
    unfold chunks; rw [← Lib.size_eq,← b3]; refine isL_of_owns (e:=87) ?_ (fun x hx=>?_)
    ·simpa [Function.comp_def] using j
    ·rw [List.mem_map] at hx; obtain ⟨i,_,rfl⟩:=hx; exact chunk_lt d.data.toList i HG.o
   have HL:=Hd hL; clear hL j b3
   go_wp2_with fail
   refine (makeInteger_any _ _ _ _ _ HL.o).mono ?_; rintro e T ⟨v',rfl,hcut,Y⟩; have HC:Hid (IsL (w.heap.size+1) T v' (trimL (chunks d.data.toList))):=(hcut _ _ HL.o).below Y; have I:Below (w.heap.size+1) W0 T:=H.trans (Y.mono (by have:=H.size; have:=y.o; omega)); have b8:T.cell? ⟨w.heap.size,0,none⟩=some (.bool false):=by
    rw [I.cell (p:=⟨w.heap.size,0,none⟩) (Nat.lt_succ_self _),← J.o,World.cell?_alloc_at _ _ _ _ rfl]; rfl
   have b9:T.cell? ⟨w.heap.size,1,none⟩=some (.slice none 0 0):=by
    rw [I.cell (p:=⟨w.heap.size,1,none⟩) (Nat.lt_succ_self _),← J.o,World.cell?_alloc_at _ _ _ _ rfl]; rfl
   have e2:T.frozen? ⟨w.heap.size,0,none⟩=false:=by
    rw [I.frozen (p:=⟨w.heap.size,0,none⟩) (Nat.lt_succ_self _),← J.o,World.frozen?_alloc_at _ _ _ _ rfl]
   have e3:T.frozen? ⟨w.heap.size,1,none⟩=false:=by
    rw [I.frozen (p:=⟨w.heap.size,1,none⟩) (Nat.lt_succ_self _),← J.o,World.frozen?_alloc_at _ _ _ _ rfl]
   have O:Up w T:=by
    have h0:=below_alloc w (.cells #[.bool false,.slice none 0 0] 67); rw [J.o] at h0; exact h0.trans (I.mono (Nat.le_succ _))
   have HB:=Hd O; obtain ⟨a',a7,d1,_⟩:=hcut _ _ HL.o; subst d1; clear hcut Y I H O
   go_wp2
   refine bodyPost_ret (v:=.agg #[.bool (negOf (decide (d.size<s.size)) (trimL (chunks d.data.toList))),.slice a' (trimL (chunks d.data.toList)).length a7]) ?_ rfl
    ⟨_,by rw [← isNeg_size s,HD.o],((HC.o.setCell _ _ (Nat.lt_succ_self _)).setCell _ _ (Nat.lt_succ_self _)).mono (Nat.le_succ _),(HB.o.setCell leR _).setCell leR _⟩
   simp [results,Tryz.results32,go_sem,b8,b9]
end Go.Proofs.YtknfmkeipeikkaaGreatDoor
