import Derived.Test.YtknfmkeipeikkaaGreatDoorTgFXp
set_option maxRecDepth 100000
set_option maxHeartbeats 4000000
namespace Go.Proofs.YtknfmkeipeikkaaGreatDoor.L
open Go.ChangeShapes Go.WideShapes Go.ChangeAt Go.RowKit
theorem own_form {w:World} {base:Nat} {e:TypeId} {size n:Nat} {v:Value} {xs:List Value} (h:w.ownsRow base e size v n xs):∃ p c,v=.slice p n c∧(p=none∨∃ g,p=some ⟨g,0,none⟩):=by
 rcases h.2 with ⟨rfl,rfl⟩|⟨g,cap,j,rfl,_⟩
 ·exact ⟨none,0,rfl,.inl rfl⟩
 exact ⟨_,_,rfl,.inr ⟨g,rfl⟩⟩
structure TS (w:World) (p1:Option Addr) (n c1:Nat) (st:Bool) (bd:List UInt8) (L:List (List UInt8)) (W:World):Prop where
 rbx:Bx W w.heap.size [.slice p1 n c1,.bool st,.string (strOf bd)]
 qbx:Bx W (w.heap.size+1) [.slice none 0 0,.bool false,.string ⟨#[]⟩]
 own:W.ownsRow (w.heap.size+1+1) 9 1 (.slice p1 n c1) n (strsC L)
 bel:Up w W
theorem TS.below {w:World} {p1:Option Addr} {n c1:Nat} {st:Bool} {bd:List UInt8} {L:List (List UInt8)} {W W':World} (h:TS w p1 n c1 st bd L W) (hb:Up W W'):TS w p1 n c1 st bd L W':=
 ⟨h.rbx.below h.rbx.lt hb,h.qbx.below h.qbx.lt hb,row_below h.own hb,h.bel.trans (hb.mono h.bel.size)⟩
structure TL (w:World) (B D:Nat) (p1:Option Addr) (n c1:Nat) (st:Bool) (bd:List UInt8) (s:Bool) (p:Option Addr) (l c:Nat) (g:Int) (L:List (List UInt8)) (W:World):Prop where
 ts:TS w p1 n c1 st bd L W
 dbx:Bx W D [.bool s,.slice p l c]
 div:IsI B W (.agg #[.bool s,.slice p l c]) g 280
 low:∀ g,(Value.slice p1 n c1).ownBlock=some g→g<B
 le:B≤D
theorem TL.below {w:World} {B D:Nat} {p1:Option Addr} {n c1:Nat} {st:Bool} {bd:List UInt8} {s:Bool} {p:Option Addr} {l c:Nat} {g:Int} {L:List (List UInt8)} {W W':World} (h:TL w B D p1 n c1 st bd s p l c g L W) (hb:Up W W'):TL w B D p1 n c1 st bd s p l c g L W':=
 ⟨h.ts.below hb,h.dbx.below h.dbx.lt hb,h.div.below hb,h.low,h.le⟩
theorem strsC_set (L:List (List UInt8)) (i:Nat) (u:List UInt8):(strsC L).set i (.string (strOf u))=strsC (L.set i u):=by unfold strsC; rw [List.map_set]
theorem bx_one {W:World} {g k:Nat} {l:List Value} (h:Bx W g l) (hk:k≠g) (i:Nat) (u:Value):Bx (W.setCell ⟨k,i,none⟩ u) g l:=by
 obtain ⟨j,h⟩:=h; exact ⟨j,by rw [Below.heap_setCell _ ⟨k,i,none⟩ _ _ (Ne.symm hk)]; exact h⟩
theorem isI_kept {B:Nat} {W W':World} {s:Bool} {p:Option Addr} {l c:Nat} {x:Int} {m:Nat} (h:IsI B W (.agg #[.bool s,.slice p l c]) x m) (hs:W.heap.size≤W'.heap.size) (hk:∀ a,p=some a→0<l→W'.heap[a.block]? = W.heap[a.block]?):IsI B W' (.agg #[.bool s,.slice p l c]) x m:=by
 obtain ⟨neg,v,t,e,H,r⟩:=h; simp only [Value.agg.injEq,Array.mk.injEq,List.cons.injEq,Value.bool.injEq,and_true] at e; obtain ⟨rfl,rfl⟩:=e; obtain ⟨a,cap,e,E,h2,h3,h4⟩:=H; simp only [Value.slice.injEq] at e; obtain ⟨rfl,rfl,rfl⟩:=e; refine ⟨neg,_,t,rfl,⟨p,c,rfl,E,h2,h3,?_⟩,r⟩
 rcases h4 with h4|⟨b,off,rfl,j,u,I⟩
 ·exact .inl h4
 by_cases y:t=[]
 ·exact .inl y
 have D:0<t.length:=List.length_pos_iff.2 y; exact .inr ⟨b,off,rfl,j,Nat.lt_of_lt_of_le u hs,fun i hi=>(World.cell?_of_block (a:=⟨b,off+i,none⟩) (hk ⟨b,off,none⟩ rfl D)).trans (I i hi)⟩
theorem isI_from {B:Nat} {W:World} {s:Bool} {p:Option Addr} {l c:Nat} {x:Int} {m:Nat} (h:IsI B W (.agg #[.bool s,.slice p l c]) x m):∀ a,p=some a→0<l→B≤a.block∧a.block<W.heap.size:=by
 obtain ⟨neg,v,t,e,y,r⟩:=h; simp only [Value.agg.injEq,Array.mk.injEq,List.cons.injEq,Value.bool.injEq,and_true] at e; obtain ⟨rfl,rfl⟩:=e; obtain ⟨a,cap,e,E,h2,h3,h4⟩:=y; simp only [Value.slice.injEq] at e; obtain ⟨rfl,rfl,rfl⟩:=e; intro q D hl
 rcases h4 with h4|⟨b,off,e,j,u,H⟩
 ·rw [h4] at hl; cases hl
 rw [D] at e; cases e; exact ⟨j,u⟩
theorem TL.far {w:World} {B D:Nat} {p1:Option Addr} {n c1:Nat} {st:Bool} {bd:List UInt8} {s:Bool} {p:Option Addr} {l c:Nat} {g:Int} {L:List (List UInt8)} {W0 W:World} (h0:TL w B D p1 n c1 st bd s p l c g L W0) (h:TL w B D p1 n c1 st bd s p l c g L W) {k:Nat} (hk:W0.heap.size≤k) (i:Nat) (u:Value):TL w B D p1 n c1 st bd s p l c g L (W.setCell ⟨k,i,none⟩ u):=by
 have j:=h0.ts.rbx.lt; have h2:=h0.ts.qbx.lt; have h3:=h0.dbx.lt; refine ⟨⟨bx_one h.ts.rbx (by omega) _ _,bx_one h.ts.qbx (by omega) _ _,own_other' h.ts.own (fun g hg=>?_),h.ts.bel.setCell (p:=⟨k,i,none⟩) (by show w.heap.size≤k; omega) _⟩,bx_one h.dbx (by omega) _ _,isI_kept h.div (by simp) (fun a e1 e2=>?_),h.low,h.le⟩
 ·have:=(h0.ts.own.lt g hg).2; exact Below.heap_setCell _ ⟨k,i,none⟩ _ _ (by show g≠k; omega)
 have:=(isI_from h0.div a e1 e2).2; exact Below.heap_setCell _ ⟨k,i,none⟩ _ _ (by show a.block≠k; omega)
theorem TL.put {w:World} {B D:Nat} {b n c1:Nat} {st:Bool} {bd:List UInt8} {s:Bool} {p:Option Addr} {l c:Nat} {g:Int} {L:List (List UInt8)} {W:World} (h:TL w B D (some ⟨b,0,none⟩) n c1 st bd s p l c g L W) (k:Nat) (u:List UInt8):TL w B D (some ⟨b,0,none⟩) n c1 st bd s p l c g (L.set k u) (W.setCell ⟨b,k,none⟩ (.string (strOf u))):=by
 have j:=own_base h.ts.own b rfl; have h2:=h.low b rfl; have h3:=h.le; refine ⟨⟨bx_one h.ts.rbx (by omega) _ _,bx_one h.ts.qbx (by omega) _ _,?_,h.ts.bel.setCell (p:=⟨b,k,none⟩) (by show w.heap.size≤b; omega) _⟩,bx_one h.dbx (by omega) _ _,h.div.setCell ⟨b,k,none⟩ _ h2,h.low,h.le⟩; rw [← strsC_set]; exact (h.ts.own.stored k (.string (strOf u))).1
theorem getD_set_self {L:List (List UInt8)} {k:Nat} (h:k<L.length) (u:List UInt8):(L.set k u).getD k []=u:=by
 rw [List.getD_eq_getElem?_getD,List.getElem?_set_self h]; rfl
theorem getD_set_ne {L:List (List UInt8)} {k i:Nat} (h:k≠i) (u:List UInt8):(L.set k u).getD i []=L.getD i []:=by
 rw [List.getD_eq_getElem?_getD,List.getElem?_set_ne h,List.getD_eq_getElem?_getD]
theorem tight_new {Wh:List Bool} {f:Lr} {g:Int} {M:List (List UInt8)} {u:ByteArray} {q r:Int} (hwd:IsWD Wh (numsT f.cs) g) (h0:g≠0) (hl:M.length=f.cs.length) (hM:∀ i,i<f.cs.length→∃ q r,IsDiv ((numsT f.cs).getD i 0) g q r∧IsText q (strOf (M.getD i []))) (hd:IsDiv (numT (strOf f.bd) - if f.st=true then 1 else 0) g q r) (hu:IsText q u):TightT Wh f ⟨M,false,u.data.toList⟩:=by
 have s:∀ i,i<f.cs.length→∃ q,∃ r,IsDiv ((numsT f.cs).getD i 0) g q r∧IsText q (strOf (M.getD i [])):=hM; obtain ⟨Q,j,s⟩:=list_of f.cs.length s; have m:∀ i,i<f.cs.length→∃ r,IsDiv ((numsT f.cs).getD i 0) g (Q.getD i 0) r∧IsText (Q.getD i 0) (strOf (M.getD i [])):=fun i hi=>by
  have D:=s i (by omega); have e:Q.getD i 0=Q[i]'(by omega):=by rw [List.getD_eq_getElem?_getD,List.getElem?_eq_getElem (by omega)]; rfl
  rw [e]; exact D
 have y:=nr_len f; refine ⟨⟨Q,false,q⟩,⟨g,hwd,.inr ⟨h0,rfl,j.trans y.symm,fun i hi=>?_,r,hd⟩⟩,rfl,hl.trans j.symm,fun i hi=>?_,by rw [strOf_data]; exact hu⟩
 ·obtain ⟨r,h,_⟩:=m i (by omega); exact ⟨r,h⟩
 obtain ⟨r,_,h⟩:=m i (by have:i<Q.length:=hi; omega); exact h
theorem tightened_any (wv va:Value) (Wh:List Bool) (f:Lr) (w:World) (hw:BoolsAt w wv Wh) (hc:StrsAt w va f.cs) (hP:Plain va) (hlen:Wh.length=f.cs.length) (hs:SmallR f) (hbd:textOk f.bd=true) (hok:f.cs.all textOk=true) (hT:Tabs w) :
 Calls Tryz.prog 12 #[wv,.agg #[va,.bool f.st,.string (strOf f.bd)]] w fun e w'=>∃ v' f',e=.returned (.agg #[v',.bool f'.st,.string (strOf f'.bd)])∧w'.ownsRow w.heap.size 9 1 v' f'.cs.length (strsC f'.cs)∧TightT Wh f f'∧Up w w':=by
 have q0:=Hd hw; have o7:=Hd hc; have p5:=Hd hP; have p0:=Hd hlen; have HS:=Hd hs; have k1:=Hd hbd; have g7:=Hd hok; have HT:=Hd hT; obtain ⟨pw,cw,rfl,w1,w2,-⟩:=hw; obtain ⟨pc,cc,rfl,c1,c2,-⟩:=hc; unfold maxLen at w2 c2; clear hP hlen hs hbd hok hT
 go_enter Tryz.func12,Tryz.ntmps12
 go_wp2_with fail
 obtain ⟨W2,n1,n3,x1,x2,e8⟩:=box2 w [.slice pc f.cs.length cc,.bool f.st,.string (strOf f.bd)] [.slice none 0 0,.bool false,.string ⟨#[]⟩] 38 38; rw [n1]; have g2:=Hd n3; have l5:=Hd x1; have l6:=Hd x2; have p6:=Hd e8; clear n1 n3 x1 x2 e8; refine (cloneS_any _ f.cs W2 (o7.o.below g2.o) HS.o.1.1 p5.o).mono ?_; rintro e w3 ⟨v3,rfl,Z,e6⟩; obtain ⟨E,c3,rfl,n8⟩:=own_form Z; have s3:=Hd n8; have e5:=l5.o.below l5.o.lt e6; obtain ⟨a0,a1,a2⟩:=e5.c3; have a3:=e5.frozen 0; have Y:Hid (TS w E f.cs.length c3 f.st f.bd f.cs (w3.setCell ⟨w.heap.size,0,none⟩ (.slice E f.cs.length c3))):=by
  have e8:=p6.o; refine ⟨e5.set 0 _,?_,?_,(g2.o.trans (e6.mono g2.o.size)).setCell (p:=⟨w.heap.size,0,none⟩) leR _⟩
  ·obtain ⟨ty,h⟩:=l6.o.below l6.o.lt e6; exact ⟨ty,by rw [Below.heap_setCell _ ⟨w.heap.size,0,none⟩ _ _ (by show w.heap.size+1≠w.heap.size; omega)]; exact h⟩
  rw [← e8]; exact ownsRow_setCell_below Z (by show w.heap.size<_; omega) _
 clear Z e6 n8 e5; obtain ⟨W4,i2⟩:=exW (w3.setCell ⟨w.heap.size,0,none⟩ (.slice E f.cs.length c3)); rw [i2] at Y; have p9:=Hd i2; clear i2; obtain ⟨b0,b1,b2⟩:=Y.o.rbx.c3
 go_wp2_with (rw [p9.o])
 refine (wholeDivisor_any _ _ Wh f.cs W4 (q0.o.below Y.o.bel) (strs_at Y.o.own) p0.o HS.o.1 g7.o (HT.o.below Y.o.bel)).mono ?_; rintro e w5 ⟨s,p,l,c,g,rfl,n9,hI,c9⟩; obtain ⟨W6,e3⟩:=exW (w5.alloc (.cells #[.bool s,.slice p l c] 67)); have d9:Up w5 W6:=by rw [← e3]; exact below_alloc _ _
 have i3:Bx W6 w5.heap.size [.bool s,.slice p l c]:=by rw [← e3]; exact bx_new w5 _ _
 have l3:=Hd e3; have l7:=Hd i3; have g9:=Hd n9; have l2:=Hd ((Y.o.below c9).below d9); have o9:=Hd (hI.below d9); have r6:Hid (Up W4 W6):=c9.trans (d9.mono c9.size); have k5:=Hd (isI_isZero hI); have p7:Hid (W4.heap.size≤w5.heap.size):=c9.size; obtain ⟨d0,d1⟩:=i3.c2; clear n9 hI c9 d9 i3 e3 b0 b1 b2 a0 a1 a2 a3
 by_cases h0:g=0
 ·have i6:((l:Int)==0)=true:=by rw [k5.o]; exact decide_eq_true h0
  have H0:=Hd h0; clear h0
  go_wp2_with (first|(rw [l3.o])|(go_at_call 30; refine (isZero_any _ _ _ _ _).mono ?_; rintro e w7 ⟨rfl,d3⟩; have a9:Hid (Up W6 w7):=(by unfold Hid; rw [d3]; exact below_alloc _ _); rw [i6]; have y:=l2.o.below a9.o; obtain ⟨b0,b1,b2⟩:=y.rbx.c3; obtain ⟨e0,e1,e2⟩:=y.qbx.c3; have f0:=y.qbx.frozen 0; have f1:=y.qbx.frozen 1; have f2:=y.qbx.frozen 2; have b7:=Hd y; clear y d3))
  have hE:=((b7.o.qbx.set 0 (.slice E f.cs.length c3)).set 1 (.bool f.st)).set 2 (.string (strOf f.bd)); obtain ⟨e0,e1,e2⟩:=hE.c3; have D:w.heap.size+1<w.heap.size+1+1:=Nat.lt_succ_self _; have hO:=own_lower (ownsRow_setCell_below (ownsRow_setCell_below (ownsRow_setCell_below b7.o.own (a:=⟨w.heap.size+1,0,none⟩) D (.slice E f.cs.length c3)) (a:=⟨w.heap.size+1,1,none⟩) D (.bool f.st)) (a:=⟨w.heap.size+1,2,none⟩) D (.string (strOf f.bd))) (base':=w.heap.size) (by omega); have J:=((b7.o.bel.setCell (p:=⟨w.heap.size+1,0,none⟩) (by show _≤w.heap.size+1; omega) (.slice E f.cs.length c3)).setCell (p:=⟨w.heap.size+1,1,none⟩) (by show _≤w.heap.size+1; omega) (.bool f.st)).setCell (p:=⟨w.heap.size+1,2,none⟩) (by show _≤w.heap.size+1; omega) (.string (strOf f.bd)); have b9:TightT Wh f f:=⟨nrOf f,⟨g,g9.o,.inl ⟨H0.o,rfl⟩⟩,said_self k1.o g7.o⟩; refine bodyPost_ret (v:=.agg #[.slice E f.cs.length c3,.bool f.st,.string (strOf f.bd)]) ?_ rfl ⟨_,f,rfl,hO,b9,J⟩; clear hE hO J; simp [results,Tryz.results12,go_sem,e0,e1,e2]
 have i6:((l:Int)==0)=false:=by rw [k5.o]; exact decide_eq_false h0
 have H0:=Hd h0; clear h0
 go_wp2_with (first|(rw [l3.o])|(go_at_call 30; refine (isZero_any _ _ _ _ _).mono ?_; rintro e w7 ⟨rfl,d3⟩; have a9:Hid (Up W6 w7):=(by unfold Hid; rw [d3]; exact below_alloc _ _); rw [i6]; have y:=l2.o.below a9.o; obtain ⟨b0,b1,b2⟩:=y.rbx.c3; have b7:=Hd y; clear y d3))
 have k7:Hid (TL w W4.heap.size w5.heap.size E f.cs.length c3 f.st f.bd s p l c g f.cs w7):=⟨b7.o,l7.o.below l7.o.lt a9.o,o9.o.below a9.o,fun g hg=>(Y.o.own.lt g hg).2,p7.o⟩; clear b0 b1 b2 d0 d1
 go_loopw [23] (fun iv wr=>∃ (k:Nat) (M:List (List UInt8)),k≤f.cs.length∧iv=.int .i64 (k:Nat)∧M.length=f.cs.length∧(∀ i,i<k→∃ q r,IsDiv ((numsT f.cs).getD i 0) g q r∧IsText q (strOf (M.getD i [])))∧(∀ i,k≤i→M.getD i []=f.cs.getD i [])∧TL w W4.heap.size w5.heap.size E f.cs.length c3 f.st f.bd s p l c g M wr) (fun iv _=>f.cs.length - (intOf iv).toNat)
 case atStart=>exact ⟨0,f.cs,Nat.zero_le _,rfl,rfl,fun i h=>absurd h (Nat.not_lt_zero _),fun _ _=>rfl,k7.o⟩
 case round=>
  rename World=>wo
  obtain ⟨k,M,hk,rfl,n7,n5,n6,hM⟩:=hrel; have HM:=Hd hM; have V:=Hd n7; have d6:=Hd n5; have g6:=Hd n6; clear k7 n7 n5 n6
  by_cases e7:k<f.cs.length
  ·obtain ⟨g3,rfl⟩:∃ g,E=some ⟨g,0,none⟩:=by
    rcases hM.ts.own.2 with ⟨e,e2⟩|⟨g,cap,s6,e,_⟩
    ·omega
    ·cases e; exact ⟨g,rfl⟩
   have o8:Hid (M.getD k []=f.cs[k]):=by
    unfold Hid; rw [g6.o k leR,List.getD_eq_getElem?_getD,List.getElem?_eq_getElem e7]; rfl
   have k0:wo.cell? ⟨g3,k,none⟩=some (.string (strOf f.cs[k])):=by
    rw [← o8.o]; have d2:k<M.length:=by have:=V.o; omega
    refine own_read hM.ts.own ?_; unfold strsC; rw [List.getElem?_map,List.getElem?_eq_getElem d2,List.getD_eq_getElem?_getD,List.getElem?_eq_getElem d2]; rfl
   have q7:g3<wo.heap.size:=(hM.ts.own.lt g3 rfl).2; have k8:Hid (∀ W,Calls Tryz.prog 32 #[.string (strOf f.cs[k])] W fun e w'=>∃ s1 p l c,e=.returned (.agg #[.bool s1,.slice p l c])∧IsI W.heap.size w' (.agg #[.bool s1,.slice p l c]) ((numsT f.cs).getD k 0) 280∧Up W w'):=fun W=>by
    rw [numsT_at e7]; exact cutI_any _ W (HS.o.1.2 _ (List.getElem_mem e7)) (List.all_eq_true.1 g7.o _ (List.getElem_mem e7))
   have d5:Hid (∀ W,Up wo W→(W.cell? ⟨w.heap.size,0,none⟩=some (.slice (some ⟨g3,0,none⟩) f.cs.length c3)∧(W.cell? ⟨w5.heap.size,0,none⟩=some (.bool s)∧W.cell? ⟨w5.heap.size,1,none⟩=some (.slice p l c))∧W.cell? ⟨g3,k,none⟩=some (.string (strOf f.cs[k]))∧W.frozen? ⟨g3,k,none⟩=false)):=fun W hW=>by
    have j:=HM.o.below hW; exact ⟨j.ts.rbx.c3.1,j.dbx.c2,(hW.cell (p:=⟨g3,k,none⟩) q7).trans k0,j.ts.own.frozenAt k⟩
   have b6:Hid (∀ W s1 p1 l1 c1,Up wo W→IsI wo.heap.size W (.agg #[.bool s1,.slice p1 l1 c1]) ((numsT f.cs).getD k 0) 280→Calls Tryz.prog 31 #[.agg #[.bool s1,.slice p1 l1 c1],.agg #[.bool s,.slice p l c]] W fun e w'=>∃ u q r,e=.returned (.string u)∧IsDiv ((numsT f.cs).getD k 0) g q r∧IsText q u∧Up wo w'):=fun W s1 p1 l1 c1 hW hz=>by
    refine (quotientText_any 0 s1 p1 l1 c1 s p l c _ g W (Nat.zero_le _) (hz.mono (Nat.zero_le _) (by omega)) (((HM.o.below hW).div).mono (Nat.zero_le _) (by omega)) H0.o (HT.o.below (HM.o.below hW).ts.bel)).mono ?_; rintro e w' ⟨u,q,r,rfl,j,h2,h3⟩; exact ⟨u,q,r,rfl,j,h2,hW.trans (h3.mono hW.size)⟩
   obtain ⟨S,hS⟩:=exW (strOf f.cs[k]); rw [hS] at k0 k8 d5; clear hS hM; have d2:k<M.length:=by have:=V.o; omega
   have p4:Hid (∀ W u q r,Up wo W→IsDiv ((numsT f.cs).getD k 0) g q r→IsText q u→∃ M',M'.length=f.cs.length∧(∀ i,i<k+1→∃ q r,IsDiv ((numsT f.cs).getD i 0) g q r∧IsText q (strOf (M'.getD i [])))∧(∀ i,k+1≤i→M'.getD i []=f.cs.getD i [])∧TL w W4.heap.size w5.heap.size (some ⟨g3,0,none⟩) f.cs.length c3 f.st f.bd s p l c g M' (W.setCell ⟨g3,k,none⟩ (.string u))):=fun W u q r hW hd hu=>by
    refine ⟨M.set k u.data.toList,by rw [List.length_set]; exact V.o,fun i hi=>?_,fun i hi=>?_,?_⟩
    ·by_cases e:i=k
     ·subst e; rw [getD_set_self d2,strOf_data]; exact ⟨q,r,hd,hu⟩
     ·rw [getD_set_ne (Ne.symm e)]; exact d6.o i (by omega)
    ·rw [getD_set_ne (by omega)]; exact g6.o i (by omega)
    ·have:=(HM.o.below hW).put k u.data.toList; rw [strOf_data] at this; exact this
   clear d2; obtain ⟨m1,⟨m2,m3⟩,m4,m5⟩:=d5.o wo (Below.refl _ _); have i1:(k:Int)<(f.cs.length:Int):=by omega
   go_wp2_with fail
   go_region_with (first
    | (go_at_call 32; refine (k8.o _).mono ?_; rintro e H ⟨s8,p8,l8,c8,rfl,d4,a7⟩; have j8:Hid (Up wo H):=(Below.refl _ _).drew.trans a7; have q2:=Hd d4; obtain ⟨m1,⟨m2,m3⟩,m4,m5⟩:=d5.o H j8.o; clear d4 a7)
    | (go_at_call 31; refine (b6.o _ _ _ _ _ j8.o q2.o).mono ?_; rintro e w9 ⟨u,q9,r9,rfl,K,O,m⟩; have b5:=Hd K; have b8:=Hd O; have b3:=Hd m; obtain ⟨m1,⟨m2,m3⟩,m4,m5⟩:=d5.o w9 m; clear K O m))
   all_goals
    go_wp2_with fail
    go_roundw
    case rel=>
     obtain ⟨M',x1,x2,x3,x4⟩:=p4.o w9 u q9 r9 b3.o b5.o b8.o; exact ⟨k+1,M',by omega,by go_num,x1,x2,x3,x4⟩
    case measure=>simp [intOf]; omega
  ·have n4:k=f.cs.length:=by omega
   rw [n4] at d6; obtain ⟨b0,b1,b2⟩:=hM.ts.rbx.c3; clear hM n4 g6
   go_wp2_with fail
   refine (cutI_any f.bd wo HS.o.2 k1.o).mono ?_; rintro e H ⟨s8,p8,l8,c8,rfl,d4,a7⟩; obtain ⟨T,e4⟩:=exW (H.alloc (.cells #[.bool s8,.slice p8 l8 c8] 67)); have h9:Up H T:=by rw [← e4]; exact below_alloc _ _
   have n2:Bx T H.heap.size [.bool s8,.slice p8 l8 c8]:=by rw [← e4]; exact bx_new H _ _
   have l4:=Hd e4; have I:=Hd n2; have U:=Hd ((HM.o.below a7).below h9); have n0:=Hd (d4.below h9); have k9:Hid (wo.heap.size≤H.heap.size):=a7.size; clear e4 h9 n2 d4 a7 b0 b1 b2; obtain ⟨b0,b1,b2⟩:=U.o.ts.rbx.c3
   cases a8:f.st with
   | false=>
     rw [a8] at b1; have g8:=Hd a8; clear a8
     go_wp2_with (rw [l4.o])
     have b4:Hid (∀ W,Up T W→W.cell? ⟨w.heap.size,0,none⟩=some (.slice E f.cs.length c3)∧(W.cell? ⟨H.heap.size,0,none⟩=some (.bool s8)∧W.cell? ⟨H.heap.size,1,none⟩=some (.slice p8 l8 c8))∧(W.cell? ⟨w5.heap.size,0,none⟩=some (.bool s)∧W.cell? ⟨w5.heap.size,1,none⟩=some (.slice p l c))∧(W.cell? ⟨w.heap.size+1,0,none⟩=some (.slice none 0 0)∧W.cell? ⟨w.heap.size+1,1,none⟩=some (.bool false)∧W.cell? ⟨w.heap.size+1,2,none⟩=some (.string ⟨#[]⟩))∧W.frozen? ⟨w.heap.size+1,0,none⟩=false∧W.frozen? ⟨w.heap.size+1,1,none⟩=false∧W.frozen? ⟨w.heap.size+1,2,none⟩=false):=fun W hW=>by
      have j:=U.o.below hW; have h2:=I.o.below I.o.lt hW; exact ⟨j.ts.rbx.c3.1,h2.c2,j.dbx.c2,j.ts.qbx.c3,j.ts.qbx.frozen 0,j.ts.qbx.frozen 1,j.ts.qbx.frozen 2⟩
     have b6:Hid (∀ W,Up T W→Calls Tryz.prog 31 #[.agg #[.bool s8,.slice p8 l8 c8],.agg #[.bool s,.slice p l c]] W fun e w'=>∃ u q r,e=.returned (.string u)∧IsDiv (numT (strOf f.bd)) g q r∧IsText q u∧Up T w'):=fun W hW=>by
      refine (quotientText_any 0 s8 p8 l8 c8 s p l c _ g W (Nat.zero_le _) ((n0.o.below hW).mono (Nat.zero_le _) (by omega)) (((U.o.below hW).div).mono (Nat.zero_le _) (by omega)) H0.o (HT.o.below (U.o.below hW).ts.bel)).mono ?_; rintro e w' ⟨u,q,r,rfl,j,h2,h3⟩; exact ⟨u,q,r,rfl,j,h2,hW.trans (h3.mono hW.size)⟩
     obtain ⟨m1,⟨m2,m3⟩,⟨m4,m5⟩,⟨m6,m7,m8⟩,m9,i9,j0⟩:=b4.o T (Below.refl _ _)
     go_region_with (go_at_call 31; refine (b6.o _ (Below.refl _ _).drew).mono ?_; rintro e w9 ⟨u,q9,r9,rfl,K,O,m⟩; have b5:=Hd K; have b8:=Hd O; have b3:=Hd m; obtain ⟨m1,⟨m2,m3⟩,⟨m4,m5⟩,⟨m6,m7,m8⟩,m9,i9,j0⟩:=b4.o w9 m; clear K O m)
     all_goals
      go_wp2_with fail
      have a5:=U.o.below b3.o; have hE:=((a5.ts.qbx.set 0 (.slice E f.cs.length c3)).set 1 (.bool false)).set 2 (.string u); obtain ⟨e0,e1,e2⟩:=hE.c3; have D:w.heap.size+1<w.heap.size+1+1:=Nat.lt_succ_self _; have hO:=own_lower (ownsRow_setCell_below (ownsRow_setCell_below (ownsRow_setCell_below a5.ts.own (a:=⟨w.heap.size+1,0,none⟩) D (.slice E f.cs.length c3)) (a:=⟨w.heap.size+1,1,none⟩) D (.bool false)) (a:=⟨w.heap.size+1,2,none⟩) D (.string u)) (base':=w.heap.size) (by omega); have J:=((a5.ts.bel.setCell (p:=⟨w.heap.size+1,0,none⟩) (by show _≤w.heap.size+1; omega) (.slice E f.cs.length c3)).setCell (p:=⟨w.heap.size+1,1,none⟩) (by show _≤w.heap.size+1; omega) (.bool false)).setCell (p:=⟨w.heap.size+1,2,none⟩) (by show _≤w.heap.size+1; omega) (.string u); have b9:=tight_new g9.o H0.o V.o d6.o (show IsDiv (numT (strOf f.bd) - if f.st=true then 1 else 0) g q9 r9 by rw [g8.o]; simpa using b5.o) b8.o; refine bodyPost_ret (v:=.agg #[.slice E f.cs.length c3,.bool false,.string u]) ?_ rfl ⟨_,⟨M,false,u.data.toList⟩,by rw [strOf_data],by rw [V.o]; exact hO,b9,J⟩; clear hE hO J; simp [results,Tryz.results12,go_sem,e0,e1,e2]
   | true=>
     rw [a8] at b1; have g8:=Hd a8; clear a8
     go_wp2_with (rw [l4.o])
     have g4:Hid (∀ W,Up T W→(W.cell? ⟨H.heap.size,0,none⟩=some (.bool s8)∧W.cell? ⟨H.heap.size,1,none⟩=some (.slice p8 l8 c8))∧W.frozen? ⟨H.heap.size,0,none⟩=false∧W.frozen? ⟨H.heap.size,1,none⟩=false):=fun W hW=>by
      have h2:=I.o.below I.o.lt hW; exact ⟨h2.c2,h2.frozen 0,h2.frozen 1⟩
     have q1:Hid (∀ W,Up T W→Calls Tryz.prog 34 #[.int .u64 1] W fun e w'=>∃ z,e=.returned z∧IsI T.heap.size w' z 1 3∧Up T w'):=fun W hW=>by
      refine (wholeNumber_any 1 W (by decide)).mono ?_; rintro e w' ⟨z,rfl,j,h2⟩; exact ⟨z,rfl,j.mono hW.size leR,hW.trans (h2.mono hW.size)⟩
     have p2:Hid (∀ W z,Up T W→IsI T.heap.size W z 1 3→Calls Tryz.prog 33 #[.agg #[.bool s8,.slice p8 l8 c8],z] W fun e w'=>∃ z',e=.returned z'∧IsI T.heap.size w' z' (numT (strOf f.bd) - 1) 284∧Up T w'):=fun W z hW hz=>by
      refine (minus_any 0 _ _ _ _ 280 3 W ((n0.o.below hW).mono (Nat.zero_le _) leR) (hz.mono (Nat.zero_le _) leR) (by omega) (by omega) (HT.o.below (U.o.below hW).ts.bel).1).mono ?_; rintro e w' ⟨z',rfl,j,h2⟩; exact ⟨z',rfl,j.mono hW.size leR,hW.trans (h2.mono hW.size)⟩
     obtain ⟨⟨m1,m2⟩,m3,m4⟩:=g4.o T (Below.refl _ _)
     go_region_with (first
      | (go_at_call 34; refine (q1.o _ (Below.refl _ _).drew).mono ?_; rintro e wa ⟨za,rfl,i7,i4⟩; obtain ⟨sa,pa,la,ca,rfl⟩:=i7.shape; have q3:=Hd i7; have o6:=Hd i4; obtain ⟨⟨m1,m2⟩,m3,m4⟩:=g4.o wa i4; clear i7 i4)
      | (go_at_call 33; refine (p2.o _ _ o6.o q3.o).mono ?_; rintro e wb ⟨zb,rfl,i8,i5⟩; obtain ⟨sb,pb,lb,cb,rfl⟩:=i8.shape; have q4:=Hd i8; have j9:=Hd i5; obtain ⟨⟨m1,m2⟩,m3,m4⟩:=g4.o wb i5; clear i8 i5))
     all_goals
      go_wp2_with fail
      obtain ⟨WC,c7⟩:=exW ((wb.setCell ⟨H.heap.size,0,none⟩ (.bool sb)).setCell ⟨H.heap.size,1,none⟩ (.slice pb lb cb)); have d7:Hid (TL w W4.heap.size w5.heap.size E f.cs.length c3 f.st f.bd s p l c g M WC):=by
       unfold Hid; rw [← c7]; exact TL.far HM.o (TL.far HM.o (U.o.below j9.o) k9.o _ _) k9.o _ _
      have l9:Hid (Bx WC H.heap.size [.bool sb,.slice pb lb cb]):=by
       unfold Hid; rw [← c7]; exact ((I.o.below I.o.lt j9.o).set 0 _).set 1 _
      have q5:Hid (IsI T.heap.size WC (.agg #[.bool sb,.slice pb lb cb]) (numT (strOf f.bd) - 1) 284):=by
       unfold Hid; rw [← c7]; exact (q4.o.setCell ⟨H.heap.size,0,none⟩ _ I.o.lt).setCell ⟨H.heap.size,1,none⟩ _ I.o.lt
      rw [c7]; clear c7 m1 m2 m3 m4; have b4:Hid (∀ W,Up WC W→W.cell? ⟨w.heap.size,0,none⟩=some (.slice E f.cs.length c3)∧(W.cell? ⟨H.heap.size,0,none⟩=some (.bool sb)∧W.cell? ⟨H.heap.size,1,none⟩=some (.slice pb lb cb))∧(W.cell? ⟨w5.heap.size,0,none⟩=some (.bool s)∧W.cell? ⟨w5.heap.size,1,none⟩=some (.slice p l c))∧(W.cell? ⟨w.heap.size+1,0,none⟩=some (.slice none 0 0)∧W.cell? ⟨w.heap.size+1,1,none⟩=some (.bool false)∧W.cell? ⟨w.heap.size+1,2,none⟩=some (.string ⟨#[]⟩))∧W.frozen? ⟨w.heap.size+1,0,none⟩=false∧W.frozen? ⟨w.heap.size+1,1,none⟩=false∧W.frozen? ⟨w.heap.size+1,2,none⟩=false):=fun W hW=>by
       have j:=d7.o.below hW; have h2:=l9.o.below l9.o.lt hW; exact ⟨j.ts.rbx.c3.1,h2.c2,j.dbx.c2,j.ts.qbx.c3,j.ts.qbx.frozen 0,j.ts.qbx.frozen 1,j.ts.qbx.frozen 2⟩
      have b6:Hid (∀ W,Up WC W→Calls Tryz.prog 31 #[.agg #[.bool sb,.slice pb lb cb],.agg #[.bool s,.slice p l c]] W fun e w'=>∃ u q r,e=.returned (.string u)∧IsDiv (numT (strOf f.bd) - 1) g q r∧IsText q u∧Up WC w'):=fun W hW=>by
       refine (quotientText_any 0 sb pb lb cb s p l c _ g W (Nat.zero_le _) ((q5.o.below hW).mono (Nat.zero_le _) (by omega)) (((d7.o.below hW).div).mono (Nat.zero_le _) (by omega)) H0.o (HT.o.below (d7.o.below hW).ts.bel)).mono ?_; rintro e w' ⟨u,q,r,rfl,j,h2,h3⟩; exact ⟨u,q,r,rfl,j,h2,hW.trans (h3.mono hW.size)⟩
      obtain ⟨m1,⟨m2,m3⟩,⟨m4,m5⟩,⟨m6,m7,m8⟩,m9,i9,j0⟩:=b4.o WC (Below.refl _ _)
      go_region_with (go_at_call 31; refine (b6.o _ (Below.refl _ _).drew).mono ?_; rintro e w9 ⟨u,q9,r9,rfl,K,O,m⟩; have b5:=Hd K; have b8:=Hd O; have b3:=Hd m; obtain ⟨m1,⟨m2,m3⟩,⟨m4,m5⟩,⟨m6,m7,m8⟩,m9,i9,j0⟩:=b4.o w9 m; clear K O m)
      all_goals
       go_wp2_with fail
       have a5:=d7.o.below b3.o; have hE:=((a5.ts.qbx.set 0 (.slice E f.cs.length c3)).set 1 (.bool false)).set 2 (.string u); obtain ⟨e0,e1,e2⟩:=hE.c3; have D:w.heap.size+1<w.heap.size+1+1:=Nat.lt_succ_self _; have hO:=own_lower (ownsRow_setCell_below (ownsRow_setCell_below (ownsRow_setCell_below a5.ts.own (a:=⟨w.heap.size+1,0,none⟩) D (.slice E f.cs.length c3)) (a:=⟨w.heap.size+1,1,none⟩) D (.bool false)) (a:=⟨w.heap.size+1,2,none⟩) D (.string u)) (base':=w.heap.size) (by omega); have J:=((a5.ts.bel.setCell (p:=⟨w.heap.size+1,0,none⟩) (by show _≤w.heap.size+1; omega) (.slice E f.cs.length c3)).setCell (p:=⟨w.heap.size+1,1,none⟩) (by show _≤w.heap.size+1; omega) (.bool false)).setCell (p:=⟨w.heap.size+1,2,none⟩) (by show _≤w.heap.size+1; omega) (.string u); have b9:=tight_new g9.o H0.o V.o d6.o (show IsDiv (numT (strOf f.bd) - if f.st=true then 1 else 0) g q9 r9 by rw [g8.o]; simpa using b5.o) b8.o; refine bodyPost_ret (v:=.agg #[.slice E f.cs.length c3,.bool false,.string u]) ?_ rfl ⟨_,⟨M,false,u.data.toList⟩,by rw [strOf_data],by rw [V.o]; exact hO,b9,J⟩; clear hE hO J; simp [results,Tryz.results12,go_sem,e0,e1,e2]
end Go.Proofs.YtknfmkeipeikkaaGreatDoor.L
