import Derived.Test.YtfclfbpjjlinhaaGreatDoorTcMIp
set_option maxRecDepth 100000
set_option maxHeartbeats 4000000
namespace Go.Proofs.YtfclfbpjjlinhaaGreatDoor.L
open Go.ChangeShapes Go.WideShapes Go.ChangeAt Go.RowKit
theorem isI_setB {B:Nat} {W:World} {s:Bool} {p:Option Addr} {l c:Nat} {x:Int} {m:Nat} (h:IsI B W (.agg #[.bool s,.slice p l c]) x m) {g:Nat} (hg:g<B) (i j:Nat) (u v:Value):IsI B ((W.setCell ⟨g,i,none⟩ u).setCell ⟨g,j,none⟩ v) (.agg #[.bool s,.slice p l c]) x m:=
 isI_kept h (by simp) (fun a e1 e2=>by
  have:=(isI_from h a e1 e2).1
  rw [Below.heap_setCell _ ⟨g,j,none⟩ _ _ (show a.block≠g by omega),Below.heap_setCell _ ⟨g,i,none⟩ _ _ (show a.block≠g by omega)])
structure AS (w:World) (n:Nat) (D:Int) (L:List Int) (W:World):Prop where
 ex:∃ (s:Bool) (p:Option Addr) (l c:Nat),Bx W w.heap.size [.bool s,.slice p l c]∧IsI (w.heap.size+1+1) W (.agg #[.bool s,.slice p l c]) D 340
 row:IntRow (w.heap.size+1) W (.slice (some ⟨w.heap.size+1,0,none⟩) n n) L 340
 bel:Up w W
theorem AS.below {w:World} {n:Nat} {D:Int} {L:List Int} {W W':World} (h:AS w n D L W) (hb:Up W W'):AS w n D L W':=by
 obtain ⟨s,p,l,c,j,h2⟩:=h.ex; exact ⟨⟨s,p,l,c,j.below j.lt hb,h2.below hb⟩,h.row.below hb,h.bel.trans (hb.mono h.bel.size)⟩
theorem AS.lt {w:World} {n:Nat} {D:Int} {L:List Int} {W:World} (h:AS w n D L W):w.heap.size+1<W.heap.size:=by
 obtain ⟨m,j,_⟩:=h.row; exact (j.lt _ rfl).2
theorem AS.set {w:World} {n:Nat} {D:Int} {L:List Int} {W:World} (h:AS w n D L W) {i:Nat} (hi:i<L.length) {s:Bool} {p:Option Addr} {l c:Nat} {y:Int} (hy:IsI (w.heap.size+1+1) W (.agg #[.bool s,.slice p l c]) y 340) :
 AS w n D (L.set i y) ((W.setCell ⟨w.heap.size+1,i*2,none⟩ (.bool s)).setCell ⟨w.heap.size+1,i*2+1,none⟩ (.slice p l c)):=by
 obtain ⟨E,u,m,c1,j,h2⟩:=h.ex; refine ⟨⟨E,u,m,c1,bx_far j (by omega) _ _ _ _,isI_setB h2 (Nat.lt_succ_self _) _ _ _ _⟩,h.row.set hi (hy.mono (Nat.le_succ _) leR) (fun a e1 e2 e=>?_),(h.bel.setCell (p:=⟨w.heap.size+1,i*2,none⟩) (Nat.le_succ _) _).setCell (p:=⟨w.heap.size+1,i*2+1,none⟩) (Nat.le_succ _) _⟩; have:=(isI_from hy a e1 e2).1; omega
theorem AS.bound {w:World} {n:Nat} {D:Int} {L:List Int} {W:World} (h:AS w n D L W) {s:Bool} {p:Option Addr} {l c:Nat} {y:Int} (hy:IsI (w.heap.size+1+1) W (.agg #[.bool s,.slice p l c]) y 340) :
 AS w n y L ((W.setCell ⟨w.heap.size,0,none⟩ (.bool s)).setCell ⟨w.heap.size,1,none⟩ (.slice p l c)):=by
 obtain ⟨E,u,m,c1,j,h2⟩:=h.ex; refine ⟨⟨s,p,l,c,(j.set 0 _).set 1 _,isI_setB hy (by omega) _ _ _ _⟩,(h.row.low ⟨w.heap.size,0,none⟩ _ (Nat.lt_succ_self _)).low ⟨w.heap.size,1,none⟩ _ (Nat.lt_succ_self _),(h.bel.setCell (p:=⟨w.heap.size,0,none⟩) leR _).setCell (p:=⟨w.heap.size,1,none⟩) leR _⟩
theorem IntRow.at2 {base:Nat} {W:World} {a:Option Addr} {n b:Nat} {N:List Int} {m:Nat} (h:IntRow base W (.slice a n b) N m) (hn:n=N.length) {i:Nat} (hi:i<N.length):∃ (g:Nat) (s:Bool) (p:Option Addr) (l c:Nat),a=some ⟨g,0,none⟩∧g<W.heap.size∧base≤g∧W.cell? ⟨g,i*2,none⟩=some (.bool s)∧W.cell? ⟨g,i*2+1,none⟩=some (.slice p l c)∧IsI base W (.agg #[.bool s,.slice p l c]) N[i] m∧∀ q,p=some q→0<l→g≠q.block:=by
 subst hn; exact h.at hi
theorem addUp_any (n:Nat) (rv mv:Value) (F:List Lr) (mu:List (List UInt8)) (w:World) (hr:RowsAt w rv F) (hm:StrsAt w mv mu) (hT:Tabs w) (hn:n≤20) (hF:∀ f∈F,RowT n f) (hl:F.length≤50) (hlen:mu.length=F.length) (hsm:∀ s∈mu,s.length≤1048576) :
 Calls Tryz.prog 54 #[.int .i64 (n:Nat),rv,mv] w fun e w'=>e=.returned (.bool (addsB n (F.map nrOf) mu))∧Up w w':=by
 obtain ⟨i0,m7,t3,t5,t6⟩:=info_z; have HT:=Hd hT; have HF:=Hd hF; have w7:=Hd hsm; have n1:=Hd hlen; have n0:Hid ((F.map nrOf).length=F.length):=List.length_map ..; obtain ⟨G,hG⟩:=exW (F.map nrOf); have p2:Hid (∀ k col,((G.getD k nr0).cs.getD col 0).natAbs<lb 6):=by
  rw [← hG]; exact rowsC_lt (fun f hf=>by obtain ⟨x,hx,rfl⟩:=List.mem_map.1 hf; exact (hF x hx).small)
 have p3:Hid (∀ k,(G.getD k nr0).bd.natAbs<lb 6):=by
  rw [← hG]; exact rowsD_lt (fun f hf=>by obtain ⟨x,hx,rfl⟩:=List.mem_map.1 hf; exact (hF x hx).small)
 have v6:Hid (∀ k (h:k<F.length),G.getD k nr0=nrOf F[k]):=by
  rw [← hG]; exact fun k h=>map_at h
 rw [hG] at n0 ⊢; obtain ⟨M,hM⟩:=exW (clipM mu); have k7:Hid (∀ k,(M.getD k 0).natAbs<lb 280):=by rw [← hM]; exact clip_lt mu
 have w3:Hid (∀ k (h:k<mu.length),isIntB (strOf mu[k])=true→M.getD k 0=numT (strOf mu[k])):=by rw [← hM]; exact fun k h hi=>clip_at h hi
 have w5:Hid (mu.all multOk=true→M=numsM mu):=by rw [← hM]; exact fun h=>clip_all h
 obtain ⟨pr,cr,rfl,r1,r2,r3⟩:=hr; obtain ⟨pm,cm,rfl,m1,m2,m3⟩:=hm; unfold maxLen at r2 m2; have HR:=Hd r3; have w0:=Hd m3; have y0:((mu.length:Int)==(F.length:Int))=true:=by rw [hlen]; simp
 have B0:mu.length≤50:=by omega
 obtain ⟨W1,j4⟩:=exW (w.alloc (.cells #[.bool false,.slice none 0 0] 82)); have q2:=Hd j4; have n5:Hid (W1.heap.size=w.heap.size+1):=by unfold Hid; rw [← j4]; simp
 have d3:Hid (Up w W1):=by unfold Hid; rw [← j4]; exact below_alloc _ _
 have n6:Hid (Bx W1 w.heap.size [.bool false,.slice none 0 0]):=by unfold Hid; rw [← j4]; exact bx_new w _ _
 clear hlen r3 m3 j4 hT hF hsm hG hM
 go_enter Tryz.func54,Tryz.ntmps54
 go_wp2_with (first|rw [q2.o]|(at_make; refine wpList_make_full _ rfl _ _ 130 rfl (w.heap.size+1) 82 i0 _ 2 Tryz.underlying130 m7 t3 t5 .i64 .i64 _ _ n rfl rfl (by simp) (by simp) (by rw [t6]; omega) (by unfold maxLen; omega) (by rw [n5.o]; exact leR) ?_))
 intro w2 h9 s6; rw [n5.o] at h9 ⊢; have o0:Up W1 w2:=(Below.refl _ _).grown s6 leR (fun k e=>by cases e); have o8:Hid (AS w n (addD G M 0) (sumsL n G M 0 0) w2):=⟨⟨false,none,0,0,n6.o.below n6.o.lt o0,isI_zero _ _ _⟩,by rw [sumsL_zero]; exact IntRow.zero 340 h9,d3.o.trans (o0.mono d3.o.size)⟩; clear h9 s6 o0 m7 t3 t5 t6
 go_wp2_with fail
 go_loopw [9,26] (fun sv iv wr=>∃ k:Nat,k≤F.length∧iv=.int .i64 (k:Nat)∧sv=.bool (addS G M k)∧(∀ i (_:i<mu.length),i<k→multOk mu[i]=true)∧AS w n (addD G M k) (sumsL n G M k 0) wr) (fun _ iv _=>F.length - (intOf iv).toNat)
 case atStart=>exact ⟨0,Nat.zero_le _,rfl,rfl,fun _ _ h=>absurd h (Nat.not_lt_zero _),o8.o⟩
 case round=>
  rename World=>wo
  clear o8 n6 d3 n5 q2; obtain ⟨k,hk,rfl,rfl,s9,hA⟩:=hrel; have p6:=Hd s9; have HA:=Hd hA; clear s9
  by_cases Z:k<F.length
  ·obtain ⟨b,rfl,hb,r6⟩:∃ b,pr=some ⟨b,0,none⟩∧b<w.heap.size∧∀ i (h:i<F.length),(∃ va,w.cell? ⟨b,i*3,none⟩=some va∧StrsAt w va F[i].cs)∧w.cell? ⟨b,i*3+1,none⟩=some (.bool F[i].st)∧w.cell? ⟨b,i*3+2,none⟩=some (.string (strOf F[i].bd)):=by
    rcases HR.o with h|h
    ·rw [h] at Z; exact absurd Z (Nat.not_lt_zero _)
    ·exact h
   have i5:k<mu.length:=by have:=n1.o; omega
   obtain ⟨d,rfl,hd,r4⟩:∃ d,pm=some ⟨d,0,none⟩∧d<w.heap.size∧∀ i (h:i<mu.length),w.cell? ⟨d,i,none⟩=some (.string (strOf mu[i])):=by
    rcases w0.o with h|h
    ·rw [h] at i5; exact absurd i5 (Nat.not_lt_zero _)
    ·exact h
   obtain ⟨⟨va,k0,i1⟩,k1,k2⟩:=r6 k Z; have k3:=r4 k i5; have hB:=HA.o.bel; rw [← hB.cell (p:=⟨b,k*3,none⟩) hb] at k0; rw [← hB.cell (p:=⟨b,k*3+1,none⟩) hb] at k1; rw [← hB.cell (p:=⟨b,k*3+2,none⟩) hb] at k2; have i4:=Hd (HF.o _ (List.getElem_mem Z)); have k5:=Hd (v6.o k Z); have j0:=Hd (w3.o k i5); have p9:=Hd (w7.o _ (List.getElem_mem i5)); have n2:Hid (multOk mu[k]=false→addsB n G mu=false):=fun h=>adds_no i5 h; have b4:Hid (multOk mu[k]=true→∀ i (_:i<mu.length),i<k+1→multOk mu[i]=true):=fun h i hi hik=>by
    by_cases e:i=k
    ·subst e; exact h
    ·exact p6.o i hi (by omega)
   obtain ⟨f,hf⟩:=exW (F[k]); obtain ⟨ms,s8⟩:∃ s,mu[k]=s:=⟨_,rfl⟩; rw [hf] at k1 k2 i1 i4 k5; rw [s8] at k3 j0 p9 n2 b4; obtain ⟨pa,ca,rfl,B8,y7,y8⟩:=id i1; unfold maxLen at y7; have w8:=Hd i1; obtain ⟨W3,l2⟩:=exW (wo.alloc (.cells #[.slice pa f.cs.length ca,.bool f.st,.string (strOf f.bd)] 50)); have o1:Up wo W3:=by rw [← l2]; exact below_alloc _ _
   have r9:Bx W3 wo.heap.size [.slice pa f.cs.length ca,.bool f.st,.string (strOf f.bd)]:=by rw [← l2]; exact bx_new wo _ _
   rw [← hB.cell (p:=⟨d,k,none⟩) hd,← o1.cell (p:=⟨d,k,none⟩) (Nat.lt_of_lt_of_le hd hB.size)] at k3; have q3:=Hd l2; have n7:=Hd r9; have v5:=Hd (HA.o.below o1); have p8:=Hd (readJ_any ms W3 p9.o); have A8:(k:Int)<(mu.length:Int):=by omega
   clear hf s8 r6 r4 i1 y8 l2 r9 hA hB
   go_wp2_with (rw [q3.o])
   refine p8.o.mono ?_; rintro e w4 ⟨s4,p4,l4,c4,rfl,t7,l6⟩; obtain ⟨W5,l3⟩:=exW (w4.alloc (.cells #[.bool s4,.slice p4 l4 c4] 82)); have o2:Up w4 W5:=by rw [← l3]; exact below_alloc _ _
   have l5:Bx W5 w4.heap.size [.bool s4,.slice p4 l4 c4]:=by rw [← l3]; exact bx_new w4 _ _
   have k8:=Hd l3; have n8:=Hd l5; have j3:Up W3 W5:=l6.trans (o2.mono l6.size); have i3:=Hd (v5.o.below j3); have n3:=Hd (n7.o.below n7.o.lt j3); obtain ⟨X,hX⟩:=exW (M.getD k 0); have HX:=Hd hX; rw [hX] at j0; have n9:Hid (isIntB (strOf ms)=true→IsI W3.heap.size W5 (.agg #[.bool s4,.slice p4 l4 c4]) X 280):=fun h=>by rw [j0.o h]; exact (t7 h).below o2
   have V:Hid (w.heap.size+1+1≤wo.heap.size∧wo.heap.size<W3.heap.size∧W3.heap.size≤w4.heap.size∧w4.heap.size<W5.heap.size):=⟨HA.o.lt,n7.o.lt,l6.size,l5.lt⟩; obtain ⟨q0,q1⟩:=l5.c2; clear t7 l6 o2 l5 l3 j3 p8 o1 hX
   by_cases hi:isIntB (strOf ms)=true
   ·rw [hi]; have e3:=Hd (compareI_any 0 _ _ _ 0 280 0 W5 ((n9.o hi).mono (Nat.zero_le _) leR) (isI_zero 0 W5 0) (HT.o.below i3.o.bel).1); obtain ⟨ro,e0⟩:∃ r,ordI X 0=r:=⟨_,rfl⟩; rw [e0] at e3
    by_cases i2:X<0
    ·have HR:Hid (addsB n G mu=false):=n2.o (by unfold multOk; rw [hi,decide_eq_false (by rw [← j0.o hi]; omega)]; rfl); have yo:decide (ro<0)=true:=by rw [← e0,ordI_lt]; exact decide_eq_true i2
     clear i2 e0
     go_wp2_with (rw [k8.o])
     refine e3.o.mono ?_; rintro e w6 ⟨rfl,e7⟩; have v8:Hid (Up w w6):=i3.o.bel.trans (e7.mono i3.o.bel.size); clear e7
     go_wp2_with fail
     go_ret
     exact ⟨ret_bool HR.o.symm,v8.o⟩
    ·have e4:Hid (multOk ms=true):=by unfold Hid multOk; rw [hi,decide_eq_true (by rw [← j0.o hi]; omega)]; rfl
     have yo:decide (ro<0)=false:=by rw [← e0,ordI_lt]; exact decide_eq_false i2
     clear i2 e0
     go_wp2_with (rw [k8.o])
     refine e3.o.mono ?_; rintro e w6 ⟨rfl,e7⟩; have o9:=Hd (i3.o.below e7); have n4:=Hd (n3.o.below n3.o.lt e7); have q5:=Hd (n8.o.below n8.o.lt e7); have q6:=Hd ((n9.o hi).below e7); have z0:Hid (W5.heap.size≤w6.heap.size):=e7.size; obtain ⟨t0,t1,t2⟩:=n4.o.c3; clear e7 q0 q1
     go_wp2_with fail
     go_loopw [50] (fun iv wr=>∃ col:Nat,col≤f.cs.length∧iv=.int .i64 (col:Nat)∧AS w n (addD G M k) (sumsL n G M k col) wr∧Bx wr wo.heap.size [.slice pa f.cs.length ca,.bool f.st,.string (strOf f.bd)]∧Bx wr w4.heap.size [.bool s4,.slice p4 l4 c4]∧IsI W3.heap.size wr (.agg #[.bool s4,.slice p4 l4 c4]) X 280) (fun iv _=>f.cs.length - (intOf iv).toNat)
     case atStart=>exact ⟨0,Nat.zero_le _,rfl,o9.o,n4.o,q5.o,q6.o⟩
     case round=>
      rename World=>wi
      obtain ⟨col,z5,rfl,q8,r5,s0,s2⟩:=hrel; have a9:=Hd q8; have b8:=Hd r5; have Y:=Hd s0; have g3:=Hd s2; clear o9 n4 q5 q6 e3 k8 q3 i3 n3 n8 n9 t0 t1 t2 q8 r5 s0 s2; have A6:f.cs.length≤20:=by have:=i4.o.len; omega
      by_cases e8:col<f.cs.length
      ·have l7:col<n:=by have:=i4.o.len; omega
       have y2:(col:Int)<(f.cs.length:Int):=by omega
       have z3:(col:Int)<(n:Int):=by omega
       obtain ⟨B3,A5,e,-,-,i1⟩:=w8.o; simp only [Value.slice.injEq] at e; obtain ⟨rfl,-,rfl⟩:=e; obtain ⟨bv,rfl,x9,s5⟩:∃ bv,pa=some ⟨bv,0,none⟩∧bv<w.heap.size∧∀ i (h:i<f.cs.length),w.cell? ⟨bv,i,none⟩=some (.string (strOf f.cs[i])):=by
        rcases i1 with h|h
        ·rw [h] at e8; exact absurd e8 (Nat.not_lt_zero _)
        ·exact h
       have v0:=s5 col e8; rw [← a9.o.bel.cell (p:=⟨bv,col,none⟩) x9] at v0; have g8:Hid ((G.getD k nr0).cs.getD col 0=numT (strOf f.cs[col])):=by unfold Hid; rw [k5.o,nr_at f e8,List.getD_eq_getElem?_getD,List.getElem?_eq_getElem e8]; rfl
       have f7:Hid (∀ W,Up wi W→Calls Tryz.prog 49 #[.string (strOf f.cs[col])] W fun e w'=>∃ s1 p l c,e=.returned (.agg #[.bool s1,.slice p l c])∧IsI W.heap.size w' (.agg #[.bool s1,.slice p l c]) ((G.getD k nr0).cs.getD col 0) 280∧Up W w'):=fun W _=>by
        rw [g8.o]; exact cutJ_any _ W (i4.o.ints _ (List.getElem_mem e8))
       obtain ⟨cf,h8⟩:=exW ((G.getD k nr0).cs.getD col 0); have i9:=Hd (p2.o k col); have m8:Hid (addC G M col (k+1)=addC G M col k+X*cf):=by unfold Hid; rw [← h8,← HX.o]; rfl
       rw [h8] at f7 i9; have hL:n=(sumsL n G M k col).length:=(sumsL_len ..).symm; obtain ⟨g,s,p,l,c,hg,-,-,e1,e2,hI,-⟩:=a9.o.row.at2 hL (i:=col) (by rw [← hL]; exact l7); cases hg; rw [sumsL_at,if_neg (Nat.lt_irrefl _)] at hI; have HI:=Hd hI; have l8:w.heap.size+1<wi.heap.size:=a9.o.lt; have g9:=Hd l8; have d1:Hid (∀ W,Up wi W→W.cell? ⟨w.heap.size+1,col*2,none⟩=some (.bool s)∧W.cell? ⟨w.heap.size+1,col*2+1,none⟩=some (.slice p l c)):=fun W hW=>⟨(hW.cell (p:=⟨w.heap.size+1,col*2,none⟩) l8).trans e1,(hW.cell (p:=⟨w.heap.size+1,col*2+1,none⟩) l8).trans e2⟩; have y:Hid (∀ W,Up wi W→W.cell? ⟨w4.heap.size,0,none⟩=some (.bool s4)∧W.cell? ⟨w4.heap.size,1,none⟩=some (.slice p4 l4 c4)):=fun W hW=>(Y.o.below Y.o.lt hW).c2; have j1:Hid (∀ W,Up wi W→SP W):=fun W hW=>(HT.o.below (a9.o.bel.trans (hW.mono a9.o.bel.size))).1; have h6:Hid (∀ W z,Up wi W→IsI 0 W z cf 280→Calls Tryz.prog 90 #[.agg #[.bool s4,.slice p4 l4 c4],z] W fun e w'=>∃ z',e=.returned z'∧IsI W.heap.size w' z' (X*cf) 286∧Up W w'):=fun W z hW hz=>by
        refine (times_any 0 _ _ _ _ 280 280 W ((g3.o.mono (Nat.zero_le _) leR).below hW) hz (by omega) (by omega) (j1.o W hW)).mono ?_; rintro e w' ⟨z',rfl,e9,h7⟩; refine ⟨z',rfl,IsI.tight (k:=286) e9 ?_,h7⟩; rw [Int.natAbs_mul]; exact lb_mul 280 6 (by rw [← HX.o]; exact k7.o k) i9.o
       have h0:Hid (∀ W z,Up wi W→IsI 0 W z (X*cf) 286→Calls Tryz.prog 80 #[.agg #[.bool s,.slice p l c],z] W fun e w'=>∃ z',e=.returned z'∧IsI W.heap.size w' z' (addC G M col (k+1)) 340∧Up W w'):=fun W z hW hz=>by
        refine (plus_any 0 _ _ _ _ 340 286 W ((HI.o.mono (Nat.zero_le _) leR).below hW) hz (by omega) (by omega) (j1.o W hW)).mono ?_; rintro e w' ⟨z',rfl,e9,h7⟩; rw [← m8.o] at e9; have Z:=addC_lt k7.o (fun k=>p2.o k col) (k+1); exact ⟨z',rfl,(IsI.tight (k:=286+(k+1)) e9 Z).mono leR (by omega),h7⟩
       obtain ⟨S1,r8⟩:∃ S,strOf f.cs[col]=S:=⟨_,rfl⟩; rw [r8] at v0 f7; clear i1 s5 h8 hI e1 e2 hL l8 r8
       go_wp2_with fail
       refine wrh 13 rfl (S:=fun W=>W.cell? ⟨w4.heap.size,0,none⟩=some (.bool s4)∧W.cell? ⟨w4.heap.size,1,none⟩=some (.slice p4 l4 c4)) (by kernel_rfl) (y.o _ (Below.refl _ _).drew) (fun hHeld=>?_); refine tk 0 55 (v:=?_) rfl rfl (by kernel_rfl) (fun _ _ _ h=>h) (Or.inl ⟨by rfl,?_⟩) (by assumption) ?_
       rotate_left
       ·(intro w E; (try dsimp only at E); go_simp; (try with_reducible rfl))
       try simp only [Act.put,List.setIfInBounds_toArray,List.set_cons_zero,List.set_cons_succ]
       refine tk 1 56 (v:=?_) rfl rfl (by kernel_rfl) (fun _ _ _ h=>h) (Or.inl ⟨by rfl,?_⟩) (by assumption) ?_
       rotate_left
       ·(intro w E; (try dsimp only at E); go_simp; (try with_reducible rfl))
       try simp only [Act.put,List.setIfInBounds_toArray,List.set_cons_zero,List.set_cons_succ]
       refine tk 2 57 (v:=?_) rfl rfl (by kernel_rfl) (fun _ _ _ h=>h) (Or.inl ⟨by rfl,?_⟩) (by assumption) ?_
       rotate_left
       ·(intro w E; (try dsimp only at E); go_simp; (try with_reducible rfl))
       try simp only [Act.put,List.setIfInBounds_toArray,List.set_cons_zero,List.set_cons_succ]
       refine tk 3 58 (v:=?_) rfl rfl (by kernel_rfl) (fun _ _ _ h=>h) (Or.inl ⟨by rfl,?_⟩) (by assumption) ?_
       rotate_left
       ·(intro w E; (try dsimp only at E); go_simp; (try with_reducible rfl))
       try simp only [Act.put,List.setIfInBounds_toArray,List.set_cons_zero,List.set_cons_succ]
       refine tk 4 59 (v:=?_) rfl rfl (by kernel_rfl) (fun _ _ _ h=>h) (Or.inl ⟨by rfl,?_⟩) (by assumption) ?_
       rotate_left
       ·(intro w E; (try dsimp only at E); go_simp; (try with_reducible rfl))
       try simp only [Act.put,List.setIfInBounds_toArray,List.set_cons_zero,List.set_cons_succ]
       refine tk 6 61 (v:=?_) rfl rfl (by kernel_rfl) (fun _ _ _ h=>h) (Or.inl ⟨by rfl,?_⟩) (by assumption) ?_
       rotate_left
       ·(intro w E; (try dsimp only at E); go_simp; (try with_reducible rfl))
       try simp only [Act.put,List.setIfInBounds_toArray,List.set_cons_zero,List.set_cons_succ]
       refine tk 7 62 (v:=?_) rfl rfl (by kernel_rfl) (fun _ _ _ h=>h) (Or.inl ⟨by rfl,?_⟩) (by assumption) ?_
       rotate_left
       ·(intro w E; (try dsimp only at E); go_simp; (try with_reducible rfl))
       try simp only [Act.put,List.setIfInBounds_toArray,List.set_cons_zero,List.set_cons_succ]
       refine wpAnyH_ready (rs:=[5,8]) (by kernel_rfl) (by simp) ?_; refine AllReadyH.cons rfl (fun K hK=>?_) (AllReadyH.cons rfl (fun K hK=>?_) AllReadyH.nil)
       ·obtain ⟨m1,m2⟩:=d1.o _ ((Below.refl wi.heap.size wi).drew)
        go_simp
        go_wp2_with fail
        refine hK.out _ _ (y.o _ ((Below.refl wi.heap.size wi).drew)) (fun hHeld5=>?_); clear hK K
        try simp only [Act.put,List.setIfInBounds_toArray,List.set_cons_zero,List.set_cons_succ]
        clear m1 m2; refine wpAnyH_ready (rs:=[8]) (by kernel_rfl) (by simp) ?_; refine AllReadyH.cons rfl (fun K hK=>?_) AllReadyH.nil
        go_simp
        go_at_call 49
        refine (f7.o _ ((Below.refl wi.heap.size wi).drew)).mono ?_; rintro e wc ⟨sc,pc,lc,cc,rfl,d9,d8⟩; have u:Hid (Up wi wc):=((Below.refl wi.heap.size wi).drew).trans (d8.mono ((Below.refl wi.heap.size wi).drew).size); have e6:=Hd (d9.mono (Nat.zero_le _) leR); clear d9 d8
        go_wp2_with fail
        refine hK.out _ _ (y.o _ u.o) (fun hHeld8=>?_); clear hK K
        try simp only [Act.put,List.setIfInBounds_toArray,List.set_cons_zero,List.set_cons_succ]
        refine wpAnyH_ready (rs:=[9]) (by kernel_rfl) (by simp) ?_; refine AllReadyH.cons rfl (fun K hK=>?_) AllReadyH.nil
        go_simp
        go_at_call 90
        refine (h6.o _ _ u.o e6.o).mono ?_; rintro e wt ⟨zt,rfl,J,a7⟩; obtain ⟨st,pt,lt,ct,rfl⟩:=J.shape; have m:Hid (Up wi wt):=u.o.trans (a7.mono u.o.size); have d7:=Hd (J.mono (Nat.zero_le _) leR); clear J a7
        go_wp2_with fail
        refine hK.out _ _ (y.o _ m.o) (fun hHeld9=>?_); clear hK K
        try simp only [Act.put,List.setIfInBounds_toArray,List.set_cons_zero,List.set_cons_succ]
        refine wpAnyH_ready (rs:=[10]) (by kernel_rfl) (by simp) ?_; refine AllReadyH.cons rfl (fun K hK=>?_) AllReadyH.nil
        go_simp
        go_at_call 80
        refine (h0.o _ _ m.o d7.o).mono ?_; rintro e wp ⟨zp,rfl,I,a6⟩; obtain ⟨sp,pp,lp,cp,rfl⟩:=I.shape; have j:Hid (Up wi wp):=m.o.trans (a6.mono m.o.size); have d5:=Hd (I.mono (B':=w.heap.size+1+1) (by have:=m.o.size; have:=g9.o; omega) leR); clear I a6
        go_wp2_with fail
        refine hK.out _ _ (y.o _ j.o) (fun hHeld10=>?_); clear hK K
        try simp only [Act.put,List.setIfInBounds_toArray,List.set_cons_zero,List.set_cons_succ]
        refine tk 11 66 (v:=?_) rfl rfl (by kernel_rfl) (fun _ _ _ h=>h) (Or.inl ⟨by rfl,?_⟩) (by assumption) ?_
        rotate_left
        ·(intro w E; (try dsimp only at E); go_simp; (try with_reducible rfl))
        try simp only [Act.put,List.setIfInBounds_toArray,List.set_cons_zero,List.set_cons_succ]
        have H:=a9.o.below j.o; obtain ⟨xs,c9,-⟩:=H.row; rw [sumsL_len] at c9; have f0:=c9.frozenAt (col*2); have f1:=c9.frozenAt (col*2+1); obtain ⟨m1,m2⟩:=d1.o _ j.o; clear c9 xs; obtain ⟨WS,U⟩:=exW ((wp.setCell ⟨w.heap.size+1,col*2,none⟩ (.bool sp)).setCell ⟨w.heap.size+1,col*2+1,none⟩ (.slice pp lp cp)); have i7:Hid (AS w n (addD G M k) (sumsL n G M k (col+1)) WS):=by unfold Hid; rw [← U,← sumsL_set]; exact H.set (by rw [sumsL_len]; omega) d5.o
        have b9:Hid (Bx WS wo.heap.size [.slice (some ⟨bv,0,none⟩) f.cs.length ca,.bool f.st,.string (strOf f.bd)]):=by unfold Hid; rw [← U]; exact bx_far (b8.o.below b8.o.lt j.o) (by have:=V.o; omega) _ _ _ _
        have O:Hid (Bx WS w4.heap.size [.bool s4,.slice p4 l4 c4]):=by unfold Hid; rw [← U]; exact bx_far (Y.o.below Y.o.lt j.o) (by have:=V.o; omega) _ _ _ _
        have d6:Hid (IsI W3.heap.size WS (.agg #[.bool s4,.slice p4 l4 c4]) X 280):=by unfold Hid; rw [← U]; exact isI_setB (g3.o.below j.o) (by have:=V.o; omega) _ _ _ _
        have g2:=Hd U; have a5:WS.cell? ⟨w4.heap.size,0,none⟩=some (.bool s4)∧WS.cell? ⟨w4.heap.size,1,none⟩=some (.slice p4 l4 c4):=O.o.c2; have a3:=Hd a5; clear U H a5; refine wpAnyH_ready (rs:=[12]) (by kernel_rfl) (by simp) ?_; refine AllReadyH.cons rfl (fun K hK=>?_) AllReadyH.nil
        go_simp
        go_wp2_with (rw [g2.o])
        try rw [g2.o]
        refine hK.out _ _ a3.o (fun hHeld12=>?_); clear hK K m1 m2 f0 f1
        try simp only [Act.put,List.setIfInBounds_toArray,List.set_cons_zero,List.set_cons_succ]
        refine wpAnyH_done (by kernel_rfl) ?_ _
        go_wp2_with fail
        go_roundw
        case rel=>exact ⟨col+1,e8,by go_num,i7.o,b9.o,O.o,d6.o⟩
        case measure=>simp [intOf]; omega
       ·go_simp
        go_at_call 49
        refine (f7.o _ ((Below.refl wi.heap.size wi).drew)).mono ?_; rintro e wc ⟨sc,pc,lc,cc,rfl,d9,d8⟩; have u:Hid (Up wi wc):=((Below.refl wi.heap.size wi).drew).trans (d8.mono ((Below.refl wi.heap.size wi).drew).size); have e6:=Hd (d9.mono (Nat.zero_le _) leR); clear d9 d8
        go_wp2_with fail
        refine hK.out _ _ (y.o _ u.o) (fun hHeld8=>?_); clear hK K
        try simp only [Act.put,List.setIfInBounds_toArray,List.set_cons_zero,List.set_cons_succ]
        refine wpAnyH_ready (rs:=[5,9]) (by kernel_rfl) (by simp) ?_; refine AllReadyH.cons rfl (fun K hK=>?_) (AllReadyH.cons rfl (fun K hK=>?_) AllReadyH.nil)
        ·obtain ⟨m1,m2⟩:=d1.o _ (u.o)
         go_simp
         go_wp2_with fail
         refine hK.out _ _ (y.o _ (u.o)) (fun hHeld5=>?_); clear hK K
         try simp only [Act.put,List.setIfInBounds_toArray,List.set_cons_zero,List.set_cons_succ]
         clear m1 m2; refine wpAnyH_ready (rs:=[9]) (by kernel_rfl) (by simp) ?_; refine AllReadyH.cons rfl (fun K hK=>?_) AllReadyH.nil
         go_simp
         go_at_call 90
         refine (h6.o _ _ u.o e6.o).mono ?_; rintro e wt ⟨zt,rfl,J,a7⟩; obtain ⟨st,pt,lt,ct,rfl⟩:=J.shape; have m:Hid (Up wi wt):=u.o.trans (a7.mono u.o.size); have d7:=Hd (J.mono (Nat.zero_le _) leR); clear J a7
         go_wp2_with fail
         refine hK.out _ _ (y.o _ m.o) (fun hHeld9=>?_); clear hK K
         try simp only [Act.put,List.setIfInBounds_toArray,List.set_cons_zero,List.set_cons_succ]
         refine wpAnyH_ready (rs:=[10]) (by kernel_rfl) (by simp) ?_; refine AllReadyH.cons rfl (fun K hK=>?_) AllReadyH.nil
         go_simp
         go_at_call 80
         refine (h0.o _ _ m.o d7.o).mono ?_; rintro e wp ⟨zp,rfl,I,a6⟩; obtain ⟨sp,pp,lp,cp,rfl⟩:=I.shape; have j:Hid (Up wi wp):=m.o.trans (a6.mono m.o.size); have d5:=Hd (I.mono (B':=w.heap.size+1+1) (by have:=m.o.size; have:=g9.o; omega) leR); clear I a6
         go_wp2_with fail
         refine hK.out _ _ (y.o _ j.o) (fun hHeld10=>?_); clear hK K
         try simp only [Act.put,List.setIfInBounds_toArray,List.set_cons_zero,List.set_cons_succ]
         refine tk 11 66 (v:=?_) rfl rfl (by kernel_rfl) (fun _ _ _ h=>h) (Or.inl ⟨by rfl,?_⟩) (by assumption) ?_
         rotate_left
         ·(intro w E; (try dsimp only at E); go_simp; (try with_reducible rfl))
         try simp only [Act.put,List.setIfInBounds_toArray,List.set_cons_zero,List.set_cons_succ]
         have H:=a9.o.below j.o; obtain ⟨xs,c9,-⟩:=H.row; rw [sumsL_len] at c9; have f0:=c9.frozenAt (col*2); have f1:=c9.frozenAt (col*2+1); obtain ⟨m1,m2⟩:=d1.o _ j.o; clear c9 xs; obtain ⟨WS,U⟩:=exW ((wp.setCell ⟨w.heap.size+1,col*2,none⟩ (.bool sp)).setCell ⟨w.heap.size+1,col*2+1,none⟩ (.slice pp lp cp)); have i7:Hid (AS w n (addD G M k) (sumsL n G M k (col+1)) WS):=by unfold Hid; rw [← U,← sumsL_set]; exact H.set (by rw [sumsL_len]; omega) d5.o
         have b9:Hid (Bx WS wo.heap.size [.slice (some ⟨bv,0,none⟩) f.cs.length ca,.bool f.st,.string (strOf f.bd)]):=by unfold Hid; rw [← U]; exact bx_far (b8.o.below b8.o.lt j.o) (by have:=V.o; omega) _ _ _ _
         have O:Hid (Bx WS w4.heap.size [.bool s4,.slice p4 l4 c4]):=by unfold Hid; rw [← U]; exact bx_far (Y.o.below Y.o.lt j.o) (by have:=V.o; omega) _ _ _ _
         have d6:Hid (IsI W3.heap.size WS (.agg #[.bool s4,.slice p4 l4 c4]) X 280):=by unfold Hid; rw [← U]; exact isI_setB (g3.o.below j.o) (by have:=V.o; omega) _ _ _ _
         have g2:=Hd U; have a5:WS.cell? ⟨w4.heap.size,0,none⟩=some (.bool s4)∧WS.cell? ⟨w4.heap.size,1,none⟩=some (.slice p4 l4 c4):=O.o.c2; have a3:=Hd a5; clear U H a5; refine wpAnyH_ready (rs:=[12]) (by kernel_rfl) (by simp) ?_; refine AllReadyH.cons rfl (fun K hK=>?_) AllReadyH.nil
         go_simp
         go_wp2_with (rw [g2.o])
         try rw [g2.o]
         refine hK.out _ _ a3.o (fun hHeld12=>?_); clear hK K m1 m2 f0 f1
         try simp only [Act.put,List.setIfInBounds_toArray,List.set_cons_zero,List.set_cons_succ]
         refine wpAnyH_done (by kernel_rfl) ?_ _
         go_wp2_with fail
         go_roundw
         case rel=>exact ⟨col+1,e8,by go_num,i7.o,b9.o,O.o,d6.o⟩
         case measure=>simp [intOf]; omega
        ·go_simp
         go_at_call 90
         refine (h6.o _ _ u.o e6.o).mono ?_; rintro e wt ⟨zt,rfl,J,a7⟩; obtain ⟨st,pt,lt,ct,rfl⟩:=J.shape; have m:Hid (Up wi wt):=u.o.trans (a7.mono u.o.size); have d7:=Hd (J.mono (Nat.zero_le _) leR); clear J a7
         go_wp2_with fail
         refine hK.out _ _ (y.o _ m.o) (fun hHeld9=>?_); clear hK K
         try simp only [Act.put,List.setIfInBounds_toArray,List.set_cons_zero,List.set_cons_succ]
         refine wpAnyH_ready (rs:=[5]) (by kernel_rfl) (by simp) ?_; refine AllReadyH.cons rfl (fun K hK=>?_) AllReadyH.nil; obtain ⟨m1,m2⟩:=d1.o _ (m.o)
         go_simp
         go_wp2_with fail
         refine hK.out _ _ (y.o _ (m.o)) (fun hHeld5=>?_); clear hK K
         try simp only [Act.put,List.setIfInBounds_toArray,List.set_cons_zero,List.set_cons_succ]
         clear m1 m2; refine wpAnyH_ready (rs:=[10]) (by kernel_rfl) (by simp) ?_; refine AllReadyH.cons rfl (fun K hK=>?_) AllReadyH.nil
         go_simp
         go_at_call 80
         refine (h0.o _ _ m.o d7.o).mono ?_; rintro e wp ⟨zp,rfl,I,a6⟩; obtain ⟨sp,pp,lp,cp,rfl⟩:=I.shape; have j:Hid (Up wi wp):=m.o.trans (a6.mono m.o.size); have d5:=Hd (I.mono (B':=w.heap.size+1+1) (by have:=m.o.size; have:=g9.o; omega) leR); clear I a6
         go_wp2_with fail
         refine hK.out _ _ (y.o _ j.o) (fun hHeld10=>?_); clear hK K
         try simp only [Act.put,List.setIfInBounds_toArray,List.set_cons_zero,List.set_cons_succ]
         refine tk 11 66 (v:=?_) rfl rfl (by kernel_rfl) (fun _ _ _ h=>h) (Or.inl ⟨by rfl,?_⟩) (by assumption) ?_
         rotate_left
         ·(intro w E; (try dsimp only at E); go_simp; (try with_reducible rfl))
         try simp only [Act.put,List.setIfInBounds_toArray,List.set_cons_zero,List.set_cons_succ]
         have H:=a9.o.below j.o; obtain ⟨xs,c9,-⟩:=H.row; rw [sumsL_len] at c9; have f0:=c9.frozenAt (col*2); have f1:=c9.frozenAt (col*2+1); obtain ⟨m1,m2⟩:=d1.o _ j.o; clear c9 xs; obtain ⟨WS,U⟩:=exW ((wp.setCell ⟨w.heap.size+1,col*2,none⟩ (.bool sp)).setCell ⟨w.heap.size+1,col*2+1,none⟩ (.slice pp lp cp)); have i7:Hid (AS w n (addD G M k) (sumsL n G M k (col+1)) WS):=by unfold Hid; rw [← U,← sumsL_set]; exact H.set (by rw [sumsL_len]; omega) d5.o
         have b9:Hid (Bx WS wo.heap.size [.slice (some ⟨bv,0,none⟩) f.cs.length ca,.bool f.st,.string (strOf f.bd)]):=by unfold Hid; rw [← U]; exact bx_far (b8.o.below b8.o.lt j.o) (by have:=V.o; omega) _ _ _ _
         have O:Hid (Bx WS w4.heap.size [.bool s4,.slice p4 l4 c4]):=by unfold Hid; rw [← U]; exact bx_far (Y.o.below Y.o.lt j.o) (by have:=V.o; omega) _ _ _ _
         have d6:Hid (IsI W3.heap.size WS (.agg #[.bool s4,.slice p4 l4 c4]) X 280):=by unfold Hid; rw [← U]; exact isI_setB (g3.o.below j.o) (by have:=V.o; omega) _ _ _ _
         have g2:=Hd U; have a5:WS.cell? ⟨w4.heap.size,0,none⟩=some (.bool s4)∧WS.cell? ⟨w4.heap.size,1,none⟩=some (.slice p4 l4 c4):=O.o.c2; have a3:=Hd a5; clear U H a5; refine wpAnyH_ready (rs:=[12]) (by kernel_rfl) (by simp) ?_; refine AllReadyH.cons rfl (fun K hK=>?_) AllReadyH.nil
         go_simp
         go_wp2_with (rw [g2.o])
         try rw [g2.o]
         refine hK.out _ _ a3.o (fun hHeld12=>?_); clear hK K m1 m2 f0 f1
         try simp only [Act.put,List.setIfInBounds_toArray,List.set_cons_zero,List.set_cons_succ]
         refine wpAnyH_done (by kernel_rfl) ?_ _
         go_wp2_with fail
         go_roundw
         case rel=>exact ⟨col+1,e8,by go_num,i7.o,b9.o,O.o,d6.o⟩
         case measure=>simp [intOf]; omega
      ·have y1:col=f.cs.length:=by omega
       have l7:col=n:=by have:=i4.o.len; omega
       rw [l7] at a9; clear l7 y1; have y2:¬ (col:Int)<(f.cs.length:Int):=by omega
       have e5:Hid (addS G M (k+1)=(addS G M k||(f.st&&!decide (X=0)))):=by unfold Hid; show (addS G M k||((G.getD k nr0).st&&!decide (M.getD k 0=0)))=_; rw [k5.o,HX.o]; rfl
       have g8:Hid ((G.getD k nr0).bd=numT (strOf f.bd)):=by unfold Hid; rw [k5.o]; rfl
       have f7:Hid (∀ W,Up wi W→Calls Tryz.prog 49 #[.string (strOf f.bd)] W fun e w'=>∃ s1 p l c,e=.returned (.agg #[.bool s1,.slice p l c])∧IsI W.heap.size w' (.agg #[.bool s1,.slice p l c]) ((G.getD k nr0).bd) 280∧Up W w'):=fun W _=>by
        rw [g8.o]; exact cutJ_any _ W i4.o.bd
       obtain ⟨cf,h8⟩:=exW ((G.getD k nr0).bd); have i9:=Hd (p3.o k); have m8:Hid (addD G M (k+1)=addD G M k+X*cf):=by unfold Hid; rw [← h8,← HX.o]; rfl
       rw [h8] at f7 i9; obtain ⟨s,p,l,c,a8,hI⟩:=a9.o.ex; have HI:=Hd hI; have p0:=Hd a8; have g9:=Hd a9.o.lt; have d1:Hid (∀ W,Up wi W→W.cell? ⟨w.heap.size,0,none⟩=some (.bool s)∧W.cell? ⟨w.heap.size,1,none⟩=some (.slice p l c)):=fun W hW=>(p0.o.below p0.o.lt hW).c2; have y:Hid (∀ W,Up wi W→W.cell? ⟨w4.heap.size,0,none⟩=some (.bool s4)∧W.cell? ⟨w4.heap.size,1,none⟩=some (.slice p4 l4 c4)∧W.cell? ⟨wo.heap.size,2,none⟩=some (.string (strOf f.bd))):=fun W hW=>⟨(Y.o.below Y.o.lt hW).c2.1,(Y.o.below Y.o.lt hW).c2.2,(b8.o.below b8.o.lt hW).c3.2.2⟩; have j1:Hid (∀ W,Up wi W→SP W):=fun W hW=>(HT.o.below (a9.o.bel.trans (hW.mono a9.o.bel.size))).1; have h6:Hid (∀ W z,Up wi W→IsI 0 W z cf 280→Calls Tryz.prog 90 #[.agg #[.bool s4,.slice p4 l4 c4],z] W fun e w'=>∃ z',e=.returned z'∧IsI W.heap.size w' z' (X*cf) 286∧Up W w'):=fun W z hW hz=>by
        refine (times_any 0 _ _ _ _ 280 280 W ((g3.o.mono (Nat.zero_le _) leR).below hW) hz (by omega) (by omega) (j1.o W hW)).mono ?_; rintro e w' ⟨z',rfl,e9,h7⟩; refine ⟨z',rfl,IsI.tight (k:=286) e9 ?_,h7⟩; rw [Int.natAbs_mul]; exact lb_mul 280 6 (by rw [← HX.o]; exact k7.o k) i9.o
       have h0:Hid (∀ W z,Up wi W→IsI 0 W z (X*cf) 286→Calls Tryz.prog 80 #[.agg #[.bool s,.slice p l c],z] W fun e w'=>∃ z',e=.returned z'∧IsI W.heap.size w' z' (addD G M (k+1)) 340∧Up W w'):=fun W z hW hz=>by
        refine (plus_any 0 _ _ _ _ 340 286 W ((HI.o.mono (Nat.zero_le _) leR).below hW) hz (by omega) (by omega) (j1.o W hW)).mono ?_; rintro e w' ⟨z',rfl,e9,h7⟩; rw [← m8.o] at e9; have Z:=addD_lt k7.o p3.o (k+1); exact ⟨z',rfl,(IsI.tight (k:=286+(k+1)) e9 Z).mono leR (by omega),h7⟩
       clear hI a8 h8
       go_wp2_with fail
       refine wrh 8 rfl (S:=fun W=>W.cell? ⟨w4.heap.size,0,none⟩=some (.bool s4)∧W.cell? ⟨w4.heap.size,1,none⟩=some (.slice p4 l4 c4)∧W.cell? ⟨wo.heap.size,2,none⟩=some (.string (strOf f.bd))) (by kernel_rfl) (y.o _ (Below.refl _ _).drew) (fun hHeld=>?_); refine tk 1 69 (v:=?_) rfl rfl (by kernel_rfl) (fun _ _ _ h=>h) (Or.inl ⟨by rfl,?_⟩) (by assumption) ?_
       rotate_left
       ·(intro w E; (try dsimp only at E); go_simp; (try with_reducible rfl))
       try simp only [Act.put,List.setIfInBounds_toArray,List.set_cons_zero,List.set_cons_succ]
       refine tk 2 70 (v:=?_) rfl rfl (by kernel_rfl) (fun _ _ _ h=>h) (Or.inl ⟨by rfl,?_⟩) (by assumption) ?_
       rotate_left
       ·(intro w E; (try dsimp only at E); go_simp; (try with_reducible rfl))
       try simp only [Act.put,List.setIfInBounds_toArray,List.set_cons_zero,List.set_cons_succ]
       refine tk 3 71 (v:=?_) rfl rfl (by kernel_rfl) (fun _ _ _ h=>h) (Or.inl ⟨by rfl,?_⟩) (by assumption) ?_
       rotate_left
       ·(intro w E; (try dsimp only at E); go_simp; (try with_reducible rfl))
       try simp only [Act.put,List.setIfInBounds_toArray,List.set_cons_zero,List.set_cons_succ]
       refine wpAnyH_ready (rs:=[0,4]) (by kernel_rfl) (by simp) ?_; refine AllReadyH.cons rfl (fun K hK=>?_) (AllReadyH.cons rfl (fun K hK=>?_) AllReadyH.nil)
       ·obtain ⟨m1,m2⟩:=d1.o _ ((Below.refl wi.heap.size wi).drew)
        go_simp
        go_wp2_with fail
        refine hK.out _ _ (y.o _ ((Below.refl wi.heap.size wi).drew)) (fun hHeld0=>?_); clear hK K
        try simp only [Act.put,List.setIfInBounds_toArray,List.set_cons_zero,List.set_cons_succ]
        clear m1 m2; refine wpAnyH_ready (rs:=[4]) (by kernel_rfl) (by simp) ?_; refine AllReadyH.cons rfl (fun K hK=>?_) AllReadyH.nil
        go_simp
        go_at_call 49
        refine (f7.o _ ((Below.refl wi.heap.size wi).drew)).mono ?_; rintro e wc ⟨sc,pc,lc,cc,rfl,d9,d8⟩; have u:Hid (Up wi wc):=((Below.refl wi.heap.size wi).drew).trans (d8.mono ((Below.refl wi.heap.size wi).drew).size); have e6:=Hd (d9.mono (Nat.zero_le _) leR); clear d9 d8
        go_wp2_with fail
        refine hK.out _ _ (y.o _ u.o) (fun hHeld4=>?_); clear hK K
        try simp only [Act.put,List.setIfInBounds_toArray,List.set_cons_zero,List.set_cons_succ]
        refine wpAnyH_ready (rs:=[5]) (by kernel_rfl) (by simp) ?_; refine AllReadyH.cons rfl (fun K hK=>?_) AllReadyH.nil
        go_simp
        go_at_call 90
        refine (h6.o _ _ u.o e6.o).mono ?_; rintro e wt ⟨zt,rfl,J,a7⟩; obtain ⟨st,pt,lt,ct,rfl⟩:=J.shape; have m:Hid (Up wi wt):=u.o.trans (a7.mono u.o.size); have d7:=Hd (J.mono (Nat.zero_le _) leR); clear J a7
        go_wp2_with fail
        refine hK.out _ _ (y.o _ m.o) (fun hHeld5=>?_); clear hK K
        try simp only [Act.put,List.setIfInBounds_toArray,List.set_cons_zero,List.set_cons_succ]
        refine wpAnyH_ready (rs:=[6]) (by kernel_rfl) (by simp) ?_; refine AllReadyH.cons rfl (fun K hK=>?_) AllReadyH.nil
        go_simp
        go_at_call 80
        refine (h0.o _ _ m.o d7.o).mono ?_; rintro e wp ⟨zp,rfl,I,a6⟩; obtain ⟨sp,pp,lp,cp,rfl⟩:=I.shape; have j:Hid (Up wi wp):=m.o.trans (a6.mono m.o.size); have d5:=Hd (I.mono (B':=w.heap.size+1+1) (by have:=m.o.size; have:=g9.o; omega) leR); clear I a6
        go_wp2_with fail
        refine hK.out _ _ (y.o _ j.o) (fun hHeld6=>?_); clear hK K
        try simp only [Act.put,List.setIfInBounds_toArray,List.set_cons_zero,List.set_cons_succ]
        have H:=a9.o.below j.o; obtain ⟨sb,pb,lb,cb,a8,-⟩:=H.ex; have f0:=a8.frozen 0; have f1:=a8.frozen 1; obtain ⟨m1,m2⟩:=d1.o _ j.o; clear a8; obtain ⟨WB,T⟩:=exW ((wp.setCell ⟨w.heap.size,0,none⟩ (.bool sp)).setCell ⟨w.heap.size,1,none⟩ (.slice pp lp cp)); have d4:Hid (AS w n (addD G M (k+1)) (sumsL n G M (k+1) 0) WB):=by unfold Hid; rw [← T,← sumsL_next]; exact H.bound d5.o
        have b9:Hid (Bx WB wo.heap.size [.slice pa f.cs.length ca,.bool f.st,.string (strOf f.bd)]):=by unfold Hid; rw [← T]; exact bx_far (b8.o.below b8.o.lt j.o) (by have:=V.o; omega) _ _ _ _
        have O:Hid (Bx WB w4.heap.size [.bool s4,.slice p4 l4 c4]):=by unfold Hid; rw [← T]; exact bx_far (Y.o.below Y.o.lt j.o) (by have:=V.o; omega) _ _ _ _
        have d6:Hid (IsI W3.heap.size WB (.agg #[.bool s4,.slice p4 l4 c4]) X 280):=by unfold Hid; rw [← T]; exact isI_setB (g3.o.below j.o) (by have:=V.o; omega) _ _ _ _
        have g1:=Hd T; have a5:WB.cell? ⟨w4.heap.size,0,none⟩=some (.bool s4)∧WB.cell? ⟨w4.heap.size,1,none⟩=some (.slice p4 l4 c4)∧WB.cell? ⟨wo.heap.size,2,none⟩=some (.string (strOf f.bd)):=⟨O.o.c2.1,O.o.c2.2,b9.o.c3.2.2⟩; have a3:=Hd a5; clear T H a5; refine wpAnyH_ready (rs:=[7]) (by kernel_rfl) (by simp) ?_; refine AllReadyH.cons rfl (fun K hK=>?_) AllReadyH.nil
        go_simp
        go_wp2_with (rw [g1.o])
        try rw [g1.o]
        refine hK.out _ _ a3.o (fun hHeld7=>?_); clear hK K m1 m2 f0 f1
        try simp only [Act.put,List.setIfInBounds_toArray,List.set_cons_zero,List.set_cons_succ]
        refine wpAnyH_done (by kernel_rfl) ?_ _; obtain ⟨x0,x1,x2⟩:=b9.o.c3; obtain ⟨x3,x4⟩:=O.o.c2
        cases c7:addS G M k with
        | true=>
          clear x0 x1 x2 x3 x4
          go_wp2_with fail
          go_roundw
          case rel=>exact ⟨k+1,Z,by go_num,by rw [e5.o,c7]; rfl,b4.o e4.o,d4.o⟩
          case measure=>simp [intOf]; omega
        | false=>
          cases d0:f.st with
          | false=>
            rw [d0] at x1
            go_wp2_with fail
            go_roundw
            case rel=>exact ⟨k+1,Z,by go_num,by rw [e5.o,c7,d0]; rfl,b4.o e4.o,d4.o⟩
            case measure=>simp [intOf]; omega
          | true=>
            rw [d0] at x1; have f9:=Hd (isZero_ask W3.heap.size s4 p4 l4 c4 X 280 WB d6.o); obtain ⟨zz,g6⟩:∃ z,decide (X=0)=z:=⟨_,rfl⟩; rw [g6] at f9
            go_wp2_with fail
            refine f9.o.mono ?_; rintro e wz ⟨rfl,g5⟩; have i8:=Hd (d4.o.below g5); clear g5
            go_wp2_with fail
            go_roundw
            case rel=>exact ⟨k+1,Z,by go_num,by rw [e5.o,c7,d0,g6]; rfl,b4.o e4.o,i8.o⟩
            case measure=>simp [intOf]; omega
       ·go_simp
        go_at_call 49
        refine (f7.o _ ((Below.refl wi.heap.size wi).drew)).mono ?_; rintro e wc ⟨sc,pc,lc,cc,rfl,d9,d8⟩; have u:Hid (Up wi wc):=((Below.refl wi.heap.size wi).drew).trans (d8.mono ((Below.refl wi.heap.size wi).drew).size); have e6:=Hd (d9.mono (Nat.zero_le _) leR); clear d9 d8
        go_wp2_with fail
        refine hK.out _ _ (y.o _ u.o) (fun hHeld4=>?_); clear hK K
        try simp only [Act.put,List.setIfInBounds_toArray,List.set_cons_zero,List.set_cons_succ]
        refine wpAnyH_ready (rs:=[0,5]) (by kernel_rfl) (by simp) ?_; refine AllReadyH.cons rfl (fun K hK=>?_) (AllReadyH.cons rfl (fun K hK=>?_) AllReadyH.nil)
        ·obtain ⟨m1,m2⟩:=d1.o _ (u.o)
         go_simp
         go_wp2_with fail
         refine hK.out _ _ (y.o _ (u.o)) (fun hHeld0=>?_); clear hK K
         try simp only [Act.put,List.setIfInBounds_toArray,List.set_cons_zero,List.set_cons_succ]
         clear m1 m2; refine wpAnyH_ready (rs:=[5]) (by kernel_rfl) (by simp) ?_; refine AllReadyH.cons rfl (fun K hK=>?_) AllReadyH.nil
         go_simp
         go_at_call 90
         refine (h6.o _ _ u.o e6.o).mono ?_; rintro e wt ⟨zt,rfl,J,a7⟩; obtain ⟨st,pt,lt,ct,rfl⟩:=J.shape; have m:Hid (Up wi wt):=u.o.trans (a7.mono u.o.size); have d7:=Hd (J.mono (Nat.zero_le _) leR); clear J a7
         go_wp2_with fail
         refine hK.out _ _ (y.o _ m.o) (fun hHeld5=>?_); clear hK K
         try simp only [Act.put,List.setIfInBounds_toArray,List.set_cons_zero,List.set_cons_succ]
         refine wpAnyH_ready (rs:=[6]) (by kernel_rfl) (by simp) ?_; refine AllReadyH.cons rfl (fun K hK=>?_) AllReadyH.nil
         go_simp
         go_at_call 80
         refine (h0.o _ _ m.o d7.o).mono ?_; rintro e wp ⟨zp,rfl,I,a6⟩; obtain ⟨sp,pp,lp,cp,rfl⟩:=I.shape; have j:Hid (Up wi wp):=m.o.trans (a6.mono m.o.size); have d5:=Hd (I.mono (B':=w.heap.size+1+1) (by have:=m.o.size; have:=g9.o; omega) leR); clear I a6
         go_wp2_with fail
         refine hK.out _ _ (y.o _ j.o) (fun hHeld6=>?_); clear hK K
         try simp only [Act.put,List.setIfInBounds_toArray,List.set_cons_zero,List.set_cons_succ]
         have H:=a9.o.below j.o; obtain ⟨sb,pb,lb,cb,a8,-⟩:=H.ex; have f0:=a8.frozen 0; have f1:=a8.frozen 1; obtain ⟨m1,m2⟩:=d1.o _ j.o; clear a8; obtain ⟨WB,T⟩:=exW ((wp.setCell ⟨w.heap.size,0,none⟩ (.bool sp)).setCell ⟨w.heap.size,1,none⟩ (.slice pp lp cp)); have d4:Hid (AS w n (addD G M (k+1)) (sumsL n G M (k+1) 0) WB):=by unfold Hid; rw [← T,← sumsL_next]; exact H.bound d5.o
         have b9:Hid (Bx WB wo.heap.size [.slice pa f.cs.length ca,.bool f.st,.string (strOf f.bd)]):=by unfold Hid; rw [← T]; exact bx_far (b8.o.below b8.o.lt j.o) (by have:=V.o; omega) _ _ _ _
         have O:Hid (Bx WB w4.heap.size [.bool s4,.slice p4 l4 c4]):=by unfold Hid; rw [← T]; exact bx_far (Y.o.below Y.o.lt j.o) (by have:=V.o; omega) _ _ _ _
         have d6:Hid (IsI W3.heap.size WB (.agg #[.bool s4,.slice p4 l4 c4]) X 280):=by unfold Hid; rw [← T]; exact isI_setB (g3.o.below j.o) (by have:=V.o; omega) _ _ _ _
         have g1:=Hd T; have a5:WB.cell? ⟨w4.heap.size,0,none⟩=some (.bool s4)∧WB.cell? ⟨w4.heap.size,1,none⟩=some (.slice p4 l4 c4)∧WB.cell? ⟨wo.heap.size,2,none⟩=some (.string (strOf f.bd)):=⟨O.o.c2.1,O.o.c2.2,b9.o.c3.2.2⟩; have a3:=Hd a5; clear T H a5; refine wpAnyH_ready (rs:=[7]) (by kernel_rfl) (by simp) ?_; refine AllReadyH.cons rfl (fun K hK=>?_) AllReadyH.nil
         go_simp
         go_wp2_with (rw [g1.o])
         try rw [g1.o]
         refine hK.out _ _ a3.o (fun hHeld7=>?_); clear hK K m1 m2 f0 f1
         try simp only [Act.put,List.setIfInBounds_toArray,List.set_cons_zero,List.set_cons_succ]
         refine wpAnyH_done (by kernel_rfl) ?_ _; obtain ⟨x0,x1,x2⟩:=b9.o.c3; obtain ⟨x3,x4⟩:=O.o.c2
         cases c7:addS G M k with
         | true=>
           clear x0 x1 x2 x3 x4
           go_wp2_with fail
           go_roundw
           case rel=>exact ⟨k+1,Z,by go_num,by rw [e5.o,c7]; rfl,b4.o e4.o,d4.o⟩
           case measure=>simp [intOf]; omega
         | false=>
           cases d0:f.st with
           | false=>
             rw [d0] at x1
             go_wp2_with fail
             go_roundw
             case rel=>exact ⟨k+1,Z,by go_num,by rw [e5.o,c7,d0]; rfl,b4.o e4.o,d4.o⟩
             case measure=>simp [intOf]; omega
           | true=>
             rw [d0] at x1; have f9:=Hd (isZero_ask W3.heap.size s4 p4 l4 c4 X 280 WB d6.o); obtain ⟨zz,g6⟩:∃ z,decide (X=0)=z:=⟨_,rfl⟩; rw [g6] at f9
             go_wp2_with fail
             refine f9.o.mono ?_; rintro e wz ⟨rfl,g5⟩; have i8:=Hd (d4.o.below g5); clear g5
             go_wp2_with fail
             go_roundw
             case rel=>exact ⟨k+1,Z,by go_num,by rw [e5.o,c7,d0,g6]; rfl,b4.o e4.o,i8.o⟩
             case measure=>simp [intOf]; omega
        ·go_simp
         go_at_call 90
         refine (h6.o _ _ u.o e6.o).mono ?_; rintro e wt ⟨zt,rfl,J,a7⟩; obtain ⟨st,pt,lt,ct,rfl⟩:=J.shape; have m:Hid (Up wi wt):=u.o.trans (a7.mono u.o.size); have d7:=Hd (J.mono (Nat.zero_le _) leR); clear J a7
         go_wp2_with fail
         refine hK.out _ _ (y.o _ m.o) (fun hHeld5=>?_); clear hK K
         try simp only [Act.put,List.setIfInBounds_toArray,List.set_cons_zero,List.set_cons_succ]
         refine wpAnyH_ready (rs:=[0]) (by kernel_rfl) (by simp) ?_; refine AllReadyH.cons rfl (fun K hK=>?_) AllReadyH.nil; obtain ⟨m1,m2⟩:=d1.o _ (m.o)
         go_simp
         go_wp2_with fail
         refine hK.out _ _ (y.o _ (m.o)) (fun hHeld0=>?_); clear hK K
         try simp only [Act.put,List.setIfInBounds_toArray,List.set_cons_zero,List.set_cons_succ]
         clear m1 m2; refine wpAnyH_ready (rs:=[6]) (by kernel_rfl) (by simp) ?_; refine AllReadyH.cons rfl (fun K hK=>?_) AllReadyH.nil
         go_simp
         go_at_call 80
         refine (h0.o _ _ m.o d7.o).mono ?_; rintro e wp ⟨zp,rfl,I,a6⟩; obtain ⟨sp,pp,lp,cp,rfl⟩:=I.shape; have j:Hid (Up wi wp):=m.o.trans (a6.mono m.o.size); have d5:=Hd (I.mono (B':=w.heap.size+1+1) (by have:=m.o.size; have:=g9.o; omega) leR); clear I a6
         go_wp2_with fail
         refine hK.out _ _ (y.o _ j.o) (fun hHeld6=>?_); clear hK K
         try simp only [Act.put,List.setIfInBounds_toArray,List.set_cons_zero,List.set_cons_succ]
         have H:=a9.o.below j.o; obtain ⟨sb,pb,lb,cb,a8,-⟩:=H.ex; have f0:=a8.frozen 0; have f1:=a8.frozen 1; obtain ⟨m1,m2⟩:=d1.o _ j.o; clear a8; obtain ⟨WB,T⟩:=exW ((wp.setCell ⟨w.heap.size,0,none⟩ (.bool sp)).setCell ⟨w.heap.size,1,none⟩ (.slice pp lp cp)); have d4:Hid (AS w n (addD G M (k+1)) (sumsL n G M (k+1) 0) WB):=by unfold Hid; rw [← T,← sumsL_next]; exact H.bound d5.o
         have b9:Hid (Bx WB wo.heap.size [.slice pa f.cs.length ca,.bool f.st,.string (strOf f.bd)]):=by unfold Hid; rw [← T]; exact bx_far (b8.o.below b8.o.lt j.o) (by have:=V.o; omega) _ _ _ _
         have O:Hid (Bx WB w4.heap.size [.bool s4,.slice p4 l4 c4]):=by unfold Hid; rw [← T]; exact bx_far (Y.o.below Y.o.lt j.o) (by have:=V.o; omega) _ _ _ _
         have d6:Hid (IsI W3.heap.size WB (.agg #[.bool s4,.slice p4 l4 c4]) X 280):=by unfold Hid; rw [← T]; exact isI_setB (g3.o.below j.o) (by have:=V.o; omega) _ _ _ _
         have g1:=Hd T; have a5:WB.cell? ⟨w4.heap.size,0,none⟩=some (.bool s4)∧WB.cell? ⟨w4.heap.size,1,none⟩=some (.slice p4 l4 c4)∧WB.cell? ⟨wo.heap.size,2,none⟩=some (.string (strOf f.bd)):=⟨O.o.c2.1,O.o.c2.2,b9.o.c3.2.2⟩; have a3:=Hd a5; clear T H a5; refine wpAnyH_ready (rs:=[7]) (by kernel_rfl) (by simp) ?_; refine AllReadyH.cons rfl (fun K hK=>?_) AllReadyH.nil
         go_simp
         go_wp2_with (rw [g1.o])
         try rw [g1.o]
         refine hK.out _ _ a3.o (fun hHeld7=>?_); clear hK K m1 m2 f0 f1
         try simp only [Act.put,List.setIfInBounds_toArray,List.set_cons_zero,List.set_cons_succ]
         refine wpAnyH_done (by kernel_rfl) ?_ _; obtain ⟨x0,x1,x2⟩:=b9.o.c3; obtain ⟨x3,x4⟩:=O.o.c2
         cases c7:addS G M k with
         | true=>
           clear x0 x1 x2 x3 x4
           go_wp2_with fail
           go_roundw
           case rel=>exact ⟨k+1,Z,by go_num,by rw [e5.o,c7]; rfl,b4.o e4.o,d4.o⟩
           case measure=>simp [intOf]; omega
         | false=>
           cases d0:f.st with
           | false=>
             rw [d0] at x1
             go_wp2_with fail
             go_roundw
             case rel=>exact ⟨k+1,Z,by go_num,by rw [e5.o,c7,d0]; rfl,b4.o e4.o,d4.o⟩
             case measure=>simp [intOf]; omega
           | true=>
             rw [d0] at x1; have f9:=Hd (isZero_ask W3.heap.size s4 p4 l4 c4 X 280 WB d6.o); obtain ⟨zz,g6⟩:∃ z,decide (X=0)=z:=⟨_,rfl⟩; rw [g6] at f9
             go_wp2_with fail
             refine f9.o.mono ?_; rintro e wz ⟨rfl,g5⟩; have i8:=Hd (d4.o.below g5); clear g5
             go_wp2_with fail
             go_roundw
             case rel=>exact ⟨k+1,Z,by go_num,by rw [e5.o,c7,d0,g6]; rfl,b4.o e4.o,i8.o⟩
             case measure=>simp [intOf]; omega
   ·have HR:Hid (addsB n G mu=false):=n2.o (by unfold multOk; rw [Bool.eq_false_iff.2 hi]; rfl); rw [Bool.eq_false_iff.2 hi]; have v7:=Hd i3.o.bel
    go_wp2_with (rw [k8.o])
    go_ret
    exact ⟨ret_bool HR.o.symm,v7.o⟩
  ·have s7:k=F.length:=by omega
   have p1:Hid (addsB n G mu=endB n G M):=by
    have m6:mu.all multOk=true:=all_of (fun i hi=>p6.o i hi (by have:=n1.o; omega)); unfold Hid addsB; rw [m6,← w5.o m6,decide_eq_true (by rw [n1.o,n0.o])]; rfl
   have p5:Hid (k=G.length):=by unfold Hid; rw [n0.o]; exact s7
   clear s7; obtain ⟨s,p,l,c,a8,hI⟩:=HA.o.ex; have e3:=Hd (compareI_any 0 _ _ _ 0 340 0 wo (hI.mono (Nat.zero_le _) leR) (isI_zero 0 wo 0) (HT.o.below HA.o.bel).1); obtain ⟨D,hD⟩:=exW (addD G M k); rw [hD] at e3; obtain ⟨ro,e0⟩:∃ r,ordI D 0=r:=⟨_,rfl⟩; rw [e0] at e3; obtain ⟨x0,x1⟩:=a8.c2; have A9:¬ (k:Int)<(F.length:Int):=by omega
   have g8:Hid (∀ W,Up wo W→Calls Tryz.prog 91 #[.slice (some ⟨w.heap.size+1,0,none⟩) n n,.func (.func 92) #[] #[]] W fun e w'=>e=.returned (.bool (!(List.range n).all (fun c=>decide (addC G M c k=0))))∧Up W w'):=fun W hW=>by
    rw [← any_sums]; exact containsFunc_any (w.heap.size+1) _ _ 340 W (HA.o.row.below hW) (by rw [sumsL_len]; omega)
   have f5:=Hd HA.o.bel; have g0:Hid (addsB n G mu=((decide (ro<0)||(decide (ro=0)&&addS G M k))&&(List.range n).all (fun c=>decide (addC G M c k=0)))):=by
    unfold Hid; rw [p1.o]; unfold endB; rw [← p5.o,hD,← ordI_lt D 0,e0]; have e:=ordI_zero D 0; rw [e0] at e; rw [← e]; rfl
   obtain ⟨RG,r7⟩:∃ b,(List.range n).all (fun c=>decide (addC G M c k=0))=b:=⟨_,rfl⟩; rw [r7] at g0 g8; clear hI a8 hD e0 p1 p5 HA r7 hA
   go_wp2_with fail
   refine e3.o.mono ?_; rintro e w1 ⟨rfl,s3⟩; have d3:=Hd s3; clear s3 e3
   by_cases h1:ro<0
   ·have yo:decide (ro<0)=true:=decide_eq_true h1; clear h1
    go_wp2_with fail
    refine (g8.o _ d3.o).mono ?_; rintro e w2 ⟨rfl,j5⟩; have m9:Hid (Up w w2):=f5.o.trans ((d3.o.trans (j5.mono d3.o.size)).mono f5.o.size); clear j5
    go_wp2_with fail
    go_ret
    exact ⟨ret_bool (by rw [g0.o,yo]; rfl),m9.o⟩
   ·have yo:decide (ro<0)=false:=decide_eq_false h1; clear h1
    by_cases h2:ro=0
    ·have ye:(ro==0)=true:=by rw [h2]; rfl
     have yd:decide (ro=0)=true:=decide_eq_true h2; clear h2
     cases c7:addS G M k with
     | true=>
       go_wp2_with fail
       refine (g8.o _ d3.o).mono ?_; rintro e w2 ⟨rfl,j5⟩; have m9:Hid (Up w w2):=f5.o.trans ((d3.o.trans (j5.mono d3.o.size)).mono f5.o.size); clear j5
       go_wp2_with fail
       go_ret
       exact ⟨ret_bool (by rw [g0.o,yo,yd,c7]; rfl),m9.o⟩
     | false=>
       go_wp2_with fail
       go_ret
       exact ⟨ret_bool (by rw [g0.o,yo,yd,c7]; rfl),f5.o.trans (d3.o.mono f5.o.size)⟩
    ·have ye:(ro==0)=false:=by rw [beq_eq_false_iff_ne]; exact h2
     have yd:decide (ro=0)=false:=decide_eq_false h2; clear h2
     go_wp2_with fail
     go_ret
     exact ⟨ret_bool (by rw [g0.o,yo,yd]; rfl),f5.o.trans (d3.o.mono f5.o.size)⟩
end Go.Proofs.YtfclfbpjjlinhaaGreatDoor.L
