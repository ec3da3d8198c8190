import Derived.Test.YtfclfbpjjlinhaaGreatDoorTcQSp
set_option maxRecDepth 100000
set_option maxHeartbeats 8000000
namespace Go.Proofs.YtfclfbpjjlinhaaGreatDoor.L
open Go.ChangeShapes Go.WideShapes Go.ChangeAt Go.RowKit
theorem l2ReadJ_any (s:List UInt8) (w:World) (hi:isIntB (strOf s)=true) :
 Calls Tryz.prog 42 #[.string (strOf s)] w fun e w'=>∃ z,e=.returned z∧IsQN w.heap.size w' z (numT (strOf s)) 1∧Up w w':=
 l2Read_any _ none _ _ w (by rw [strOf_size]; unfold maxLen; have:=int_size hi; omega) (int_noCut _ hi) ⟨hi,rfl,rfl⟩
structure SS (w:World) (b n:Nat) (D:Int) (N:List (Int×Int)) (W:World):Prop where
 ex:∃ (pp0:Int) (ppn:Bool) (ppa:Option Addr) (ppl ppc:Nat) (pq0:Int) (pqn:Bool) (pqa:Option Addr) (pql pqc:Nat),Bx W b [.int .i64 pp0,.bool ppn,.slice ppa ppl ppc,.int .i64 pq0,.bool pqn,.slice pqa pql pqc]∧Qz 0 W [.int .i64 pp0,.bool ppn,.slice ppa ppl ppc,.int .i64 pq0,.bool pqn,.slice pqa pql pqc] D 1 none
 row:QRow 0 W (.slice (some ⟨b+1,0,none⟩) n n) N
 len:n=N.length
 bel:Up w W
 lo:w.heap.size≤b
theorem SS.below {w:World} {b n:Nat} {D:Int} {N:List (Int×Int)} {W W':World} (h:SS w b n D N W) (hb:Up W W'):SS w b n D N W':=by
 obtain ⟨j,y,m,u,s,E,K,H,J,I,M,h2⟩:=h.ex; exact ⟨⟨j,y,m,u,s,E,K,H,J,I,M.below M.lt hb,h2.below hb⟩,h.row.below hb,h.len,h.bel.trans (hb.mono h.bel.size),h.lo⟩
theorem SS.lt {w:World} {b n:Nat} {D:Int} {N:List (Int×Int)} {W:World} (h:SS w b n D N W):b+1<W.heap.size:=by
 obtain ⟨m,j,_⟩:=h.row; exact (j.lt _ rfl).2
theorem SS.set {w:World} {b n:Nat} {D:Int} {N:List (Int×Int)} {W:World} (h:SS w b n D N W) {i:Nat} (hi:i<n) {zp0:Int} {zpn:Bool} {zpa:Option Addr} {zpl zpc:Nat} {zq0:Int} {zqn:Bool} {zqa:Option Addr} {zql zqc:Nat} {x d:Int} (hz:Qz 0 W [.int .i64 zp0,.bool zpn,.slice zpa zpl zpc,.int .i64 zq0,.bool zqn,.slice zqa zql zqc] x d none) :
 SS w b n D (N.set i (x,d)) ((((((W.setCell ⟨b+1,i*6,none⟩ (.int .i64 zp0)).setCell ⟨b+1,i*6+1,none⟩ (.bool zpn)).setCell ⟨b+1,i*6+2,none⟩ (.slice zpa zpl zpc)).setCell ⟨b+1,i*6+3,none⟩ (.int .i64 zq0)).setCell ⟨b+1,i*6+4,none⟩ (.bool zqn)).setCell ⟨b+1,i*6+5,none⟩ (.slice zqa zql zqc))∧But (b+1) W ((((((W.setCell ⟨b+1,i*6,none⟩ (.int .i64 zp0)).setCell ⟨b+1,i*6+1,none⟩ (.bool zpn)).setCell ⟨b+1,i*6+2,none⟩ (.slice zpa zpl zpc)).setCell ⟨b+1,i*6+3,none⟩ (.int .i64 zq0)).setCell ⟨b+1,i*6+4,none⟩ (.bool zqn)).setCell ⟨b+1,i*6+5,none⟩ (.slice zqa zql zqc)):=by
 have s:=qrow_no h.row h.len; have j:=But.sixAt s (i*6) (i*6+1) (i*6+2) (i*6+3) (i*6+4) (i*6+5) (.int .i64 zp0) (.bool zpn) (.slice zpa zpl zpc) (.int .i64 zq0) (.bool zqn) (.slice zqa zql zqc); obtain ⟨u,I,y,H,E,J,T,K,O,M,U,h2⟩:=h.ex; have m:w.heap.size≤b+1:=Nat.le_succ_of_le h.lo; refine ⟨⟨⟨u,I,y,H,E,J,T,K,O,M,U.solTo ⟨j.size,j.block⟩ (by omega),h2.but j⟩,h.row.set h.len (by rw [← h.len]; exact hi) (hz.off s),by rw [List.length_set]; exact h.len,?_,h.lo⟩,j⟩; exact (((((h.bel.setCell (p:=⟨b+1,i*6,none⟩) m _).setCell (p:=⟨b+1,i*6+1,none⟩) m _).setCell (p:=⟨b+1,i*6+2,none⟩) m _).setCell (p:=⟨b+1,i*6+3,none⟩) m _).setCell (p:=⟨b+1,i*6+4,none⟩) m _).setCell (p:=⟨b+1,i*6+5,none⟩) m _
theorem SS.bound {w:World} {b n:Nat} {D:Int} {N:List (Int×Int)} {W:World} (h:SS w b n D N W) {zp0:Int} {zpn:Bool} {zpa:Option Addr} {zpl zpc:Nat} {zq0:Int} {zqn:Bool} {zqa:Option Addr} {zql zqc:Nat} {x:Int} (hz:Qz 0 W [.int .i64 zp0,.bool zpn,.slice zpa zpl zpc,.int .i64 zq0,.bool zqn,.slice zqa zql zqc] x 1 none) :
 SS w b n x N ((((((W.setCell ⟨b,0,none⟩ (.int .i64 zp0)).setCell ⟨b,1,none⟩ (.bool zpn)).setCell ⟨b,2,none⟩ (.slice zpa zpl zpc)).setCell ⟨b,3,none⟩ (.int .i64 zq0)).setCell ⟨b,4,none⟩ (.bool zqn)).setCell ⟨b,5,none⟩ (.slice zqa zql zqc))∧But b W ((((((W.setCell ⟨b,0,none⟩ (.int .i64 zp0)).setCell ⟨b,1,none⟩ (.bool zpn)).setCell ⟨b,2,none⟩ (.slice zpa zpl zpc)).setCell ⟨b,3,none⟩ (.int .i64 zq0)).setCell ⟨b,4,none⟩ (.bool zqn)).setCell ⟨b,5,none⟩ (.slice zqa zql zqc)):=by
 obtain ⟨y,J,E,I,H,K,U,M,T,O,u,h2⟩:=h.ex; have s:=bx6_no u h2; have m:=But.sixAt s 0 1 2 3 4 5 (.int .i64 zp0) (.bool zpn) (.slice zpa zpl zpc) (.int .i64 zq0) (.bool zqn) (.slice zqa zql zqc); have j:=h.lo; refine ⟨⟨⟨zp0,zpn,zpa,zpl,zpc,zq0,zqn,zqa,zql,zqc,(((((u.set 0 _).set 1 _).set 2 _).set 3 _).set 4 _).set 5 _,hz.but m⟩,h.row.but m (fun e=>by injection e with e; have V:b+1=b:=e; omega),h.len,?_,h.lo⟩,m⟩; exact (((((h.bel.setCell (p:=⟨b,0,none⟩) j _).setCell (p:=⟨b,1,none⟩) j _).setCell (p:=⟨b,2,none⟩) j _).setCell (p:=⟨b,3,none⟩) j _).setCell (p:=⟨b,4,none⟩) j _).setCell (p:=⟨b,5,none⟩) j _
def zeroN (n k:Nat):List (Int×Int):=(List.range n).map (fun i=>((0:Int),if i<k then (1:Int) else 0))
theorem zeroN_len (n k:Nat):(zeroN n k).length=n:=by unfold zeroN; simp
theorem zeroN_at {n k i:Nat} (h:i<(zeroN n k).length):(zeroN n k)[i]=((0:Int),if i<k then (1:Int) else 0):=by simp only [zeroN,List.getElem_map,List.getElem_range]
theorem zeroN_zero (n:Nat):zeroN n 0=List.replicate n (0,0):=by
 refine List.ext_getElem (by rw [zeroN_len,List.length_replicate]) fun i h1 h2=>?_; rw [zeroN_at h1,List.getElem_replicate,if_neg (Nat.not_lt_zero _)]
theorem zeroN_set (n k:Nat):(zeroN n k).set k (0,1)=zeroN n (k+1):=by
 refine List.ext_getElem (by rw [List.length_set,zeroN_len,zeroN_len]) fun i h1 h2=>?_; rw [List.getElem_set,zeroN_at h2]
 by_cases e:k=i
 ·rw [if_pos e,if_pos (by omega)]
 rw [if_neg e]; rw [List.length_set] at h1; rw [zeroN_at h1]
 by_cases h:i<k
 ·rw [if_pos h,if_pos (by omega)]
 rw [if_neg h,if_neg (by omega)]
def sumsQ (n:Nat) (G:List Nr) (M:List Int) (k col:Nat):List (Int×Int):=(sumsL n G M k col).map (fun x=>(x,1))
theorem sumsQ_len (n:Nat) (G:List Nr) (M:List Int) (k col:Nat):(sumsQ n G M k col).length=n:=by unfold sumsQ; rw [List.length_map,sumsL_len]
theorem zeroN_full (n:Nat) (G:List Nr) (M:List Int):zeroN n n=sumsQ n G M 0 0:=by
 refine List.ext_getElem (by rw [zeroN_len,sumsQ_len]) fun i h1 h2=>?_; have h:i<n:=by rw [zeroN_len] at h1; exact h1
 have e:(sumsQ n G M 0 0)[i]=(addC G M i (if i<0 then 0+1 else 0),1):=by simp only [sumsQ,List.getElem_map,sumsL_at]
 rw [zeroN_at h1,if_pos h,e,if_neg (Nat.not_lt_zero _)]; rfl
theorem sumsQ_at {n:Nat} {G:List Nr} {M:List Int} {k col i:Nat} (h:i<(sumsQ n G M k col).length):(sumsQ n G M k col)[i]=(addC G M i (if i<col then k+1 else k),1):=by simp only [sumsQ,List.getElem_map,sumsL_at]
theorem sumsQ_set (n:Nat) (G:List Nr) (M:List Int) (k col:Nat):(sumsQ n G M k col).set col (addC G M col (k+1),1)=sumsQ n G M k (col+1):=by
 unfold sumsQ; rw [← sumsL_set,List.map_set]
theorem QRow.at2 {base:Nat} {W:World} {a:Option Addr} {n c:Nat} {N:List (Int×Int)} (h:QRow base W (.slice a n c) N) (hn:n=N.length) {i:Nat} (hi:i<N.length):∃ (g:Nat) (pp0:Int) (ppn:Bool) (ppa:Option Addr) (ppl ppc:Nat) (pq0:Int) (pqn:Bool) (pqa:Option Addr) (pql pqc:Nat),a=some ⟨g,0,none⟩∧g<W.heap.size∧(W.cell? ⟨g,i*6,none⟩=some (.int .i64 pp0)∧W.cell? ⟨g,i*6+1,none⟩=some (.bool ppn)∧W.cell? ⟨g,i*6+2,none⟩=some (.slice ppa ppl ppc)∧W.cell? ⟨g,i*6+3,none⟩=some (.int .i64 pq0)∧W.cell? ⟨g,i*6+4,none⟩=some (.bool pqn)∧W.cell? ⟨g,i*6+5,none⟩=some (.slice pqa pql pqc))∧Qz base W [.int .i64 pp0,.bool ppn,.slice ppa ppl ppc,.int .i64 pq0,.bool pqn,.slice pqa pql pqc] N[i].1 N[i].2 none:=by
 subst hn; obtain ⟨D,j,m⟩:=h; obtain ⟨g,rfl⟩:∃ g,a=some ⟨g,0,none⟩:=by
  rcases j.2 with ⟨e,E⟩|⟨g,cap,u,e,_⟩
  ·omega
  cases e; exact ⟨g,rfl⟩
 have y:D.length=N.length*6:=j.1; obtain ⟨pp0,ppn,ppa,ppl,ppc,pq0,pqn,pqa,pql,pqc,e⟩:=(m i hi).shape; have s:=m i hi; rw [e] at s; refine ⟨g,pp0,ppn,ppa,ppl,ppc,pq0,pqn,pqa,pql,pqc,rfl,(j.lt g rfl).2,⟨?_,?_,?_,?_,?_,?_⟩,s.on⟩
 ·rw [j.cellAt (i*6) (by omega)]; exact take_at (d:=0) e (by decide)
 ·rw [j.cellAt (i*6+1) (by omega)]; exact take_at (d:=1) e (by decide)
 ·rw [j.cellAt (i*6+2) (by omega)]; exact take_at (d:=2) e (by decide)
 ·rw [j.cellAt (i*6+3) (by omega)]; exact take_at (d:=3) e (by decide)
 ·rw [j.cellAt (i*6+4) (by omega)]; exact take_at (d:=4) e (by decide)
 rw [j.cellAt (i*6+5) (by omega)]; exact take_at (d:=5) e (by decide)
theorem l13Adds_any (n base:Nat) (rv mv:Value) (G:List Nr) (mu:List (List UInt8)) (w:World) (hr:GRow base w rv G) (hm:StrsAt w mv mu) (hn:n≤20) (hG:∀ f∈G,f.cs.length=n∧SmN f) (hl:G.length≤50) (hlen:mu.length=G.length) (hsm:∀ s∈mu,s.length≤1048576) :
 Calls Tryz.prog 83 #[.int .i64 (n:Nat),rv,mv] w fun e w'=>e=.returned (.bool (addsB n G mu))∧Up w w':=by
 obtain ⟨i0,r9,E5,E6,E7⟩:=info_q; have B7:=Hd hr; have G7:=Hd hG; have H1:=Hd hsm; have t7:=Hd hlen; have B1:Hid (∀ k col,((G.getD k nr0).cs.getD col 0).natAbs<lb 6):=rowsC_lt (fun f hf=>(hG f hf).2); have B2:Hid (∀ k,(G.getD k nr0).bd.natAbs<lb 6):=rowsD_lt (fun f hf=>(hG f hf).2); obtain ⟨M,hM⟩:=exW (clipM mu); have l9:Hid (∀ k,(M.getD k 0).natAbs<lb 280):=by rw [← hM]; exact clip_lt mu
 have G9:Hid (∀ k (h:k<mu.length),isIntB (strOf mu[k])=true→M.getD k 0=numT (strOf mu[k])):=by rw [← hM]; exact fun k h hi=>clip_at h hi
 have H0:Hid (mu.all multOk=true→M=numsM mu):=by rw [← hM]; exact fun h=>clip_all h
 obtain ⟨pr,cr,rfl⟩:=hr.form; obtain ⟨pm,cm,rfl,m1,m2,m3⟩:=hm; unfold maxLen at m2; have G8:=Hd m3; have y0:((mu.length:Int)==(G.length:Int))=true:=by rw [hlen]; simp
 have L9:mu.length≤50:=by omega
 clear hlen m3 hr hG hsm hM
 go_enter Tryz.func83,Tryz.ntmps83
 go_wp2_with fail
 refine (l2IntF_any 0 (by decide) (by decide) w).mono ?_; rintro e w1 ⟨z,rfl,hz,p9⟩; obtain ⟨q1,q5,q2,q4,q3,q6,r3,q7,q9,q8,rfl,-,-⟩:=id hz; obtain ⟨W2,o6⟩:=exW (w1.alloc (.cells #[.int .i64 q1,.bool q5,.slice q2 q4 q3,.int .i64 q6,.bool r3,.slice q7 q9 q8] 74)); have w0:Up w1 W2:=by rw [← o6]; exact below_alloc _ _
 have p3:Hid (Bx W2 w1.heap.size [.int .i64 q1,.bool q5,.slice q2 q4 q3,.int .i64 q6,.bool r3,.slice q7 q9 q8]):=by unfold Hid; rw [← o6]; exact bx_new w1 _ _
 have B9:Hid (W2.heap.size=w1.heap.size+1):=by unfold Hid; rw [← o6]; simp
 have C4:=Hd o6; have B5:=Hd ((qz_none hz).below w0); have A8:=Hd p9; have s7:Hid (Up w W2):=p9.trans (w0.mono p9.size); clear hz p9 w0 o6
 go_wp2_with (first|rw [C4.o]|(at_make; refine wpList_make_full _ rfl _ _ 69 rfl 0 74 i0 _ 6 Tryz.underlying69 r9 E5 E6 .i64 .i64 _ _ n rfl rfl (by simp) (by simp) (by rw [E7]; omega) (by unfold maxLen; omega) (Nat.zero_le _) ?_))
 intro w3 j0 r8; rw [B9.o] at j0 ⊢; have p4:Up W2 w3:=(Below.refl _ _).grown r8 leR (fun k e=>by cases e); obtain ⟨J,w9⟩:∃ b,w1.heap.size=b:=⟨_,rfl⟩; rw [w9] at j0 p3 ⊢; have B8:Hid (SS w J n 0 (zeroN n 0) w3):=⟨⟨q1,q5,q2,q4,q3,q6,r3,q7,q9,q8,p3.o.below p3.o.lt p4,B5.o.below p4⟩,by rw [zeroN_zero]; exact QRow.zero j0,(zeroN_len _ _).symm,s7.o.trans (p4.mono s7.o.size),by rw [← w9]; exact A8.o.size⟩; clear j0 r8 p4 r9 E5 E6 E7 p3 B9 C4 B5 A8 s7 w9
 go_wp2_with fail
 go_loopw [27] (fun iv wr=>∃ k:Nat,k≤n∧iv=.int .i64 (k:Nat)∧SS w J n 0 (zeroN n k) wr) (fun iv _=>n - (intOf iv).toNat)
 case atStart=>exact ⟨0,Nat.zero_le _,rfl,B8.o⟩
 case round=>
  rename World=>wo
  obtain ⟨k,hk,rfl,hS⟩:=hrel; have HS:=Hd hS; clear B8 hS
  by_cases hkl:k<n
  ·have J0:(k:Int)<(n:Int):=by omega
   go_wp2_with fail
   refine (l2IntF_any 0 (by decide) (by decide) wo).mono ?_; rintro e w4 ⟨z,rfl,hz,D3⟩; obtain ⟨q1,q5,q2,q4,q3,q6,r3,q7,q9,q8,rfl,-,-⟩:=id hz; have p6:=HS.o.below D3; have m:=p6.set hkl (qz_none hz); rw [zeroN_set] at m; have C1:=Hd m.1; obtain ⟨xs,u,-⟩:=p6.row; rw [← p6.len] at u; have E4:xs.length=n*6:=u.1; obtain ⟨o0,t0⟩:=row_at u (k*6) (by omega); have f0:=u.frozenAt (k*6); obtain ⟨o1,t1⟩:=row_at u (k*6+1) (by omega); have f1:=u.frozenAt (k*6+1); obtain ⟨o2,t2⟩:=row_at u (k*6+2) (by omega); have f2:=u.frozenAt (k*6+2); obtain ⟨o3,t3⟩:=row_at u (k*6+3) (by omega); have f3:=u.frozenAt (k*6+3); obtain ⟨o4,t4⟩:=row_at u (k*6+4) (by omega); have f4:=u.frozenAt (k*6+4); obtain ⟨o5,t5⟩:=row_at u (k*6+5) (by omega); have f5:=u.frozenAt (k*6+5); clear hz D3 m p6 u
   go_wp2_with fail
   go_roundw
   case rel=>exact ⟨k+1,hkl,by go_num,C1.o⟩
   case measure=>simp [intOf]; omega
  ·have D9:k=n:=by omega
   have J0:¬ (k:Int)<(n:Int):=by omega
   rw [D9,zeroN_full n G M] at HS; clear D9 hkl
   go_wp2_with fail
   have C0:Hid (SS w J n (addD G M 0) (sumsQ n G M 0 0) wo):=HS.o; clear HS
   go_loopw [8,37] (fun sv iv wr=>∃ j:Nat,j≤mu.length∧iv=.int .i64 (j:Nat)∧sv=.bool (addS G M j)∧(∀ i (_:i<mu.length),i<j→multOk mu[i]=true)∧SS w J n (addD G M j) (sumsQ n G M j 0) wr) (fun _ iv _=>mu.length - (intOf iv).toNat)
   case atStart=>exact ⟨0,Nat.zero_le _,rfl,rfl,fun _ _ h=>absurd h (Nat.not_lt_zero _),C0.o⟩
   case round=>
    clear C0
    rename World=>wj
    obtain ⟨j,hj,rfl,rfl,E1,hS⟩:=hrel; have B4:=Hd E1; have HS:=Hd hS; clear E1 hS
    by_cases i6:j<mu.length
    ·obtain ⟨d,rfl,hd,C8⟩:∃ d,pm=some ⟨d,0,none⟩∧d<w.heap.size∧∀ i (h:i<mu.length),w.cell? ⟨d,i,none⟩=some (.string (strOf mu[i])):=by
      rcases G8.o with h|h
      ·rw [h] at i6; exact absurd i6 (Nat.not_lt_zero _)
      ·exact h
     have c0:=C8 j i6; rw [← HS.o.bel.cell (p:=⟨d,j,none⟩) hd] at c0; have x8:j<G.length:=by have:=t7.o; omega
     have I9:(j:Int)<(mu.length:Int):=by omega
     have L3:(j:Int)<(G.length:Int):=by omega
     have m6:=Hd (G9.o j i6); have C2:=Hd (H1.o _ (List.getElem_mem i6)); have t8:Hid (multOk mu[j]=false→addsB n G mu=false):=fun h=>adds_no i6 h; have i7:Hid (multOk mu[j]=true→∀ i (_:i<mu.length),i<j+1→multOk mu[i]=true):=fun h i hi hij=>by
      by_cases e:i=j
      ·subst e; exact h
      ·exact B4.o i hi (by omega)
     obtain ⟨ms,E0⟩:∃ s,mu[j]=s:=⟨_,rfl⟩; rw [E0] at c0 m6 C2 t8 i7; obtain ⟨X,hX⟩:=exW (M.getD j 0); have j3:=Hd hX; rw [hX] at m6; have l8:=Hd (isInt_spec (strOf ms) wj (by rw [strOf_size]; unfold maxLen; have:=C2.o; omega)); clear C8 E0 hX
     cases hi:isIntB (strOf ms) with
     | false=>
       rw [hi] at l8; have HE:Hid (addsB n G mu=false):=t8.o (by unfold multOk; rw [hi]; rfl)
       go_wp2_with fail
       refine l8.o.mono ?_; rintro e w4 ⟨rfl,rfl⟩
       go_wp2_with fail
       go_ret
       exact ⟨ret_bool HE.o.symm,HS.o.bel⟩
     | true=>
       rw [hi] at l8; have HI:=Hd hi; obtain ⟨M0,o7⟩:=neg_head _ hi; rw [← m6.o hi] at o7; clear hi
       by_cases l6:X<0
       ·rw [decide_eq_true l6] at o7; have HE:Hid (addsB n G mu=false):=t8.o (by unfold multOk; rw [HI.o,decide_eq_false (by rw [← m6.o HI.o]; omega)]; rfl); clear l6
        go_wp2_with fail
        refine l8.o.mono ?_; rintro e w4 ⟨rfl,rfl⟩
        go_wp2_with fail
        go_ret
        exact ⟨ret_bool HE.o.symm,HS.o.bel⟩
       ·rw [decide_eq_false l6] at o7; have n5:Hid (multOk ms=true):=by unfold Hid multOk; rw [HI.o,decide_eq_true (by rw [← m6.o HI.o]; omega)]; rfl
        clear l6
        go_wp2_with fail
        refine l8.o.mono ?_; rintro e w4 ⟨rfl,rfl⟩
        go_wp2_with fail
        refine (l2ReadJ_any ms w4 HI.o).mono ?_; rintro e E ⟨z,rfl,hz,w2⟩; rw [← m6.o HI.o] at hz; obtain ⟨V,a8,Z,a7,a6,a9,b9,b6,b8,b7,rfl,-,-⟩:=id hz; obtain ⟨W6,p7⟩:=exW (E.alloc (.cells #[.int .i64 V,.bool a8,.slice Z a7 a6,.int .i64 a9,.bool b9,.slice b6 b8 b7] 74)); have w6:Up E W6:=by rw [← p7]; exact below_alloc _ _
        have x9:Bx W6 E.heap.size [.int .i64 V,.bool a8,.slice Z a7 a6,.int .i64 a9,.bool b9,.slice b6 b8 b7]:=by rw [← p7]; exact bx_new E _ _
        have u9:=Hd p7; have v8:=Hd x9; have t9:=Hd ((qz_none hz).below w6); have B3:Hid (IsQN 0 W6 (.agg #[.int .i64 V,.bool a8,.slice Z a7 a6,.int .i64 a9,.bool b9,.slice b6 b8 b7]) X 1):=t9.o.isQN; have u6:=Hd ((HS.o.below w2).below w6); have p0:Hid (J+1<E.heap.size):=by unfold Hid; have h1:=HS.o.lt; have h2:=w2.size; omega
        have e0:=Hd (l2Zero_any 0 V a8 Z a7 a6 a9 b9 b6 b8 b7 X 1 W6 B3.o); obtain ⟨x0,x1,x2,x3,x4,x5⟩:=x9.c6; clear hz w2 p7 w6 x9 l8
        by_cases m7:X=0
        ·rw [decide_eq_true m7] at e0; have n9:Hid (M.getD j 0=0):=by unfold Hid; rw [j3.o]; exact m7
         clear m7
         go_wp2_with (rw [u9.o])
         refine e0.o.mono ?_; rintro e w7 ⟨rfl,j9⟩; have p2:=Hd (u6.o.below j9); clear j9
         go_wp2_with fail
         go_roundw
         case rel=>
          refine ⟨j+1,i6,by go_num,by rw [skip_S n9.o],i7.o n5.o,?_⟩; unfold sumsQ; rw [skip_D n9.o,skip_L n9.o]; exact p2.o
         case measure=>simp [intOf]; omega
        ·rw [decide_eq_false m7] at e0; have n9:=Hd m7; clear m7
         go_wp2_with (rw [u9.o])
         refine e0.o.mono ?_; rintro e w7 ⟨rfl,j9⟩; have p2:=Hd (u6.o.below j9); have C6:=Hd (v8.o.below v8.o.lt j9); have B6:=Hd (t9.o.below j9); clear j9 x0 x1 x2 x3 x4 x5
         go_wp2_with fail
         go_loopw [56] (fun iv wr=>∃ col:Nat,col≤n∧iv=.int .i64 (col:Nat)∧SS w J n (addD G M j) (sumsQ n G M j col) wr∧Bx wr E.heap.size [.int .i64 V,.bool a8,.slice Z a7 a6,.int .i64 a9,.bool b9,.slice b6 b8 b7]∧Qz 0 wr [.int .i64 V,.bool a8,.slice Z a7 a6,.int .i64 a9,.bool b9,.slice b6 b8 b7] X 1 none) (fun iv _=>n - (intOf iv).toNat)
         case atStart=>exact ⟨0,Nat.zero_le _,rfl,p2.o,C6.o,B6.o⟩
         case round=>
          rename World=>wi
          obtain ⟨col,L2,rfl,D1,D2,C9⟩:=hrel; have c9:=Hd D1; have g1:=Hd D2; have p1:=Hd C9; clear p2 C6 B6 u9 e0 v8 t9 B3 u6 D1 D2 C9; obtain ⟨H,rfl⟩:∃ g,pr=some ⟨g,0,none⟩:=by
           obtain ⟨xs,hr,_⟩:=B7.o.ex
           rcases hr.2 with ⟨_,e⟩|⟨g,cap,L5,e,_⟩
           ·omega
           ·cases e; exact ⟨g,rfl⟩
          obtain ⟨va,b0,b1,b2,b3,b4,b5,⟨v0,v1,v2,v3,v4,v5,v6,v7⟩,o8,o9,i9⟩:=RRow.at B7.o.ex x8; have s9:Hid (G.getD j nr0=G[j]):=by unfold Hid; rw [List.getD_eq_getElem?_getD,List.getElem?_eq_getElem x8]; rfl
          have n4:=Hd (G7.o _ (List.getElem_mem x8)).1
          by_cases hcl:col<n
          ·have D7:(col:Int)<(n:Int):=by omega
           obtain ⟨M2,ca,rfl⟩:=o8.form; rw [List.length_map,n4.o] at o8 v0; have D6:col<(G[j].cs.map (fun x=>(x,(1:Int)))).length:=by rw [List.length_map,n4.o]; exact hcl
           obtain ⟨U,g5,h0,g6,g8,g7,h7,i2,h8,i1,h9,J1,k1,⟨a0,a1,a2,a3,a4,a5⟩,p5⟩:=o8.at2 (by rw [List.length_map,n4.o]) D6; subst J1; rw [List.getElem_map] at p5; obtain ⟨cf,k0⟩:∃ cf,G[j].cs[col]'(by rw [n4.o]; exact hcl)=cf:=⟨_,rfl⟩; have n3:Hid ((G.getD j nr0).cs.getD col 0=cf):=by unfold Hid; rw [s9.o,List.getD_eq_getElem?_getD,List.getElem?_eq_getElem (by rw [n4.o]; exact hcl),← k0]; rfl
           rw [k0] at p5; have j7:=Hd (B1.o j col); rw [n3.o] at j7; have s6:Hid (addC G M col (j+1)=addC G M col j+X*cf):=by unfold Hid; rw [← n3.o,← j3.o]; rfl
           have hL:n=(sumsQ n G M j col).length:=(sumsQ_len ..).symm; obtain ⟨g9,e2,e7,e3,e5,e4,e8,g0,e9,f9,f7,x6,-,⟨s0,s1,s2,s3,s4,s5⟩,d4⟩:=c9.o.row.at2 hL (i:=col) (by rw [← hL]; exact hcl); cases x6; rw [sumsQ_at,if_neg (Nat.lt_irrefl _)] at d4; have u2:=Hd d4; have d1:=Hd i9; have d3:=Hd k1; have u0:=Hd (p5.below c9.o.bel); have n7:Hid (∀ W,Up wi W→W.cell? ⟨J+1,col*6,none⟩=some (.int .i64 e2)∧W.cell? ⟨J+1,col*6+1,none⟩=some (.bool e7)∧W.cell? ⟨J+1,col*6+2,none⟩=some (.slice e3 e5 e4)∧W.cell? ⟨J+1,col*6+3,none⟩=some (.int .i64 e8)∧W.cell? ⟨J+1,col*6+4,none⟩=some (.bool g0)∧W.cell? ⟨J+1,col*6+5,none⟩=some (.slice e9 f9 f7)):=fun W hW=>by
            have m9:=c9.o.lt; exact ⟨(hW.cell (p:=⟨J+1,col*6,none⟩) m9).trans s0,(hW.cell (p:=⟨J+1,col*6+1,none⟩) m9).trans s1,(hW.cell (p:=⟨J+1,col*6+2,none⟩) m9).trans s2,(hW.cell (p:=⟨J+1,col*6+3,none⟩) m9).trans s3,(hW.cell (p:=⟨J+1,col*6+4,none⟩) m9).trans s4,(hW.cell (p:=⟨J+1,col*6+5,none⟩) m9).trans s5⟩
           have d2:Hid (∀ W,Up wi W→W.cell? ⟨E.heap.size,0,none⟩=some (.int .i64 V)∧W.cell? ⟨E.heap.size,1,none⟩=some (.bool a8)∧W.cell? ⟨E.heap.size,2,none⟩=some (.slice Z a7 a6)∧W.cell? ⟨E.heap.size,3,none⟩=some (.int .i64 a9)∧W.cell? ⟨E.heap.size,4,none⟩=some (.bool b9)∧W.cell? ⟨E.heap.size,5,none⟩=some (.slice b6 b8 b7)∧W.cell? ⟨H,j*8,none⟩=some (.slice (some ⟨U,0,none⟩) n ca)∧W.cell? ⟨U,col*6,none⟩=some (.int .i64 g5)∧W.cell? ⟨U,col*6+1,none⟩=some (.bool h0)∧W.cell? ⟨U,col*6+2,none⟩=some (.slice g6 g8 g7)∧W.cell? ⟨U,col*6+3,none⟩=some (.int .i64 h7)∧W.cell? ⟨U,col*6+4,none⟩=some (.bool i2)∧W.cell? ⟨U,col*6+5,none⟩=some (.slice h8 i1 h9)):=fun W hW=>by
            have h6:=(g1.o.below g1.o.lt hW).c6; have hw:=c9.o.bel.trans (hW.mono c9.o.bel.size); exact ⟨h6.1,h6.2.1,h6.2.2.1,h6.2.2.2.1,h6.2.2.2.2.1,h6.2.2.2.2.2,(hw.cell (p:=⟨H,j*8,none⟩) i9).trans v0,(hw.cell (p:=⟨U,col*6,none⟩) k1).trans a0,(hw.cell (p:=⟨U,col*6+1,none⟩) k1).trans a1,(hw.cell (p:=⟨U,col*6+2,none⟩) k1).trans a2,(hw.cell (p:=⟨U,col*6+3,none⟩) k1).trans a3,(hw.cell (p:=⟨U,col*6+4,none⟩) k1).trans a4,(hw.cell (p:=⟨U,col*6+5,none⟩) k1).trans a5⟩
           have n8:Hid (∀ W,Up wi W→Calls Tryz.prog 114 #[.agg #[.int .i64 V,.bool a8,.slice Z a7 a6,.int .i64 a9,.bool b9,.slice b6 b8 b7],.agg #[.int .i64 g5,.bool h0,.slice g6 g8 g7,.int .i64 h7,.bool i2,.slice h8 i1 h9]] W fun e w'=>∃ z,e=.returned z∧IsQN 0 w' z (X*cf) 1∧Up W w'):=fun W hW=>l2MulI_any _ _ _ _ W (p1.o.below hW).isQN (u0.o.below hW).isQN (lb_le 280 300 (by decide) (by rw [← j3.o]; exact l9.o j)) (lb_le 6 300 (by decide) j7.o); have n6:Hid (∀ W z,Up wi W→IsQN 0 W z (X*cf) 1→Calls Tryz.prog 113 #[.agg #[.int .i64 e2,.bool e7,.slice e3 e5 e4,.int .i64 e8,.bool g0,.slice e9 f9 f7],z] W fun e w'=>∃ z',e=.returned z'∧IsQN 0 w' z' (addC G M col (j+1)) 1∧Up W w'):=fun W z hW hz=>by
            rw [s6.o]; refine l2AddI_any _ _ _ _ W (u2.o.below hW).isQN hz (lb_fifty (k:=j) (by omega) (addC_le l9.o (fun k=>B1.o k col) j)) ?_; rw [Int.natAbs_mul]; exact lb_le 286 300 (by decide) (lb_mul 280 6 (by rw [← j3.o]; exact l9.o j) j7.o)
           clear o8 o9 v0 v1 v2 v3 v4 v5 v6 v7 a0 a1 a2 a3 a4 a5 s0 s1 s2 s3 s4 s5 p5 d4 k0 hL D6
           go_wp2_with fail
           refine wrh 19 rfl (S:=fun W=>W.cell? ⟨E.heap.size,0,none⟩=some (.int .i64 V)∧W.cell? ⟨E.heap.size,1,none⟩=some (.bool a8)∧W.cell? ⟨E.heap.size,2,none⟩=some (.slice Z a7 a6)∧W.cell? ⟨E.heap.size,3,none⟩=some (.int .i64 a9)∧W.cell? ⟨E.heap.size,4,none⟩=some (.bool b9)∧W.cell? ⟨E.heap.size,5,none⟩=some (.slice b6 b8 b7)∧W.cell? ⟨H,j*8,none⟩=some (.slice (some ⟨U,0,none⟩) n ca)∧W.cell? ⟨U,col*6,none⟩=some (.int .i64 g5)∧W.cell? ⟨U,col*6+1,none⟩=some (.bool h0)∧W.cell? ⟨U,col*6+2,none⟩=some (.slice g6 g8 g7)∧W.cell? ⟨U,col*6+3,none⟩=some (.int .i64 h7)∧W.cell? ⟨U,col*6+4,none⟩=some (.bool i2)∧W.cell? ⟨U,col*6+5,none⟩=some (.slice h8 i1 h9)) (by kernel_rfl) (d2.o _ (Below.refl wi.heap.size wi).drew) (fun hHeld=>?_); refine tk 0 59 (v:=?_) rfl rfl (by kernel_rfl) (fun _ _ _ h=>h) (Or.inl ⟨by rfl,?_⟩) (by assumption) ?_
           rotate_left
           ·(intro w y; (try dsimp only at y); go_simp; (try with_reducible rfl))
           try simp only [Act.put,List.setIfInBounds_toArray,List.set_cons_zero,List.set_cons_succ]
           refine tk 1 60 (v:=?_) rfl rfl (by kernel_rfl) (fun _ _ _ h=>h) (Or.inl ⟨by rfl,?_⟩) (by assumption) ?_
           rotate_left
           ·(intro w y; (try dsimp only at y); go_simp; (try with_reducible rfl))
           try simp only [Act.put,List.setIfInBounds_toArray,List.set_cons_zero,List.set_cons_succ]
           refine tk 2 61 (v:=?_) rfl rfl (by kernel_rfl) (fun _ _ _ h=>h) (Or.inl ⟨by rfl,?_⟩) (by assumption) ?_
           rotate_left
           ·(intro w y; (try dsimp only at y); go_simp; (try with_reducible rfl))
           try simp only [Act.put,List.setIfInBounds_toArray,List.set_cons_zero,List.set_cons_succ]
           refine tk 3 62 (v:=?_) rfl rfl (by kernel_rfl) (fun _ _ _ h=>h) (Or.inl ⟨by rfl,?_⟩) (by assumption) ?_
           rotate_left
           ·(intro w y; (try dsimp only at y); go_simp; (try with_reducible rfl))
           try simp only [Act.put,List.setIfInBounds_toArray,List.set_cons_zero,List.set_cons_succ]
           refine tk 4 63 (v:=?_) rfl rfl (by kernel_rfl) (fun _ _ _ h=>h) (Or.inl ⟨by rfl,?_⟩) (by assumption) ?_
           rotate_left
           ·(intro w y; (try dsimp only at y); go_simp; (try with_reducible rfl))
           try simp only [Act.put,List.setIfInBounds_toArray,List.set_cons_zero,List.set_cons_succ]
           refine tk 6 65 (v:=?_) rfl rfl (by kernel_rfl) (fun _ _ _ h=>h) (Or.inl ⟨by rfl,?_⟩) (by assumption) ?_
           rotate_left
           ·(intro w y; (try dsimp only at y); go_simp; (try with_reducible rfl))
           try simp only [Act.put,List.setIfInBounds_toArray,List.set_cons_zero,List.set_cons_succ]
           refine tk 7 66 (v:=?_) rfl rfl (by kernel_rfl) (fun _ _ _ h=>h) (Or.inl ⟨by rfl,?_⟩) (by assumption) ?_
           rotate_left
           ·(intro w y; (try dsimp only at y); go_simp; (try with_reducible rfl))
           try simp only [Act.put,List.setIfInBounds_toArray,List.set_cons_zero,List.set_cons_succ]
           refine tk 8 67 (v:=?_) rfl rfl (by kernel_rfl) (fun _ _ _ h=>h) (Or.inl ⟨by rfl,?_⟩) (by assumption) ?_
           rotate_left
           ·(intro w y; (try dsimp only at y); go_simp; (try with_reducible rfl))
           try simp only [Act.put,List.setIfInBounds_toArray,List.set_cons_zero,List.set_cons_succ]
           refine tk 9 68 (v:=?_) rfl rfl (by kernel_rfl) (fun _ _ _ h=>h) (Or.inl ⟨by rfl,?_⟩) (by assumption) ?_
           rotate_left
           ·(intro w y; (try dsimp only at y); go_simp; (try with_reducible rfl))
           try simp only [Act.put,List.setIfInBounds_toArray,List.set_cons_zero,List.set_cons_succ]
           refine tk 10 69 (v:=?_) rfl rfl (by kernel_rfl) (fun _ _ _ h=>h) (Or.inl ⟨by rfl,?_⟩) (by assumption) ?_
           rotate_left
           ·(intro w y; (try dsimp only at y); go_simp; (try with_reducible rfl))
           try simp only [Act.put,List.setIfInBounds_toArray,List.set_cons_zero,List.set_cons_succ]
           refine tk 11 70 (v:=?_) rfl rfl (by kernel_rfl) (fun _ _ _ h=>h) (Or.inl ⟨by rfl,?_⟩) (by assumption) ?_
           rotate_left
           ·(intro w y; (try dsimp only at y); go_simp; (try with_reducible rfl))
           try simp only [Act.put,List.setIfInBounds_toArray,List.set_cons_zero,List.set_cons_succ]
           refine tk 12 71 (v:=?_) rfl rfl (by kernel_rfl) (fun _ _ _ h=>h) (Or.inl ⟨by rfl,?_⟩) (by assumption) ?_
           rotate_left
           ·(intro w y; (try dsimp only at y); go_simp; (try with_reducible rfl))
           try simp only [Act.put,List.setIfInBounds_toArray,List.set_cons_zero,List.set_cons_succ]
           refine tk 13 72 (v:=?_) rfl rfl (by kernel_rfl) (fun _ _ _ h=>h) (Or.inl ⟨by rfl,?_⟩) (by assumption) ?_
           rotate_left
           ·(intro w y; (try dsimp only at y); go_simp; (try with_reducible rfl))
           try simp only [Act.put,List.setIfInBounds_toArray,List.set_cons_zero,List.set_cons_succ]
           refine tk 14 73 (v:=?_) rfl rfl (by kernel_rfl) (fun _ _ _ h=>h) (Or.inl ⟨by rfl,?_⟩) (by assumption) ?_
           rotate_left
           ·(intro w y; (try dsimp only at y); go_simp; (try with_reducible rfl))
           try simp only [Act.put,List.setIfInBounds_toArray,List.set_cons_zero,List.set_cons_succ]
           refine wpAnyH_ready (rs:=[5,15]) (by kernel_rfl) (by simp) ?_; refine AllReadyH.cons rfl (fun K hK=>?_) (AllReadyH.cons rfl (fun K hK=>?_) AllReadyH.nil)
           ·obtain ⟨m0,m1,m2,m3,m4,m5⟩:=n7.o _ ((Below.refl wi.heap.size wi).drew)
            go_simp
            go_wp2_with fail
            refine hK.out _ _ (d2.o _ ((Below.refl wi.heap.size wi).drew)) (fun hHeldL=>?_); clear hK K m0 m1 m2 m3 m4 m5
            try simp only [Act.put,List.setIfInBounds_toArray,List.set_cons_zero,List.set_cons_succ]
            refine wpAnyH_ready (rs:=[15]) (by kernel_rfl) (by simp) ?_; refine AllReadyH.cons rfl (fun K hK=>?_) AllReadyH.nil
            go_simp
            go_at_call 114
            refine (n8.o _ ((Below.refl wi.heap.size wi).drew)).mono ?_; rintro e wt ⟨zt,rfl,d7,i5⟩; obtain ⟨y2,y6,y3,y5,y4,y7,z7,y8,z6,y9,rfl,-,-⟩:=id d7; have T:Hid (Up wi wt):=((Below.refl wi.heap.size wi).drew).trans (i5.mono ((Below.refl wi.heap.size wi).drew).size); have j8:=Hd d7; clear d7 i5
            go_wp2_with fail
            refine hK.out _ _ (d2.o _ T.o) (fun hHeld15=>?_); clear hK K
            try simp only [Act.put,List.setIfInBounds_toArray,List.set_cons_zero,List.set_cons_succ]
            refine wpAnyH_ready (rs:=[16]) (by kernel_rfl) (by simp) ?_; refine AllReadyH.cons rfl (fun K hK=>?_) AllReadyH.nil
            go_simp
            go_at_call 113
            refine (n6.o _ _ T.o j8.o).mono ?_; rintro e wp ⟨zp,rfl,d6,i4⟩; obtain ⟨k5,l0,k7,k9,k8,l1,l5,l2,l4,l3,rfl,-,-⟩:=id d6; have c7:Hid (Up wi wp):=T.o.trans (i4.mono T.o.size); have HZP:=Hd (qz_none d6); clear d6 i4
            go_wp2_with fail
            refine hK.out _ _ (d2.o _ c7.o) (fun hHeld16=>?_); clear hK K
            try simp only [Act.put,List.setIfInBounds_toArray,List.set_cons_zero,List.set_cons_succ]
            refine tk 17 76 (v:=?_) rfl rfl (by kernel_rfl) (fun _ _ _ h=>h) (Or.inl ⟨by rfl,?_⟩) (by assumption) ?_
            rotate_left
            ·(intro w y; (try dsimp only at y); go_simp; (try with_reducible rfl))
            try simp only [Act.put,List.setIfInBounds_toArray,List.set_cons_zero,List.set_cons_succ]
            have I:=c9.o.below c7.o; have m:=I.set hcl HZP.o; rw [sumsQ_set] at m; obtain ⟨xs,u,-⟩:=I.row; rw [← I.len] at u; have E4:xs.length=n*6:=u.1; obtain ⟨o0,t0⟩:=row_at u (col*6) (by omega); have f0:=u.frozenAt (col*6); obtain ⟨o1,t1⟩:=row_at u (col*6+1) (by omega); have f1:=u.frozenAt (col*6+1); obtain ⟨o2,t2⟩:=row_at u (col*6+2) (by omega); have f2:=u.frozenAt (col*6+2); obtain ⟨o3,t3⟩:=row_at u (col*6+3) (by omega); have f3:=u.frozenAt (col*6+3); obtain ⟨o4,t4⟩:=row_at u (col*6+4) (by omega); have f4:=u.frozenAt (col*6+4); obtain ⟨o5,t5⟩:=row_at u (col*6+5) (by omega); have f5:=u.frozenAt (col*6+5); obtain ⟨WS,d5⟩:=exW ((((((wp.setCell ⟨J+1,col*6,none⟩ (.int .i64 k5)).setCell ⟨J+1,col*6+1,none⟩ (.bool l0)).setCell ⟨J+1,col*6+2,none⟩ (.slice k7 k9 k8)).setCell ⟨J+1,col*6+3,none⟩ (.int .i64 l1)).setCell ⟨J+1,col*6+4,none⟩ (.bool l5)).setCell ⟨J+1,col*6+5,none⟩ (.slice l2 l4 l3)); rw [d5] at m; have g4:=Hd d5; have d9:=Hd m.1; have G6:=Hd m.2; have i8:Hid (Bx WS E.heap.size [.int .i64 V,.bool a8,.slice Z a7 a6,.int .i64 a9,.bool b9,.slice b6 b8 b7]):=(g1.o.below g1.o.lt c7.o).solTo ⟨m.2.size,m.2.block⟩ (by have:=p0.o; omega); have u5:Hid (Qz 0 WS [.int .i64 V,.bool a8,.slice Z a7 a6,.int .i64 a9,.bool b9,.slice b6 b8 b7] X 1 none):=(p1.o.below c7.o).but m.2; have i3:WS.cell? ⟨E.heap.size,0,none⟩=some (.int .i64 V)∧WS.cell? ⟨E.heap.size,1,none⟩=some (.bool a8)∧WS.cell? ⟨E.heap.size,2,none⟩=some (.slice Z a7 a6)∧WS.cell? ⟨E.heap.size,3,none⟩=some (.int .i64 a9)∧WS.cell? ⟨E.heap.size,4,none⟩=some (.bool b9)∧WS.cell? ⟨E.heap.size,5,none⟩=some (.slice b6 b8 b7)∧WS.cell? ⟨H,j*8,none⟩=some (.slice (some ⟨U,0,none⟩) n ca)∧WS.cell? ⟨U,col*6,none⟩=some (.int .i64 g5)∧WS.cell? ⟨U,col*6+1,none⟩=some (.bool h0)∧WS.cell? ⟨U,col*6+2,none⟩=some (.slice g6 g8 g7)∧WS.cell? ⟨U,col*6+3,none⟩=some (.int .i64 h7)∧WS.cell? ⟨U,col*6+4,none⟩=some (.bool i2)∧WS.cell? ⟨U,col*6+5,none⟩=some (.slice h8 i1 h9):=by
             have h6:=i8.o.c6; have hk:=d2.o wp c7.o; have e:∀ (b i:Nat),b<w.heap.size→WS.cell? ⟨b,i,none⟩=wp.cell? ⟨b,i,none⟩:=fun b i hb=>World.cell?_of_block (a:=⟨b,i,none⟩) (m.2.block b (Nat.lt_of_lt_of_le hb (I.bel.size)) (by have:=I.lo; omega)); refine ⟨h6.1,h6.2.1,h6.2.2.1,h6.2.2.2.1,h6.2.2.2.2.1,h6.2.2.2.2.2,(e H _ d1.o).trans hk.2.2.2.2.2.2.1,(e U _ d3.o).trans hk.2.2.2.2.2.2.2.1,(e U _ d3.o).trans hk.2.2.2.2.2.2.2.2.1,(e U _ d3.o).trans hk.2.2.2.2.2.2.2.2.2.1,(e U _ d3.o).trans hk.2.2.2.2.2.2.2.2.2.2.1,(e U _ d3.o).trans hk.2.2.2.2.2.2.2.2.2.2.2.1,(e U _ d3.o).trans hk.2.2.2.2.2.2.2.2.2.2.2.2⟩
            have g3:=Hd i3; clear d5 m I u i3; refine wpAnyH_ready (rs:=[18]) (by kernel_rfl) (by simp) ?_; refine AllReadyH.cons rfl (fun K hK=>?_) AllReadyH.nil
            go_simp
            go_wp2_with (rw [g4.o])
            try rw [g4.o]
            refine hK.out _ _ g3.o (fun hHeld18=>?_); clear hK K f0 f1 f2 f3 f4 f5 t0 t1 t2 t3 t4 t5
            try simp only [Act.put,List.setIfInBounds_toArray,List.set_cons_zero,List.set_cons_succ]
            refine wpAnyH_done (by kernel_rfl) ?_ _
            go_wp2_with fail
            go_roundw
            case rel=>exact ⟨col+1,hcl,by go_num,d9.o,i8.o,u5.o⟩
            case measure=>simp [intOf]; omega
           ·go_simp
            go_at_call 114
            refine (n8.o _ ((Below.refl wi.heap.size wi).drew)).mono ?_; rintro e wt ⟨zt,rfl,d7,i5⟩; obtain ⟨y2,y6,y3,y5,y4,y7,z7,y8,z6,y9,rfl,-,-⟩:=id d7; have T:Hid (Up wi wt):=((Below.refl wi.heap.size wi).drew).trans (i5.mono ((Below.refl wi.heap.size wi).drew).size); have j8:=Hd d7; clear d7 i5
            go_wp2_with fail
            refine hK.out _ _ (d2.o _ T.o) (fun hHeld15=>?_); clear hK K
            try simp only [Act.put,List.setIfInBounds_toArray,List.set_cons_zero,List.set_cons_succ]
            refine wpAnyH_ready (rs:=[5]) (by kernel_rfl) (by simp) ?_; refine AllReadyH.cons rfl (fun K hK=>?_) AllReadyH.nil; obtain ⟨m0,m1,m2,m3,m4,m5⟩:=n7.o _ (T.o)
            go_simp
            go_wp2_with fail
            refine hK.out _ _ (d2.o _ (T.o)) (fun hHeldL=>?_); clear hK K m0 m1 m2 m3 m4 m5
            try simp only [Act.put,List.setIfInBounds_toArray,List.set_cons_zero,List.set_cons_succ]
            refine wpAnyH_ready (rs:=[16]) (by kernel_rfl) (by simp) ?_; refine AllReadyH.cons rfl (fun K hK=>?_) AllReadyH.nil
            go_simp
            go_at_call 113
            refine (n6.o _ _ T.o j8.o).mono ?_; rintro e wp ⟨zp,rfl,d6,i4⟩; obtain ⟨k5,l0,k7,k9,k8,l1,l5,l2,l4,l3,rfl,-,-⟩:=id d6; have c7:Hid (Up wi wp):=T.o.trans (i4.mono T.o.size); have HZP:=Hd (qz_none d6); clear d6 i4
            go_wp2_with fail
            refine hK.out _ _ (d2.o _ c7.o) (fun hHeld16=>?_); clear hK K
            try simp only [Act.put,List.setIfInBounds_toArray,List.set_cons_zero,List.set_cons_succ]
            refine tk 17 76 (v:=?_) rfl rfl (by kernel_rfl) (fun _ _ _ h=>h) (Or.inl ⟨by rfl,?_⟩) (by assumption) ?_
            rotate_left
            ·(intro w y; (try dsimp only at y); go_simp; (try with_reducible rfl))
            try simp only [Act.put,List.setIfInBounds_toArray,List.set_cons_zero,List.set_cons_succ]
            have I:=c9.o.below c7.o; have m:=I.set hcl HZP.o; rw [sumsQ_set] at m; obtain ⟨xs,u,-⟩:=I.row; rw [← I.len] at u; have E4:xs.length=n*6:=u.1; obtain ⟨o0,t0⟩:=row_at u (col*6) (by omega); have f0:=u.frozenAt (col*6); obtain ⟨o1,t1⟩:=row_at u (col*6+1) (by omega); have f1:=u.frozenAt (col*6+1); obtain ⟨o2,t2⟩:=row_at u (col*6+2) (by omega); have f2:=u.frozenAt (col*6+2); obtain ⟨o3,t3⟩:=row_at u (col*6+3) (by omega); have f3:=u.frozenAt (col*6+3); obtain ⟨o4,t4⟩:=row_at u (col*6+4) (by omega); have f4:=u.frozenAt (col*6+4); obtain ⟨o5,t5⟩:=row_at u (col*6+5) (by omega); have f5:=u.frozenAt (col*6+5); obtain ⟨WS,d5⟩:=exW ((((((wp.setCell ⟨J+1,col*6,none⟩ (.int .i64 k5)).setCell ⟨J+1,col*6+1,none⟩ (.bool l0)).setCell ⟨J+1,col*6+2,none⟩ (.slice k7 k9 k8)).setCell ⟨J+1,col*6+3,none⟩ (.int .i64 l1)).setCell ⟨J+1,col*6+4,none⟩ (.bool l5)).setCell ⟨J+1,col*6+5,none⟩ (.slice l2 l4 l3)); rw [d5] at m; have g4:=Hd d5; have d9:=Hd m.1; have G6:=Hd m.2; have i8:Hid (Bx WS E.heap.size [.int .i64 V,.bool a8,.slice Z a7 a6,.int .i64 a9,.bool b9,.slice b6 b8 b7]):=(g1.o.below g1.o.lt c7.o).solTo ⟨m.2.size,m.2.block⟩ (by have:=p0.o; omega); have u5:Hid (Qz 0 WS [.int .i64 V,.bool a8,.slice Z a7 a6,.int .i64 a9,.bool b9,.slice b6 b8 b7] X 1 none):=(p1.o.below c7.o).but m.2; have i3:WS.cell? ⟨E.heap.size,0,none⟩=some (.int .i64 V)∧WS.cell? ⟨E.heap.size,1,none⟩=some (.bool a8)∧WS.cell? ⟨E.heap.size,2,none⟩=some (.slice Z a7 a6)∧WS.cell? ⟨E.heap.size,3,none⟩=some (.int .i64 a9)∧WS.cell? ⟨E.heap.size,4,none⟩=some (.bool b9)∧WS.cell? ⟨E.heap.size,5,none⟩=some (.slice b6 b8 b7)∧WS.cell? ⟨H,j*8,none⟩=some (.slice (some ⟨U,0,none⟩) n ca)∧WS.cell? ⟨U,col*6,none⟩=some (.int .i64 g5)∧WS.cell? ⟨U,col*6+1,none⟩=some (.bool h0)∧WS.cell? ⟨U,col*6+2,none⟩=some (.slice g6 g8 g7)∧WS.cell? ⟨U,col*6+3,none⟩=some (.int .i64 h7)∧WS.cell? ⟨U,col*6+4,none⟩=some (.bool i2)∧WS.cell? ⟨U,col*6+5,none⟩=some (.slice h8 i1 h9):=by
             have h6:=i8.o.c6; have hk:=d2.o wp c7.o; have e:∀ (b i:Nat),b<w.heap.size→WS.cell? ⟨b,i,none⟩=wp.cell? ⟨b,i,none⟩:=fun b i hb=>World.cell?_of_block (a:=⟨b,i,none⟩) (m.2.block b (Nat.lt_of_lt_of_le hb (I.bel.size)) (by have:=I.lo; omega)); refine ⟨h6.1,h6.2.1,h6.2.2.1,h6.2.2.2.1,h6.2.2.2.2.1,h6.2.2.2.2.2,(e H _ d1.o).trans hk.2.2.2.2.2.2.1,(e U _ d3.o).trans hk.2.2.2.2.2.2.2.1,(e U _ d3.o).trans hk.2.2.2.2.2.2.2.2.1,(e U _ d3.o).trans hk.2.2.2.2.2.2.2.2.2.1,(e U _ d3.o).trans hk.2.2.2.2.2.2.2.2.2.2.1,(e U _ d3.o).trans hk.2.2.2.2.2.2.2.2.2.2.2.1,(e U _ d3.o).trans hk.2.2.2.2.2.2.2.2.2.2.2.2⟩
            have g3:=Hd i3; clear d5 m I u i3; refine wpAnyH_ready (rs:=[18]) (by kernel_rfl) (by simp) ?_; refine AllReadyH.cons rfl (fun K hK=>?_) AllReadyH.nil
            go_simp
            go_wp2_with (rw [g4.o])
            try rw [g4.o]
            refine hK.out _ _ g3.o (fun hHeld18=>?_); clear hK K f0 f1 f2 f3 f4 f5 t0 t1 t2 t3 t4 t5
            try simp only [Act.put,List.setIfInBounds_toArray,List.set_cons_zero,List.set_cons_succ]
            refine wpAnyH_done (by kernel_rfl) ?_ _
            go_wp2_with fail
            go_roundw
            case rel=>exact ⟨col+1,hcl,by go_num,d9.o,i8.o,u5.o⟩
            case measure=>simp [intOf]; omega
          ·have D7:¬ (col:Int)<(n:Int):=by omega
           have D5:col=n:=by omega
           rw [D5] at c9; have r5:Hid (SS w J n (addD G M j) (sumsQ n G M (j+1) 0) wi):=by unfold Hid; have h:=c9.o; unfold sumsQ at h ⊢; rw [← sumsL_next]; exact h
           clear c9 D5; have c9:=Hd r5.o; clear r5; obtain ⟨g5,h0,g6,g8,g7,h7,i2,h8,i1,h9,e6⟩:=o9.shape; simp only [List.cons.injEq,and_true] at e6; obtain ⟨rfl,rfl,rfl,rfl,rfl,rfl⟩:=e6; obtain ⟨cf,k0⟩:=exW (G[j].bd); have n3:Hid ((G.getD j nr0).bd=cf):=by unfold Hid; rw [s9.o]; exact k0
           rw [k0] at o9; have j7:=Hd (B2.o j); rw [n3.o] at j7; have s6:Hid (addD G M (j+1)=addD G M j+X*cf):=by unfold Hid; rw [← n3.o,← j3.o]; rfl
           have d8:Hid (addS G M (j+1)=(addS G M j||G[j].st)):=by unfold Hid; show (addS G M j||((G.getD j nr0).st&&!decide (M.getD j 0=0)))=_; rw [s9.o,j3.o,decide_eq_false n9.o,Bool.not_false,Bool.and_true]
           obtain ⟨e2,e7,e3,e5,e4,e8,g0,e9,f9,f7,O,d4⟩:=c9.o.ex; have n1:=Hd O; have u2:=Hd d4; have d1:=Hd i9; have C3:=Hd v1; have u0:=Hd (o9.below c9.o.bel); have n7:Hid (∀ W,Up wi W→W.cell? ⟨J,0,none⟩=some (.int .i64 e2)∧W.cell? ⟨J,1,none⟩=some (.bool e7)∧W.cell? ⟨J,2,none⟩=some (.slice e3 e5 e4)∧W.cell? ⟨J,3,none⟩=some (.int .i64 e8)∧W.cell? ⟨J,4,none⟩=some (.bool g0)∧W.cell? ⟨J,5,none⟩=some (.slice e9 f9 f7)):=fun W hW=>(n1.o.below n1.o.lt hW).c6; have d2:Hid (∀ W,Up wi W→W.cell? ⟨E.heap.size,0,none⟩=some (.int .i64 V)∧W.cell? ⟨E.heap.size,1,none⟩=some (.bool a8)∧W.cell? ⟨E.heap.size,2,none⟩=some (.slice Z a7 a6)∧W.cell? ⟨E.heap.size,3,none⟩=some (.int .i64 a9)∧W.cell? ⟨E.heap.size,4,none⟩=some (.bool b9)∧W.cell? ⟨E.heap.size,5,none⟩=some (.slice b6 b8 b7)∧W.cell? ⟨H,j*8+2,none⟩=some (.int .i64 g5)∧W.cell? ⟨H,j*8+3,none⟩=some (.bool h0)∧W.cell? ⟨H,j*8+4,none⟩=some (.slice g6 g8 g7)∧W.cell? ⟨H,j*8+5,none⟩=some (.int .i64 h7)∧W.cell? ⟨H,j*8+6,none⟩=some (.bool i2)∧W.cell? ⟨H,j*8+7,none⟩=some (.slice h8 i1 h9)):=fun W hW=>by
            have h6:=(g1.o.below g1.o.lt hW).c6; have hw:=c9.o.bel.trans (hW.mono c9.o.bel.size); exact ⟨h6.1,h6.2.1,h6.2.2.1,h6.2.2.2.1,h6.2.2.2.2.1,h6.2.2.2.2.2,(hw.cell (p:=⟨H,j*8+2,none⟩) i9).trans v2,(hw.cell (p:=⟨H,j*8+3,none⟩) i9).trans v3,(hw.cell (p:=⟨H,j*8+4,none⟩) i9).trans v4,(hw.cell (p:=⟨H,j*8+5,none⟩) i9).trans v5,(hw.cell (p:=⟨H,j*8+6,none⟩) i9).trans v6,(hw.cell (p:=⟨H,j*8+7,none⟩) i9).trans v7⟩
           have n8:Hid (∀ W,Up wi W→Calls Tryz.prog 114 #[.agg #[.int .i64 V,.bool a8,.slice Z a7 a6,.int .i64 a9,.bool b9,.slice b6 b8 b7],.agg #[.int .i64 g5,.bool h0,.slice g6 g8 g7,.int .i64 h7,.bool i2,.slice h8 i1 h9]] W fun e w'=>∃ z,e=.returned z∧IsQN 0 w' z (X*cf) 1∧Up W w'):=fun W hW=>l2MulI_any _ _ _ _ W (p1.o.below hW).isQN (u0.o.below hW).isQN (lb_le 280 300 (by decide) (by rw [← j3.o]; exact l9.o j)) (lb_le 6 300 (by decide) j7.o); have n6:Hid (∀ W z,Up wi W→IsQN 0 W z (X*cf) 1→Calls Tryz.prog 113 #[.agg #[.int .i64 e2,.bool e7,.slice e3 e5 e4,.int .i64 e8,.bool g0,.slice e9 f9 f7],z] W fun e w'=>∃ z',e=.returned z'∧IsQN 0 w' z' (addD G M (j+1)) 1∧Up W w'):=fun W z hW hz=>by
            rw [s6.o]; refine l2AddI_any _ _ _ _ W (u2.o.below hW).isQN hz (lb_fifty (k:=j) (by omega) (addD_le l9.o B2.o j)) ?_; rw [Int.natAbs_mul]; exact lb_le 286 300 (by decide) (lb_mul 280 6 (by rw [← j3.o]; exact l9.o j) j7.o)
           clear o8 o9 v0 v1 v2 v3 v4 v5 v6 v7 O d4 k0
           go_wp2_with fail
           refine wrh 10 rfl (S:=fun W=>W.cell? ⟨E.heap.size,0,none⟩=some (.int .i64 V)∧W.cell? ⟨E.heap.size,1,none⟩=some (.bool a8)∧W.cell? ⟨E.heap.size,2,none⟩=some (.slice Z a7 a6)∧W.cell? ⟨E.heap.size,3,none⟩=some (.int .i64 a9)∧W.cell? ⟨E.heap.size,4,none⟩=some (.bool b9)∧W.cell? ⟨E.heap.size,5,none⟩=some (.slice b6 b8 b7)∧W.cell? ⟨H,j*8+2,none⟩=some (.int .i64 g5)∧W.cell? ⟨H,j*8+3,none⟩=some (.bool h0)∧W.cell? ⟨H,j*8+4,none⟩=some (.slice g6 g8 g7)∧W.cell? ⟨H,j*8+5,none⟩=some (.int .i64 h7)∧W.cell? ⟨H,j*8+6,none⟩=some (.bool i2)∧W.cell? ⟨H,j*8+7,none⟩=some (.slice h8 i1 h9)) (by kernel_rfl) (d2.o _ (Below.refl wi.heap.size wi).drew) (fun hHeld=>?_); refine tk 1 79 (v:=?_) rfl rfl (by kernel_rfl) (fun _ _ _ h=>h) (Or.inl ⟨by rfl,?_⟩) (by assumption) ?_
           rotate_left
           ·(intro w y; (try dsimp only at y); go_simp; (try with_reducible rfl))
           try simp only [Act.put,List.setIfInBounds_toArray,List.set_cons_zero,List.set_cons_succ]
           refine tk 2 80 (v:=?_) rfl rfl (by kernel_rfl) (fun _ _ _ h=>h) (Or.inl ⟨by rfl,?_⟩) (by assumption) ?_
           rotate_left
           ·(intro w y; (try dsimp only at y); go_simp; (try with_reducible rfl))
           try simp only [Act.put,List.setIfInBounds_toArray,List.set_cons_zero,List.set_cons_succ]
           refine tk 3 81 (v:=?_) rfl rfl (by kernel_rfl) (fun _ _ _ h=>h) (Or.inl ⟨by rfl,?_⟩) (by assumption) ?_
           rotate_left
           ·(intro w y; (try dsimp only at y); go_simp; (try with_reducible rfl))
           try simp only [Act.put,List.setIfInBounds_toArray,List.set_cons_zero,List.set_cons_succ]
           refine tk 4 82 (v:=?_) rfl rfl (by kernel_rfl) (fun _ _ _ h=>h) (Or.inl ⟨by rfl,?_⟩) (by assumption) ?_
           rotate_left
           ·(intro w y; (try dsimp only at y); go_simp; (try with_reducible rfl))
           try simp only [Act.put,List.setIfInBounds_toArray,List.set_cons_zero,List.set_cons_succ]
           refine tk 5 83 (v:=?_) rfl rfl (by kernel_rfl) (fun _ _ _ h=>h) (Or.inl ⟨by rfl,?_⟩) (by assumption) ?_
           rotate_left
           ·(intro w y; (try dsimp only at y); go_simp; (try with_reducible rfl))
           try simp only [Act.put,List.setIfInBounds_toArray,List.set_cons_zero,List.set_cons_succ]
           refine tk 6 84 (v:=?_) rfl rfl (by kernel_rfl) (fun _ _ _ h=>h) (Or.inl ⟨by rfl,?_⟩) (by assumption) ?_
           rotate_left
           ·(intro w y; (try dsimp only at y); go_simp; (try with_reducible rfl))
           try simp only [Act.put,List.setIfInBounds_toArray,List.set_cons_zero,List.set_cons_succ]
           refine wpAnyH_ready (rs:=[0,7]) (by kernel_rfl) (by simp) ?_; refine AllReadyH.cons rfl (fun K hK=>?_) (AllReadyH.cons rfl (fun K hK=>?_) AllReadyH.nil)
           ·obtain ⟨m0,m1,m2,m3,m4,m5⟩:=n7.o _ ((Below.refl wi.heap.size wi).drew)
            go_simp
            go_wp2_with fail
            refine hK.out _ _ (d2.o _ ((Below.refl wi.heap.size wi).drew)) (fun hHeldL=>?_); clear hK K m0 m1 m2 m3 m4 m5
            try simp only [Act.put,List.setIfInBounds_toArray,List.set_cons_zero,List.set_cons_succ]
            refine wpAnyH_ready (rs:=[7]) (by kernel_rfl) (by simp) ?_; refine AllReadyH.cons rfl (fun K hK=>?_) AllReadyH.nil
            go_simp
            go_at_call 114
            refine (n8.o _ ((Below.refl wi.heap.size wi).drew)).mono ?_; rintro e wt ⟨zt,rfl,d7,i5⟩; obtain ⟨y2,y6,y3,y5,y4,y7,z7,y8,z6,y9,rfl,-,-⟩:=id d7; have T:Hid (Up wi wt):=((Below.refl wi.heap.size wi).drew).trans (i5.mono ((Below.refl wi.heap.size wi).drew).size); have j8:=Hd d7; clear d7 i5
            go_wp2_with fail
            refine hK.out _ _ (d2.o _ T.o) (fun hHeld7=>?_); clear hK K
            try simp only [Act.put,List.setIfInBounds_toArray,List.set_cons_zero,List.set_cons_succ]
            refine wpAnyH_ready (rs:=[8]) (by kernel_rfl) (by simp) ?_; refine AllReadyH.cons rfl (fun K hK=>?_) AllReadyH.nil
            go_simp
            go_at_call 113
            refine (n6.o _ _ T.o j8.o).mono ?_; rintro e wp ⟨zp,rfl,d6,i4⟩; obtain ⟨k5,l0,k7,k9,k8,l1,l5,l2,l4,l3,rfl,-,-⟩:=id d6; have c7:Hid (Up wi wp):=T.o.trans (i4.mono T.o.size); have HZP:=Hd (qz_none d6); clear d6 i4
            go_wp2_with fail
            refine hK.out _ _ (d2.o _ c7.o) (fun hHeld8=>?_); clear hK K
            try simp only [Act.put,List.setIfInBounds_toArray,List.set_cons_zero,List.set_cons_succ]
            have I:=c9.o.below c7.o; have m:=I.bound HZP.o; obtain ⟨H4,H8,H5,H7,H6,H9,I3,I0,I2,I1,O,-⟩:=I.ex; obtain ⟨o0,o1,o2,o3,o4,o5⟩:=O.c6; have f0:=O.frozen 0; have f1:=O.frozen 1; have f2:=O.frozen 2; have f3:=O.frozen 3; have f4:=O.frozen 4; have f5:=O.frozen 5; clear O; obtain ⟨WS,d5⟩:=exW ((((((wp.setCell ⟨J,0,none⟩ (.int .i64 k5)).setCell ⟨J,1,none⟩ (.bool l0)).setCell ⟨J,2,none⟩ (.slice k7 k9 k8)).setCell ⟨J,3,none⟩ (.int .i64 l1)).setCell ⟨J,4,none⟩ (.bool l5)).setCell ⟨J,5,none⟩ (.slice l2 l4 l3)); rw [d5] at m; have g4:=Hd d5; have d9:=Hd m.1; have i8:Hid (Bx WS E.heap.size [.int .i64 V,.bool a8,.slice Z a7 a6,.int .i64 a9,.bool b9,.slice b6 b8 b7]):=(g1.o.below g1.o.lt c7.o).solTo ⟨m.2.size,m.2.block⟩ (by have:=p0.o; omega); have he:∀ (b i:Nat),b<w.heap.size→WS.cell? ⟨b,i,none⟩=wp.cell? ⟨b,i,none⟩:=fun b i hb=>World.cell?_of_block (a:=⟨b,i,none⟩) (m.2.block b (Nat.lt_of_lt_of_le hb (I.bel.size)) (by have:=I.lo; omega)); have u1:WS.cell? ⟨H,j*8+1,none⟩=some (.bool G[j].st):=(he H _ d1.o).trans ((I.bel.cell (p:=⟨H,j*8+1,none⟩) d1.o).trans C3.o); have i3:WS.cell? ⟨E.heap.size,0,none⟩=some (.int .i64 V)∧WS.cell? ⟨E.heap.size,1,none⟩=some (.bool a8)∧WS.cell? ⟨E.heap.size,2,none⟩=some (.slice Z a7 a6)∧WS.cell? ⟨E.heap.size,3,none⟩=some (.int .i64 a9)∧WS.cell? ⟨E.heap.size,4,none⟩=some (.bool b9)∧WS.cell? ⟨E.heap.size,5,none⟩=some (.slice b6 b8 b7)∧WS.cell? ⟨H,j*8+2,none⟩=some (.int .i64 g5)∧WS.cell? ⟨H,j*8+3,none⟩=some (.bool h0)∧WS.cell? ⟨H,j*8+4,none⟩=some (.slice g6 g8 g7)∧WS.cell? ⟨H,j*8+5,none⟩=some (.int .i64 h7)∧WS.cell? ⟨H,j*8+6,none⟩=some (.bool i2)∧WS.cell? ⟨H,j*8+7,none⟩=some (.slice h8 i1 h9):=by
             have h6:=i8.o.c6; have hk:=d2.o wp c7.o; refine ⟨h6.1,h6.2.1,h6.2.2.1,h6.2.2.2.1,h6.2.2.2.2.1,h6.2.2.2.2.2,(he H _ d1.o).trans hk.2.2.2.2.2.2.1,(he H _ d1.o).trans hk.2.2.2.2.2.2.2.1,(he H _ d1.o).trans hk.2.2.2.2.2.2.2.2.1,(he H _ d1.o).trans hk.2.2.2.2.2.2.2.2.2.1,(he H _ d1.o).trans hk.2.2.2.2.2.2.2.2.2.2.1,(he H _ d1.o).trans hk.2.2.2.2.2.2.2.2.2.2.2⟩
            have g3:=Hd i3; clear d5 m I i3 he; refine wpAnyH_ready (rs:=[9]) (by kernel_rfl) (by simp) ?_; refine AllReadyH.cons rfl (fun K hK=>?_) AllReadyH.nil
            go_simp
            go_wp2_with (rw [g4.o])
            try rw [g4.o]
            refine hK.out _ _ g3.o (fun hHeld9=>?_); clear hK K f0 f1 f2 f3 f4 f5 o0 o1 o2 o3 o4 o5
            try simp only [Act.put,List.setIfInBounds_toArray,List.set_cons_zero,List.set_cons_succ]
            refine wpAnyH_done (by kernel_rfl) ?_ _; obtain ⟨J9,j6⟩:∃ b,G[j].st=b:=⟨_,rfl⟩; rw [j6] at u1 d8; clear j6
            cases j4:addS G M j with
            | true=>
              clear u1
              go_wp2_with fail
              go_roundw
              case rel=>exact ⟨j+1,i6,by go_num,by rw [d8.o,j4]; rfl,i7.o n5.o,d9.o⟩
              case measure=>simp [intOf]; omega
            | false=>
              go_wp2_with fail
              go_roundw
              case rel=>exact ⟨j+1,i6,by go_num,by rw [d8.o,j4]; rfl,i7.o n5.o,d9.o⟩
              case measure=>simp [intOf]; omega
           ·go_simp
            go_at_call 114
            refine (n8.o _ ((Below.refl wi.heap.size wi).drew)).mono ?_; rintro e wt ⟨zt,rfl,d7,i5⟩; obtain ⟨y2,y6,y3,y5,y4,y7,z7,y8,z6,y9,rfl,-,-⟩:=id d7; have T:Hid (Up wi wt):=((Below.refl wi.heap.size wi).drew).trans (i5.mono ((Below.refl wi.heap.size wi).drew).size); have j8:=Hd d7; clear d7 i5
            go_wp2_with fail
            refine hK.out _ _ (d2.o _ T.o) (fun hHeld7=>?_); clear hK K
            try simp only [Act.put,List.setIfInBounds_toArray,List.set_cons_zero,List.set_cons_succ]
            refine wpAnyH_ready (rs:=[0]) (by kernel_rfl) (by simp) ?_; refine AllReadyH.cons rfl (fun K hK=>?_) AllReadyH.nil; obtain ⟨m0,m1,m2,m3,m4,m5⟩:=n7.o _ (T.o)
            go_simp
            go_wp2_with fail
            refine hK.out _ _ (d2.o _ (T.o)) (fun hHeldL=>?_); clear hK K m0 m1 m2 m3 m4 m5
            try simp only [Act.put,List.setIfInBounds_toArray,List.set_cons_zero,List.set_cons_succ]
            refine wpAnyH_ready (rs:=[8]) (by kernel_rfl) (by simp) ?_; refine AllReadyH.cons rfl (fun K hK=>?_) AllReadyH.nil
            go_simp
            go_at_call 113
            refine (n6.o _ _ T.o j8.o).mono ?_; rintro e wp ⟨zp,rfl,d6,i4⟩; obtain ⟨k5,l0,k7,k9,k8,l1,l5,l2,l4,l3,rfl,-,-⟩:=id d6; have c7:Hid (Up wi wp):=T.o.trans (i4.mono T.o.size); have HZP:=Hd (qz_none d6); clear d6 i4
            go_wp2_with fail
            refine hK.out _ _ (d2.o _ c7.o) (fun hHeld8=>?_); clear hK K
            try simp only [Act.put,List.setIfInBounds_toArray,List.set_cons_zero,List.set_cons_succ]
            have I:=c9.o.below c7.o; have m:=I.bound HZP.o; obtain ⟨H4,H8,H5,H7,H6,H9,I3,I0,I2,I1,O,-⟩:=I.ex; obtain ⟨o0,o1,o2,o3,o4,o5⟩:=O.c6; have f0:=O.frozen 0; have f1:=O.frozen 1; have f2:=O.frozen 2; have f3:=O.frozen 3; have f4:=O.frozen 4; have f5:=O.frozen 5; clear O; obtain ⟨WS,d5⟩:=exW ((((((wp.setCell ⟨J,0,none⟩ (.int .i64 k5)).setCell ⟨J,1,none⟩ (.bool l0)).setCell ⟨J,2,none⟩ (.slice k7 k9 k8)).setCell ⟨J,3,none⟩ (.int .i64 l1)).setCell ⟨J,4,none⟩ (.bool l5)).setCell ⟨J,5,none⟩ (.slice l2 l4 l3)); rw [d5] at m; have g4:=Hd d5; have d9:=Hd m.1; have i8:Hid (Bx WS E.heap.size [.int .i64 V,.bool a8,.slice Z a7 a6,.int .i64 a9,.bool b9,.slice b6 b8 b7]):=(g1.o.below g1.o.lt c7.o).solTo ⟨m.2.size,m.2.block⟩ (by have:=p0.o; omega); have he:∀ (b i:Nat),b<w.heap.size→WS.cell? ⟨b,i,none⟩=wp.cell? ⟨b,i,none⟩:=fun b i hb=>World.cell?_of_block (a:=⟨b,i,none⟩) (m.2.block b (Nat.lt_of_lt_of_le hb (I.bel.size)) (by have:=I.lo; omega)); have u1:WS.cell? ⟨H,j*8+1,none⟩=some (.bool G[j].st):=(he H _ d1.o).trans ((I.bel.cell (p:=⟨H,j*8+1,none⟩) d1.o).trans C3.o); have i3:WS.cell? ⟨E.heap.size,0,none⟩=some (.int .i64 V)∧WS.cell? ⟨E.heap.size,1,none⟩=some (.bool a8)∧WS.cell? ⟨E.heap.size,2,none⟩=some (.slice Z a7 a6)∧WS.cell? ⟨E.heap.size,3,none⟩=some (.int .i64 a9)∧WS.cell? ⟨E.heap.size,4,none⟩=some (.bool b9)∧WS.cell? ⟨E.heap.size,5,none⟩=some (.slice b6 b8 b7)∧WS.cell? ⟨H,j*8+2,none⟩=some (.int .i64 g5)∧WS.cell? ⟨H,j*8+3,none⟩=some (.bool h0)∧WS.cell? ⟨H,j*8+4,none⟩=some (.slice g6 g8 g7)∧WS.cell? ⟨H,j*8+5,none⟩=some (.int .i64 h7)∧WS.cell? ⟨H,j*8+6,none⟩=some (.bool i2)∧WS.cell? ⟨H,j*8+7,none⟩=some (.slice h8 i1 h9):=by
             have h6:=i8.o.c6; have hk:=d2.o wp c7.o; refine ⟨h6.1,h6.2.1,h6.2.2.1,h6.2.2.2.1,h6.2.2.2.2.1,h6.2.2.2.2.2,(he H _ d1.o).trans hk.2.2.2.2.2.2.1,(he H _ d1.o).trans hk.2.2.2.2.2.2.2.1,(he H _ d1.o).trans hk.2.2.2.2.2.2.2.2.1,(he H _ d1.o).trans hk.2.2.2.2.2.2.2.2.2.1,(he H _ d1.o).trans hk.2.2.2.2.2.2.2.2.2.2.1,(he H _ d1.o).trans hk.2.2.2.2.2.2.2.2.2.2.2⟩
            have g3:=Hd i3; clear d5 m I i3 he; refine wpAnyH_ready (rs:=[9]) (by kernel_rfl) (by simp) ?_; refine AllReadyH.cons rfl (fun K hK=>?_) AllReadyH.nil
            go_simp
            go_wp2_with (rw [g4.o])
            try rw [g4.o]
            refine hK.out _ _ g3.o (fun hHeld9=>?_); clear hK K f0 f1 f2 f3 f4 f5 o0 o1 o2 o3 o4 o5
            try simp only [Act.put,List.setIfInBounds_toArray,List.set_cons_zero,List.set_cons_succ]
            refine wpAnyH_done (by kernel_rfl) ?_ _; obtain ⟨J9,j6⟩:∃ b,G[j].st=b:=⟨_,rfl⟩; rw [j6] at u1 d8; clear j6
            cases j4:addS G M j with
            | true=>
              clear u1
              go_wp2_with fail
              go_roundw
              case rel=>exact ⟨j+1,i6,by go_num,by rw [d8.o,j4]; rfl,i7.o n5.o,d9.o⟩
              case measure=>simp [intOf]; omega
            | false=>
              go_wp2_with fail
              go_roundw
              case rel=>exact ⟨j+1,i6,by go_num,by rw [d8.o,j4]; rfl,i7.o n5.o,d9.o⟩
              case measure=>simp [intOf]; omega
    ·have D8:j=mu.length:=by omega
     have I9:¬ (j:Int)<(mu.length:Int):=by omega
     have s8:Hid (addsB n G mu=endB n G M):=by
      have r7:mu.all multOk=true:=all_of (fun i hi=>B4.o i hi (by omega)); unfold Hid addsB; rw [r7,← H0.o r7,decide_eq_true t7.o]; rfl
     have t6:Hid (j=G.length):=by unfold Hid; rw [D8]; exact t7.o
     clear D8
     go_wp2_with fail
     go_loopw [98] (fun iv wr=>∃ i:Nat,i≤n∧iv=.int .i64 (i:Nat)∧(∀ c,c<i→addC G M c j=0)∧SS w J n (addD G M j) (sumsQ n G M j 0) wr) (fun iv _=>n - (intOf iv).toNat)
     case atStart=>exact ⟨0,Nat.zero_le _,rfl,fun _ h=>absurd h (Nat.not_lt_zero _),HS.o⟩
     case round=>
      rename World=>wl
      obtain ⟨i,hi,rfl,E9,j4⟩:=hrel; have C7:=Hd E9; have d8:=Hd j4; clear HS E9 j4
      by_cases x7:i<n
      ·have I8:(i:Int)<(n:Int):=by omega
       have hL:n=(sumsQ n G M j 0).length:=(sumsQ_len ..).symm; obtain ⟨g9,e2,e7,e3,e5,e4,e8,g0,e9,f9,f7,x6,-,⟨s0,s1,s2,s3,s4,s5⟩,d4⟩:=d8.o.row.at2 hL (i:=i) (by rw [← hL]; exact x7); cases x6; rw [sumsQ_at,if_neg (Nat.not_lt_zero _)] at d4; obtain ⟨Y,hY⟩:=exW (addC G M i j); rw [hY] at d4; have HY:=Hd hY; obtain ⟨W8,p8⟩:=exW (wl.alloc (.cells #[.int .i64 e2,.bool e7,.slice e3 e5 e4,.int .i64 e8,.bool g0,.slice e9 f9 f7] 74)); have w8:Up wl W8:=by rw [← p8]; exact below_alloc _ _
       have E3:Bx W8 wl.heap.size [.int .i64 e2,.bool e7,.slice e3 e5 e4,.int .i64 e8,.bool g0,.slice e9 f9 f7]:=by rw [← p8]; exact bx_new wl _ _
       have C5:=Hd p8; have c9:=Hd (d8.o.below w8); have e0:=Hd (l2Zero_any 0 e2 e7 e3 e5 e4 e8 g0 e9 f9 f7 Y 1 W8 (d4.below w8).isQN); obtain ⟨x0,x1,x2,x3,x4,x5⟩:=E3.c6; clear hY hL d4 p8 w8 E3
       by_cases m8:Y=0
       ·rw [decide_eq_true m8] at e0; have H2:=Hd m8; clear m8
        go_wp2_with (rw [C5.o])
        refine e0.o.mono ?_; rintro e wz ⟨rfl,g2⟩; have u8:=Hd (c9.o.below g2); clear g2
        go_wp2_with fail
        go_roundw
        case rel=>
         refine ⟨i+1,x7,by go_num,fun c hc=>?_,u8.o⟩
         by_cases e:c=i
         ·rw [e,HY.o]; exact H2.o
         ·exact C7.o c (by omega)
        case measure=>simp [intOf]; omega
       ·rw [decide_eq_false m8] at e0; have HE:Hid (addsB n G mu=false):=by
         unfold Hid; rw [s8.o]; unfold endB; have hf:(List.range n).all (fun c=>decide (addC G M c G.length=0))=false:=by
          rw [Bool.eq_false_iff]; intro hh; have:=List.all_eq_true.1 hh i (List.mem_range.2 x7); rw [← t6.o,HY.o] at this; exact m8 (of_decide_eq_true this)
         rw [hf,Bool.and_false]
        clear m8
        go_wp2_with (rw [C5.o])
        refine e0.o.mono ?_; rintro e wz ⟨rfl,g2⟩; have u8:=Hd (c9.o.below g2); clear g2
        go_wp2_with fail
        go_ret
        exact ⟨ret_bool HE.o.symm,u8.o.bel⟩
      ·have I8:¬ (i:Int)<(n:Int):=by omega
       have I7:i=n:=by omega
       have r4:Hid ((List.range n).all (fun c=>decide (addC G M c j=0))=true):=List.all_eq_true.2 (fun c hc=>decide_eq_true (C7.o c (by have:=List.mem_range.1 hc; omega))); clear I7; obtain ⟨e2,e7,e3,e5,e4,e8,g0,e9,f9,f7,O,d4⟩:=d8.o.ex; obtain ⟨D,hD⟩:=exW (addD G M j); rw [hD] at d4; have j2:Hid (addsB n G mu=(decide (ordI D 0<0)||(decide (D=0)&&addS G M j))):=by
        unfold Hid; rw [s8.o]; unfold endB; rw [← t6.o,r4.o,Bool.and_true,hD,ordI_lt]
       obtain ⟨ro,E2⟩:∃ r,ordI D 0=r:=⟨_,rfl⟩; have u7:=Hd (l2Sign_any (.agg #[.int .i64 e2,.bool e7,.slice e3 e5 e4,.int .i64 e8,.bool g0,.slice e9 f9 f7]) D 1 wl d4.isQN); rw [E2] at j2 u7; have e0:Hid (∀ W,Up wl W→Calls Tryz.prog 64 #[.agg #[.int .i64 e2,.bool e7,.slice e3 e5 e4,.int .i64 e8,.bool g0,.slice e9 f9 f7]] W fun e w'=>e=.returned (.bool (decide (D=0)))∧Up W w'):=fun W hW=>l2Zero_any 0 e2 e7 e3 e5 e4 e8 g0 e9 f9 f7 D 1 W (d4.below hW).isQN; have n1:=Hd O; obtain ⟨zd,E8⟩:∃ z,decide (D=0)=z:=⟨_,rfl⟩; rw [E8] at j2 e0; obtain ⟨x0,x1,x2,x3,x4,x5⟩:=O.c6; clear hD E2 E8 O d4 s8 t6 r4
       by_cases q0:ro<0
       ·have yo:decide (ro<0)=true:=decide_eq_true q0; clear q0
        go_wp2_with fail
        refine u7.o.mono ?_; rintro e wz ⟨rfl,g2⟩; have n2:=Hd g2; clear g2 x0 x1 x2 x3 x4 x5
        go_wp2_with fail
        go_ret
        exact ⟨ret_bool (by rw [j2.o,yo]; rfl),d8.o.bel.trans (n2.o.mono d8.o.bel.size)⟩
       ·have yo:decide (ro<0)=false:=decide_eq_false q0; clear q0
        go_wp2_with fail
        refine u7.o.mono ?_; rintro e wz ⟨rfl,g2⟩; have n2:=Hd g2; obtain ⟨z0,z1,z2,z3,z4,z5⟩:=(n1.o.below n1.o.lt g2).c6; clear g2 x0 x1 x2 x3 x4 x5
        go_wp2_with fail
        refine (e0.o wz n2.o).mono ?_; rintro e wy ⟨rfl,D4⟩; have A9:Hid (Up w wy):=d8.o.bel.trans ((n2.o.trans (D4.mono n2.o.size)).mono d8.o.bel.size); clear D4
        cases zd with
        | false=>
          go_wp2_with fail
          go_ret
          exact ⟨ret_bool (by rw [j2.o,yo]; rfl),A9.o⟩
        | true=>
          go_wp2_with fail
          go_ret
          exact ⟨ret_bool (by rw [j2.o,yo]; rfl),A9.o⟩
end Go.Proofs.YtfclfbpjjlinhaaGreatDoor.L
