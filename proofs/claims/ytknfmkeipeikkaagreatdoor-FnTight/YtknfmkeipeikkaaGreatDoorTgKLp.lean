import Derived.Test.YtknfmkeipeikkaaGreatDoorTgONp
set_option maxRecDepth 100000
set_option maxHeartbeats 4000000
namespace Go.Proofs.YtknfmkeipeikkaaGreatDoor.L
open Go.ChangeShapes Go.WideShapes Go.ChangeAt Go.RowKit
theorem Bx.f8 {W:World} {g:Nat} {l:List Value} (h:Bx W g l):W.frozen? ⟨g,0,none⟩=false∧W.frozen? ⟨g,1,none⟩=false∧W.frozen? ⟨g,2,none⟩=false∧W.frozen? ⟨g,3,none⟩=false∧W.frozen? ⟨g,4,none⟩=false∧W.frozen? ⟨g,5,none⟩=false∧W.frozen? ⟨g,6,none⟩=false∧W.frozen? ⟨g,7,none⟩=false:=⟨h.frozen 0,h.frozen 1,h.frozen 2,h.frozen 3,h.frozen 4,h.frozen 5,h.frozen 6,h.frozen 7⟩
theorem Bx.set8 {W:World} {g:Nat} {a0 a1 a2 a3 a4 a5 a6 a7:Value} (h:Bx W g [a0,a1,a2,a3,a4,a5,a6,a7]) (u0 u1 u2 u3 u4 u5 u6 u7:Value):Bx ((((((((W.setCell ⟨g,0,none⟩ u0).setCell ⟨g,1,none⟩ u1).setCell ⟨g,2,none⟩ u2).setCell ⟨g,3,none⟩ u3).setCell ⟨g,4,none⟩ u4).setCell ⟨g,5,none⟩ u5).setCell ⟨g,6,none⟩ u6).setCell ⟨g,7,none⟩ u7) g [u0,u1,u2,u3,u4,u5,u6,u7]:=(((((((h.set 0 u0).set 1 u1).set 2 u2).set 3 u3).set 4 u4).set 5 u5).set 6 u6).set 7 u7
theorem bel8 {N:Nat} {w W:World} (h:Below N w W) {g:Nat} (hg:N≤g) (u0 u1 u2 u3 u4 u5 u6 u7:Value):Below N w ((((((((W.setCell ⟨g,0,none⟩ u0).setCell ⟨g,1,none⟩ u1).setCell ⟨g,2,none⟩ u2).setCell ⟨g,3,none⟩ u3).setCell ⟨g,4,none⟩ u4).setCell ⟨g,5,none⟩ u5).setCell ⟨g,6,none⟩ u6).setCell ⟨g,7,none⟩ u7):=put8 (P:=fun W=>Below N w W) (fun _ j u h=>h.setCell (p:=⟨g,j,none⟩) hg u) h _ _ _ _ _ _ _ _ _ _ _ _ _ _ _ _
structure GS (w:World) (r8 q8:List Value) (gb:Nat) (x:Int) (z0:Int) (zn:Bool) (p:Option Addr) (l c:Nat) (W:World):Prop where
 rbx:Bx W w.heap.size r8
 qbx:Bx W (w.heap.size+1) q8
 gbx:Bx W gb [.int .i64 z0,.bool zn,.slice p l c]
 num:NumZ 0 W (.agg #[.int .i64 z0,.bool zn,.slice p l c]) x 5
 bel:Up w W
 gt:w.heap.size+1<gb
theorem GS.below {w:World} {r8 q8:List Value} {gb:Nat} {x:Int} {z0:Int} {zn:Bool} {p:Option Addr} {l c:Nat} {W W':World} (h:GS w r8 q8 gb x z0 zn p l c W) (hb:Up W W'):GS w r8 q8 gb x z0 zn p l c W':=
 ⟨h.rbx.below h.rbx.lt hb,h.qbx.below h.qbx.lt hb,h.gbx.below h.gbx.lt hb,h.num.below hb,h.bel.trans (hb.mono h.bel.size),h.gt⟩
theorem GS.same {w:World} {r8 q8:List Value} {gb:Nat} {x:Int} {z0:Int} {zn:Bool} {p:Option Addr} {l c:Nat} {W W':World} {bx:Nat} (h:GS w r8 q8 gb x z0 zn p l c W) (hs:W.heap.size≤W'.heap.size) (hk:∀ b,b<W.heap.size→b≠bx→W'.heap[b]? = W.heap[b]?) (hb:gb<bx) (hn:NoInt W bx) (bel:Up w W'):GS w r8 q8 gb x z0 zn p l c W':=by
 have j:=h.gt; refine ⟨?_,?_,?_,numZ_but h.num ⟨hs,hk,hn⟩,bel,j⟩
 ·obtain ⟨t,e⟩:=h.rbx; exact ⟨t,by rw [hk _ h.rbx.lt (by omega)]; exact e⟩
 ·obtain ⟨t,e⟩:=h.qbx; exact ⟨t,by rw [hk _ h.qbx.lt (by omega)]; exact e⟩
 obtain ⟨t,e⟩:=h.gbx; exact ⟨t,by rw [hk _ h.gbx.lt (by omega)]; exact e⟩
theorem l1DivB_any (za zb:Value) (x y:Int) (w:World) (ha:NumZ 0 w za x 5) (hb:NumZ 0 w zb y 5) (hx:x.natAbs<1000000000 ^ 5) (hy:y≠0) :
 Calls Tryz.prog 46 #[za,zb] w fun e w'=>∃ z1 z2 q r,e=.returned (.tuple #[z1,z2])∧NumZ w.heap.size w' z1 q 6∧IsN 0 w' z2 r∧IsDiv x y q r∧Up w w':=by
 obtain ⟨D,a,m,rfl,h3⟩:=ha; obtain ⟨j,b,u,rfl,k3⟩:=hb; refine (l1Div_any 0 _ _ D j a b w (Nat.zero_le _) m u (by omega) (by omega) (fun e=>hy (by rw [e]; cases j<;>rfl))).mono ?_; rintro e w' ⟨z1,z2,q,r,rfl,⟨h4,h5⟩,h,s⟩; refine ⟨z1,z2,q,r,rfl,numZ_of (N:=6) h4 ?_,h5.mono (Nat.zero_le _),h,s⟩; have:=div_abs h; have:=lt56 hx; omega
theorem But.six {W:World} {g:Nat} (h:NoInt W g) (u2 u3 u4 u5 u6 u7:Value):But g W ((((((W.setCell ⟨g,2,none⟩ u2).setCell ⟨g,3,none⟩ u3).setCell ⟨g,4,none⟩ u4).setCell ⟨g,5,none⟩ u5).setCell ⟨g,6,none⟩ u6).setCell ⟨g,7,none⟩ u7):=
 ⟨by simp,fun b _ hb=>by rw [Below.heap_setCell _ ⟨g,7,none⟩ _ _ hb,Below.heap_setCell _ ⟨g,6,none⟩ _ _ hb,Below.heap_setCell _ ⟨g,5,none⟩ _ _ hb,Below.heap_setCell _ ⟨g,4,none⟩ _ _ hb,Below.heap_setCell _ ⟨g,3,none⟩ _ _ hb,Below.heap_setCell _ ⟨g,2,none⟩ _ _ hb],h⟩
theorem But.eight {W:World} {g:Nat} (h:NoInt W g) (u0 u1 u2 u3 u4 u5 u6 u7:Value):But g W ((((((((W.setCell ⟨g,0,none⟩ u0).setCell ⟨g,1,none⟩ u1).setCell ⟨g,2,none⟩ u2).setCell ⟨g,3,none⟩ u3).setCell ⟨g,4,none⟩ u4).setCell ⟨g,5,none⟩ u5).setCell ⟨g,6,none⟩ u6).setCell ⟨g,7,none⟩ u7):=
 ⟨by simp,fun b _ hb=>by rw [Below.heap_setCell _ ⟨g,7,none⟩ _ _ hb,Below.heap_setCell _ ⟨g,6,none⟩ _ _ hb,Below.heap_setCell _ ⟨g,5,none⟩ _ _ hb,Below.heap_setCell _ ⟨g,4,none⟩ _ _ hb,Below.heap_setCell _ ⟨g,3,none⟩ _ _ hb,Below.heap_setCell _ ⟨g,2,none⟩ _ _ hb,Below.heap_setCell _ ⟨g,1,none⟩ _ _ hb,Below.heap_setCell _ ⟨g,0,none⟩ _ _ hb],h⟩
theorem bel6 {N:Nat} {w W:World} (h:Below N w W) {g:Nat} (hg:N≤g) (u2 u3 u4 u5 u6 u7:Value):Below N w ((((((W.setCell ⟨g,2,none⟩ u2).setCell ⟨g,3,none⟩ u3).setCell ⟨g,4,none⟩ u4).setCell ⟨g,5,none⟩ u5).setCell ⟨g,6,none⟩ u6).setCell ⟨g,7,none⟩ u7):=
 (((((h.setCell (p:=⟨g,2,none⟩) hg u2).setCell (p:=⟨g,3,none⟩) hg u3).setCell (p:=⟨g,4,none⟩) hg u4).setCell (p:=⟨g,5,none⟩) hg u5).setCell (p:=⟨g,6,none⟩) hg u6).setCell (p:=⟨g,7,none⟩) hg u7
theorem q8_noInt {W:World} {g:Nat} (h:Bx W g [.slice none 0 0,.bool false,.int .i64 0,.bool false,.slice none 0 0,.int .i64 0,.bool false,.slice none 0 0]):NoInt W g:=bx_noInt h (by intro v j x; simp at j; rcases j with rfl|rfl|rfl|rfl|rfl|rfl|rfl|rfl<;>simp)
theorem QRow.lt {B:Nat} {W:World} {v:Value} {Q:List (Int×Int)} (h:QRow B W v Q) {b:Nat} (hb:v.ownBlock=some b):B≤b∧b<W.heap.size:=by
 obtain ⟨m,j,_⟩:=h; exact j.lt b hb
theorem qn_num {B:Nat} {w:World} {a0:Int} {a1:Bool} {a2:Option Addr} {a3 a4:Nat} {b c d:Value} {x y:Int} (h:IsQN B w (.agg #[.int .i64 a0,.bool a1,.slice a2 a3 a4,b,c,d]) x y):NumZ B w (.agg #[.int .i64 a0,.bool a1,.slice a2 a3 a4]) x 1000:=by
 obtain ⟨_,_,_,_,_,_,_,_,_,_,e,j,_⟩:=h; simp only [Value.agg.injEq,Array.mk.injEq,List.cons.injEq,and_true] at e; obtain ⟨m,e1,s,-,-,-⟩:=e; rw [← m,← e1,← s] at j; exact j
theorem l13Tight_any (wv:Value) (Wh:List Bool) (n:Nr) (va c0 c1 c2 c3 c4 c5:Value) (w:World) (hw:BoolsAt w wv Wh) (hq:QRow 0 w va (n.cs.map (fun x=>(x,1)))) (hz:Qz 0 w [c0,c1,c2,c3,c4,c5] n.bd 1 none) (hlen:Wh.length=n.cs.length) (h20:n.cs.length≤20) (hs:Sm5 n) :
 Calls Tryz.prog 36 #[wv,.agg #[va,.bool n.st,c0,c1,c2,c3,c4,c5]] w fun e w'=>∃ n' cs,e=.returned (.agg cs.toArray)∧Tight Wh n n'∧Rz 0 w' cs n'∧Up w w':=by
 have HW:=Hd hw; have HQ:=Hd hq; have HZ:=Hd hz; have HS:=Hd hs; have N8:=Hd hlen; obtain ⟨pw,cw,rfl,w1,w2,w3⟩:=hw; have C5:=Hd w3; obtain ⟨pa,ca,rfl⟩:=hq.form; rw [List.length_map] at HQ; obtain ⟨Z,b6,b3,b5,b4,b7,c9,b8,c7,b9,e6⟩:=hz.shape; simp only [List.cons.injEq,and_true] at e6; obtain ⟨rfl,rfl,rfl,rfl,rfl,rfl⟩:=e6; rw [List.length_map]; unfold maxLen at w2; clear hq hz hs hlen w3
 go_enter Tryz.func36,Tryz.ntmps36
 go_wp2_with fail
 obtain ⟨W2,J9,p3,x1,x2,E0⟩:=box2 w [.slice pa n.cs.length ca,.bool n.st,.int .i64 Z,.bool b6,.slice b3 b5 b4,.int .i64 b7,.bool c9,.slice b8 c7 b9] [.slice none 0 0,.bool false,.int .i64 0,.bool false,.slice none 0 0,.int .i64 0,.bool false,.slice none 0 0] 75 75; rw [J9]; have G4:=Hd p3; have s8:=Hd x1; have H7:=Hd x2; have O5:=Hd E0; clear J9 p3 x1 x2 E0; refine (l1Small_any 0 W2 (by decide) (by decide)).mono ?_; rintro e w3 ⟨z,rfl,E3,i9⟩; obtain ⟨g0,gn,gp,gl,gc,rfl⟩:=(numZ_isN E3).shape; obtain ⟨W4,z3⟩:=exW (w3.alloc (.cells #[.int .i64 g0,.bool gn,.slice gp gl gc] 53)); have D2:Up w3 W4:=by rw [← z3]; exact below_alloc _ _
 have K1:Bx W4 w3.heap.size [.int .i64 g0,.bool gn,.slice gp gl gc]:=by rw [← z3]; exact bx_new w3 _ _
 have O9:=Hd z3; have v8:Hid (GS w [.slice pa n.cs.length ca,.bool n.st,.int .i64 Z,.bool b6,.slice b3 b5 b4,.int .i64 b7,.bool c9,.slice b8 c7 b9] [.slice none 0 0,.bool false,.int .i64 0,.bool false,.slice none 0 0,.int .i64 0,.bool false,.slice none 0 0] w3.heap.size 0 g0 gn gp gl gc W4):=by
  have hb:=i9.trans (D2.mono i9.size); have E0:=O5.o; have K8:=i9.size; exact ⟨s8.o.below s8.o.lt hb,H7.o.below H7.o.lt hb,K1,((E3.mono' (Nat.zero_le _) (by omega)).below D2),G4.o.trans (hb.mono G4.o.size),by omega⟩
 have p9:Hid (w.heap.size+1<w3.heap.size):=v8.o.gt; obtain ⟨b0,-⟩:=v8.o.rbx.c8; clear z3 D2 K1 E3 i9
 go_wp2_with (rw [O9.o])
 go_loopw [19] (fun iv wr=>∃ (k:Nat) (z0:Int) (zn:Bool) (p:Option Addr) (l c:Nat),k≤n.cs.length∧iv=.int .i64 (k:Nat)∧(∀ i,i<k→Wh.getD i true=false→n.cs.getD i 0=0)∧GS w [.slice pa n.cs.length ca,.bool n.st,.int .i64 Z,.bool b6,.slice b3 b5 b4,.int .i64 b7,.bool c9,.slice b8 c7 b9] [.slice none 0 0,.bool false,.int .i64 0,.bool false,.slice none 0 0,.int .i64 0,.bool false,.slice none 0 0] w3.heap.size (gcdK n.cs k) z0 zn p l c wr) (fun iv _=>n.cs.length - (intOf iv).toNat)
 case atStart=>exact ⟨0,g0,gn,gp,gl,gc,Nat.zero_le _,rfl,fun i h=>absurd h (Nat.not_lt_zero _),v8.o⟩
 case round=>
  rename World=>wo
  obtain ⟨k,z0,zn,D1,D0,C9,hk,rfl,L1,hG⟩:=hrel; have HG:=Hd hG; have t6:=Hd L1; clear v8 L1 b0
  by_cases z8:k<n.cs.length
  ·have z7:k<Wh.length:=by have:=N8.o; omega
   obtain ⟨bw,rfl,K4,J6⟩:∃ b,pw=some ⟨b,0,none⟩∧b<w.heap.size∧∀ i (h:i<Wh.length),w.cell? ⟨b,i,none⟩=some (.bool Wh[i]):=by
    rcases C5.o with h|h
    ·rw [h] at z7; exact absurd z7 (Nat.not_lt_zero _)
    ·exact h
   have kw:=J6 k z7; have C6:Hid (Wh.getD k true=Wh[k]):=by unfold Hid; rw [List.getD_eq_getElem?_getD,List.getElem?_eq_getElem z7]; rfl
   have l9:Hid (n.cs.getD k 0=n.cs[k]):=by unfold Hid; rw [List.getD_eq_getElem?_getD,List.getElem?_eq_getElem z8]; rfl
   have p1:Hid (n.cs[k].natAbs<1000000000 ^ 5):=HS.o.1 _ (List.getElem_mem z8); obtain ⟨gq,a0,a1,a2,a3,a4,a5,a6,a7,a8,a9,rfl,Q1,⟨q0,q1,q2,q3,q4,q5⟩,k7⟩:=(HQ.o.below hG.bel).at (i:=k) (by rw [List.length_map]; exact z8); rw [List.getElem_map] at k7; have H4:=Hd k7; obtain ⟨W1,h8⟩:=exW (wo.alloc (.cells #[.int .i64 a0,.bool a1,.slice a2 a3 a4,.int .i64 a5,.bool a6,.slice a7 a8 a9] 55)); have h7:Up wo W1:=by rw [← h8]; exact below_alloc _ _
   have p2:Bx W1 wo.heap.size [.int .i64 a0,.bool a1,.slice a2 a3 a4,.int .i64 a5,.bool a6,.slice a7 a8 a9]:=by rw [← h8]; exact bx_new wo _ _
   have C4:=Hd h8; have h9:=Hd h7; have s8:=Hd p2; have v9:=Hd (hG.below h7); have H9:=Hd (l2Zero_any 0 a0 a1 a2 a3 a4 a5 a6 a7 a8 a9 _ _ W1 (k7.below h7)); obtain ⟨y0,y1,y2,y3,y4,y5⟩:=p2.c6; obtain ⟨Bk,J8⟩:∃ B,Wh[k]=B:=⟨_,rfl⟩; have G9:Hid (∀ W,Up wo W→W.cell? ⟨bw,k,none⟩=some (.bool Wh[k])):=fun W hW=>((hG.bel.trans (hW.mono hG.bel.size)).cell (p:=⟨bw,k,none⟩) K4).trans kw; rw [J8] at G9 C6; obtain ⟨xk,K9⟩:∃ x,n.cs[k]=x:=⟨_,rfl⟩; rw [K9] at l9 p1 H9 H4; have i1:(k:Int)<(Wh.length:Int):=by omega
   have i2:(k:Int)<(n.cs.length:Int):=by omega
   have K5:bw<wo.heap.size:=Nat.lt_of_lt_of_le K4 hG.bel.size; clear J6 kw h8 h7 p2 hG k7 J8 K9
   go_wp2_with (rw [C4.o])
   refine H9.o.mono ?_; rintro e K ⟨rfl,n0⟩; have N0:=Hd n0; have p8:Hid (Up wo K):=h9.o.trans (n0.mono h9.o.size); have T:=Hd (v9.o.below n0); clear n0
   by_cases n4:xk=0
   ·rw [decide_eq_true n4]; have C2:Hid (∀ i,i<k+1→Wh.getD i true=false→n.cs.getD i 0=0):=fun i hi h=>by
     by_cases e:i=k
     ·subst e; rw [l9.o]; exact n4
     ·exact t6.o i (by omega) h
    have B9:Hid (GS w [.slice (some ⟨gq,0,none⟩) n.cs.length ca,.bool n.st,.int .i64 Z,.bool b6,.slice b3 b5 b4,.int .i64 b7,.bool c9,.slice b8 c7 b9] [.slice none 0 0,.bool false,.int .i64 0,.bool false,.slice none 0 0,.int .i64 0,.bool false,.slice none 0 0] w3.heap.size (gcdK n.cs (k+1)) z0 zn D1 D0 C9 K):=by
     unfold Hid; rw [gcdK_skip (by rw [l9.o]; exact n4)]; exact T.o
    clear n4
    go_wp2_with fail
    go_roundw
    case rel=>exact ⟨k+1,_,_,_,_,_,by omega,by go_num,C2.o,B9.o⟩
    case measure=>simp [intOf]; omega
   ·rw [decide_eq_false n4]; have P2:=Hd n4; clear n4; have kb:=G9.o K p8.o; have R3:bw<K.heap.size:=Nat.lt_of_lt_of_le K5 p8.o.size
    cases Bk with
    | false=>
      obtain ⟨r0,r1,r2,r3,r4,r5,r6,r7⟩:=T.o.rbx.c8; obtain ⟨s0,s1,s2,s3,s4,s5,s6,s7⟩:=T.o.qbx.c8; obtain ⟨f0,f1,f2,f3,f4,f5,f6,f7⟩:=T.o.qbx.f8
      go_wp2_with fail
      have hE:=T.o.qbx.set8 (.slice (some ⟨gq,0,none⟩) n.cs.length ca) (.bool n.st) (.int .i64 Z) (.bool b6) (.slice b3 b5 b4) (.int .i64 b7) (.bool c9) (.slice b8 c7 b9); obtain ⟨e0,e1,e2,e3,e4,e5,e6,e7⟩:=hE.c8; have m9:=bel8 T.o.bel (g:=w.heap.size+1) (by omega) (.slice (some ⟨gq,0,none⟩) n.cs.length ca) (.bool n.st) (.int .i64 Z) (.bool b6) (.slice b3 b5 b4) (.int .i64 b7) (.bool c9) (.slice b8 c7 b9); have d4:Rz 0 w [.slice (some ⟨gq,0,none⟩) n.cs.length ca,.bool n.st,.int .i64 Z,.bool b6,.slice b3 b5 b4,.int .i64 b7,.bool c9,.slice b8 c7 b9] n:=⟨_,_,_,_,_,_,_,rfl,HQ.o,HZ.o⟩; refine bodyPost_ret (v:=.agg #[.slice (some ⟨gq,0,none⟩) n.cs.length ca,.bool n.st,.int .i64 Z,.bool b6,.slice b3 b5 b4,.int .i64 b7,.bool c9,.slice b8 c7 b9]) ?_ rfl ⟨n,[.slice (some ⟨gq,0,none⟩) n.cs.length ca,.bool n.st,.int .i64 Z,.bool b6,.slice b3 b5 b4,.int .i64 b7,.bool c9,.slice b8 c7 b9],rfl,⟨0,.inl ⟨⟨k,z8,C6.o,by rw [l9.o]; exact P2.o⟩,rfl⟩,.inl ⟨rfl,rfl⟩⟩,d4.below m9,m9⟩; clear hE m9 d4; simp [results,Tryz.results36,go_sem,e0,e1,e2,e3,e4,e5,e6,e7]
    | true=>
      have C2:Hid (∀ i,i<k+1→Wh.getD i true=false→n.cs.getD i 0=0):=fun i hi h=>by
       by_cases e:i=k
       ·subst e; rw [C6.o] at h; cases h
       ·exact t6.o i (by omega) h
      have K2:=s8.o.below s8.o.lt N0.o; obtain ⟨y0,y1,y2,y3,y4,y5⟩:=K2.c6; obtain ⟨v0,v1,v2⟩:=T.o.gbx.c3; have N5:Hid (Calls Tryz.prog 45 #[.agg #[.int .i64 z0,.bool zn,.slice D1 D0 C9],.agg #[.int .i64 a0,.bool a1,.slice a2 a3 a4]] K fun e w'=>∃ z,e=.returned z∧NumZ 0 w' z (gcdK n.cs (k+1)) 5∧Up K w'):=by
       have hn:NumZ 0 K (.agg #[.int .i64 a0,.bool a1,.slice a2 a3 a4]) xk 5:=by
        obtain ⟨_,_,_,_,_,_,_,_,_,_,e,h1,_⟩:=H4.o; simp only [Value.agg.injEq,Array.mk.injEq,List.cons.injEq,and_true] at e; obtain ⟨e0,e1,e2,-,-,-⟩:=e; rw [← e0,← e1,← e2] at h1; exact (numZ_of (numZ_isN h1) p1.o).below p8.o
       have:=l1GcdN_any _ _ _ _ K T.o.num hn (gcdK_lt (by decide) HS.o.1 k (by omega)) p1.o; unfold Hid; rw [show gcdK n.cs (k+1)=gcdI (gcdK n.cs k) xk by rw [← l9.o]; rfl]; exact this
      clear K2
      go_wp2_with (go_at_call 45; refine N5.o.mono ?_; rintro e w7 ⟨z,rfl,E4,p4⟩; obtain ⟨h0,hn,hp,hl,hc,rfl⟩:=E4.shape'; have P7:=Hd E4; have g7:=Hd (T.o.below p4); obtain ⟨v0,v1,v2⟩:=g7.o.gbx.c3; have f0:=g7.o.gbx.frozen 0; have f1:=g7.o.gbx.frozen 1; have f2:=g7.o.gbx.frozen 2; clear E4 p4)
      have B9:Hid (GS w [.slice (some ⟨gq,0,none⟩) n.cs.length ca,.bool n.st,.int .i64 Z,.bool b6,.slice b3 b5 b4,.int .i64 b7,.bool c9,.slice b8 c7 b9] [.slice none 0 0,.bool false,.int .i64 0,.bool false,.slice none 0 0,.int .i64 0,.bool false,.slice none 0 0] w3.heap.size (gcdK n.cs (k+1)) h0 hn hp hl hc (((w7.setCell ⟨w3.heap.size,0,none⟩ (.int .i64 h0)).setCell ⟨w3.heap.size,1,none⟩ (.bool hn)).setCell ⟨w3.heap.size,2,none⟩ (.slice hp hl hc))):=by
       have u8:=p9.o; refine ⟨bx_one (bx_one (bx_one g7.o.rbx (by omega) _ _) (by omega) _ _) (by omega) _ _,bx_one (bx_one (bx_one g7.o.qbx (by omega) _ _) (by omega) _ _) (by omega) _ _,((g7.o.gbx.set 0 _).set 1 _).set 2 _,numZ_but P7.o (But.three (bx3_noInt g7.o.gbx) _ _ _),set3 g7.o.bel w3.heap.size (by omega) _ _ _,u8⟩
      go_roundw
      case rel=>exact ⟨k+1,_,_,_,_,_,by omega,by go_num,C2.o,B9.o⟩
      case measure=>simp [intOf]; omega
  ·have v3:k=n.cs.length:=by omega
   rw [v3] at HG t6; have n7:Hid (IsWD Wh n.cs (gcdK n.cs n.cs.length)):=.inr ⟨t6.o,rfl⟩; obtain ⟨v0,v1,v2⟩:=hG.gbx.c3; have N6:=Hd (isN_zero (numZ_isN HG.o.num)); clear hG v3 t6
   go_wp2_with fail
   refine (l1Zero_ex _ _ _ _ _ _).mono ?_; rintro e K ⟨rfl,n0⟩; have T:=Hd (HG.o.below n0); rw [N6.o]; clear n0 v0 v1 v2
   by_cases h0:gcdK n.cs n.cs.length=0
   ·rw [decide_eq_true h0]; have H0:=Hd h0; clear h0; obtain ⟨r0,r1,r2,r3,r4,r5,r6,r7⟩:=T.o.rbx.c8; obtain ⟨s0,s1,s2,s3,s4,s5,s6,s7⟩:=T.o.qbx.c8; obtain ⟨f0,f1,f2,f3,f4,f5,f6,f7⟩:=T.o.qbx.f8
    go_wp2_with fail
    have hE:=T.o.qbx.set8 (.slice pa n.cs.length ca) (.bool n.st) (.int .i64 Z) (.bool b6) (.slice b3 b5 b4) (.int .i64 b7) (.bool c9) (.slice b8 c7 b9); obtain ⟨e0,e1,e2,e3,e4,e5,e6,e7⟩:=hE.c8; have m9:=bel8 T.o.bel (g:=w.heap.size+1) (by omega) (.slice pa n.cs.length ca) (.bool n.st) (.int .i64 Z) (.bool b6) (.slice b3 b5 b4) (.int .i64 b7) (.bool c9) (.slice b8 c7 b9); have d4:Rz 0 w [.slice pa n.cs.length ca,.bool n.st,.int .i64 Z,.bool b6,.slice b3 b5 b4,.int .i64 b7,.bool c9,.slice b8 c7 b9] n:=⟨_,_,_,_,_,_,_,rfl,HQ.o,HZ.o⟩; refine bodyPost_ret (v:=.agg #[.slice pa n.cs.length ca,.bool n.st,.int .i64 Z,.bool b6,.slice b3 b5 b4,.int .i64 b7,.bool c9,.slice b8 c7 b9]) ?_ rfl ⟨n,[.slice pa n.cs.length ca,.bool n.st,.int .i64 Z,.bool b6,.slice b3 b5 b4,.int .i64 b7,.bool c9,.slice b8 c7 b9],rfl,⟨_,n7.o,.inl ⟨H0.o,rfl⟩⟩,d4.below m9,m9⟩; clear hE m9 d4; simp [results,Tryz.results36,go_sem,e0,e1,e2,e3,e4,e5,e6,e7]
   ·rw [decide_eq_false h0]; have H0:=Hd h0; clear h0; obtain ⟨wc,A0⟩:=exW (K.alloc (.cells #[.slice none 0 0,.bool false,.int .i64 0,.bool false,.slice none 0 0,.int .i64 0,.bool false,.slice none 0 0] 75)); have J7:Up K wc:=by rw [← A0]; exact below_alloc _ _
    have z6:Bx wc K.heap.size (.slice none 0 0::[.bool false,.int .i64 0,.bool false,.slice none 0 0,.int .i64 0,.bool false,.slice none 0 0]):=by rw [← A0]; exact bx_new K _ _
    have P1:=Hd A0; have G8:=Hd (T.o.below J7); have q6:Hid (w3.heap.size<K.heap.size):=T.o.gbx.lt; have m7:=Hd z6; have O2:Hid (NoInt wc K.heap.size):=bx_noInt z6 (by intro v hv x; simp at hv; rcases hv with rfl|rfl|rfl|rfl|rfl|rfl|rfl|rfl<;>simp); have A3:Hid (RS w wc K.heap.size (.slice none 0 0) [.bool false,.int .i64 0,.bool false,.slice none 0 0,.int .i64 0,.bool false,.slice none 0 0] [] wc):=⟨z6,QRow.nil _ _,fun _ _ _=>rfl,leR,G8.o.bel⟩; obtain ⟨r0,r1,r2,r3,r4,r5,r6,r7⟩:=T.o.rbx.c8; have q1:w.heap.size<K.heap.size:=T.o.rbx.lt; clear A0 J7 z6
    go_wp2_with fail
    rw [P1.o]; clear r0 r1 r2 r3 r4 r5 r6 r7 q1
    go_loopw [44] (fun iv wr=>∃ (k:Nat) (vq:Value) (M:List Int),k≤n.cs.length∧iv=.int .i64 (k:Nat)∧M.length=k∧(∀ i,i<k→∃ r,IsDiv (n.cs.getD i 0) (gcdK n.cs n.cs.length) (M.getD i 0) r)∧RS w wc K.heap.size vq [.bool false,.int .i64 0,.bool false,.slice none 0 0,.int .i64 0,.bool false,.slice none 0 0] (M.map (fun x=>(x,1))) wr) (fun iv _=>n.cs.length - (intOf iv).toNat)
    case atStart=>exact ⟨0,_,[],Nat.zero_le _,rfl,rfl,fun i h=>absurd h (Nat.not_lt_zero _),A3.o⟩
    case round=>
     rename World=>wi
     obtain ⟨k,vq,M,hk,rfl,z9,K7,hR⟩:=hrel; have HR:=Hd hR; have i6:=Hd z9; have q7:=Hd K7; have i4:=Hd (G8.o.same hR.size hR.same q6.o O2.o hR.bel); clear z9 K7 A3
     by_cases v5:k<n.cs.length
     ·have l9:Hid (n.cs.getD k 0=n.cs[k]):=by unfold Hid; rw [List.getD_eq_getElem?_getD,List.getElem?_eq_getElem v5]; rfl
      have p1:Hid (n.cs[k].natAbs<1000000000 ^ 5):=HS.o.1 _ (List.getElem_mem v5); obtain ⟨pq,cq,rfl⟩:=hR.row.form; have n3:(M.map (fun x=>(x,(1:Int)))).length=k:=by rw [List.length_map]; exact i6.o
      rw [n3] at HR hR; obtain ⟨gq,a0,a1,a2,a3,a4,a5,a6,a7,a8,a9,rfl,Q1,⟨q0,q1,q2,q3,q4,q5⟩,k7⟩:=(HQ.o.below hR.bel).at (i:=k) (by rw [List.length_map]; exact v5); rw [List.getElem_map] at k7; obtain ⟨W1,h8⟩:=exW (wi.alloc (.cells #[.int .i64 a0,.bool a1,.slice a2 a3 a4,.int .i64 a5,.bool a6,.slice a7 a8 a9] 55)); have h7:Up wi W1:=by rw [← h8]; exact below_alloc _ _
      have p2:Bx W1 wi.heap.size [.int .i64 a0,.bool a1,.slice a2 a3 a4,.int .i64 a5,.bool a6,.slice a7 a8 a9]:=by rw [← h8]; exact bx_new wi _ _
      have C4:=Hd h8; have h9:=Hd h7; have v9:=Hd (i4.o.below h7); have N3:=Hd (l1DivB_any _ _ n.cs[k] _ W1 (numZ_of (numZ_isN ((qn_num k7).below h7)) p1.o) v9.o.num p1.o H0.o); obtain ⟨y0,y1,y2,y3,y4,y5⟩:=p2.c6; obtain ⟨v0,v1,v2⟩:=v9.o.gbx.c3; have R4:k≤20:=by omega
      have w0:Hid (∀ b,(Value.slice pq k cq).ownBlock=some b→wc.heap.size≤b∧b<wi.heap.size):=fun b e=>by
       obtain ⟨xs,hr,_⟩:=hR.row; exact hr.lt b e
      have N7:=Hd n3; have i2:(k:Int)<(n.cs.length:Int):=by omega
      have A9:K.heap.size<wc.heap.size:=m7.o.lt; clear h8 h7 p2 hR k7 n3
      go_wp2_with (rw [C4.o])
      refine N3.o.mono ?_; rintro e w2 ⟨z1,z2,qk,rk,rfl,E2,L0,K6,p3⟩; obtain ⟨h0,hn,hp,hl,hc,rfl⟩:=E2.shape'; obtain ⟨u0,un,up,ul,uc,rfl⟩:=L0.shape; obtain ⟨W3,K0,i9,x1,x2,K8⟩:=box2 w2 [.int .i64 h0,.bool hn,.slice hp hl hc] [.int .i64 u0,.bool un,.slice up ul uc] 53 53; have C5:=Hd K0; have n6:Hid (Up wi W3):=(h9.o.trans (p3.mono h9.o.size)).trans (i9.mono (h9.o.trans (p3.mono h9.o.size)).size); have U5:=Hd x1; have P6:Hid (NumZ wi.heap.size W3 (.agg #[.int .i64 h0,.bool hn,.slice hp hl hc]) qk 1000):=(E2.mono' h9.o.size (by omega)).below i9; have N2:=Hd K6; have H5:=Hd (HR.o.box.below HR.o.box.lt n6.o); obtain ⟨m0,m1,m2⟩:=x1.c3; have d0:=H5.o.cell 0; simp only [List.getElem?_cons_zero] at d0; have V7:K.heap.size<W3.heap.size:=H5.o.lt; have m6:Hid (∀ W,Up W3 W→Calls Tryz.prog 50 #[.agg #[.int .i64 h0,.bool hn,.slice hp hl hc]] W fun e w'=>∃ z,e=.returned z∧IsQN wi.heap.size w' z qk 1∧Up W3 w'):=fun W hW=>by
       refine (l2OfZ_any wi.heap.size h0 hn hp hl hc qk W (Nat.le_trans n6.o.size hW.size) (P6.o.below hW)).mono ?_; rintro e w' ⟨z,rfl,h1,h2⟩; exact ⟨z,rfl,h1,hW.trans (h2.mono hW.size)⟩
      clear E2 L0 K6 p3 K0 i9 x1 x2 K8 y0 y1 y2 y3 y4 y5 v0 v1 v2
      go_wp2_with (rw [C5.o])
      go_region_law
       (first
         | (refine step_appQ (W:=w4) (base:=wc.heap.size) (v:=.slice pq k cq) (N:=M.map (fun x=>(x,(1:Int)))) (by rfl) _ _ (by rfl) (by rfl) C3.o O3.o _ (by rfl) (by rfl) k N7.o (by omega) O6.o ?_; intro g5 c5 w5 v6 R5 u9; have O4:=Hd v6; have B8:=Hd u9; have A1:=bx_grown C7.o u9 O1.o; have d1:=A1.cell 0; have e1:=A1.frozen 0; simp only [List.getElem?_cons_zero] at d1; have P3:=Hd A1; clear v6 u9 A1)
         | (go_simp; refine (m6.o _ (Below.refl _ _).drew).mono ?_; rintro e w4 ⟨z,rfl,hz,u6⟩; have U4:=Hd u6; have e8:Hid (Up wi w4):=n6.o.trans (u6.mono n6.o.size); obtain ⟨j,y,m,u,s,D,J,E,I,H,rfl,-,-⟩:=id hz; have O3:Hid (Qz wc.heap.size w4 [.int .i64 j,.bool y,.slice m u s,.int .i64 D,.bool J,.slice E I H] qk 1 (Value.slice pq k cq).ownBlock):=(qz_mk hz _ (fun b h1 _ h3=>Nat.lt_irrefl _ (Nat.lt_of_lt_of_le (w0.o b h3).2 h1))).mono HR.o.size; have C3:Hid (QRow wc.heap.size w4 (.slice pq k cq) (M.map (fun x=>(x,(1:Int))))):=HR.o.row.below e8.o; have O6:Hid (wc.heap.size≤w4.heap.size):=Nat.le_trans HR.o.size e8.o.size; have C7:=Hd (HR.o.box.below HR.o.box.lt e8.o); have O1:Hid ((Value.slice pq k cq).ownBlock≠some K.heap.size):=fun e=>Nat.lt_irrefl _ (Nat.lt_of_lt_of_le A9 (w0.o _ e).1); have d0:w4.cell? ⟨K.heap.size,0,none⟩=some (.slice pq k cq):=C7.o.cell 0; have q3:K.heap.size<w4.heap.size:=C7.o.lt; clear hz u6; go_wp2_with fail))
      all_goals
       go_wp2_with fail
       refine ⟨⟨k+1,.slice (some ⟨g5,0,none⟩) (k+1) c5,M++[qk],by omega,by go_num,by rw [List.length_append,i6.o]; rfl,fun i hi=>?_,?_⟩,by simp [intOf]; omega⟩
       ·have z9:=i6.o
        by_cases e:i=k
        ·subst e; refine ⟨rk,?_⟩; rw [l9.o,List.getD_eq_getElem?_getD (l:=M++[qk]),List.getElem?_append_right (by omega),z9,Nat.sub_self]; exact N2.o
        ·obtain ⟨r,hr⟩:=q7.o i (by omega); refine ⟨r,?_⟩; rw [List.getD_eq_getElem?_getD (l:=M)] at hr; rw [List.getD_eq_getElem?_getD (l:=M++[qk]),List.getElem?_append_left (by omega)]; exact hr
       ·rw [List.map_append]; have D8:=q6.o; have u8:=p9.o; refine ⟨P3.o.set 0 _,O4.o.low ⟨K.heap.size,0,none⟩ _ A9,fun b h1 h2=>?_,?_,?_⟩
        ·have h4:=HR.o.size; have h5:=e8.o.size; rw [Below.heap_setCell _ ⟨K.heap.size,0,none⟩ _ _ h2,B8.o.block b (by omega) (fun e=>by have:=(w0.o b e.symm).1; omega),e8.o.block b (by omega)]; exact HR.o.same b h1 h2
        ·have h4:=HR.o.size; have h5:=e8.o.size; have h6:=B8.o.size; simp; omega
        ·have K3:=HR.o.bel.trans (e8.o.mono HR.o.bel.size); exact (K3.grown B8.o K3.size (fun k e=>by have:=(w0.o k e).1; omega)).setCell (p:=⟨K.heap.size,0,none⟩) (by show _≤K.heap.size; omega) _
     ·have v3:k=n.cs.length:=by omega
      rw [v3] at i6 q7; obtain ⟨pq,cq,rfl⟩:=hR.row.form; rw [List.length_map,i6.o] at HR; have C0:Hid (0<gcdK n.cs n.cs.length):=by have:=gcdK_pos n.cs n.cs.length; have:=H0.o; unfold Hid; omega
      obtain ⟨r0,r1,r2,r3,r4,r5,r6,r7⟩:=i4.o.rbx.c8; obtain ⟨v0,v1,v2⟩:=i4.o.gbx.c3; clear hR v3
      go_wp2_with fail
      have N9:=Hd (l2Make_any 0 (.agg #[.int .i64 Z,.bool b6,.slice b3 b5 b4]) (.agg #[.int .i64 z0,.bool zn,.slice D1 D0 C9]) n.bd (gcdK n.cs n.cs.length) wi (Nat.zero_le _) (qn_num (HZ.o.below HR.o.bel).isQN) (i4.o.num.mono' leR (by omega)) H0.o); refine N9.o.mono ?_; rintro e w7 ⟨zb,bp,bq,rfl,n5,B2,p4⟩; obtain ⟨I2,I6,I3,I5,I4,I7,J1,I8,J0,I9,rfl,-,-⟩:=id n5; obtain ⟨W8,z5⟩:=exW (w7.alloc (.cells #[.int .i64 I2,.bool I6,.slice I3 I5 I4,.int .i64 I7,.bool J1,.slice I8 J0 I9] 55)); have D3:Up w7 W8:=by rw [← z5]; exact below_alloc _ _
      have D4:Bx W8 w7.heap.size [.int .i64 I2,.bool I6,.slice I3 I5 I4,.int .i64 I7,.bool J1,.slice I8 J0 I9]:=by rw [← z5]; exact bx_new w7 _ _
      have P0:=Hd z5; have H8:=Hd D4; have B5:Hid (Up wi W8):=p4.trans (D3.mono p4.size); have i5:=Hd B2; have H3:=Hd (n5.below D3); obtain ⟨x0,x1,x2,x3,x4,x5⟩:=D4.c6; clear n5 B2 p4 z5 D3 D4 r0 r1 r2 r3 r4 r5 r6 r7 v0 v1 v2
      go_wp2_with (rw [P0.o])
      refine (l2Floor_any 0 _ bp bq W8 (Nat.zero_le _) H3.o (by obtain ⟨_,_,_,_,h,_⟩:=i5.o; omega)).mono ?_; rintro e Y ⟨zf,fl,rf,rfl,E6,D7,o9⟩; obtain ⟨f0,fn,fp,g9,fc,rfl⟩:=E6.shape; obtain ⟨g8,o8⟩:=exW (Y.alloc (.cells #[.int .i64 f0,.bool fn,.slice fp g9 fc] 53)); have t9:Up Y g8:=by rw [← o8]; exact below_alloc _ _
      have A7:Bx g8 Y.heap.size [.int .i64 f0,.bool fn,.slice fp g9 fc]:=by rw [← o8]; exact bx_new Y _ _
      have r8:=Hd o8; have g4:=Hd A7; have l8:Hid (Up W8 g8):=o9.trans (t9.mono o9.size); have d7:Hid (Up wi g8):=B5.o.trans (l8.o.mono B5.o.size); have B7:=Hd D7; have G7:Hid (fl.natAbs+1<1000000000 ^ 6):=by
       unfold Hid; have h1:=div_abs D7; have h2:=lt56 HS.o.2; obtain ⟨c,hc,e1,_,_,_⟩:=i5.o; have h3:bp.natAbs≤n.bd.natAbs:=by
        rw [e1,Int.natAbs_mul]; exact Nat.le_mul_of_pos_right _ (by omega)
       omega
      have C1:Hid (NumZ 0 g8 (.agg #[.int .i64 f0,.bool fn,.slice fp g9 fc]) fl 6):=numZ_of (E6.below t9) (by have:=G7.o; omega); have A8:=H8.o.below H8.o.lt l8.o; obtain ⟨x0,x1,x2,x3,x4,x5⟩:=A8.c6; have H6:Hid (wi.heap.size≤Y.heap.size):=Nat.le_trans B5.o.size o9.size; have H2:=Hd (H3.o.below l8.o); have B1:=i4.o.below d7.o; obtain ⟨r0,r1,r2,r3,r4,r5,r6,r7⟩:=B1.rbx.c8; clear E6 D7 o9 o8 t9 A7 A8 B1
      cases k8:n.st with
      | false=>
        rw [k8] at r1; have q9:Hid (∃ r',IsDiv (n.bd - if n.st=true then 1 else 0) (gcdK n.cs n.cs.length) fl r'):=by
         obtain ⟨r',h⟩:=floor_tight n.st C0.o i5.o B7.o; rw [k8] at h ⊢; simp only [Bool.false_and,Bool.false_eq_true,if_false,Int.sub_zero] at h ⊢; exact ⟨r',h⟩
        clear k8; obtain ⟨k0,k1,k2⟩:=g4.o.c3
        go_wp2_with (rw [r8.o])
        obtain ⟨t0,t1,t2⟩:=g4.o.c3; have m6:Hid (Calls Tryz.prog 50 #[.agg #[.int .i64 f0,.bool fn,.slice fp g9 fc]] g8 fun e w'=>∃ z,e=.returned z∧IsQN 0 w' z (fl) 1∧Up g8 w'):=l2OfZ_any 0 f0 fn fp g9 fc _ g8 (Nat.zero_le _) (C1.o.mono' leR (by omega))
        go_wp2_with fail
        refine m6.o.mono ?_; rintro e w9 ⟨z,rfl,g1,j8⟩; obtain ⟨j,y,m,u,s,D,J,E,I,H,rfl,-,-⟩:=id g1; have d9:Hid (Up wi w9):=d7.o.trans (j8.mono d7.o.size); have d3:=Hd (HR.o.box.below HR.o.box.lt d9.o); have i3:=Hd (i4.o.below d9.o); have U:=Hd (HR.o.row.below d9.o); have t3:=Hd (qz_mk g1 none (fun b _ _ h=>by cases h)); obtain ⟨WE,O⟩:=exW ((((((w9.setCell ⟨K.heap.size,2,none⟩ (.int .i64 j)).setCell ⟨K.heap.size,3,none⟩ (.bool y)).setCell ⟨K.heap.size,4,none⟩ (.slice m u s)).setCell ⟨K.heap.size,5,none⟩ (.int .i64 D)).setCell ⟨K.heap.size,6,none⟩ (.bool J)).setCell ⟨K.heap.size,7,none⟩ (.slice E I H)); have D8:=q6.o; have u8:=p9.o; have s9:Hid (Bx WE K.heap.size [.slice pq n.cs.length cq,.bool false,.int .i64 j,.bool y,.slice m u s,.int .i64 D,.bool J,.slice E I H]):=by unfold Hid; rw [← O]; exact (((((d3.o.set 2 _).set 3 _).set 4 _).set 5 _).set 6 _).set 7 _
        have j9:Bx w9 (w.heap.size+1) [.slice none 0 0,.bool false,.int .i64 0,.bool false,.slice none 0 0,.int .i64 0,.bool false,.slice none 0 0]:=i3.o.qbx; have d2:Hid (Bx WE (w.heap.size+1) [.slice none 0 0,.bool false,.int .i64 0,.bool false,.slice none 0 0,.int .i64 0,.bool false,.slice none 0 0]):=by unfold Hid; rw [← O]; exact bx_one (bx_one (bx_one (bx_one (bx_one (bx_one j9 (by omega) _ _) (by omega) _ _) (by omega) _ _) (by omega) _ _) (by omega) _ _) (by omega) _ _
        have i0:Hid (But K.heap.size w9 WE):=by unfold Hid; rw [← O]; exact But.six (bx_noInt d3.o (by intro v hv x; simp at hv; rcases hv with rfl|rfl|rfl|rfl|rfl|rfl|rfl|rfl<;>simp)) _ _ _ _ _ _
        have p7:Hid (Up w WE):=by unfold Hid; rw [← O]; exact bel6 i3.o.bel (by omega) _ _ _ _ _ _
        have i7:Hid (QRow wc.heap.size WE (.slice pq n.cs.length cq) (M.map (fun x=>(x,1)))):=U.o.but i0.o (fun e=>by have:=(U.o.lt e).1; have:=m7.o.lt; omega); have t5:Hid (Qz 0 WE [.int .i64 j,.bool y,.slice m u s,.int .i64 D,.bool J,.slice E I H] (fl) 1 none):=t3.o.but i0.o; obtain ⟨o0,o1,o2,o3,o4,o5,o6,o7⟩:=d3.o.c8; obtain ⟨j0,j1,j2,j3,j4,j5,j6,j7⟩:=d3.o.f8; obtain ⟨l0,l1,l2,l3,l4,l5,l6,l7⟩:=s9.o.c8; obtain ⟨s0,s1,s2,s3,s4,s5,s6,s7⟩:=d2.o.c8; obtain ⟨f0,f1,f2,f3,f4,f5,f6,f7⟩:=d2.o.f8; have r9:=Hd O; clear O g1 j8 j9 t0 t1 t2
        go_wp2_with (rw [r9.o])
        have hE:=d2.o.set8 (.slice pq n.cs.length cq) (.bool false) (.int .i64 j) (.bool y) (.slice m u s) (.int .i64 D) (.bool J) (.slice E I H); obtain ⟨e0,e1,e2,e3,e4,e5,e6,e7⟩:=hE.c8; have i8:=bel8 p7.o (g:=w.heap.size+1) (by omega) (.slice pq n.cs.length cq) (.bool false) (.int .i64 j) (.bool y) (.slice m u s) (.int .i64 D) (.bool J) (.slice E I H); have V:=But.eight (q8_noInt d2.o) (.slice pq n.cs.length cq) (.bool false) (.int .i64 j) (.bool y) (.slice m u s) (.int .i64 D) (.bool J) (.slice E I H); have d4:Rz 0 ((((((((WE.setCell ⟨w.heap.size+1,0,none⟩ (.slice pq n.cs.length cq)).setCell ⟨w.heap.size+1,1,none⟩ (.bool false)).setCell ⟨w.heap.size+1,2,none⟩ (.int .i64 j)).setCell ⟨w.heap.size+1,3,none⟩ (.bool y)).setCell ⟨w.heap.size+1,4,none⟩ (.slice m u s)).setCell ⟨w.heap.size+1,5,none⟩ (.int .i64 D)).setCell ⟨w.heap.size+1,6,none⟩ (.bool J)).setCell ⟨w.heap.size+1,7,none⟩ (.slice E I H)) [.slice pq n.cs.length cq,.bool false,.int .i64 j,.bool y,.slice m u s,.int .i64 D,.bool J,.slice E I H] ⟨M,false,fl⟩:=⟨_,_,_,_,_,_,_,rfl,(i7.o.but V (fun e=>by have:=(i7.o.lt e).1; have:=m7.o.lt; omega)).mono (Nat.zero_le _),t5.o.but V⟩; have u2:Tight Wh n ⟨M,false,fl⟩:=⟨_,n7.o,.inr ⟨H0.o,rfl,i6.o,q7.o,q9.o⟩⟩; refine bodyPost_ret (v:=.agg #[.slice pq n.cs.length cq,.bool false,.int .i64 j,.bool y,.slice m u s,.int .i64 D,.bool J,.slice E I H]) ?_ rfl ⟨⟨M,false,fl⟩,[.slice pq n.cs.length cq,.bool false,.int .i64 j,.bool y,.slice m u s,.int .i64 D,.bool J,.slice E I H],rfl,u2,d4,i8⟩; clear hE i8 V d4; simp [results,Tryz.results36,go_sem,e0,e1,e2,e3,e4,e5,e6,e7]
      | true=>
        rw [k8] at r1; have w8:=Hd (l2Whole_any 0 _ bp bq g8 (Nat.zero_le _) H2.o)
        by_cases p5:bq=1
        ·have q9:Hid (∃ r',IsDiv (n.bd - if n.st=true then 1 else 0) (gcdK n.cs n.cs.length) (fl - 1) r'):=by
          obtain ⟨r',h⟩:=floor_tight n.st C0.o i5.o B7.o; rw [k8] at h ⊢; simp only [Bool.true_and,if_true,decide_eq_true_eq,if_pos p5] at h ⊢; exact ⟨r',h⟩
         have u7:decide (bq=1)=true:=decide_eq_true p5; rw [u7] at w8; clear k8 p5 u7
         go_wp2_with (first|(rw [r8.o])|(go_at_call 40; refine w8.o.mono ?_; rintro e d5 ⟨rfl,g6⟩; have g3:=Hd g6; clear g6))
         have d8:Hid (Up wi d5):=d7.o.trans (g3.o.mono d7.o.size); have e9:=Hd (g4.o.below g4.o.lt g3.o); have q8:=Hd (C1.o.below g3.o); have B6:Hid (∀ W,Up d5 W→(W.cell? ⟨Y.heap.size,0,none⟩=some (.int .i64 f0)∧W.cell? ⟨Y.heap.size,1,none⟩=some (.bool fn)∧W.cell? ⟨Y.heap.size,2,none⟩=some (.slice fp g9 fc))∧W.frozen? ⟨Y.heap.size,0,none⟩=false∧W.frozen? ⟨Y.heap.size,1,none⟩=false∧W.frozen? ⟨Y.heap.size,2,none⟩=false):=fun W hW=>by
          have h2:=e9.o.below e9.o.lt hW; exact ⟨h2.c3,h2.frozen 0,h2.frozen 1,h2.frozen 2⟩
         have O8:Hid (∀ W,Up d5 W→Calls Tryz.prog 21 #[.int .i64 1] W fun e w'=>∃ z,e=.returned z∧NumZ 0 w' z 1 3∧Up d5 w'):=fun W hW=>by
          refine (l1Small_any 1 W (by decide) (by decide)).mono ?_; rintro e w' ⟨z,rfl,h1,h2⟩; exact ⟨z,rfl,h1.mono' (Nat.zero_le _) leR,hW.trans (h2.mono hW.size)⟩
         have O7:Hid (∀ W z,Up d5 W→NumZ 0 W z 1 3→Calls Tryz.prog 71 #[.agg #[.int .i64 f0,.bool fn,.slice fp g9 fc],z] W fun e w'=>∃ z',e=.returned z'∧NumZ 0 w' z' (fl - 1) 6∧Up d5 w'):=fun W z hW hz=>by
          obtain ⟨n1,t1,k1,k2,k3⟩:=q8.o.below hW; obtain ⟨n2,t2,k4,k5,k6⟩:=hz; refine (l1Sub_any 0 _ _ n1 n2 t1 t2 W (Nat.zero_le _) k1 k4 (by omega) (by omega)).mono ?_; rintro e w' ⟨z',rfl,h1,h2⟩; rw [k2,k5] at h1; exact ⟨z',rfl,numZ_of (h1.mono (Nat.zero_le _)) (by have:=G7.o; omega),hW.trans (h2.mono hW.size)⟩
         obtain ⟨⟨m0,m1,m2⟩,m3,m4,m5⟩:=B6.o d5 (Below.refl _ _)
         go_region_with (first
          | (go_at_call 21; refine (O8.o _ (Below.refl _ _).drew).mono ?_; rintro e wa ⟨za,rfl,E5,D5⟩; obtain ⟨b0,bn,U6,bl,bc,rfl⟩:=E5.shape'; have P8:=Hd E5; have N1:=Hd D5; obtain ⟨⟨m0,m1,m2⟩,m3,m4,m5⟩:=B6.o wa D5; clear E5 D5)
          | (go_at_call 71; refine (O7.o _ _ N1.o P8.o).mono ?_; rintro e wb ⟨zb,rfl,n5,D6⟩; obtain ⟨d0,dn,dp,dl,dc,rfl⟩:=n5.shape'; have P9:=Hd n5; have G5:=Hd D6; obtain ⟨⟨m0,m1,m2⟩,m3,m4,m5⟩:=B6.o wb D6; clear n5 D6))
         all_goals
          go_wp2_with fail
          obtain ⟨WC,u5⟩:=exW (((wb.setCell ⟨Y.heap.size,0,none⟩ (.int .i64 d0)).setCell ⟨Y.heap.size,1,none⟩ (.bool dn)).setCell ⟨Y.heap.size,2,none⟩ (.slice dp dl dc)); have E1:=e9.o.below e9.o.lt G5.o; have P4:Hid (Bx WC Y.heap.size [.int .i64 d0,.bool dn,.slice dp dl dc]):=by unfold Hid; rw [← u5]; exact ((E1.set 0 _).set 1 _).set 2 _
          have O0:Hid (NumZ 0 WC (.agg #[.int .i64 d0,.bool dn,.slice dp dl dc]) (fl - 1) 6):=by unfold Hid; rw [← u5]; exact numZ_but P9.o (But.three (bx3_noInt E1) _ _ _)
          have G6:Hid (Up wi WC):=by unfold Hid; rw [← u5]; exact set3 (d8.o.trans (G5.o.mono d8.o.size)) Y.heap.size H6.o _ _ _
          rw [u5]; clear u5 E1 m0 m1 m2 m3 m4 m5; obtain ⟨t0,t1,t2⟩:=P4.o.c3; have m6:Hid (Calls Tryz.prog 50 #[.agg #[.int .i64 d0,.bool dn,.slice dp dl dc]] WC fun e w'=>∃ z,e=.returned z∧IsQN 0 w' z (fl - 1) 1∧Up WC w'):=l2OfZ_any 0 d0 dn dp dl dc _ WC (Nat.zero_le _) (O0.o.mono' leR (by omega))
          go_wp2_with fail
          refine m6.o.mono ?_; rintro e w9 ⟨z,rfl,g1,j8⟩; obtain ⟨j,y,m,u,s,D,J,E,I,H,rfl,-,-⟩:=id g1; have d9:Hid (Up wi w9):=G6.o.trans (j8.mono G6.o.size); have d3:=Hd (HR.o.box.below HR.o.box.lt d9.o); have i3:=Hd (i4.o.below d9.o); have U:=Hd (HR.o.row.below d9.o); have t3:=Hd (qz_mk g1 none (fun b _ _ h=>by cases h)); obtain ⟨WE,O⟩:=exW ((((((w9.setCell ⟨K.heap.size,2,none⟩ (.int .i64 j)).setCell ⟨K.heap.size,3,none⟩ (.bool y)).setCell ⟨K.heap.size,4,none⟩ (.slice m u s)).setCell ⟨K.heap.size,5,none⟩ (.int .i64 D)).setCell ⟨K.heap.size,6,none⟩ (.bool J)).setCell ⟨K.heap.size,7,none⟩ (.slice E I H)); have D8:=q6.o; have u8:=p9.o; have s9:Hid (Bx WE K.heap.size [.slice pq n.cs.length cq,.bool false,.int .i64 j,.bool y,.slice m u s,.int .i64 D,.bool J,.slice E I H]):=by unfold Hid; rw [← O]; exact (((((d3.o.set 2 _).set 3 _).set 4 _).set 5 _).set 6 _).set 7 _
          have j9:Bx w9 (w.heap.size+1) [.slice none 0 0,.bool false,.int .i64 0,.bool false,.slice none 0 0,.int .i64 0,.bool false,.slice none 0 0]:=i3.o.qbx; have d2:Hid (Bx WE (w.heap.size+1) [.slice none 0 0,.bool false,.int .i64 0,.bool false,.slice none 0 0,.int .i64 0,.bool false,.slice none 0 0]):=by unfold Hid; rw [← O]; exact bx_one (bx_one (bx_one (bx_one (bx_one (bx_one j9 (by omega) _ _) (by omega) _ _) (by omega) _ _) (by omega) _ _) (by omega) _ _) (by omega) _ _
          have i0:Hid (But K.heap.size w9 WE):=by unfold Hid; rw [← O]; exact But.six (bx_noInt d3.o (by intro v hv x; simp at hv; rcases hv with rfl|rfl|rfl|rfl|rfl|rfl|rfl|rfl<;>simp)) _ _ _ _ _ _
          have p7:Hid (Up w WE):=by unfold Hid; rw [← O]; exact bel6 i3.o.bel (by omega) _ _ _ _ _ _
          have i7:Hid (QRow wc.heap.size WE (.slice pq n.cs.length cq) (M.map (fun x=>(x,1)))):=U.o.but i0.o (fun e=>by have:=(U.o.lt e).1; have:=m7.o.lt; omega); have t5:Hid (Qz 0 WE [.int .i64 j,.bool y,.slice m u s,.int .i64 D,.bool J,.slice E I H] (fl - 1) 1 none):=t3.o.but i0.o; obtain ⟨o0,o1,o2,o3,o4,o5,o6,o7⟩:=d3.o.c8; obtain ⟨j0,j1,j2,j3,j4,j5,j6,j7⟩:=d3.o.f8; obtain ⟨l0,l1,l2,l3,l4,l5,l6,l7⟩:=s9.o.c8; obtain ⟨s0,s1,s2,s3,s4,s5,s6,s7⟩:=d2.o.c8; obtain ⟨f0,f1,f2,f3,f4,f5,f6,f7⟩:=d2.o.f8; have r9:=Hd O; clear O g1 j8 j9 t0 t1 t2
          go_wp2_with (rw [r9.o])
          have hE:=d2.o.set8 (.slice pq n.cs.length cq) (.bool false) (.int .i64 j) (.bool y) (.slice m u s) (.int .i64 D) (.bool J) (.slice E I H); obtain ⟨e0,e1,e2,e3,e4,e5,e6,e7⟩:=hE.c8; have i8:=bel8 p7.o (g:=w.heap.size+1) (by omega) (.slice pq n.cs.length cq) (.bool false) (.int .i64 j) (.bool y) (.slice m u s) (.int .i64 D) (.bool J) (.slice E I H); have V:=But.eight (q8_noInt d2.o) (.slice pq n.cs.length cq) (.bool false) (.int .i64 j) (.bool y) (.slice m u s) (.int .i64 D) (.bool J) (.slice E I H); have d4:Rz 0 ((((((((WE.setCell ⟨w.heap.size+1,0,none⟩ (.slice pq n.cs.length cq)).setCell ⟨w.heap.size+1,1,none⟩ (.bool false)).setCell ⟨w.heap.size+1,2,none⟩ (.int .i64 j)).setCell ⟨w.heap.size+1,3,none⟩ (.bool y)).setCell ⟨w.heap.size+1,4,none⟩ (.slice m u s)).setCell ⟨w.heap.size+1,5,none⟩ (.int .i64 D)).setCell ⟨w.heap.size+1,6,none⟩ (.bool J)).setCell ⟨w.heap.size+1,7,none⟩ (.slice E I H)) [.slice pq n.cs.length cq,.bool false,.int .i64 j,.bool y,.slice m u s,.int .i64 D,.bool J,.slice E I H] ⟨M,false,fl - 1⟩:=⟨_,_,_,_,_,_,_,rfl,(i7.o.but V (fun e=>by have:=(i7.o.lt e).1; have:=m7.o.lt; omega)).mono (Nat.zero_le _),t5.o.but V⟩; have u2:Tight Wh n ⟨M,false,fl - 1⟩:=⟨_,n7.o,.inr ⟨H0.o,rfl,i6.o,q7.o,q9.o⟩⟩; refine bodyPost_ret (v:=.agg #[.slice pq n.cs.length cq,.bool false,.int .i64 j,.bool y,.slice m u s,.int .i64 D,.bool J,.slice E I H]) ?_ rfl ⟨⟨M,false,fl - 1⟩,[.slice pq n.cs.length cq,.bool false,.int .i64 j,.bool y,.slice m u s,.int .i64 D,.bool J,.slice E I H],rfl,u2,d4,i8⟩; clear hE i8 V d4; simp [results,Tryz.results36,go_sem,e0,e1,e2,e3,e4,e5,e6,e7]
        ·have q9:Hid (∃ r',IsDiv (n.bd - if n.st=true then 1 else 0) (gcdK n.cs n.cs.length) fl r'):=by
          obtain ⟨r',h⟩:=floor_tight n.st C0.o i5.o B7.o; rw [k8] at h ⊢; simp only [Bool.true_and,if_true,decide_eq_true_eq,if_neg p5,Int.sub_zero] at h ⊢; exact ⟨r',h⟩
         have u7:decide (bq=1)=false:=decide_eq_false p5; rw [u7] at w8; clear k8 p5 u7
         go_wp2_with (first|(rw [r8.o])|(go_at_call 40; refine w8.o.mono ?_; rintro e d5 ⟨rfl,g6⟩; have g3:=Hd g6; have e9:=Hd (g4.o.below g4.o.lt g6); obtain ⟨k0,k1,k2⟩:=e9.o.c3; clear g6))
         have d8:Hid (Up wi d5):=d7.o.trans (g3.o.mono d7.o.size); have q8:=Hd (C1.o.below g3.o); obtain ⟨t0,t1,t2⟩:=e9.o.c3; have m6:Hid (Calls Tryz.prog 50 #[.agg #[.int .i64 f0,.bool fn,.slice fp g9 fc]] d5 fun e w'=>∃ z,e=.returned z∧IsQN 0 w' z (fl) 1∧Up d5 w'):=l2OfZ_any 0 f0 fn fp g9 fc _ d5 (Nat.zero_le _) (q8.o.mono' leR (by omega))
         go_wp2_with fail
         refine m6.o.mono ?_; rintro e w9 ⟨z,rfl,g1,j8⟩; obtain ⟨j,y,m,u,s,D,J,E,I,H,rfl,-,-⟩:=id g1; have d9:Hid (Up wi w9):=d8.o.trans (j8.mono d8.o.size); have d3:=Hd (HR.o.box.below HR.o.box.lt d9.o); have i3:=Hd (i4.o.below d9.o); have U:=Hd (HR.o.row.below d9.o); have t3:=Hd (qz_mk g1 none (fun b _ _ h=>by cases h)); obtain ⟨WE,O⟩:=exW ((((((w9.setCell ⟨K.heap.size,2,none⟩ (.int .i64 j)).setCell ⟨K.heap.size,3,none⟩ (.bool y)).setCell ⟨K.heap.size,4,none⟩ (.slice m u s)).setCell ⟨K.heap.size,5,none⟩ (.int .i64 D)).setCell ⟨K.heap.size,6,none⟩ (.bool J)).setCell ⟨K.heap.size,7,none⟩ (.slice E I H)); have D8:=q6.o; have u8:=p9.o; have s9:Hid (Bx WE K.heap.size [.slice pq n.cs.length cq,.bool false,.int .i64 j,.bool y,.slice m u s,.int .i64 D,.bool J,.slice E I H]):=by unfold Hid; rw [← O]; exact (((((d3.o.set 2 _).set 3 _).set 4 _).set 5 _).set 6 _).set 7 _
         have j9:Bx w9 (w.heap.size+1) [.slice none 0 0,.bool false,.int .i64 0,.bool false,.slice none 0 0,.int .i64 0,.bool false,.slice none 0 0]:=i3.o.qbx; have d2:Hid (Bx WE (w.heap.size+1) [.slice none 0 0,.bool false,.int .i64 0,.bool false,.slice none 0 0,.int .i64 0,.bool false,.slice none 0 0]):=by unfold Hid; rw [← O]; exact bx_one (bx_one (bx_one (bx_one (bx_one (bx_one j9 (by omega) _ _) (by omega) _ _) (by omega) _ _) (by omega) _ _) (by omega) _ _) (by omega) _ _
         have i0:Hid (But K.heap.size w9 WE):=by unfold Hid; rw [← O]; exact But.six (bx_noInt d3.o (by intro v hv x; simp at hv; rcases hv with rfl|rfl|rfl|rfl|rfl|rfl|rfl|rfl<;>simp)) _ _ _ _ _ _
         have p7:Hid (Up w WE):=by unfold Hid; rw [← O]; exact bel6 i3.o.bel (by omega) _ _ _ _ _ _
         have i7:Hid (QRow wc.heap.size WE (.slice pq n.cs.length cq) (M.map (fun x=>(x,1)))):=U.o.but i0.o (fun e=>by have:=(U.o.lt e).1; have:=m7.o.lt; omega); have t5:Hid (Qz 0 WE [.int .i64 j,.bool y,.slice m u s,.int .i64 D,.bool J,.slice E I H] (fl) 1 none):=t3.o.but i0.o; obtain ⟨o0,o1,o2,o3,o4,o5,o6,o7⟩:=d3.o.c8; obtain ⟨j0,j1,j2,j3,j4,j5,j6,j7⟩:=d3.o.f8; obtain ⟨l0,l1,l2,l3,l4,l5,l6,l7⟩:=s9.o.c8; obtain ⟨s0,s1,s2,s3,s4,s5,s6,s7⟩:=d2.o.c8; obtain ⟨f0,f1,f2,f3,f4,f5,f6,f7⟩:=d2.o.f8; have r9:=Hd O; clear O g1 j8 j9 t0 t1 t2
         go_wp2_with (rw [r9.o])
         have hE:=d2.o.set8 (.slice pq n.cs.length cq) (.bool false) (.int .i64 j) (.bool y) (.slice m u s) (.int .i64 D) (.bool J) (.slice E I H); obtain ⟨e0,e1,e2,e3,e4,e5,e6,e7⟩:=hE.c8; have i8:=bel8 p7.o (g:=w.heap.size+1) (by omega) (.slice pq n.cs.length cq) (.bool false) (.int .i64 j) (.bool y) (.slice m u s) (.int .i64 D) (.bool J) (.slice E I H); have V:=But.eight (q8_noInt d2.o) (.slice pq n.cs.length cq) (.bool false) (.int .i64 j) (.bool y) (.slice m u s) (.int .i64 D) (.bool J) (.slice E I H); have d4:Rz 0 ((((((((WE.setCell ⟨w.heap.size+1,0,none⟩ (.slice pq n.cs.length cq)).setCell ⟨w.heap.size+1,1,none⟩ (.bool false)).setCell ⟨w.heap.size+1,2,none⟩ (.int .i64 j)).setCell ⟨w.heap.size+1,3,none⟩ (.bool y)).setCell ⟨w.heap.size+1,4,none⟩ (.slice m u s)).setCell ⟨w.heap.size+1,5,none⟩ (.int .i64 D)).setCell ⟨w.heap.size+1,6,none⟩ (.bool J)).setCell ⟨w.heap.size+1,7,none⟩ (.slice E I H)) [.slice pq n.cs.length cq,.bool false,.int .i64 j,.bool y,.slice m u s,.int .i64 D,.bool J,.slice E I H] ⟨M,false,fl⟩:=⟨_,_,_,_,_,_,_,rfl,(i7.o.but V (fun e=>by have:=(i7.o.lt e).1; have:=m7.o.lt; omega)).mono (Nat.zero_le _),t5.o.but V⟩; have u2:Tight Wh n ⟨M,false,fl⟩:=⟨_,n7.o,.inr ⟨H0.o,rfl,i6.o,q7.o,q9.o⟩⟩; refine bodyPost_ret (v:=.agg #[.slice pq n.cs.length cq,.bool false,.int .i64 j,.bool y,.slice m u s,.int .i64 D,.bool J,.slice E I H]) ?_ rfl ⟨⟨M,false,fl⟩,[.slice pq n.cs.length cq,.bool false,.int .i64 j,.bool y,.slice m u s,.int .i64 D,.bool J,.slice E I H],rfl,u2,d4,i8⟩; clear hE i8 V d4; simp [results,Tryz.results36,go_sem,e0,e1,e2,e3,e4,e5,e6,e7]
theorem noInt_row {w:World} {g:Nat} {cur:Array Value} {e:TypeId} {fz:Nat×Nat} (h:w.heap[g]? = some (.cells cur e fz)) (hc:∀ u∈cur.toList,∀ x,u≠.int .u32 x):NoInt w g:=fun i x=>by
 rw [cell_of_row w g i cur e fz h]
 intro j
 exact hc _ (by rw [← Array.getElem?_toList] at j; exact List.mem_of_getElem? j) x rfl
theorem noInt_cells {w:World} {g:Nat} {cur:Array Value} {e:TypeId} {fz:Nat×Nat} (h:w.heap[g]? = some (.cells cur e fz)) (hn:NoInt w g):∀ u∈cur.toList,∀ x,u≠.int .u32 x:=fun u hu x hx=>by
 obtain ⟨i,j,rfl⟩:=List.getElem_of_mem hu
 refine hn i x ?_
 rw [cell_of_row w g i cur e fz h,← Array.getElem?_toList,List.getElem?_eq_getElem j,hx]
theorem zeroRow_no (n:Nat):∀ u∈(Builtin.zeroCells (Value.cells (.agg #[.slice none 0 0,.bool false,.int .i64 0,.bool false,.slice none 0 0,.int .i64 0,.bool false,.slice none 0 0])) n).toList,∀ x,u≠.int .u32 x:=by
 intro u j x y; subst y; simp [Builtin.zeroCells,Value.cells] at j; obtain ⟨a,_,h⟩:=j; have m:=Nat.mod_lt a (show 0<8 by decide); generalize a % 8=k at h m; have s:k=0∨k=1∨k=2∨k=3∨k=4∨k=5∨k=6∨k=7:=by omega
 rcases s with rfl|rfl|rfl|rfl|rfl|rfl|rfl|rfl<;>simp at h
theorem append_no {w w':World} {base:Nat} {v:Value} {n g cap:Nat} {xs:List Value} (hown:w.ownsRow base 75 8 v n xs) (hno:∀ g,v.ownBlock=some g→NoInt w g) (ty:TypeId) (a:Addr) (news:List Value) (hl:news.length=1*8) (hnews:∀ j u,news[j]? = some u→w.cell? (a.add j)=some u) (h1:∀ u∈news,u.oneCell'=true) (hnn:∀ u∈news,∀ x,u≠.int .u32 x) (hn:n≤1000000000)
 (hr:(Builtin.append_ #[42,42] ty #[v,.slice (some a) 1 1]).run Tryz.prog w=.ok (.slice (some ⟨g,0,none⟩) (n+1) cap) w'):NoInt w' g:=by
 obtain ⟨U,s,O,y,T⟩:=info_lr
 rcases hown.2 with ⟨rfl,rfl⟩|⟨D,m,E,rfl,Y,M,a3,Z,V,J⟩
 ·have h:=run_append_nil (P:=Tryz.prog) w 42 ty 75 U _ Tryz.underlying42 s O a 1 1 news (by rw [y]; exact hl) hnews (by decide) (by decide) (by rw [T]; decide); rw [h] at hr; simp only [Result.ok.injEq,Value.slice.injEq,Option.some.injEq,Addr.mk.injEq,and_true] at hr; obtain ⟨⟨rfl,-⟩,rfl⟩:=hr; refine noInt_row (heap_alloc_new w.drew _) ?_; intro u hu x; rw [Array.toList_append,List.mem_append] at hu
  rcases hu with hu|hu
  ·exact hnn u (by simpa using hu) x
  exact zeroRow_no _ u hu x
 have hx:∀ u∈xs,∀ x,u≠.int .u32 x:=fun u hu=>noInt_cells M (hno D rfl) u (by rw [← J] at hu; exact List.mem_of_mem_take hu)
 by_cases I:n+1≤m
 ·have K:n*U.size+news.length≤E.size:=by rw [y,hl,V]; omega
  have h:=run_append_room (P:=Tryz.prog) w 42 ty 75 U Tryz.underlying42 s D n m E M a 1 1 news (by rw [y]; exact hl) hnews h1 I K; rw [h] at hr; simp only [Result.ok.injEq,Value.slice.injEq,Option.some.injEq,Addr.mk.injEq,and_true] at hr; obtain ⟨⟨rfl,-⟩,rfl⟩:=hr; refine noInt_row (setRow_heap w D E _ _ _ M) ?_; intro u hu x; simp only [List.mem_append] at hu
  rcases hu with (hu|hu)|hu
  ·exact noInt_cells M (hno D rfl) u (List.mem_of_mem_take hu) x
  ·exact hnn u hu x
  exact noInt_cells M (hno D rfl) u (List.mem_of_mem_drop hu) x
 have H:∀ j u,xs[j]? = some u→w.cell? ((⟨D,0,none⟩:Addr).add j)=some u:=hown.cells (g:=D) rfl; have h:=run_append_grow (P:=Tryz.prog) w 42 ty 75 U _ Tryz.underlying42 s O ⟨D,0,none⟩ n m xs (by rw [y]; exact hown.1) H a 1 1 news (by rw [y]; exact hl) hnews (by omega) (by omega) (growslice_fits (by omega) (by rw [T]; omega)); rw [h] at hr; simp only [Result.ok.injEq,Value.slice.injEq,Option.some.injEq,Addr.mk.injEq,and_true] at hr; obtain ⟨⟨rfl,-⟩,rfl⟩:=hr; refine noInt_row (heap_alloc_new w.drew _) ?_; intro u hu x; simp only [Array.toList_append,List.mem_append] at hu
 rcases hu with (hu|hu)|hu
 ·exact hx u (by simpa using hu) x
 ·exact hnn u (by simpa using hu) x
 exact zeroRow_no _ u hu x
structure GRow (base:Nat) (W:World) (v:Value) (G:List Nr):Prop where
 ex:∃ xs,W.ownsRow base 75 8 v G.length xs∧∀ i (_:i<G.length),Rz 0 W ((xs.drop (i*8)).take 8) G[i]
 no:∀ g,v.ownBlock=some g→NoInt W g
theorem GRow.nil (base:Nat) (W:World):GRow base W (.slice none 0 0) []:=⟨⟨[],World.ownsRow_nil _ _ _ _,fun _ hi=>absurd hi (Nat.not_lt_zero _)⟩,fun _ h=>by cases h⟩
theorem noInt_below {W W':World} {g:Nat} (h:NoInt W g) (hg:g<W.heap.size) (hb:Up W W'):NoInt W' g:=fun i x=>by
 rw [hb.cell (p:=⟨g,i,none⟩) hg]
 exact h i x
theorem GRow.below {base:Nat} {W W':World} {v:Value} {G:List Nr} (h:GRow base W v G) (hb:Up W W'):GRow base W' v G:=by
 obtain ⟨m,j,h2⟩:=h.ex; exact ⟨⟨m,row_below j hb,fun i hi=>(h2 i hi).below hb⟩,fun g hg=>noInt_below (h.no g hg) (j.lt g hg).2 hb⟩
theorem GRow.form {base:Nat} {W:World} {v:Value} {G:List Nr} (h:GRow base W v G):∃ p c,v=.slice p G.length c:=by
 obtain ⟨m,j,_⟩:=h.ex; obtain ⟨p,c,e,_⟩:=own_form j; exact ⟨p,c,e⟩
theorem qrow_type {B:Nat} {W:World} {v:Value} {Q:List (Int×Int)} (h:QRow B W v Q) {base:Nat} {v':Value} {n:Nat} {xs:List Value} (h':W.ownsRow base 75 8 v' n xs) {b:Nat} (hb:v'.ownBlock=some b):v.ownBlock≠some b:=by
 obtain ⟨m,j,_⟩:=h; exact own_ne h' j (by decide) hb
theorem Rz.grown {W W':World} {cs:List Value} {f:Nr} {base:Nat} {v:Value} {n:Nat} {xs:List Value} (h:Rz 0 W cs f) (hv:W.ownsRow base 75 8 v n xs) (hno:∀ g,v.ownBlock=some g→NoInt W g) (hs:W.heap.size≤W'.heap.size) (hk:∀ b,b<W.heap.size→v.ownBlock≠some b→W'.heap[b]? = W.heap[b]?):Rz 0 W' cs f:=by
 obtain ⟨va,c0,c1,c2,c3,c4,c5,e,j,h2⟩:=h.ex
 cases hb:v.ownBlock with
 | none=>
   have m:∀ b,b<W.heap.size→W'.heap[b]? = W.heap[b]? := fun b hlt=>hk b hlt (by rw [hb]; simp); have k:But W.heap.size W W':=⟨hs,fun b hlt _=>m b hlt,fun i x hx=>by have:=World.block_lt_of_cell? W _ hx; simp at this⟩; refine ⟨va,c0,c1,c2,c3,c4,c5,e,j.but k (fun e=>?_),h2.but k⟩; have:=(j.lt e).2; omega
 | some g=>
   have k:But g W W':=⟨hs,fun b hlt hne=>hk b hlt (by rw [hb]; simpa using fun e=>hne e.symm),hno g hb⟩; exact ⟨va,c0,c1,c2,c3,c4,c5,e,j.but k (qrow_type j hv hb),h2.but k⟩
theorem wpList_appG {ops:Array Oper} {rest:List Oper} {o:Oper} {a:Act} {Q:Exit→Act→World→Prop} {W:World} {base:Nat} {v:Value} {G:List Nr} (hgd:o.guard=none) (s y:Operand)
 (ho:o.op=.call { callee:=.builtin .append,args:=#[s,y],argTypes:=#[42,42] }) (hs:a.eval s=v) (hown:GRow base W v G) {cs:List Value} {f:Nr} (hz:Rz 0 W cs f)
 (H:Nat) (hx:a.eval y=.slice (some ⟨H,0,none⟩) 1 1) (hH:W.heap.size=H) (n:Nat) (hnl:G.length=n) (hn:n≤1000000000) (hbase:base≤W.heap.size)
 (h:∀ g cap W',GRow base W' (.slice (some ⟨g,0,none⟩) (n+1) cap) (G++[f])→W.grownBy W' v.ownBlock→wpList Tryz.prog ops Q rest (a.put o.dst (.slice (some ⟨g,0,none⟩) (n+1) cap)) W') :
 wpList Tryz.prog ops Q (o::rest) a (W.alloc (.cells cs.toArray 75)):=by
 subst hH; subst hnl; obtain ⟨i0,K,Y,Z,a3⟩:=info_lr; obtain ⟨xs,J,h2⟩:=hown.ex; have E:cs.length=8:=by
  obtain ⟨va,c0,c1,c2,c3,c4,c5,e,_⟩:=hz.ex; rw [e]; rfl
 have m:(∀ u∈cs,u.oneCell'=true)∧∀ u∈cs,∀ x,u≠.int .u32 x:=by
  obtain ⟨va,c0,c1,c2,c3,c4,c5,e,hq,hb⟩:=hz.ex; obtain ⟨pa,ca,rfl⟩:=hq.form; obtain ⟨p0,pn,pp,pl,pc,q0,qn,qa,ql,qc,e2⟩:=hb.shape; simp only [List.cons.injEq,and_true] at e2; obtain ⟨rfl,rfl,rfl,rfl,rfl,rfl⟩:=e2; rw [e]; exact ⟨by simp [Value.oneCell'],by intro u hu x; simp at hu; rcases hu with rfl|rfl|rfl|rfl|rfl|rfl|rfl|rfl<;>simp⟩
 have D:∀ j u,cs[j]? = some u→(W.alloc (.cells cs.toArray 75)).cell? ((⟨W.heap.size,0,none⟩:Addr).add j)=some u:=fun j u hj=>
  World.news_of_block (cs:=cs.toArray) (t:=75) (fr:=(0,0)) (heap_alloc_new W _) j u (by simpa using hj)
 have T:=below_alloc W (.cells cs.toArray 75); refine wpList_plain hgd fun _ hK=>?_; obtain ⟨g,cap,W',hr,k1,k2,k3,k4⟩:=run_append_lies (P:=Tryz.prog) (W.alloc (.cells cs.toArray 75)) 42 o.type base 75 i0 _ 8 112 Tryz.underlying42 K Y Z a3 rfl (by decide) v G.length xs (J.alloc _) ⟨W.heap.size,0,none⟩ 1 1 cs (by rw [E]) D m.1 (by decide) (by unfold maxLen; omega) (by omega) (by simp; omega) _ rfl; have V:=append_no (J.alloc _) (fun g hg=>noInt_below (hown.no g hg) (J.lt g hg).2 T) o.type ⟨W.heap.size,0,none⟩ cs (by rw [E]) D m.1 m.2 hn hr; have I:W.grownBy W' v.ownBlock:=(World.grownBy_alloc W _ v.ownBlock).trans k2; have O:W.heap.size≤W'.heap.size:=I.size; have M:∀ b,b<W.heap.size→v.ownBlock≠some b→W'.heap[b]? = W.heap[b]? := fun b hb hne=>I.block b hb (fun e=>hne e.symm); unfold Oper.wp execOp; simp only [ho,resolve,invoke,builtin,Sem.run_bind,Sem.run_pure,Result.andThen_ok,List.map_toArray,List.map_cons,List.map_nil,hs,hx,hr]; refine hK _ _ (h g cap W' ⟨⟨xs++cs,by rw [List.length_append]; exact k1,fun i hi=>?_⟩,fun g' hg'=>by cases hg'; exact V⟩ I); have b3:xs.length=G.length*8:=J.1; rw [List.length_append] at hi
 by_cases e:i<G.length
 ·rw [List.getElem_append_left e,List.drop_append_of_le_length (by omega),List.take_append_of_le_length (by simp; omega)]; exact (h2 i e).grown J hown.no O M
 have U:i=G.length:=by simp at hi; omega
 subst U; rw [List.drop_append_of_le_length (by omega),List.drop_eq_nil_of_le (by omega),List.nil_append,List.take_of_length_le (by omega),List.getElem_append_right leR]; simp only [Nat.sub_self,List.getElem_cons_zero]; exact hz.grown J hown.no O M
theorem RRow.form {base:Nat} {W:World} {v:Value} {G:List Nr} (h:RRow base 0 W v G):∃ p c,v=.slice p G.length c:=by
 obtain ⟨m,j,_⟩:=h; obtain ⟨p,c,e,_⟩:=own_form j; exact ⟨p,c,e⟩
theorem RRow.at {base:Nat} {W:World} {g n c:Nat} {G:List Nr} (h:RRow base 0 W (.slice (some ⟨g,0,none⟩) n c) G) {i:Nat} (hi:i<G.length):∃ (va:Value) (c0 c1 c2 c3 c4 c5:Value),(W.cell? ⟨g,i*8,none⟩=some va∧W.cell? ⟨g,i*8+1,none⟩=some (.bool G[i].st)∧W.cell? ⟨g,i*8+2,none⟩=some c0∧W.cell? ⟨g,i*8+3,none⟩=some c1∧W.cell? ⟨g,i*8+4,none⟩=some c2∧W.cell? ⟨g,i*8+5,none⟩=some c3∧W.cell? ⟨g,i*8+6,none⟩=some c4∧W.cell? ⟨g,i*8+7,none⟩=some c5)∧QRow 0 W va (G[i].cs.map (fun x=>(x,1)))∧Qz 0 W [c0,c1,c2,c3,c4,c5] G[i].bd 1 none∧g<W.heap.size:=by
 obtain ⟨s,j,h2⟩:=h; obtain ⟨va,c0,c1,c2,c3,c4,c5,e,m,hb⟩:=(h2 i hi).ex; have hl:G.length=n:=by
  rcases j.2 with ⟨e,_⟩|⟨_,_,_,e,_⟩
  ·cases e
  cases e; rfl
 subst hl; refine ⟨va,c0,c1,c2,c3,c4,c5,⟨?_,?_,?_,?_,?_,?_,?_,?_⟩,m,hb,(j.lt g rfl).2⟩
 ·rw [j.cellAt (i*8) (by omega)]; exact take_at (d:=0) e (by decide)
 ·rw [j.cellAt (i*8+1) (by omega)]; exact take_at (d:=1) e (by decide)
 ·rw [j.cellAt (i*8+2) (by omega)]; exact take_at (d:=2) e (by decide)
 ·rw [j.cellAt (i*8+3) (by omega)]; exact take_at (d:=3) e (by decide)
 ·rw [j.cellAt (i*8+4) (by omega)]; exact take_at (d:=4) e (by decide)
 ·rw [j.cellAt (i*8+5) (by omega)]; exact take_at (d:=5) e (by decide)
 ·rw [j.cellAt (i*8+6) (by omega)]; exact take_at (d:=6) e (by decide)
 rw [j.cellAt (i*8+7) (by omega)]; exact take_at (d:=7) e (by decide)
def AllR (Wh:List Bool) (G:List Nr) (w:World) (e:Ending) (w':World):Prop:=∃ v' G',e=.returned v'∧GRow w.heap.size w' v' G'∧G'.length=G.length∧(∀ i,i<G.length→Tight Wh (G.getD i ⟨[],false,0⟩) (G'.getD i ⟨[],false,0⟩))∧Up w w'
theorem l13All_any (wv v:Value) (Wh:List Bool) (G:List Nr) (base:Nat) (w:World) (hw:BoolsAt w wv Wh) (hG:RRow base 0 w v G) (hok:∀ f∈G,Wh.length=f.cs.length∧f.cs.length≤20∧Sm5 f) (hl:G.length≤50) :
 Calls Tryz.prog 15 #[wv,v] w (AllR Wh G w):=by
 have HW:=Hd hw; have HG:=Hd hG; have e9:=Hd hok; obtain ⟨pw,cw,rfl,w1,w2,-⟩:=hw; obtain ⟨p,c,rfl⟩:=hG.form; unfold maxLen at w2; clear hG hok
 go_enter Tryz.func15,Tryz.ntmps15
 go_wp2_with fail
 go_loopw [5,10] (fun tv iv wr=>∃ (k:Nat) (G':List Nr),k≤G.length∧iv=.int .i64 (k:Nat)∧GRow w.heap.size wr tv G'∧G'.length=k∧(∀ i,i<k→Tight Wh (G.getD i ⟨[],false,0⟩) (G'.getD i ⟨[],false,0⟩))∧Up w wr) (fun _ iv _=>G.length - (intOf iv).toNat)
 case atStart=>exact ⟨0,[],Nat.zero_le _,rfl,GRow.nil _ _,rfl,fun i h=>absurd h (Nat.not_lt_zero _),Below.refl _ _⟩
 case round=>
  rename World=>wo
  obtain ⟨k,G',hk,rfl,hO,Z,a3,O⟩:=hrel; have HO:=Hd hO; have m:=Hd Z; have K:=Hd a3; have y:=Hd O; clear a3 Z
  by_cases M:k<G.length
  ·obtain ⟨b,rfl⟩:∃ b,p=some ⟨b,0,none⟩:=by
    obtain ⟨xs,h1,_⟩:=HG.o
    rcases h1.2 with ⟨_,e⟩|⟨g,_,_,e,_⟩
    ·omega
    ·cases e; exact ⟨g,rfl⟩
   obtain ⟨va,c0,c1,c2,c3,c4,c5,⟨k0,k1,k2,k3,k4,k5,k6,k7⟩,hq,hz,hb⟩:=(HG.o.below O).at M; have D:=Hd (e9.o _ (List.getElem_mem M)); have U:Hid (G.getD k ⟨[],false,0⟩=G[k]):=by unfold Hid; rw [List.getD_eq_getElem?_getD,List.getElem?_eq_getElem M]; rfl
   obtain ⟨f,hf⟩:=exW (G[k]); rw [hf] at k1 hq hz D U; obtain ⟨pv,cv,rfl⟩:=hO.form; have HQ:=Hd hq; obtain ⟨pa,ca,rfl⟩:=hq.form; rw [List.length_map] at HQ k0; obtain ⟨b4,b8,b5,b7,b6,b9,d7,c7,d6,c9,Y⟩:=hz.shape; simp only [List.cons.injEq,and_true] at Y; obtain ⟨rfl,rfl,rfl,rfl,rfl,rfl⟩:=Y; have HZ:=Hd hz; obtain ⟨W1,E⟩:=exW (wo.alloc (.cells #[.slice pa f.cs.length ca,.bool f.st,.int .i64 b4,.bool b8,.slice b5 b7 b6,.int .i64 b9,.bool d7,.slice c7 d6 c9] 75)); have s:Up wo W1:=by rw [← E]; exact below_alloc _ _
   have a5:Bx W1 wo.heap.size [.slice pa f.cs.length ca,.bool f.st,.int .i64 b4,.bool b8,.slice b5 b7 b6,.int .i64 b9,.bool d7,.slice c7 d6 c9]:=by rw [← E]; exact bx_new wo _ _
   have f7:=Hd E; have T:=Hd s; have e4:=Hd (l13Tight_any _ Wh f _ _ _ _ _ _ _ W1 (HW.o.below (O.trans (s.mono O.size))) (HQ.o.below s) (HZ.o.below s) D.o.1 D.o.2.1 D.o.2.2); obtain ⟨x0,x1,x2,x3,x4,x5,x6,x7⟩:=a5.c8; clear hf E s a5 O hO hq hz
   go_wp2_with (rw [f7.o])
   refine e4.o.mono ?_; rintro e w2 ⟨n2,h7,rfl,I,j,a6⟩; obtain ⟨i1,d0,d1,d2,d3,d4,d5,rfl,a8,a9⟩:=id j.ex; obtain ⟨i0,h6,rfl⟩:=a8.form; obtain ⟨i4,i8,i5,i7,i6,i9,j3,j0,j2,j1,Y⟩:=a9.shape; simp only [List.cons.injEq,and_true] at Y; obtain ⟨rfl,rfl,rfl,rfl,rfl,rfl⟩:=Y; rw [List.length_map] at j; have V:=Hd j; have f5:=Hd I; have J:Hid (Up wo w2):=T.o.trans (a6.mono T.o.size); clear j I a6 a8 a9
   go_wp2_with (at_builtin; refine wpList_appG (W:=w2) (base:=w.heap.size) (G:=G') (f:=n2) rfl _ _ rfl rfl ?own ?rz _ rfl ?hH k ?hk ?hn ?hb ?_)
   case own=>exact HO.o.below J.o
   case rz=>exact V.o
   case hH=>rfl
   case hk=>exact m.o
   case hn=>omega
   case hb=>exact Nat.le_trans y.o.size J.o.size
   intro g5 c5 w5 u H; have e8:=Hd u; have e3:Hid (Up w w5):=by
    have a7:=y.o.trans (J.o.mono y.o.size); obtain ⟨xs,h1,_⟩:=HO.o.ex; exact a7.grown H a7.size (fun b hb=>(h1.lt b hb).1)
   have e5:Hid (∀ i,i<k+1→Tight Wh (G.getD i ⟨[],false,0⟩) ((G'++[n2]).getD i ⟨[],false,0⟩)):=fun i hi=>by
    have g1:=m.o
    by_cases e:i=k
    ·subst e; rw [U.o,List.getD_eq_getElem?_getD (l:=G'++[n2]),List.getElem?_append_right (by omega),g1,Nat.sub_self]; exact f5.o
    ·have:=K.o i (by omega); rw [List.getD_eq_getElem?_getD (l:=G')] at this; rw [List.getD_eq_getElem?_getD (l:=G'++[n2]),List.getElem?_append_left (by omega)]; exact this
   clear u H
   go_wp2_with fail
   go_roundw
   case rel=>exact ⟨k+1,G'++[n2],by omega,by go_num,e8.o,by rw [List.length_append,m.o]; rfl,e5.o,e3.o⟩
   case measure=>simp [intOf]; omega
  ·have g2:k=G.length:=by omega
   rw [g2] at m K; clear O hO
   go_wp2_with fail
   go_ret
   exact ⟨_,G',rfl,HO.o,m.o,K.o,y.o⟩
end Go.Proofs.YtknfmkeipeikkaaGreatDoor.L
