import Derived.Test.YtfclfbpjjlinhaaGreatDoorTcTp
import Derived.Deep.Cut
set_option maxRecDepth 100000
set_option maxHeartbeats 8000000
namespace Go.Proofs.YtfclfbpjjlinhaaGreatDoor.L
open Go.ChangeShapes Go.WideShapes Go.ChangeAt Go.RowKit
def Cb (w:World) (cb:Nat) (l:List Value):Prop:=w.heap[cb]? = some (.cells l.toArray 97 (0,0))
theorem Cb.bx {w:World} {cb:Nat} {l:List Value} (h:Cb w cb l):Bx w cb l:=⟨_,h⟩
theorem Cb.below {w w':World} {cb:Nat} {l:List Value} (h:Cb w cb l) (hb:Up w w'):Cb w' cb l:=(hb.block cb h.bx.lt).trans h
theorem Cb.set {w:World} {cb:Nat} {l:List Value} (h:Cb w cb l) (i:Nat) (v:Value):Cb (w.setCell ⟨cb,i,none⟩ v) cb (l.set i v):=by
 have j:=heap_setCell_same w cb i _ _ v h; unfold Cb; rw [j]; simp
theorem Cb.ne {w:World} {cb:Nat} {l:List Value} (h:Cb w cb l) {base:Nat} {e:TypeId} {size:Nat} {v:Value} {n:Nat} {xs:List Value} (ho:w.ownsRow base e size v n xs) (he:e≠97):v.ownBlock≠some cb:=by
 intro hb
 rcases ho.2 with ⟨rfl,_⟩|⟨g,cap,m,rfl,_,j,_⟩
 ·cases hb
 have:g=cb:=by simpa [Value.ownBlock] using hb
 subst this; unfold Cb at h; rw [h] at j; simp only [Option.some.injEq,Obj.cells.injEq] at j; exact he j.2.1.symm
theorem cb_no {w:World} {cb:Nat} {p:Option Addr} {q:Option Addr} {l c:Nat} {a:Int} (h:Cb w cb [.pointer p,.slice q l c,.int .i64 a]):NoInt w cb:=bx_noInt h.bx (by intro v j x; simp at j; rcases j with rfl|rfl|rfl<;>simp)
theorem GRow.but {base:Nat} {W W':World} {v:Value} {G:List Nr} {cb:Nat} {l:List Value} (h:GRow base W v G) (k:But cb W W') (hc:Cb W cb l):GRow base W' v G:=by
 obtain ⟨D,j,h2⟩:=h.ex; have hne:=hc.ne j (by decide); refine ⟨⟨D,own_other' j (fun b hb=>k.block b (j.lt b hb).2 (fun e=>hne (by rw [hb,e]))),fun i hi=>?_⟩,fun g hg i x=>?_⟩
 ·obtain ⟨va,c0,c1,c2,c3,c4,c5,e,u,hb⟩:=(h2 i hi).ex; have s:=u; obtain ⟨E,y,_⟩:=s; exact ⟨va,c0,c1,c2,c3,c4,c5,e,u.but k (hc.ne y (by decide)),hb.but k⟩
 have m:=(j.lt g hg).2; rw [World.cell?_of_block (a:=⟨g,i,none⟩) (k.block g m (fun e=>hne (by rw [hg,e])))]; exact h.no g hg i x
theorem But.of {g:Nat} {W W':World} (hn:NoInt W g) (h:Up W W'):But g W W':=⟨h.size,fun b hb _=>h.block b hb,hn⟩
theorem But.trans {g:Nat} {W W' W'':World} (h:But g W W') (k:But g W' W''):But g W W'':=⟨Nat.le_trans h.size k.size,fun b hb hg=>(k.block b (Nat.lt_of_lt_of_le hb h.size) hg).trans (h.block b hb hg),h.no⟩
theorem bx_but {g cb:Nat} {w w':World} {l:List Value} (h:Bx w g l) (k:But cb w w') (hg:g≠cb):Bx w' g l:=h.solTo ⟨k.size,k.block⟩ hg
def TookS (w0:World) (cb wb:Nat) (tv:Value) (T0:List Tn) (w:World) (r:Option (List Tn)) (e:Ending) (w':World):Prop:=
 e=.returned (.bool r.isSome)∧But cb w w'∧Up w0 w'∧(∃ x:Int,Cb w' cb [.pointer (some ⟨wb,0,none⟩),tv,.int .i64 x])∧∀ T',r=some T'→∃ a:Nat,a≤T0.length∧T'=T0.drop a∧Cb w' cb [.pointer (some ⟨wb,0,none⟩),tv,.int .i64 (a:Nat)]
theorem drop_cons {T0 T:List Tn} {f:Tn} {a:Nat} (h:T0.drop a=f::T):∃ h0:a<T0.length,T0[a]=f∧T=T0.drop (a+1):=by
 have h0:a<T0.length:=by
  rcases Nat.lt_or_ge a T0.length with j|j
  ·exact j
  rw [List.drop_eq_nil_of_le j] at h; cases h
 rw [List.drop_eq_getElem_cons h0] at h; injection h with j h2
 exact ⟨h0,j,h2.symm⟩
theorem l1MinusM_any (z:Value) (x:Int) (n:Nat) (w:World) (h:NumZ 0 w z x n) :
 Calls Tryz.prog 86 #[z] w fun e w'=>∃ z',e=.returned z'∧NumZ 0 w' z' (-x) n∧Up w w':=by
 obtain ⟨neg,t,m,rfl,hl⟩:=h; refine (l1Minus_any 0 z neg t w m).mono ?_; rintro e w' ⟨z',rfl,j,hb⟩; exact ⟨z',rfl,⟨!neg,t,j,sg_not _ _,hl⟩,hb⟩
theorem l13Adds_ne (n base:Nat) (rv mv:Value) (G:List Nr) (mu:List (List UInt8)) (w:World) (hr:GRow base w rv G) (hm:StrsAt w mv mu) (_hl:G.length≤1000) (hlen:mu.length≠G.length) :
 Calls Tryz.prog 83 #[.int .i64 (n:Nat),rv,mv] w fun e w'=>e=.returned (.bool (addsB n G mu))∧Up w w':=by
 obtain ⟨u,m,rfl⟩:=hr.form; obtain ⟨s,j,rfl,m1,m2,m3⟩:=hm; unfold maxLen at m2; have y:((mu.length:Int)==(G.length:Int))=false:=by rw [beq_eq_false_iff_ne]; omega
 have h:Hid (addsB n G mu=false):=by unfold Hid addsB; rw [decide_eq_false hlen]; rfl
 clear hlen m3 hr
 go_enter Tryz.func83,Tryz.ntmps83
 go_wp2_with fail
 go_ret
 exact ⟨ret_bool h.o.symm,Below.refl _ _⟩
theorem l13Adds_all (n base:Nat) (rv mv:Value) (G:List Nr) (mu:List (List UInt8)) (w:World) (hr:GRow base w rv G) (hm:StrsAt w mv mu) (hn:n≤20) (hG:∀ f∈G,f.cs.length=n∧SmN f) (hl:G.length≤50) (hsm:∀ s∈mu,s.length≤1048576) :
 Calls Tryz.prog 83 #[.int .i64 (n:Nat),rv,mv] w fun e w'=>e=.returned (.bool (addsB n G mu))∧Up w w':=by
 by_cases h:mu.length=G.length
 ·exact l13Adds_any n base rv mv G mu w hr hm hn hG hl h hsm
 exact l13Adds_ne n base rv mv G mu w hr hm (by omega) h
theorem node_any (w0:World) (cb wb n:Nat) (Wh:List Bool) (l:List Value) (pw:Option Addr) (cw:Nat) (T0:List Tn) (pt:Option Addr) (ct:Nat) (hwx:Bx w0 wb (.int .i64 (n:Nat)::.slice pw Wh.length cw::l)) (hw:BoolsAt w0 (.slice pw Wh.length cw) Wh) (hlen:Wh.length=n) (hn:n≤20) (ht:TreeAt w0 (.slice pt T0.length ct) T0) (hsm:∀ f∈T0,SmallT f) (hcb:w0.heap.size≤cb):∀ (k:Nat) (T:List Tn) (G:List Nr) (base:Nat) (vr:Value) (a:Nat) (w:World),T.length<k→T=T0.drop a→a≤T0.length→Up w0 w→Cb w cb [.pointer (some ⟨wb,0,none⟩),.slice pt T0.length ct,.int .i64 (a:Nat)]→GRow base w vr G→(∀ f∈G,f.cs.length=n∧SmN f)→G.length≤51 →
 Calls Tryz.prog 53 #[.pointer (some ⟨cb,0,none⟩),vr] w (TookS w0 cb wb (.slice pt T0.length ct) T0 w (takeT n Wh k G T))
 | 0,_,_,_,_,_,_=>fun h=>absurd h (Nat.not_lt_zero _)
 | k+1,T,G,base,vr,a,w=>fun hk hT ha hb0 hx hr hG hl=>by
   have HX:=Hd hx
   have Z:=Hd hb0
   have HR:=Hd hr
   have l1:=Hd hG
   have C2:=Hd ht
   have x1:=Hd hsm
   have b6:=Hd hwx
   have HW:=Hd hw
   have v3:=Hd hlen
   have j6:=Hd (node_any w0 cb wb n Wh l pw cw T0 pt ct hwx hw hlen hn ht hsm hcb k)
   have l2:=Hd (cb_no hx)
   obtain ⟨pr,cr,rfl⟩:=hr.form
   obtain ⟨p9,c9,e9,q1,q2,E⟩:=ht
   simp only [Value.slice.injEq] at e9
   obtain ⟨rfl,-,rfl⟩:=e9
   unfold maxLen at q2
   have x3:=Hd E
   have i1:Hid (∀ W,Up w W→W.cell? ⟨cb,0,none⟩=some (.pointer (some ⟨wb,0,none⟩))∧W.cell? ⟨cb,1,none⟩=some (.slice pt T0.length ct)∧W.cell? ⟨cb,2,none⟩=some (.int .i64 (a:Nat))):=fun W hW=>(hx.below hW).bx.c3
   clear hx hr hG hsm hwx hw hlen E hb0
   cases T with
   | nil=>
     have z9:a=T0.length:=by
      rcases Nat.lt_or_ge a T0.length with h|h
      ·rw [List.drop_eq_getElem_cons h] at hT; cases hT
      ·omega
     have u:Hid (takeT n Wh (k+1) G []=none):=rfl
     have y0:decide (T0.length≤a)=true:=decide_eq_true (by omega)
     clear hT z9
     go_enter Tryz.func53,Tryz.ntmps53
     go_wp2_with fail
     refine wrh 15 rfl (S:=fun W=>W.cell? ⟨cb,0,none⟩=some (.pointer (some ⟨wb,0,none⟩))∧W.cell? ⟨cb,1,none⟩=some (.slice pt T0.length ct)∧W.cell? ⟨cb,2,none⟩=some (.int .i64 (a:Nat))) (by kernel_rfl) (i1.o _ (Below.refl _ _).drew) (fun hHeld=>?_)
     iterate 15 ((first|(refine tkf 14 21 (v:=?_) rfl rfl (by kernel_rfl) (fun _ _ _ h=>h) (Or.inl ⟨by rfl,?_⟩) (by assumption) ?_; rotate_left; (intro w j; (try dsimp only at j); go_simp; (try with_reducible rfl)))|refine tkf 14 21 (v:=undef) rfl rfl (by kernel_rfl) (fun _ _ _ h=>h) (Or.inr ⟨by rfl,rfl⟩) (by assumption) ?_); simp only [Nat.reduceSub,Act.put,List.setIfInBounds_toArray,List.set_cons_zero,List.set_cons_succ])
     refine wpAnyH_done (by kernel_rfl) ?_ _
     go_wp2_with fail
     go_ret
     exact ⟨by rw [u.o]; rfl,But.of l2.o (Below.refl _ _).drew,Z.o.trans ((Below.refl _ _).drew.mono Z.o.size),⟨_,HX.o⟩,fun T' h=>by rw [u.o] at h; cases h⟩
   | cons f T=>
     obtain ⟨e6,l9,q8⟩:=drop_cons hT.symm
     have p1:=Hd q8
     have y0:decide (T0.length≤a)=false:=decide_eq_false (by omega)
     have o8:Hid (T.length<k):=by unfold Hid; simp only [List.length_cons] at hk; omega
     have o9:Hid (SmallT f):=by unfold Hid; rw [← l9]; exact x1.o _ (List.getElem_mem e6)
     clear hk hT q8
     by_cases i2:50<G.length
     ·have y5:decide ((50:Int)<(G.length:Int))=true:=decide_eq_true (by omega)
      have y6:decide (50<G.length)=true:=decide_eq_true (by omega)
      have u:Hid (takeT n Wh (k+1) G (f::T)=none):=by unfold Hid takeT; rw [if_pos i2]
      clear i2
      go_enter Tryz.func53,Tryz.ntmps53
      go_wp2_with fail
      refine wrh 15 rfl (S:=fun W=>W.cell? ⟨cb,0,none⟩=some (.pointer (some ⟨wb,0,none⟩))∧W.cell? ⟨cb,1,none⟩=some (.slice pt T0.length ct)∧W.cell? ⟨cb,2,none⟩=some (.int .i64 (a:Nat))) (by kernel_rfl) (i1.o _ (Below.refl _ _).drew) (fun hHeld=>?_)
      iterate 15 ((first|(refine tkf 14 21 (v:=?_) rfl rfl (by kernel_rfl) (fun _ _ _ h=>h) (Or.inl ⟨by rfl,?_⟩) (by assumption) ?_; rotate_left; (intro w j; (try dsimp only at j); go_simp; (try with_reducible rfl)))|refine tkf 14 21 (v:=undef) rfl rfl (by kernel_rfl) (fun _ _ _ h=>h) (Or.inr ⟨by rfl,rfl⟩) (by assumption) ?_); simp only [Nat.reduceSub,Act.put,List.setIfInBounds_toArray,List.set_cons_zero,List.set_cons_succ])
      refine wpAnyH_done (by kernel_rfl) ?_ _
      go_wp2_with fail
      go_ret
      exact ⟨by rw [u.o]; rfl,But.of l2.o (Below.refl _ _).drew,Z.o.trans ((Below.refl _ _).drew.mono Z.o.size),⟨_,HX.o⟩,fun T' h=>by rw [u.o] at h; cases h⟩
     ·have y5:decide ((50:Int)<(G.length:Int))=false:=decide_eq_false (by omega)
      have y6:decide (50<G.length)=false:=decide_eq_false (by omega)
      have s2:G.length≤50:=by omega
      have HH:=Hd i2
      obtain ⟨b,off,rfl,l7,s0⟩:∃ b off,pt=some ⟨b,off,none⟩∧b<w0.heap.size∧∀ i (h:i<T0.length),w0.cell? ⟨b,off+i*3,none⟩=some (.int .i64 T0[i].col)∧w0.cell? ⟨b,off+i*3+1,none⟩=some (.string (strOf T0[i].pl))∧(∃ va,w0.cell? ⟨b,off+i*3+2,none⟩=some va∧StrsAt w0 va T0[i].mu):=by
       rcases x3.o with h|h
       ·rw [h] at e6; exact absurd e6 (Nat.not_lt_zero _)
       ·exact h
      obtain ⟨c0,c1,va,c2,m8⟩:=s0 a e6
      rw [l9] at c0 c1 m8
      have x5:=Hd (m8.below Z.o)
      obtain ⟨pv,cv,rfl,v1,v2,-⟩:=m8
      unfold maxLen at v2
      have l4:Hid (∀ W,Up w W→W.cell? ⟨cb,0,none⟩=some (.pointer (some ⟨wb,0,none⟩))∧W.cell? ⟨cb,1,none⟩=some (.slice (some ⟨b,off,none⟩) T0.length ct)∧W.cell? ⟨cb,2,none⟩=some (.int .i64 (a:Nat))∧W.cell? ⟨b,off+a*3,none⟩=some (.int .i64 f.col)∧W.cell? ⟨b,off+a*3+1,none⟩=some (.string (strOf f.pl))∧W.cell? ⟨b,off+a*3+2,none⟩=some (.slice pv f.mu.length cv)):=fun W hW=>by
       have d4:=Z.o.trans (hW.mono Z.o.size)
       have M:=i1.o W hW
       exact ⟨M.1,M.2.1,M.2.2,(d4.cell (p:=⟨b,off+a*3,none⟩) l7).trans c0,(d4.cell (p:=⟨b,off+a*3+1,none⟩) l7).trans c1,(d4.cell (p:=⟨b,off+a*3+2,none⟩) l7).trans c2⟩
      have D6:(a:Int)<(T0.length:Int):=by omega
      have l8:cb<w.heap.size:=HX.o.bx.lt
      clear i2 s0 c0 c1 c2 l9
      go_enter Tryz.func53,Tryz.ntmps53
      go_wp2_with fail
      refine wrh 15 rfl (S:=fun W=>W.cell? ⟨cb,0,none⟩=some (.pointer (some ⟨wb,0,none⟩))∧W.cell? ⟨cb,1,none⟩=some (.slice (some ⟨b,off,none⟩) T0.length ct)∧W.cell? ⟨cb,2,none⟩=some (.int .i64 (a:Nat))) (by kernel_rfl) (i1.o _ (Below.refl _ _).drew) (fun hHeld=>?_)
      iterate 15 ((first|(refine tkf 14 21 (v:=?_) rfl rfl (by kernel_rfl) (fun _ _ _ h=>h) (Or.inl ⟨by rfl,?_⟩) (by assumption) ?_; rotate_left; (intro w j; (try dsimp only at j); go_simp; (try with_reducible rfl)))|refine tkf 14 21 (v:=undef) rfl rfl (by kernel_rfl) (fun _ _ _ h=>h) (Or.inr ⟨by rfl,rfl⟩) (by assumption) ?_); simp only [Nat.reduceSub,Act.put,List.setIfInBounds_toArray,List.set_cons_zero,List.set_cons_succ])
      refine wpAnyH_done (by kernel_rfl) ?_ _
      go_upto_region 3 with fail
      refine wrh 12 rfl (S:=fun W=>W.cell? ⟨cb,0,none⟩=some (.pointer (some ⟨wb,0,none⟩))∧W.cell? ⟨cb,1,none⟩=some (.slice (some ⟨b,off,none⟩) T0.length ct)∧W.cell? ⟨cb,2,none⟩=some (.int .i64 (a:Nat))∧W.cell? ⟨b,off+a*3,none⟩=some (.int .i64 f.col)∧W.cell? ⟨b,off+a*3+1,none⟩=some (.string (strOf f.pl))∧W.cell? ⟨b,off+a*3+2,none⟩=some (.slice pv f.mu.length cv)) (by kernel_rfl) (l4.o _ (Below.refl _ _).drew.drew) (fun hHeld3=>?_)
      refine tk 0 22 (v:=?_) rfl rfl (by kernel_rfl) (fun _ _ _ h=>h) (Or.inl ⟨by rfl,?_⟩) (by assumption) ?_
      rotate_left
      ·(intro w j; (try dsimp only at j); go_simp; (try with_reducible rfl))
      try simp only [Act.put,List.setIfInBounds_toArray,List.set_cons_zero,List.set_cons_succ]
      refine tk 1 23 (v:=?_) rfl rfl (by kernel_rfl) (fun _ _ _ h=>h) (Or.inl ⟨by rfl,?_⟩) (by assumption) ?_
      rotate_left
      ·(intro w j; (try dsimp only at j); go_simp; (try with_reducible rfl))
      try simp only [Act.put,List.setIfInBounds_toArray,List.set_cons_zero,List.set_cons_succ]
      refine tk 2 24 (v:=?_) rfl rfl (by kernel_rfl) (fun _ _ _ h=>h) (Or.inl ⟨by rfl,?_⟩) (by assumption) ?_
      rotate_left
      ·(intro w j; (try dsimp only at j); go_simp; (try with_reducible rfl))
      try simp only [Act.put,List.setIfInBounds_toArray,List.set_cons_zero,List.set_cons_succ]
      refine tk 3 25 (v:=?_) rfl rfl (by kernel_rfl) (fun _ _ _ h=>h) (Or.inl ⟨by rfl,?_⟩) (by assumption) ?_
      rotate_left
      ·(intro w j; (try dsimp only at j); go_simp; (try with_reducible rfl))
      try simp only [Act.put,List.setIfInBounds_toArray,List.set_cons_zero,List.set_cons_succ]
      refine tk 4 26 (v:=?_) rfl rfl (by kernel_rfl) (fun _ _ _ h=>h) (Or.inl ⟨by rfl,?_⟩) (by assumption) ?_
      rotate_left
      ·(intro w j; (try dsimp only at j); go_simp; (try with_reducible rfl))
      try simp only [Act.put,List.setIfInBounds_toArray,List.set_cons_zero,List.set_cons_succ]
      refine tk 5 27 (v:=?_) rfl rfl (by kernel_rfl) (fun _ _ _ h=>h) (Or.inl ⟨by rfl,?_⟩) (by assumption) ?_
      rotate_left
      ·(intro w j; (try dsimp only at j); go_simp; (try with_reducible rfl))
      try simp only [Act.put,List.setIfInBounds_toArray,List.set_cons_zero,List.set_cons_succ]
      refine tk 6 28 (v:=?_) rfl rfl (by kernel_rfl) (fun _ _ _ h=>h) (Or.inl ⟨by rfl,?_⟩) (by assumption) ?_
      rotate_left
      ·(intro w j; (try dsimp only at j); go_simp; (try with_reducible rfl))
      try simp only [Act.put,List.setIfInBounds_toArray,List.set_cons_zero,List.set_cons_succ]
      refine tk 7 29 (v:=?_) rfl rfl (by kernel_rfl) (fun _ _ _ h=>h) (Or.inl ⟨by rfl,?_⟩) (by assumption) ?_
      rotate_left
      ·(intro w j; (try dsimp only at j); go_simp; (try with_reducible rfl))
      try simp only [Act.put,List.setIfInBounds_toArray,List.set_cons_zero,List.set_cons_succ]
      refine tk 8 30 (v:=?_) rfl rfl (by kernel_rfl) (fun _ _ _ h=>h) (Or.inl ⟨by rfl,?_⟩) (by assumption) ?_
      rotate_left
      ·(intro w j; (try dsimp only at j); go_simp; (try with_reducible rfl))
      try simp only [Act.put,List.setIfInBounds_toArray,List.set_cons_zero,List.set_cons_succ]
      refine tk 9 31 (v:=?_) rfl rfl (by kernel_rfl) (fun _ _ _ h=>h) (Or.inl ⟨by rfl,?_⟩) (by assumption) ?_
      rotate_left
      ·(intro w j; (try dsimp only at j); go_simp; (try with_reducible rfl))
      try simp only [Act.put,List.setIfInBounds_toArray,List.set_cons_zero,List.set_cons_succ]
      obtain ⟨V1,i3⟩:∃ V,(w.alloc (.cells #[.int .i64 0,.string ⟨#[]⟩,.slice none 0 0] 61)).drew.drew=V:=⟨_,rfl⟩
      have l5:=Hd i3
      have g3:Hid (Up w V1):=by unfold Hid; rw [← i3]; exact (below_alloc w _).drew.drew
      have U:Hid (Bx V1 w.heap.size [.int .i64 0,.string ⟨#[]⟩,.slice none 0 0]):=by unfold Hid; rw [← i3]; exact bx_new w _ _
      clear i3
      refine wpAnyH_ready (rs:=[10]) (by kernel_rfl) (by simp) ?_
      refine AllReadyH.cons rfl (fun K hK=>?_) AllReadyH.nil
      go_simp
      go_wp2_with (rw [l5.o])
      try rw [l5.o]
      refine hK.out _ _ (l4.o _ g3.o) (fun hHeldA=>?_)
      clear hK K
      try simp only [Act.put,List.setIfInBounds_toArray,List.set_cons_zero,List.set_cons_succ]
      obtain ⟨t0,t1,t2⟩:=U.o.c3
      have f0:=U.o.frozen 0
      have f1:=U.o.frozen 1
      have f2:=U.o.frozen 2
      obtain ⟨V2,i4⟩:∃ V,(((V1.setCell ⟨w.heap.size,0,none⟩ (.int .i64 f.col)).setCell ⟨w.heap.size,1,none⟩ (.string (strOf f.pl))).setCell ⟨w.heap.size,2,none⟩ (.slice pv f.mu.length cv))=V:=⟨_,rfl⟩
      have l6:=Hd i4
      have q3:Hid (Bx V2 w.heap.size [.int .i64 f.col,.string (strOf f.pl),.slice pv f.mu.length cv]):=by unfold Hid; rw [← i4]; exact ((U.o.set 0 _).set 1 _).set 2 _
      have O:Hid (Up w V2):=by unfold Hid; rw [← i4]; exact ((g3.o.setCell (p:=⟨w.heap.size,0,none⟩) leR _).setCell (p:=⟨w.heap.size,1,none⟩) leR _).setCell (p:=⟨w.heap.size,2,none⟩) leR _
      clear i4
      refine wpAnyH_ready (rs:=[11]) (by kernel_rfl) (by simp) ?_
      refine AllReadyH.cons rfl (fun K hK=>?_) AllReadyH.nil
      go_simp
      go_wp2_with (rw [l6.o])
      try rw [l6.o]
      refine hK.out _ _ (l4.o _ O.o) (fun hHeldB=>?_)
      clear hK K t0 t1 t2 f0 f1 f2
      try simp only [Act.put,List.setIfInBounds_toArray,List.set_cons_zero,List.set_cons_succ]
      refine wpAnyH_done (by kernel_rfl) ?_ _
      have d9:=HX.o.below O.o
      obtain ⟨d0,d1,d2⟩:=d9.bx.c3
      have A1:=d9.bx.frozen 2
      obtain ⟨W2,g4⟩:∃ W,V2.setCell ⟨cb,2,none⟩ (.int .i64 ((a:Int)+1))=W:=⟨_,rfl⟩
      have p6:=Hd g4
      have s:Hid (Cb W2 cb [.pointer (some ⟨wb,0,none⟩),.slice (some ⟨b,off,none⟩) T0.length ct,.int .i64 ((a+1:Nat):Int)]):=by unfold Hid; rw [← g4]; exact d9.set 2 _
      have Y:But cb V2 W2:=by rw [← g4]; exact But.one (cb_no d9) 2 _
      have a5:Hid (But cb w W2):=(But.of l2.o O.o).trans Y
      have m:Hid (Up w0 W2):=by unfold Hid; rw [← g4]; exact (Z.o.trans (O.o.mono Z.o.size)).setCell (p:=⟨cb,2,none⟩) hcb _
      have c7:Hid (Bx W2 w.heap.size [.int .i64 f.col,.string (strOf f.pl),.slice pv f.mu.length cv]):=bx_but q3.o Y (by omega)
      have l3:Hid (GRow base W2 (.slice pr G.length cr) G):=(HR.o.below O.o).but Y d9
      have p5:Hid (StrsAt W2 (.slice pv f.mu.length cv) f.mu):=(x5.o.below O.o).solN ⟨Y.size,Y.block⟩ d0 (fun _ h=>by cases h)
      have d7:Hid (∀ W,Up W2 W→W.cell? ⟨cb,0,none⟩=some (.pointer (some ⟨wb,0,none⟩))∧W.cell? ⟨wb,0,none⟩=some (.int .i64 (n:Nat))∧W.cell? ⟨w.heap.size,0,none⟩=some (.int .i64 f.col)∧W.cell? ⟨w.heap.size,1,none⟩=some (.string (strOf f.pl))∧W.cell? ⟨w.heap.size,2,none⟩=some (.slice pv f.mu.length cv)):=fun W hW=>by
       have M:=(c7.o.below c7.o.lt hW).c3
       have d4:=m.o.trans (hW.mono m.o.size)
       exact ⟨(s.o.below hW).bx.c3.1,(d4.cell (p:=⟨wb,0,none⟩) b6.o.lt).trans (b6.o.cell 0),M.1,M.2.1,M.2.2⟩
      obtain ⟨n0,n1,n2⟩:=c7.o.c3
      clear d9 Y g4 U g3 l5 l6
      go_upto_region 5 with (rw [p6.o])
      try rw [p6.o]
      clear d0 d1 d2 A1
      by_cases H:f.col = -1
      ·have yc:(f.col == -1)=true:=by rw [H]; rfl
       have a3:=Hd H
       clear H
       have u:Hid (takeT n Wh (k+1) G (f::T)=if (decide (f.pl=[])&&addsB n G f.mu)=true then some T else none):=by unfold Hid takeT; rw [if_neg HH.o,if_pos a3.o]
       have n9:=Hd (fun W (hW:Up W2 W)=>l13Adds_all n base _ _ G f.mu W (l3.o.below hW) (p5.o.below hW) hn l1.o s2 o9.o.1.2)
       obtain ⟨ba,r5⟩:=exW (addsB n G f.mu)
       rw [r5] at u n9
       clear r5
       have o6:Hid (∀ (r:Bool) (W:World),Up W2 W→takeT n Wh (k+1) G (f::T)=(if r=true then some T else none)→TookS w0 cb wb (.slice (some ⟨b,off,none⟩) T0.length ct) T0 w (takeT n Wh (k+1) G (f::T)) (.returned (.bool r)) W):=fun r W hW e=>by
        rw [e]
        refine ⟨by cases r<;>rfl,a5.o.trans (But.of (cb_no s.o) hW),m.o.trans (hW.mono m.o.size),⟨_,s.o.below hW⟩,fun T' h=>?_⟩
        cases r with
        | false=>cases h
        | true=>cases h; exact ⟨a+1,e6,p1.o,s.o.below hW⟩
       by_cases hp:f.pl=[]
       ·have ys:((strOf f.pl).toList==[])=true:=by rw [ByteArray.toList_eq,strOf_toList,hp]; rfl
        rw [decide_eq_true hp,Bool.true_and] at u
        have l0:=Hd (fun W hW=>o6.o ba W hW u.o)
        clear hp
        go_wp2_with fail
        refine wrh 17 rfl (S:=fun W=>W.cell? ⟨cb,0,none⟩=some (.pointer (some ⟨wb,0,none⟩))∧W.cell? ⟨wb,0,none⟩=some (.int .i64 (n:Nat))∧W.cell? ⟨w.heap.size,0,none⟩=some (.int .i64 f.col)∧W.cell? ⟨w.heap.size,1,none⟩=some (.string (strOf f.pl))∧W.cell? ⟨w.heap.size,2,none⟩=some (.slice pv f.mu.length cv)) (by kernel_rfl) (d7.o _ (Below.refl _ _).drew) (fun hHeld6=>?_)
        iterate 14 ((first|(refine tkf 16 58 (v:=?_) rfl rfl (by kernel_rfl) (fun _ _ _ h=>h) (Or.inl ⟨by rfl,?_⟩) (by assumption) ?_; rotate_left; (intro w j; (try dsimp only at j); go_simp; (try with_reducible rfl)))|refine tkf 16 58 (v:=undef) rfl rfl (by kernel_rfl) (fun _ _ _ h=>h) (Or.inr ⟨by rfl,rfl⟩) (by assumption) ?_); simp only [Nat.reduceSub,Act.put,List.setIfInBounds_toArray,List.set_cons_zero,List.set_cons_succ])
        refine wpAnyH_ready (rs:=[14]) (by kernel_rfl) (by simp) ?_
        refine AllReadyH.cons rfl (fun K hK=>?_) AllReadyH.nil
        go_simp
        go_at_call 83
        refine (n9.o _ (Below.refl _ _).drew).mono ?_
        rintro e w3 ⟨rfl,q9⟩
        have o0:Hid (Up W2 w3):=(Below.refl _ _).drew.trans q9
        have z7:=d7.o w3 o0.o
        clear q9
        go_wp2_with fail
        refine hK.out _ _ z7 (fun hHeld2=>?_)
        clear hK K
        try simp only [Act.put,List.setIfInBounds_toArray,List.set_cons_zero,List.set_cons_succ]
        iterate 1 ((first|(refine tkf 16 58 (v:=?_) rfl rfl (by kernel_rfl) (fun _ _ _ h=>h) (Or.inl ⟨by rfl,?_⟩) (by assumption) ?_; rotate_left; (intro w j; (try dsimp only at j); go_simp; (try with_reducible rfl)))|refine tkf 16 58 (v:=undef) rfl rfl (by kernel_rfl) (fun _ _ _ h=>h) (Or.inr ⟨by rfl,rfl⟩) (by assumption) ?_); simp only [Nat.reduceSub,Act.put,List.setIfInBounds_toArray,List.set_cons_zero,List.set_cons_succ])
        refine tk 16 4 (v:=?_) rfl rfl (by kernel_rfl) (fun _ _ _ h=>h) (Or.inl ⟨by rfl,?_⟩) (by assumption) ?_
        rotate_left
        ·(intro w j; (try dsimp only at j); go_simp; (try with_reducible rfl))
        try simp only [Act.put,List.setIfInBounds_toArray,List.set_cons_zero,List.set_cons_succ]
        refine wpAnyH_done (by kernel_rfl) ?_ _
        go_wp2_with fail
        go_ret
        exact l0.o w3 o0.o
       ·have ys:((strOf f.pl).toList==[])=false:=by rw [ByteArray.toList_eq,strOf_toList,beq_eq_false_iff_ne]; exact hp
        rw [decide_eq_false hp,Bool.false_and] at u
        have l0:=Hd (fun W hW=>o6.o false W hW u.o)
        clear hp
        go_wp2_with fail
        refine wrh 17 rfl (S:=fun W=>W.cell? ⟨cb,0,none⟩=some (.pointer (some ⟨wb,0,none⟩))∧W.cell? ⟨wb,0,none⟩=some (.int .i64 (n:Nat))∧W.cell? ⟨w.heap.size,0,none⟩=some (.int .i64 f.col)∧W.cell? ⟨w.heap.size,1,none⟩=some (.string (strOf f.pl))∧W.cell? ⟨w.heap.size,2,none⟩=some (.slice pv f.mu.length cv)) (by kernel_rfl) (d7.o _ (Below.refl _ _).drew) (fun hHeld6=>?_)
        iterate 16 ((first|(refine tkf 16 58 (v:=?_) rfl rfl (by kernel_rfl) (fun _ _ _ h=>h) (Or.inl ⟨by rfl,?_⟩) (by assumption) ?_; rotate_left; (intro w j; (try dsimp only at j); go_simp; (try with_reducible rfl)))|refine tkf 16 58 (v:=undef) rfl rfl (by kernel_rfl) (fun _ _ _ h=>h) (Or.inr ⟨by rfl,rfl⟩) (by assumption) ?_); simp only [Nat.reduceSub,Act.put,List.setIfInBounds_toArray,List.set_cons_zero,List.set_cons_succ])
        refine tk 16 4 (v:=?_) rfl rfl (by kernel_rfl) (fun _ _ _ h=>h) (Or.inl ⟨by rfl,?_⟩) (by assumption) ?_
        rotate_left
        ·(intro w j; (try dsimp only at j); go_simp; (try with_reducible rfl))
        try simp only [Act.put,List.setIfInBounds_toArray,List.set_cons_zero,List.set_cons_succ]
        refine wpAnyH_done (by kernel_rfl) ?_ _
        go_wp2_with fail
        go_ret
        exact l0.o _ (Below.refl _ _).drew
      ·have yc:(f.col == -1)=false:=by rw [beq_eq_false_iff_ne]; exact H
       have a3:=Hd H
       clear H
       have D:Hid (∀ W,Up W2 W→W.cell? ⟨cb,0,none⟩=some (.pointer (some ⟨wb,0,none⟩))∧W.cell? ⟨wb,0,none⟩=some (.int .i64 (n:Nat))∧W.cell? ⟨wb,1,none⟩=some (.slice pw Wh.length cw)∧W.cell? ⟨w.heap.size,0,none⟩=some (.int .i64 f.col)∧W.cell? ⟨w.heap.size,1,none⟩=some (.string (strOf f.pl))∧W.cell? ⟨w.heap.size,2,none⟩=some (.slice pv f.mu.length cv)):=fun W hW=>by
        have M:=d7.o W hW
        have d4:=m.o.trans (hW.mono m.o.size)
        exact ⟨M.1,M.2.1,(d4.cell (p:=⟨wb,1,none⟩) b6.o.lt).trans (b6.o.cell 1),M.2.2⟩
       by_cases g5:f.col<0
       ·have y1:decide (f.col<0)=true:=decide_eq_true g5
        have u:Hid (takeT n Wh (k+1) G (f::T)=none):=by unfold Hid takeT; rw [if_neg HH.o,if_neg a3.o,if_neg (by rw [decide_eq_false (show ¬ 0≤f.col by omega)]; simp)]
        clear g5
        go_wp2_with fail
        refine wrh 41 rfl (S:=fun W=>W.cell? ⟨cb,0,none⟩=some (.pointer (some ⟨wb,0,none⟩))∧W.cell? ⟨wb,0,none⟩=some (.int .i64 (n:Nat))∧W.cell? ⟨wb,1,none⟩=some (.slice pw Wh.length cw)∧W.cell? ⟨w.heap.size,0,none⟩=some (.int .i64 f.col)∧W.cell? ⟨w.heap.size,1,none⟩=some (.string (strOf f.pl))∧W.cell? ⟨w.heap.size,2,none⟩=some (.slice pv f.mu.length cv)) (by kernel_rfl) (D.o _ (Below.refl _ _).drew) (fun hHeld7=>?_)
        iterate 41 ((first|(refine tkf 40 98 (v:=?_) rfl rfl (by kernel_rfl) (fun _ _ _ h=>h) (Or.inl ⟨by rfl,?_⟩) (by assumption) ?_; rotate_left; (intro w j; (try dsimp only at j); go_simp; (try with_reducible rfl)))|refine tkf 40 98 (v:=undef) rfl rfl (by kernel_rfl) (fun _ _ _ h=>h) (Or.inr ⟨by rfl,rfl⟩) (by assumption) ?_); simp only [Nat.reduceSub,Act.put,List.setIfInBounds_toArray,List.set_cons_zero,List.set_cons_succ])
        refine wpAnyH_done (by kernel_rfl) ?_ _
        go_wp2_with fail
        go_ret
        exact ⟨by rw [u.o]; rfl,a5.o.trans (But.of (cb_no s.o) (Below.refl _ _).drew),m.o.trans ((Below.refl _ _).drew.mono m.o.size),⟨_,s.o⟩,fun T' h=>by rw [u.o] at h; cases h⟩
       ·have y1:decide (f.col<0)=false:=decide_eq_false g5
        by_cases i7:(n:Int)≤f.col
        ·have y2:decide ((n:Int)≤f.col)=true:=decide_eq_true i7
         have u:Hid (takeT n Wh (k+1) G (f::T)=none):=by unfold Hid takeT; rw [if_neg HH.o,if_neg a3.o,if_neg (by rw [decide_eq_false (show ¬ f.col<(n:Int) by omega)]; simp)]
         clear g5 i7
         go_wp2_with fail
         refine wrh 41 rfl (S:=fun W=>W.cell? ⟨cb,0,none⟩=some (.pointer (some ⟨wb,0,none⟩))∧W.cell? ⟨wb,0,none⟩=some (.int .i64 (n:Nat))∧W.cell? ⟨wb,1,none⟩=some (.slice pw Wh.length cw)∧W.cell? ⟨w.heap.size,0,none⟩=some (.int .i64 f.col)∧W.cell? ⟨w.heap.size,1,none⟩=some (.string (strOf f.pl))∧W.cell? ⟨w.heap.size,2,none⟩=some (.slice pv f.mu.length cv)) (by kernel_rfl) (D.o _ (Below.refl _ _).drew) (fun hHeld7=>?_)
         iterate 41 ((first|(refine tkf 40 98 (v:=?_) rfl rfl (by kernel_rfl) (fun _ _ _ h=>h) (Or.inl ⟨by rfl,?_⟩) (by assumption) ?_; rotate_left; (intro w j; (try dsimp only at j); go_simp; (try with_reducible rfl)))|refine tkf 40 98 (v:=undef) rfl rfl (by kernel_rfl) (fun _ _ _ h=>h) (Or.inr ⟨by rfl,rfl⟩) (by assumption) ?_); simp only [Nat.reduceSub,Act.put,List.setIfInBounds_toArray,List.set_cons_zero,List.set_cons_succ])
         refine wpAnyH_done (by kernel_rfl) ?_ _
         go_wp2_with fail
         go_ret
         exact ⟨by rw [u.o]; rfl,a5.o.trans (But.of (cb_no s.o) (Below.refl _ _).drew),m.o.trans ((Below.refl _ _).drew.mono m.o.size),⟨_,s.o⟩,fun T' h=>by rw [u.o] at h; cases h⟩
        ·have y2:decide ((n:Int)≤f.col)=false:=decide_eq_false i7
         obtain ⟨col,g6⟩:∃ col:Nat,f.col=(col:Int):=⟨f.col.toNat,by omega⟩
         have l8:col<n:=by omega
         have s1:f.col.toNat=col:=by omega
         have i8:col<Wh.length:=by have:=v3.o; omega
         have B2:(col:Int)<(Wh.length:Int):=by omega
         have o3:=Hd g6
         have o4:=Hd s1
         rw [g6] at y1 y2 n0 D d7 c7 ⊢
         have E5:decide ((col:Int)<0)=false:=y1
         have y3:decide (n≤col)=false:=decide_eq_false (by omega)
         obtain ⟨bw,rfl,A0,E⟩:∃ bw,pw=some ⟨bw,0,none⟩∧bw<w0.heap.size∧∀ i (h:i<Wh.length),w0.cell? ⟨bw,i,none⟩=some (.bool Wh[i]):=by
          obtain ⟨p8,c8,e8,-,-,h8⟩:=HW.o
          simp only [Value.slice.injEq] at e8
          obtain ⟨rfl,-,rfl⟩:=e8
          rcases h8 with h|h
          ·rw [h] at i8; exact absurd i8 (Nat.not_lt_zero _)
          ·exact h
         have h7:Hid (Wh.getD f.col.toNat false=Wh[col]):=by unfold Hid; rw [o4.o,List.getD_eq_getElem?_getD,List.getElem?_eq_getElem i8]; rfl
         have o5:Hid (∀ W,Up W2 W→W.cell? ⟨bw,col,none⟩=some (.bool Wh[col])):=fun W hW=>((m.o.trans (hW.mono m.o.size)).cell (p:=⟨bw,col,none⟩) A0).trans (E col i8)
         have j7:=Hd D.o
         clear D E g6 s1 g5 i7
         have D:Hid (∀ W,Up W2 W→W.cell? ⟨cb,0,none⟩=some (.pointer (some ⟨wb,0,none⟩))∧W.cell? ⟨wb,0,none⟩=some (.int .i64 (n:Nat))∧W.cell? ⟨wb,1,none⟩=some (.slice (some ⟨bw,0,none⟩) Wh.length cw)∧W.cell? ⟨w.heap.size,0,none⟩=some (.int .i64 (col:Nat))∧W.cell? ⟨w.heap.size,1,none⟩=some (.string (strOf f.pl))∧W.cell? ⟨w.heap.size,2,none⟩=some (.slice pv f.mu.length cv)∧W.cell? ⟨bw,col,none⟩=some (.bool Wh[col])):=fun W hW=>by
          have M:=j7.o W hW
          exact ⟨M.1,M.2.1,M.2.2.1,M.2.2.2.1,M.2.2.2.2.1,M.2.2.2.2.2,o5.o W hW⟩
         clear j7 o5
         cases t3:Wh[col] with
         | false=>
           rw [t3] at D h7
           have u:Hid (takeT n Wh (k+1) G (f::T)=none):=by unfold Hid takeT; rw [if_neg HH.o,if_neg a3.o,if_neg (by rw [h7.o]; simp)]
           go_wp2_with fail
           refine wrh 41 rfl (S:=fun W=>W.cell? ⟨cb,0,none⟩=some (.pointer (some ⟨wb,0,none⟩))∧W.cell? ⟨wb,0,none⟩=some (.int .i64 (n:Nat))∧W.cell? ⟨wb,1,none⟩=some (.slice (some ⟨bw,0,none⟩) Wh.length cw)∧W.cell? ⟨w.heap.size,0,none⟩=some (.int .i64 (col:Nat))∧W.cell? ⟨w.heap.size,1,none⟩=some (.string (strOf f.pl))∧W.cell? ⟨w.heap.size,2,none⟩=some (.slice pv f.mu.length cv)∧W.cell? ⟨bw,col,none⟩=some (.bool false)) (by kernel_rfl) (D.o _ (Below.refl _ _).drew) (fun hHeld7=>?_)
           iterate 41 ((first|(refine tkf 40 98 (v:=?_) rfl rfl (by kernel_rfl) (fun _ _ _ h=>h) (Or.inl ⟨by rfl,?_⟩) (by assumption) ?_; rotate_left; (intro w j; (try dsimp only at j); go_simp; (try with_reducible rfl)))|refine tkf 40 98 (v:=undef) rfl rfl (by kernel_rfl) (fun _ _ _ h=>h) (Or.inr ⟨by rfl,rfl⟩) (by assumption) ?_); simp only [Nat.reduceSub,Act.put,List.setIfInBounds_toArray,List.set_cons_zero,List.set_cons_succ])
           refine wpAnyH_done (by kernel_rfl) ?_ _
           go_wp2_with fail
           go_ret
           exact ⟨by rw [u.o]; rfl,a5.o.trans (But.of (cb_no s.o) (Below.refl _ _).drew),m.o.trans ((Below.refl _ _).drew.mono m.o.size),⟨_,s.o⟩,fun T' h=>by rw [u.o] at h; cases h⟩
         | true=>
           rw [t3] at D h7
           by_cases m5:0<f.mu.length
           ·have y4:decide (0<f.mu.length)=true:=decide_eq_true m5
            have u:Hid (takeT n Wh (k+1) G (f::T)=none):=by unfold Hid takeT; rw [if_neg HH.o,if_neg a3.o,if_neg (by rw [decide_eq_false (show ¬ f.mu.length=0 by omega)]; simp)]
            go_wp2_with fail
            refine wrh 41 rfl (S:=fun W=>W.cell? ⟨cb,0,none⟩=some (.pointer (some ⟨wb,0,none⟩))∧W.cell? ⟨wb,0,none⟩=some (.int .i64 (n:Nat))∧W.cell? ⟨wb,1,none⟩=some (.slice (some ⟨bw,0,none⟩) Wh.length cw)∧W.cell? ⟨w.heap.size,0,none⟩=some (.int .i64 (col:Nat))∧W.cell? ⟨w.heap.size,1,none⟩=some (.string (strOf f.pl))∧W.cell? ⟨w.heap.size,2,none⟩=some (.slice pv f.mu.length cv)∧W.cell? ⟨bw,col,none⟩=some (.bool true)) (by kernel_rfl) (D.o _ (Below.refl _ _).drew) (fun hHeld7=>?_)
            iterate 41 ((first|(refine tkf 40 98 (v:=?_) rfl rfl (by kernel_rfl) (fun _ _ _ h=>h) (Or.inl ⟨by rfl,?_⟩) (by assumption) ?_; rotate_left; (intro w j; (try dsimp only at j); go_simp; (try with_reducible rfl)))|refine tkf 40 98 (v:=undef) rfl rfl (by kernel_rfl) (fun _ _ _ h=>h) (Or.inr ⟨by rfl,rfl⟩) (by assumption) ?_); simp only [Nat.reduceSub,Act.put,List.setIfInBounds_toArray,List.set_cons_zero,List.set_cons_succ])
            refine wpAnyH_done (by kernel_rfl) ?_ _
            go_wp2_with fail
            go_ret
            exact ⟨by rw [u.o]; rfl,a5.o.trans (But.of (cb_no s.o) (Below.refl _ _).drew),m.o.trans ((Below.refl _ _).drew.mono m.o.size),⟨_,s.o⟩,fun T' h=>by rw [u.o] at h; cases h⟩
           ·have y4:decide (0<f.mu.length)=false:=decide_eq_false m5
            have v5:Hid (f.mu.length=0):=by unfold Hid; omega
            clear m5
            have h9:=Hd (fun W=>isInt_spec (strOf f.pl) W (by rw [strOf_size]; unfold maxLen; have:=o9.o.2; omega))
            cases hi:isIntB (strOf f.pl) with
            | false=>
              rw [hi] at h9
              have d3:placeOk f.pl=false:=by unfold placeOk; rw [hi]; rfl
              have u:Hid (takeT n Wh (k+1) G (f::T)=none):=by unfold Hid takeT; rw [if_neg HH.o,if_neg a3.o,if_neg (by rw [d3]; simp)]
              go_wp2_with fail
              refine wrh 41 rfl (S:=fun W=>W.cell? ⟨cb,0,none⟩=some (.pointer (some ⟨wb,0,none⟩))∧W.cell? ⟨wb,0,none⟩=some (.int .i64 (n:Nat))∧W.cell? ⟨wb,1,none⟩=some (.slice (some ⟨bw,0,none⟩) Wh.length cw)∧W.cell? ⟨w.heap.size,0,none⟩=some (.int .i64 (col:Nat))∧W.cell? ⟨w.heap.size,1,none⟩=some (.string (strOf f.pl))∧W.cell? ⟨w.heap.size,2,none⟩=some (.slice pv f.mu.length cv)∧W.cell? ⟨bw,col,none⟩=some (.bool true)) (by kernel_rfl) (D.o _ (Below.refl _ _).drew) (fun hHeld7=>?_)
              iterate 38 ((first|(refine tkf 40 98 (v:=?_) rfl rfl (by kernel_rfl) (fun _ _ _ h=>h) (Or.inl ⟨by rfl,?_⟩) (by assumption) ?_; rotate_left; (intro w j; (try dsimp only at j); go_simp; (try with_reducible rfl)))|refine tkf 40 98 (v:=undef) rfl rfl (by kernel_rfl) (fun _ _ _ h=>h) (Or.inr ⟨by rfl,rfl⟩) (by assumption) ?_); simp only [Nat.reduceSub,Act.put,List.setIfInBounds_toArray,List.set_cons_zero,List.set_cons_succ])
              refine wpAnyH_ready (rs:=[38]) (by kernel_rfl) (by simp) ?_
              refine AllReadyH.cons rfl (fun K hK=>?_) AllReadyH.nil
              go_simp
              go_at_call 58
              refine (h9.o _).mono ?_
              rintro e w3 ⟨rfl,rfl⟩
              go_wp2_with fail
              refine hK.out _ _ (D.o _ (Below.refl _ _).drew) (fun hHeld38=>?_)
              clear hK K
              try simp only [Act.put,List.setIfInBounds_toArray,List.set_cons_zero,List.set_cons_succ]
              iterate 2 ((first|(refine tkf 40 98 (v:=?_) rfl rfl (by kernel_rfl) (fun _ _ _ h=>h) (Or.inl ⟨by rfl,?_⟩) (by assumption) ?_; rotate_left; (intro w j; (try dsimp only at j); go_simp; (try with_reducible rfl)))|refine tkf 40 98 (v:=undef) rfl rfl (by kernel_rfl) (fun _ _ _ h=>h) (Or.inr ⟨by rfl,rfl⟩) (by assumption) ?_); simp only [Nat.reduceSub,Act.put,List.setIfInBounds_toArray,List.set_cons_zero,List.set_cons_succ])
              refine wpAnyH_done (by kernel_rfl) ?_ _
              go_wp2_with fail
              go_ret
              exact ⟨by rw [u.o]; rfl,a5.o.trans (But.of (cb_no s.o) (Below.refl _ _).drew),m.o.trans ((Below.refl _ _).drew.mono m.o.size),⟨_,s.o⟩,fun T' h=>by rw [u.o] at h; cases h⟩
            | true=>
              rw [hi] at h9
              go_wp2_with fail
              refine wrh 41 rfl (S:=fun W=>W.cell? ⟨cb,0,none⟩=some (.pointer (some ⟨wb,0,none⟩))∧W.cell? ⟨wb,0,none⟩=some (.int .i64 (n:Nat))∧W.cell? ⟨wb,1,none⟩=some (.slice (some ⟨bw,0,none⟩) Wh.length cw)∧W.cell? ⟨w.heap.size,0,none⟩=some (.int .i64 (col:Nat))∧W.cell? ⟨w.heap.size,1,none⟩=some (.string (strOf f.pl))∧W.cell? ⟨w.heap.size,2,none⟩=some (.slice pv f.mu.length cv)∧W.cell? ⟨bw,col,none⟩=some (.bool true)) (by kernel_rfl) (D.o _ (Below.refl _ _).drew) (fun hHeld7=>?_)
              iterate 38 ((first|(refine tkf 40 98 (v:=?_) rfl rfl (by kernel_rfl) (fun _ _ _ h=>h) (Or.inl ⟨by rfl,?_⟩) (by assumption) ?_; rotate_left; (intro w j; (try dsimp only at j); go_simp; (try with_reducible rfl)))|refine tkf 40 98 (v:=undef) rfl rfl (by kernel_rfl) (fun _ _ _ h=>h) (Or.inr ⟨by rfl,rfl⟩) (by assumption) ?_); simp only [Nat.reduceSub,Act.put,List.setIfInBounds_toArray,List.set_cons_zero,List.set_cons_succ])
              refine wpAnyH_ready (rs:=[38]) (by kernel_rfl) (by simp) ?_
              refine AllReadyH.cons rfl (fun K hK=>?_) AllReadyH.nil
              go_simp
              go_at_call 58
              refine (h9.o _).mono ?_
              rintro e w3 ⟨rfl,rfl⟩
              go_wp2_with fail
              refine hK.out _ _ (D.o _ (Below.refl _ _).drew) (fun hHeld38=>?_)
              clear hK K
              try simp only [Act.put,List.setIfInBounds_toArray,List.set_cons_zero,List.set_cons_succ]
              iterate 2 ((first|(refine tkf 40 98 (v:=?_) rfl rfl (by kernel_rfl) (fun _ _ _ h=>h) (Or.inl ⟨by rfl,?_⟩) (by assumption) ?_; rotate_left; (intro w j; (try dsimp only at j); go_simp; (try with_reducible rfl)))|refine tkf 40 98 (v:=undef) rfl rfl (by kernel_rfl) (fun _ _ _ h=>h) (Or.inr ⟨by rfl,rfl⟩) (by assumption) ?_); simp only [Nat.reduceSub,Act.put,List.setIfInBounds_toArray,List.set_cons_zero,List.set_cons_succ])
              refine wpAnyH_done (by kernel_rfl) ?_ _
              have HI:=Hd hi
              have j4:Hid (Up W2 W2.drew):=(Below.refl _ _).drew
              have m1:=(d7.o _ j4.o).2.2.2.1
              clear n0 n1 n2
              go_wp2_with fail
              refine (l1Read_any (strOf f.pl) _ HI.o).mono ?_
              rintro e w4 ⟨z,rfl,hz,j8⟩
              have k9:Hid (Up W2 w4):=j4.o.trans j8
              obtain ⟨x0,xn,xa,xl,xc,rfl⟩:=hz.shape
              have n3:=numZ_read _ w4 _ (strOf f.pl) HI.o hz
              obtain ⟨A,hA⟩:=exW (numT (strOf f.pl))
              rw [hA] at n3
              obtain ⟨W5,i5⟩:∃ W,w4.alloc (.cells #[.int .i64 x0,.bool xn,.slice xa xl xc] 72)=W:=⟨_,rfl⟩
              have i6:Up w4 W5:=by rw [← i5]; exact below_alloc _ _
              have m9:Bx W5 w4.heap.size [.int .i64 x0,.bool xn,.slice xa xl xc]:=by rw [← i5]; exact bx_new w4 _ _
              have p7:=Hd i5
              have q0:=Hd m9
              have g9:Hid (Up W2 W5):=k9.o.trans (i6.mono k9.o.size)
              have x7:Hid (NumZ 0 W5 (.agg #[.int .i64 x0,.bool xn,.slice xa xl xc]) A 1000):=(n3.mono' (B':=0) (n':=1000) (Nat.zero_le _) leR).below i6
              have h6:=Hd (l1Digits_any 0 _ _ _ W5 ((hz.mono (Nat.zero_le _)).below i6) (Nat.zero_le _) (limbs_few _ HI.o))
              rw [dig_count _ HI.o] at h6
              have n8:=Hd hA
              obtain ⟨t0,t1,t2⟩:=m9.c3
              have v0:Hid (W2.heap.size≤w4.heap.size∧w.heap.size<W2.heap.size):=⟨k9.o.size,c7.o.lt⟩
              clear hz n3 j8 hA i5 i6 m9 m1
              by_cases d5:39<(dgs (strOf f.pl)).size
              ·have y9:decide ((39:Int)<((dgs (strOf f.pl)).size:Int))=true:=decide_eq_true (by omega)
               have A5:decide (39<(dgs (strOf f.pl)).size)=true:=decide_eq_true d5
               have d3:placeOk f.pl=false:=by unfold placeOk; rw [decide_eq_false (show ¬ (dgs (strOf f.pl)).size<40 by omega),Bool.and_false]
               have u:Hid (takeT n Wh (k+1) G (f::T)=none):=by unfold Hid takeT; rw [if_neg HH.o,if_neg a3.o,if_neg (by rw [d3]; simp)]
               clear d3 d5
               go_wp2_with (rw [p7.o])
               refine h6.o.mono ?_
               rintro e w6 ⟨rfl,b8⟩
               have y:Hid (Up W2 w6):=g9.o.trans (b8.mono g9.o.size)
               clear b8
               go_wp2_with fail
               go_ret
               exact ⟨by rw [u.o]; rfl,a5.o.trans (But.of (cb_no s.o) y.o),m.o.trans (y.o.mono m.o.size),⟨_,s.o.below y.o⟩,fun T' h=>by rw [u.o] at h; cases h⟩
              ·have y9:decide ((39:Int)<((dgs (strOf f.pl)).size:Int))=false:=decide_eq_false (by omega)
               have A5:decide (39<(dgs (strOf f.pl)).size)=false:=decide_eq_false d5
               have d3:placeOk f.pl=true:=by unfold placeOk; rw [HI.o,decide_eq_true (show (dgs (strOf f.pl)).size<40 by omega)]; rfl
               have s3:textOk f.pl=true:=by unfold textOk; rw [HI.o,decide_eq_true (show (dgs (strOf f.pl)).size≤40 by omega)]; rfl
               have k8:Hid (A.natAbs<1000000000 ^ 5):=by unfold Hid; rw [← n8.o]; exact text_lt5 s3
               have u:Hid (takeT n Wh (k+1) G (f::T)=(match takeT n Wh k (G++[lowN n col A]) T with|none=>none|some T'=>takeT n Wh k (G++[highN n col A]) T')):=by
                unfold Hid
                conv=>lhs; unfold takeT
                have e1:decide (0≤f.col)=true:=decide_eq_true (by rw [o3.o]; omega)
                have e2:decide (f.col<(n:Int))=true:=decide_eq_true (by rw [o3.o]; omega)
                rw [if_neg HH.o,if_neg a3.o,h7.o,d3,e1,e2,decide_eq_true v5.o,o4.o,n8.o]
                rfl
               have u8:Hid (∀ g∈G++[lowN n col A],g.cs.length=n∧SmN g):=fun g hg=>by
                rcases List.mem_append.1 hg with hg|hg
                ·exact l1.o g hg
                ·rw [List.mem_singleton.1 hg]
                 exact ⟨by unfold lowN; simp,small_one (by decide) (by have:=lt56 k8.o; omega)⟩
               have u7:Hid (∀ g∈G++[highN n col A],g.cs.length=n∧SmN g):=fun g hg=>by
                rcases List.mem_append.1 hg with hg|hg
                ·exact l1.o g hg
                ·rw [List.mem_singleton.1 hg]
                 exact ⟨by unfold highN; simp,small_one (by decide) (by have:=lt56 k8.o; omega)⟩
               clear d3 s3 d5
               go_wp2_with (rw [p7.o])
               refine h6.o.mono ?_
               rintro e w6 ⟨rfl,b8⟩
               have A7:=Hd b8
               have y:Hid (Up W2 w6):=g9.o.trans (b8.mono g9.o.size)
               have q4:=Hd (x7.o.below b8)
               have x6:=Hd (q0.o.below q0.o.lt b8)
               clear b8 t0 t1 t2 h6
               have a8:Hid (∀ W x,But cb w6 W→Cb W cb [.pointer (some ⟨wb,0,none⟩),.slice (some ⟨b,off,none⟩) T0.length ct,.int .i64 x]→W.cell? ⟨cb,0,none⟩=some (.pointer (some ⟨wb,0,none⟩))∧W.cell? ⟨w.heap.size,0,none⟩=some (.int .i64 (col:Nat))∧W.cell? ⟨w4.heap.size,0,none⟩=some (.int .i64 x0)∧W.cell? ⟨w4.heap.size,1,none⟩=some (.bool xn)∧W.cell? ⟨w4.heap.size,2,none⟩=some (.slice xa xl xc)):=fun W x hW hc=>by
                have M:=bx_but (c7.o.below c7.o.lt y.o) hW (by omega)
                have h2:=bx_but x6.o hW (by have:=v0.o; omega)
                exact ⟨hc.bx.c3.1,M.c3.1,h2.c3.1,h2.c3.2.1,h2.c3.2.2⟩
               have d6:=Hd (s.o.below y.o)
               have i0:=Hd (cb_no d6.o)
               go_wp2_with fail
               refine wrh 13 rfl (S:=fun W=>W.cell? ⟨cb,0,none⟩=some (.pointer (some ⟨wb,0,none⟩))∧W.cell? ⟨w.heap.size,0,none⟩=some (.int .i64 (col:Nat))∧W.cell? ⟨w4.heap.size,0,none⟩=some (.int .i64 x0)∧W.cell? ⟨w4.heap.size,1,none⟩=some (.bool xn)∧W.cell? ⟨w4.heap.size,2,none⟩=some (.slice xa xl xc)) (by kernel_rfl) (a8.o _ _ (But.of i0.o (Below.refl _ _).drew) d6.o) (fun hHeld12=>?_)
               refine tk 0 105 (v:=?_) rfl rfl (by kernel_rfl) (fun _ _ _ h=>h) (Or.inl ⟨by rfl,?_⟩) (by assumption) ?_
               rotate_left
               ·(intro w j; (try dsimp only at j); go_simp; (try with_reducible rfl))
               try simp only [Act.put,List.setIfInBounds_toArray,List.set_cons_zero,List.set_cons_succ]
               refine tk 1 106 (v:=?_) rfl rfl (by kernel_rfl) (fun _ _ _ h=>h) (Or.inl ⟨by rfl,?_⟩) (by assumption) ?_
               rotate_left
               ·(intro w j; (try dsimp only at j); go_simp; (try with_reducible rfl))
               try simp only [Act.put,List.setIfInBounds_toArray,List.set_cons_zero,List.set_cons_succ]
               refine tk 2 107 (v:=?_) rfl rfl (by kernel_rfl) (fun _ _ _ h=>h) (Or.inl ⟨by rfl,?_⟩) (by assumption) ?_
               rotate_left
               ·(intro w j; (try dsimp only at j); go_simp; (try with_reducible rfl))
               try simp only [Act.put,List.setIfInBounds_toArray,List.set_cons_zero,List.set_cons_succ]
               refine tk 3 108 (v:=?_) rfl rfl (by kernel_rfl) (fun _ _ _ h=>h) (Or.inl ⟨by rfl,?_⟩) (by assumption) ?_
               rotate_left
               ·(intro w j; (try dsimp only at j); go_simp; (try with_reducible rfl))
               try simp only [Act.put,List.setIfInBounds_toArray,List.set_cons_zero,List.set_cons_succ]
               refine tk 4 109 (v:=?_) rfl rfl (by kernel_rfl) (fun _ _ _ h=>h) (Or.inl ⟨by rfl,?_⟩) (by assumption) ?_
               rotate_left
               ·(intro w j; (try dsimp only at j); go_simp; (try with_reducible rfl))
               try simp only [Act.put,List.setIfInBounds_toArray,List.set_cons_zero,List.set_cons_succ]
               refine tk 5 110 (v:=?_) rfl rfl (by kernel_rfl) (fun _ _ _ h=>h) (Or.inl ⟨by rfl,?_⟩) (by assumption) ?_
               rotate_left
               ·(intro w j; (try dsimp only at j); go_simp; (try with_reducible rfl))
               try simp only [Act.put,List.setIfInBounds_toArray,List.set_cons_zero,List.set_cons_succ]
               refine tk 6 111 (v:=?_) rfl rfl (by kernel_rfl) (fun _ _ _ h=>h) (Or.inl ⟨by rfl,?_⟩) (by assumption) ?_
               rotate_left
               ·(intro w j; (try dsimp only at j); go_simp; (try with_reducible rfl))
               try simp only [Act.put,List.setIfInBounds_toArray,List.set_cons_zero,List.set_cons_succ]
               refine tk 7 112 (v:=?_) rfl rfl (by kernel_rfl) (fun _ _ _ h=>h) (Or.inl ⟨by rfl,?_⟩) (by assumption) ?_
               rotate_left
               ·(intro w j; (try dsimp only at j); go_simp; (try with_reducible rfl))
               try simp only [Act.put,List.setIfInBounds_toArray,List.set_cons_zero,List.set_cons_succ]
               refine tk 8 113 (v:=?_) rfl rfl (by kernel_rfl) (fun _ _ _ h=>h) (Or.inl ⟨by rfl,?_⟩) (by assumption) ?_
               rotate_left
               ·(intro w j; (try dsimp only at j); go_simp; (try with_reducible rfl))
               try simp only [Act.put,List.setIfInBounds_toArray,List.set_cons_zero,List.set_cons_succ]
               refine wpAnyH_ready (rs:=[9]) (by kernel_rfl) (by simp) ?_
               refine AllReadyH.cons rfl (fun K hK=>?_) AllReadyH.nil
               go_simp
               go_at_call 85
               refine (bound_any wb n col _ 1 A x0 xn xa xl xc w6.drew (b6.o.below b6.o.lt (m.o.trans ((y.o.trans ((Below.refl w6.heap.size w6).drew.mono y.o.size)).mono m.o.size))) hn l8 (by decide) (by decide) q4.o).mono ?_
               rintro e w7 ⟨va,b0,b1,b2,b3,b4,b5,rfl,t5,j9⟩
               have e7:Hid (Up w6 w7):=(Below.refl _ _).drew.trans j9
               have x8:=Hd t5
               have v7:=Hd ((l3.o.below y.o).below e7.o)
               clear t5 j9
               go_wp2_with fail
               refine hK.out _ _ (a8.o _ _ (But.of i0.o e7.o) (d6.o.below e7.o)) (fun hHeld9=>?_)
               clear hK K
               try simp only [Act.put,List.setIfInBounds_toArray,List.set_cons_zero,List.set_cons_succ]
               refine wpAnyH_ready (rs:=[10]) (by kernel_rfl) (by simp) ?_
               refine AllReadyH.cons rfl (fun K hK=>?_) AllReadyH.nil
               go_simp
               go_at_call 84
               refine (l13With_any base _ va b0 b1 b2 b3 b4 b5 G (lowN n col A) w7 v7.o x8.o (by omega)).mono ?_
               rintro e w8 ⟨v8,rfl,s4,r3⟩
               have f5:Hid (Up w6 w8):=e7.o.trans (r3.mono e7.o.size)
               have v9:=Hd s4
               clear s4 r3
               go_wp2_with fail
               refine hK.out _ _ (a8.o _ _ (But.of i0.o f5.o) (d6.o.below f5.o)) (fun hHeld10=>?_)
               clear hK K
               try simp only [Act.put,List.setIfInBounds_toArray,List.set_cons_zero,List.set_cons_succ]
               obtain ⟨r1,m6⟩:∃ r,takeT n Wh k (G++[lowN n col A]) T=r:=⟨_,rfl⟩
               have p0:=Hd (j6.o T (G++[lowN n col A]) _ v8 (a+1) w8 o8.o p1.o e6 (m.o.trans ((y.o.trans (f5.o.mono y.o.size)).mono m.o.size)) (d6.o.below f5.o) v9.o u8.o (by rw [List.length_append]; simp; omega))
               rw [m6] at p0 u
               have v6:=Hd m6
               clear m6
               refine wpAnyH_ready (rs:=[11]) (by kernel_rfl) (by simp) ?_
               refine AllReadyH.cons rfl (fun K hK=>?_) AllReadyH.nil
               go_simp
               go_at_call 53
               refine p0.o.mono ?_
               rintro e w9 ⟨rfl,s8,r4,⟨x9,r8⟩,s6⟩
               have d8:Hid (But cb w6 w9):=(But.of i0.o f5.o).trans s8
               have f7:=Hd r4
               have o1:=Hd r8
               have x2:=Hd s6
               clear s8 r4 r8 s6
               go_wp2_with fail
               refine hK.out _ _ (a8.o _ _ d8.o o1.o) (fun hHeld11=>?_)
               clear hK K
               try simp only [Act.put,List.setIfInBounds_toArray,List.set_cons_zero,List.set_cons_succ]
               cases r1 with
               | none=>
                 refine tk 12 117 (v:=?_) rfl rfl (by kernel_rfl) (fun _ _ _ h=>h) (Or.inl ⟨by rfl,?_⟩) (by assumption) ?_
                 rotate_left
                 ·(intro w j; (try dsimp only at j); go_simp; (try with_reducible rfl))
                 try simp only [Act.put,List.setIfInBounds_toArray,List.set_cons_zero,List.set_cons_succ]
                 refine wpAnyH_done (by kernel_rfl) ?_ _
                 go_wp2_with fail
                 go_ret
                 exact ⟨by rw [u.o]; rfl,(a5.o.trans (But.of (cb_no s.o) y.o)).trans d8.o,f7.o,⟨_,o1.o⟩,fun T' h=>by rw [u.o] at h; cases h⟩
               | some T1=>
                 refine tk 12 117 (v:=?_) rfl rfl (by kernel_rfl) (fun _ _ _ h=>h) (Or.inl ⟨by rfl,?_⟩) (by assumption) ?_
                 rotate_left
                 ·(intro w j; (try dsimp only at j); go_simp; (try with_reducible rfl))
                 try simp only [Act.put,List.setIfInBounds_toArray,List.set_cons_zero,List.set_cons_succ]
                 refine wpAnyH_done (by kernel_rfl) ?_ _
                 obtain ⟨a9,z8,q7,q6⟩:=x2.o T1 rfl
                 have a7:=Hd q6
                 have p2:=Hd q7
                 clear q6 q7
                 have u9:Hid (T1.length<k):=by unfold Hid; have M:=takeT_len n Wh k _ _ _ v6.o; have h2:=o8.o; omega
                 have y7:Hid (NumZ 0 w9 (.agg #[.int .i64 x0,.bool xn,.slice xa xl xc]) A 1000):=numZ_but q4.o d8.o
                 have w1:Hid (GRow base w9 (.slice pr G.length cr) G):=(l3.o.below y.o).but d8.o d6.o
                 have I:=Hd (cb_no a7.o)
                 have J:Hid (∀ W x,But cb w9 W→Cb W cb [.pointer (some ⟨wb,0,none⟩),.slice (some ⟨b,off,none⟩) T0.length ct,.int .i64 x]→W.cell? ⟨cb,0,none⟩=some (.pointer (some ⟨wb,0,none⟩))∧W.cell? ⟨w.heap.size,0,none⟩=some (.int .i64 (col:Nat))∧W.cell? ⟨w4.heap.size,0,none⟩=some (.int .i64 x0)∧W.cell? ⟨w4.heap.size,1,none⟩=some (.bool xn)∧W.cell? ⟨w4.heap.size,2,none⟩=some (.slice xa xl xc)):=fun W x hW hc=>a8.o W x (d8.o.trans hW) hc
                 go_wp2_with fail
                 refine wrh 16 rfl (S:=fun W=>W.cell? ⟨cb,0,none⟩=some (.pointer (some ⟨wb,0,none⟩))∧W.cell? ⟨w.heap.size,0,none⟩=some (.int .i64 (col:Nat))∧W.cell? ⟨w4.heap.size,0,none⟩=some (.int .i64 x0)∧W.cell? ⟨w4.heap.size,1,none⟩=some (.bool xn)∧W.cell? ⟨w4.heap.size,2,none⟩=some (.slice xa xl xc)) (by kernel_rfl) (J.o _ _ (But.of I.o (Below.refl _ _).drew) a7.o) (fun hHeld14=>?_)
                 refine tk 0 118 (v:=?_) rfl rfl (by kernel_rfl) (fun _ _ _ h=>h) (Or.inl ⟨by rfl,?_⟩) (by assumption) ?_
                 rotate_left
                 ·(intro w j; (try dsimp only at j); go_simp; (try with_reducible rfl))
                 try simp only [Act.put,List.setIfInBounds_toArray,List.set_cons_zero,List.set_cons_succ]
                 refine tk 1 119 (v:=?_) rfl rfl (by kernel_rfl) (fun _ _ _ h=>h) (Or.inl ⟨by rfl,?_⟩) (by assumption) ?_
                 rotate_left
                 ·(intro w j; (try dsimp only at j); go_simp; (try with_reducible rfl))
                 try simp only [Act.put,List.setIfInBounds_toArray,List.set_cons_zero,List.set_cons_succ]
                 refine tk 2 120 (v:=?_) rfl rfl (by kernel_rfl) (fun _ _ _ h=>h) (Or.inl ⟨by rfl,?_⟩) (by assumption) ?_
                 rotate_left
                 ·(intro w j; (try dsimp only at j); go_simp; (try with_reducible rfl))
                 try simp only [Act.put,List.setIfInBounds_toArray,List.set_cons_zero,List.set_cons_succ]
                 refine tk 3 121 (v:=?_) rfl rfl (by kernel_rfl) (fun _ _ _ h=>h) (Or.inl ⟨by rfl,?_⟩) (by assumption) ?_
                 rotate_left
                 ·(intro w j; (try dsimp only at j); go_simp; (try with_reducible rfl))
                 try simp only [Act.put,List.setIfInBounds_toArray,List.set_cons_zero,List.set_cons_succ]
                 refine tk 4 122 (v:=?_) rfl rfl (by kernel_rfl) (fun _ _ _ h=>h) (Or.inl ⟨by rfl,?_⟩) (by assumption) ?_
                 rotate_left
                 ·(intro w j; (try dsimp only at j); go_simp; (try with_reducible rfl))
                 try simp only [Act.put,List.setIfInBounds_toArray,List.set_cons_zero,List.set_cons_succ]
                 refine tk 5 123 (v:=?_) rfl rfl (by kernel_rfl) (fun _ _ _ h=>h) (Or.inl ⟨by rfl,?_⟩) (by assumption) ?_
                 rotate_left
                 ·(intro w j; (try dsimp only at j); go_simp; (try with_reducible rfl))
                 try simp only [Act.put,List.setIfInBounds_toArray,List.set_cons_zero,List.set_cons_succ]
                 refine tk 6 124 (v:=?_) rfl rfl (by kernel_rfl) (fun _ _ _ h=>h) (Or.inl ⟨by rfl,?_⟩) (by assumption) ?_
                 rotate_left
                 ·(intro w j; (try dsimp only at j); go_simp; (try with_reducible rfl))
                 try simp only [Act.put,List.setIfInBounds_toArray,List.set_cons_zero,List.set_cons_succ]
                 refine tk 7 125 (v:=?_) rfl rfl (by kernel_rfl) (fun _ _ _ h=>h) (Or.inl ⟨by rfl,?_⟩) (by assumption) ?_
                 rotate_left
                 ·(intro w j; (try dsimp only at j); go_simp; (try with_reducible rfl))
                 try simp only [Act.put,List.setIfInBounds_toArray,List.set_cons_zero,List.set_cons_succ]
                 refine tk 8 126 (v:=?_) rfl rfl (by kernel_rfl) (fun _ _ _ h=>h) (Or.inl ⟨by rfl,?_⟩) (by assumption) ?_
                 rotate_left
                 ·(intro w j; (try dsimp only at j); go_simp; (try with_reducible rfl))
                 try simp only [Act.put,List.setIfInBounds_toArray,List.set_cons_zero,List.set_cons_succ]
                 refine wpAnyH_ready (rs:=[9]) (by kernel_rfl) (by simp) ?_
                 refine AllReadyH.cons rfl (fun K hK=>?_) AllReadyH.nil
                 go_simp
                 go_at_call 63
                 refine (l1Small_any 1 _ (by decide) (by decide)).mono ?_
                 rintro e wa ⟨za,rfl,t6,k0⟩
                 have f9:Hid (Up w9 wa):=(Below.refl _ _).drew.trans k0
                 have y8:=Hd (t6.mono' (B':=0) (n':=3) (Nat.zero_le _) leR)
                 clear t6 k0
                 go_wp2_with fail
                 refine hK.out _ _ (J.o _ _ (But.of I.o f9.o) (a7.o.below f9.o)) (fun hHeld9=>?_)
                 clear hK K
                 try simp only [Act.put,List.setIfInBounds_toArray,List.set_cons_zero,List.set_cons_succ]
                 refine wpAnyH_ready (rs:=[10]) (by kernel_rfl) (by simp) ?_
                 refine AllReadyH.cons rfl (fun K hK=>?_) AllReadyH.nil
                 go_simp
                 go_at_call 87
                 refine (l1AddN_any 0 _ _ A 1 1000 3 wa (Nat.zero_le _) (y7.o.below f9.o) y8.o (by omega) (by omega)).mono ?_
                 rintro e n5 ⟨zb,rfl,t7,k1⟩
                 have h0:Hid (Up w9 n5):=f9.o.trans (k1.mono f9.o.size)
                 have z0:Hid (NumZ 0 n5 zb (A+1) 6):=numZ_lt t7 (by have:=lt56 k8.o; unfold lb; omega)
                 clear t7 k1
                 go_wp2_with fail
                 refine hK.out _ _ (J.o _ _ (But.of I.o h0.o) (a7.o.below h0.o)) (fun hHeld10=>?_)
                 clear hK K
                 try simp only [Act.put,List.setIfInBounds_toArray,List.set_cons_zero,List.set_cons_succ]
                 refine wpAnyH_ready (rs:=[11]) (by kernel_rfl) (by simp) ?_
                 refine AllReadyH.cons rfl (fun K hK=>?_) AllReadyH.nil
                 go_simp
                 go_at_call 86
                 refine (l1MinusM_any _ _ 6 n5 z0.o).mono ?_
                 rintro e wc ⟨zc,rfl,n4,k5⟩
                 have g0:Hid (Up w9 wc):=h0.o.trans (k5.mono h0.o.size)
                 obtain ⟨A3,yn,ya,yl,A6,rfl⟩:=n4.shape'
                 have z1:=Hd (n4.mono' (B':=0) (n':=1000) (Nat.zero_le _) (by decide))
                 clear n4 k5
                 go_wp2_with fail
                 refine hK.out _ _ (J.o _ _ (But.of I.o g0.o) (a7.o.below g0.o)) (fun hHeld11=>?_)
                 clear hK K
                 try simp only [Act.put,List.setIfInBounds_toArray,List.set_cons_zero,List.set_cons_succ]
                 refine wpAnyH_ready (rs:=[12]) (by kernel_rfl) (by simp) ?_
                 refine AllReadyH.cons rfl (fun K hK=>?_) AllReadyH.nil
                 go_simp
                 go_at_call 85
                 refine (bound_any wb n col _ (-1) (-(A+1)) A3 yn ya yl A6 wc (b6.o.below b6.o.lt (f7.o.trans (g0.o.mono f7.o.size))) hn l8 (by decide) (by decide) z1.o).mono ?_
                 rintro e wd ⟨A2,e0,e1,e2,e3,e4,e5,rfl,t8,k7⟩
                 have g1:Hid (Up w9 wd):=g0.o.trans (k7.mono g0.o.size)
                 have z2:=Hd t8
                 have w2:=Hd (w1.o.below g1.o)
                 clear t8 k7
                 go_wp2_with fail
                 refine hK.out _ _ (J.o _ _ (But.of I.o g1.o) (a7.o.below g1.o)) (fun hHeld12=>?_)
                 clear hK K
                 try simp only [Act.put,List.setIfInBounds_toArray,List.set_cons_zero,List.set_cons_succ]
                 refine wpAnyH_ready (rs:=[13]) (by kernel_rfl) (by simp) ?_
                 refine AllReadyH.cons rfl (fun K hK=>?_) AllReadyH.nil
                 go_simp
                 go_at_call 84
                 refine (l13With_any base _ A2 e0 e1 e2 e3 e4 e5 G (highN n col A) wd w2.o z2.o (by omega)).mono ?_
                 rintro e we ⟨ve,rfl,s5,r6⟩
                 have g2:Hid (Up w9 we):=g1.o.trans (r6.mono g1.o.size)
                 have w5:=Hd s5
                 clear s5 r6
                 go_wp2_with fail
                 refine hK.out _ _ (J.o _ _ (But.of I.o g2.o) (a7.o.below g2.o)) (fun hHeld13=>?_)
                 clear hK K
                 try simp only [Act.put,List.setIfInBounds_toArray,List.set_cons_zero,List.set_cons_succ]
                 obtain ⟨r2,m7⟩:∃ r,takeT n Wh k (G++[highN n col A]) T1=r:=⟨_,rfl⟩
                 have p3:=Hd (j6.o T1 (G++[highN n col A]) _ ve a9 we u9.o p2.o z8 (f7.o.trans (g2.o.mono f7.o.size)) (a7.o.below g2.o) w5.o u7.o (by rw [List.length_append]; simp; omega))
                 rw [m7] at p3
                 have o7:Hid (takeT n Wh (k+1) G (f::T)=r2):=u.o.trans m7
                 clear m7
                 refine wpAnyH_ready (rs:=[14]) (by kernel_rfl) (by simp) ?_
                 refine AllReadyH.cons rfl (fun K hK=>?_) AllReadyH.nil
                 go_simp
                 go_at_call 53
                 refine p3.o.mono ?_
                 rintro e wf ⟨rfl,s9,r7,⟨xf,r9⟩,s7⟩
                 have p4:Hid (But cb w9 wf):=(But.of I.o g2.o).trans s9
                 have u6:=Hd r7
                 have o2:=Hd r9
                 have x4:=Hd s7
                 clear s9 r7 r9 s7
                 go_wp2_with fail
                 refine hK.out _ _ (J.o _ _ p4.o o2.o) (fun hHeld14=>?_)
                 clear hK K
                 try simp only [Act.put,List.setIfInBounds_toArray,List.set_cons_zero,List.set_cons_succ]
                 refine tk 15 4 (v:=?_) rfl rfl (by kernel_rfl) (fun _ _ _ h=>h) (Or.inl ⟨by rfl,?_⟩) (by assumption) ?_
                 rotate_left
                 ·(intro w j; (try dsimp only at j); go_simp; (try with_reducible rfl))
                 try simp only [Act.put,List.setIfInBounds_toArray,List.set_cons_zero,List.set_cons_succ]
                 refine wpAnyH_done (by kernel_rfl) ?_ _
                 go_wp2_with fail
                 go_ret
                 exact ⟨by rw [o7.o]; rfl,((a5.o.trans (But.of (cb_no s.o) y.o)).trans d8.o).trans p4.o,u6.o,⟨_,o2.o⟩,fun T' h=>x4.o T' (o7.o.symm.trans h)⟩
end Go.Proofs.YtfclfbpjjlinhaaGreatDoor.L
