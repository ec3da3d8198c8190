import Derived.Test.YtfclfbpjjlinhaaGreatDoorTcNp
import Derived.Deep.Cut
set_option maxRecDepth 100000
set_option maxHeartbeats 8000000
namespace Go.Proofs.YtfclfbpjjlinhaaGreatDoor.L
open Go.ChangeShapes Go.WideShapes Go.ChangeAt Go.RowKit
theorem addUp_ne (n:Nat) (rv mv:Value) (F:List Lr) (mu:List (List UInt8)) (w:World) (hr:RowsAt w rv F) (hm:StrsAt w mv mu) (hlen:mu.length≠F.length) :
 Calls Tryz.prog 54 #[.int .i64 (n:Nat),rv,mv] w fun e w'=>e=.returned (.bool (addsB n (F.map nrOf) mu))∧Up w w':=by
 obtain ⟨y,s,rfl,r1,r2,j⟩:=hr; obtain ⟨u,m,rfl,m1,m2,m3⟩:=hm; unfold maxLen at r2 m2; have D:((mu.length:Int)==(F.length:Int))=false:=by rw [beq_eq_false_iff_ne]; omega
 have h:Hid (addsB n (F.map nrOf) mu=false):=by unfold Hid addsB; rw [List.length_map,decide_eq_false hlen]; rfl
 clear hlen j m3
 go_enter Tryz.func54,Tryz.ntmps54
 go_wp2_with fail
 go_ret
 exact ⟨ret_bool h.o.symm,Below.refl _ _⟩
theorem addUp_all (n:Nat) (rv mv:Value) (F:List Lr) (mu:List (List UInt8)) (w:World) (hr:RowsAt w rv F) (hm:StrsAt w mv mu) (hT:Tabs w) (hn:n≤20) (hF:∀ f∈F,RowT n f) (hl:F.length≤50) (hsm:∀ s∈mu,s.length≤1048576) :
 Calls Tryz.prog 54 #[.int .i64 (n:Nat),rv,mv] w fun e w'=>e=.returned (.bool (addsB n (F.map nrOf) mu))∧Up w w':=by
 by_cases h:mu.length=F.length
 ·exact addUp_any n rv mv F mu w hr hm hT hn hF hl h hsm
 exact addUp_ne n rv mv F mu w hr hm h
structure Sol (g:Nat) (W W':World):Prop where
 size:W.heap.size≤W'.heap.size
 block:∀ b,b<W.heap.size→b≠g→W'.heap[b]? = W.heap[b]?
theorem Sol.of {g:Nat} {W W':World} (h:Up W W'):Sol g W W':=⟨h.size,fun b hb _=>h.block b hb⟩
theorem Sol.trans {g:Nat} {W W' W'':World} (h:Sol g W W') (k:Sol g W' W''):Sol g W W'':=⟨Nat.le_trans h.size k.size,fun b hb hg=>(k.block b (Nat.lt_of_lt_of_le hb h.size) hg).trans (h.block b hb hg)⟩
theorem Sol.set {g:Nat} (W:World) (i:Nat) (u:Value):Sol g W (W.setCell ⟨g,i,none⟩ u):=⟨by simp,fun b _ hb=>Below.heap_setCell _ ⟨g,i,none⟩ _ _ hb⟩
theorem Sol.cell {g:Nat} {W W':World} (h:Sol g W W') {b i:Nat} (hb:b<W.heap.size) (hg:b≠g):W'.cell? ⟨b,i,none⟩=W.cell? ⟨b,i,none⟩:=World.cell?_of_block (a:=⟨b,i,none⟩) (h.block b hb hg)
theorem StrsAt.sol {cb:Nat} {w w':World} {v:Value} {L:List (List UInt8)} (h:StrsAt w v L) (k:Sol cb w w') {n:Int} {a b:Value} (hx:Bx w cb [.int .i64 n,a,b]):StrsAt w' v L:=by
 obtain ⟨p,c,rfl,s,h2,h3⟩:=h; refine ⟨p,c,rfl,s,h2,?_⟩
 rcases h3 with h3|⟨g,e,hl,m⟩
 ·exact .inl h3
 by_cases j:L=[]
 ·exact .inl j
 have u:g≠cb:=fun e=>by
  have:=m 0 (List.length_pos_iff.2 j); rw [e,hx.c3.1] at this
  cases this
 exact .inr ⟨g,e,Nat.lt_of_lt_of_le hl k.size,fun i hi=>(k.cell hl u).trans (m i hi)⟩
theorem RowsAt.sol {cb:Nat} {w w':World} {v:Value} {F:List Lr} (h:RowsAt w v F) (k:Sol cb w w') {n:Int} {b:Value} {p1:Option Addr} {l1 c1:Nat} (hx:Bx w cb [.int .i64 n,.slice p1 l1 c1,b]):RowsAt w' v F:=by
 obtain ⟨p,c,rfl,y,h2,h3⟩:=h; refine ⟨p,c,rfl,y,h2,?_⟩
 rcases h3 with h3|⟨g,e,hl,s⟩
 ·exact .inl h3
 by_cases m:F=[]
 ·exact .inl m
 have j:g≠cb:=fun e=>by
  have:=(s 0 (List.length_pos_iff.2 m)).2.1; rw [e] at this; have h2:=hx.c3.2.1; rw [show 0*3+1=1 from rfl,h2] at this
  cases this
 refine .inr ⟨g,e,Nat.lt_of_lt_of_le hl k.size,fun i hi=>?_⟩; obtain ⟨⟨va,a1,a2⟩,u,a4⟩:=s i hi; exact ⟨⟨va,(k.cell hl j).trans a1,a2.sol k hx⟩,(k.cell hl j).trans u,(k.cell hl j).trans a4⟩
theorem Bx.solTo {g cb:Nat} {w w':World} {l:List Value} (h:Bx w g l) (k:Sol cb w w') (hg:g≠cb):Bx w' g l:=by
 have hl:=h.lt; obtain ⟨j,h⟩:=h; exact ⟨j,(k.block g hl hg).trans h⟩
def Took (w0:World) (cb n:Nat) (wv:Value) (w:World) (r:Option (List Tn)) (e:Ending) (w':World):Prop:=
 e=.returned (.bool r.isSome)∧Sol cb w w'∧Up w0 w'∧∀ T',r=some T'→∃ pt ct,Bx w' cb [.int .i64 (n:Nat),wv,.slice pt T'.length ct]∧TreeAt w0 (.slice pt T'.length ct) T'
theorem tree_tail {w:World} {p:Option Addr} {c:Nat} {f:Tn} {T:List Tn} (h:TreeAt w (.slice p (T.length+1) c) (f::T)):T.length+1≤c∧c≤maxLen∧∃ b off va,p=some ⟨b,off,none⟩∧b<w.heap.size∧w.cell? ⟨b,off,none⟩=some (.int .i64 f.col)∧w.cell? ⟨b,off+1,none⟩=some (.string (strOf f.pl))∧w.cell? ⟨b,off+2,none⟩=some va∧StrsAt w va f.mu∧TreeAt w (.slice (some ⟨b,off+3,none⟩) T.length (c - 1)) T:=by
 obtain ⟨J,I,e,m,h2,h3⟩:=h; simp only [Value.slice.injEq] at e; obtain ⟨rfl,-,rfl⟩:=e; simp only [List.length_cons] at m
 rcases h3 with h3|⟨b,off,rfl,hl,s⟩
 ·cases h3
 obtain ⟨a1,a2,va,u,a4⟩:=s 0 (by simp); refine ⟨m,h2,b,off,va,rfl,hl,a1,a2,u,a4,_,_,rfl,by omega,by omega,?_⟩
 by_cases E:T=[]
 ·exact .inl E
 refine .inr ⟨b,off+3,rfl,hl,fun i hi=>?_⟩; obtain ⟨b1,b2,H,j,y⟩:=s (i+1) (by simp; omega); have D:off+(i+1)*3=off+3+i*3:=by omega
 rw [D] at b1 b2 j; exact ⟨b1,b2,H,j,y⟩
theorem takeT_suffix (n:Nat) (Wh:List Bool):∀ (k:Nat) (G:List Nr) (T T':List Tn),takeT n Wh k G T=some T'→T' <:+ T
 | 0,_,_,_=>fun h=>by cases h
 | _+1,_,[],_=>fun h=>by cases h
 | k+1,G,f::T,T'=>fun h=>by
   unfold takeT at h
   split at h
   ·cases h
   ·split at h
    ·split at h
     ·cases h; exact List.suffix_cons f T
     ·cases h
    ·split at h
     ·split at h
      ·cases h
      ·rename_i T1 h1
       exact ((takeT_suffix n Wh k _ _ _ h).trans (takeT_suffix n Wh k _ _ _ h1)).trans (List.suffix_cons f T)
     ·cases h
theorem StrsAt.solN {cb:Nat} {w w':World} {v:Value} {L:List (List UInt8)} (h:StrsAt w v L) (k:Sol cb w w') {a:Value} (hx:w.cell? ⟨cb,0,none⟩=some a) (ha:∀ s,a≠.string s):StrsAt w' v L:=by
 obtain ⟨p,c,rfl,u,h2,h3⟩:=h; refine ⟨p,c,rfl,u,h2,?_⟩
 rcases h3 with h3|⟨g,e,hl,m⟩
 ·exact .inl h3
 by_cases j:L=[]
 ·exact .inl j
 have y:g≠cb:=fun e=>by
  have:=m 0 (List.length_pos_iff.2 j); rw [e,hx] at this; simp only [Option.some.injEq] at this; exact ha _ this
 exact .inr ⟨g,e,Nat.lt_of_lt_of_le hl k.size,fun i hi=>(k.cell hl y).trans (m i hi)⟩
theorem strs_n {w:World} {base:Nat} {v:Value} {n:Nat} {L:List (List UInt8)} (hn:L.length=n) (h:w.ownsRow base 9 1 v n (strsC L)):StrsAt w v L:=by
 subst hn; exact strs_at h
def KidsR (f:Tn) (n col:Nat) (A:Int) (w3:World) (s6 s7:Value) (wx:World):Prop:=∃ (lo hi g1 g2:Nat) (u:List UInt8),s6=.pointer (some ⟨lo,0,none⟩)∧s7=.pointer (some ⟨hi,0,none⟩)∧Bx wx lo [.slice (some ⟨g1,0,none⟩) n n,.bool false,.string (strOf f.pl)]∧Bx wx hi [.slice (some ⟨g2,0,none⟩) n n,.bool false,.string (strOf u)]∧w3.heap.size≤lo∧w3.heap.size≤hi∧IsText (-(A+1)) (strOf u)∧StrsAt wx (.slice (some ⟨g1,0,none⟩) n n) (oneRow n col [49] f.pl).cs∧StrsAt wx (.slice (some ⟨g2,0,none⟩) n n) (oneRow n col [45,49] u).cs∧Up w3 wx
theorem takes_any (w0:World) (cb n:Nat) (Wh:List Bool) (pw:Option Addr) (cw:Nat) (hw:BoolsAt w0 (.slice pw Wh.length cw) Wh) (hlen:Wh.length=n) (hn:n≤20) (hT:Tabs w0) (hcb:w0.heap.size≤cb):∀ (k:Nat) (T:List Tn) (F:List Lr) (vr:Value) (pt:Option Addr) (ct:Nat) (w:World),T.length<k→(∀ f∈T,SmallT f)→Up w0 w→Bx w cb [.int .i64 (n:Nat),.slice pw Wh.length cw,.slice pt T.length ct]→TreeAt w0 (.slice pt T.length ct) T→RowsAt w vr F→(∀ f∈F,RowT n f)→F.length≤51 →
 Calls Tryz.prog 36 #[.pointer (some ⟨cb,0,none⟩),vr] w (Took w0 cb n (.slice pw Wh.length cw) w (takeT n Wh k (F.map nrOf) T))
 | 0,_,_,_,_,_,_=>fun h=>absurd h (Nat.not_lt_zero _)
 | k+1,T,F,vr,pt,ct,w=>fun hk hsm hb0 hx ht hr hF hl=>by
   have HX:=Hd hx
   have j5:=Hd hb0
   have HR:=Hd hr
   obtain ⟨pr,cr,rfl,r1,r2,-⟩:=hr
   unfold maxLen at r2
   obtain ⟨x0,x1,x2⟩:=hx.c3
   cases T with
   | nil=>
     clear hx hk ht hsm
     have HE:Hid (takeT n Wh (k+1) (F.map nrOf) []=none):=rfl
     go_enter Tryz.func36,Tryz.ntmps36
     go_wp2_with fail
     go_ret
     refine ⟨by rw [HE.o]; rfl,Sol.of (Below.refl _ _),j5.o,fun T' h=>by rw [HE.o] at h; cases h⟩
   | cons f T=>
     have m8:=Hd (hsm f (List.mem_cons_self ..))
     have p7:Hid (∀ g∈T,SmallT g):=fun g hg=>hsm g (List.mem_cons_of_mem _ hg)
     have p1:Hid (T.length<k):=by unfold Hid; simp only [List.length_cons] at hk; omega
     have l5:=Hd (takes_any w0 cb n Wh pw cw hw hlen hn hT hcb k)
     have m7:=Hd hF
     have HW:=Hd hw
     have x4:=Hd hlen
     have q0:=Hd hT
     simp only [List.length_cons] at ht x2
     obtain ⟨t1,t2,b,off,va,rfl,n9,c0,c1,c2,u5,u2⟩:=tree_tail ht
     unfold maxLen at t2
     have q1:=Hd u2
     rw [← hb0.cell (p:=⟨b,off,none⟩) n9] at c0
     rw [← hb0.cell (p:=⟨b,off+1,none⟩) n9] at c1
     rw [← hb0.cell (p:=⟨b,off+2,none⟩) n9] at c2
     have q4:=Hd (u5.below hb0)
     obtain ⟨pv,cv,rfl,v1,v2,-⟩:=u5
     unfold maxLen at v2
     clear hx hk ht hsm u2 hF hw hlen hT hb0
     by_cases j9:50<F.length
     ·have y5:decide ((50:Int)<(F.length:Int))=true:=decide_eq_true (by omega)
      have HE:Hid (takeT n Wh (k+1) (F.map nrOf) (f::T)=none):=by unfold Hid takeT; rw [if_pos (by rw [List.length_map]; exact j9)]
      clear c0 c1 c2 j9
      go_enter Tryz.func36,Tryz.ntmps36
      go_wp2_with fail
      go_ret
      refine ⟨by rw [HE.o]; rfl,Sol.of (Below.refl _ _),j5.o,fun T' h=>by rw [HE.o] at h; cases h⟩
     ·have y5:decide ((50:Int)<(F.length:Int))=false:=decide_eq_false (by omega)
      have t6:F.length≤50:=by omega
      have HH:Hid (¬ 50<(F.map nrOf).length):=by unfold Hid; rw [List.length_map]; exact j9
      have yl:((T.length:Int)+1==0)=false:=by rw [beq_eq_false_iff_ne]; omega
      obtain ⟨W1,k0⟩:=exW (w.alloc (.cells #[.int .i64 f.col,.string (strOf f.pl),.slice pv f.mu.length cv] 61))
      have n7:Up w W1:=by rw [← k0]; exact below_alloc _ _
      have r8:Bx W1 w.heap.size [.int .i64 f.col,.string (strOf f.pl),.slice pv f.mu.length cv]:=by rw [← k0]; exact bx_new w _ _
      have k5:=HX.o.below HX.o.lt n7
      have q6:=Hd k0
      have o9:=Hd k5
      have r5:=Hd r8
      have l9:=Hd n7
      have B3:cb<w.heap.size:=HX.o.lt
      have z2:=k5.frozen 2
      have s4:=k5.c3.2.2
      simp only [List.length_cons] at s4
      clear j9 k0 n7 r8 k5
      go_enter Tryz.func36,Tryz.ntmps36
      go_upto_region 4 with (rw [q6.o])
      go_cut [5] from 9 (fun s5 wx=>s5=.pointer (some ⟨w.heap.size,0,none⟩)∧∃ q c2,W1.setCell ⟨cb,2,none⟩ (.slice q T.length c2)=wx∧TreeAt w0 (.slice q T.length c2) T)
      case first=>
       by_cases h1:ct=1
       ·subst h1
        have h0:T=[]:=List.eq_nil_of_length_eq_zero (by omega)
        have y4:Hid (TreeAt w0 (.slice (some ⟨b,off,none⟩) T.length 0) T):=by
         subst h0
         exact ⟨_,_,rfl,leR,Nat.zero_le _,.inl rfl⟩
        have w9:Hid (T.length=0):=by unfold Hid; rw [h0]; rfl
        clear h0
        go_wp2_with fail
        go_meet
        case rel=>exact ⟨rfl,some ⟨b,off,none⟩,0,by rw [w9.o],y4.o⟩
       ·go_wp2_with fail
        go_meet
        case rel=>exact ⟨rfl,_,_,rfl,q1.o⟩
      case rest=>
       rename World=>W2
       obtain ⟨rfl,q,c2,j0,u0⟩:=hcut
       have g6:Hid (Bx W2 cb [.int .i64 (n:Nat),.slice pw Wh.length cw,.slice q T.length c2]):=by unfold Hid; rw [← j0]; exact o9.o.set 2 _
       have i6:Hid (Sol cb w W2):=by unfold Hid; rw [← j0]; exact (Sol.of l9.o).trans (Sol.set W1 2 _)
       have g7:Hid (Up w0 W2):=by unfold Hid; rw [← j0]; exact (j5.o.trans (l9.o.mono j5.o.size)).setCell (p:=⟨cb,2,none⟩) hcb _
       have i5:Hid (Bx W2 w.heap.size [.int .i64 f.col,.string (strOf f.pl),.slice pv f.mu.length cv]):=by unfold Hid; rw [← j0]; exact r5.o.solTo (Sol.set W1 2 _) (by omega)
       have p8:=Hd u0
       have p3:=Hd (HR.o.sol i6.o HX.o)
       have e5:=Hd (q4.o.sol i6.o HX.o)
       have m9:Hid (∀ W,Up W2 W→W.cell? ⟨w.heap.size,0,none⟩=some (.int .i64 f.col)∧W.cell? ⟨w.heap.size,1,none⟩=some (.string (strOf f.pl))∧W.cell? ⟨w.heap.size,2,none⟩=some (.slice pv f.mu.length cv)∧W.cell? ⟨cb,0,none⟩=some (.int .i64 (n:Nat))):=fun W hW=>by
        have h1:=(i5.o.below i5.o.lt hW).c3
        exact ⟨h1.1,h1.2.1,h1.2.2,(g6.o.below g6.o.lt hW).c3.1⟩
       obtain ⟨n0,n1,n2⟩:=i5.o.c3
       obtain ⟨d0,d1,d2⟩:=g6.o.c3
       clear j0 u0 z2 s4 x0 x1 x2 q6 o9 r5 l9 q1 q4
       by_cases e6:f.col = -1
       ·have yc:(f.col == -1)=true:=by rw [e6]; rfl
        have j7:=Hd e6
        clear e6
        have HE:Hid (takeT n Wh (k+1) (F.map nrOf) (f::T)=if (decide (f.pl=[])&&addsB n (F.map nrOf) f.mu)=true then some T else none):=by unfold Hid takeT; rw [if_neg HH.o,if_pos j7.o]
        have o4:=Hd (fun W (hW:Up W2 W)=>addUp_all n _ _ F f.mu W (p3.o.below hW) (e5.o.below hW) ((q0.o.below g7.o).below hW) hn m7.o t6 m8.o.1.2)
        obtain ⟨ba,s1⟩:=exW (addsB n (F.map nrOf) f.mu)
        rw [s1] at HE o4
        clear s1
        have p0:Hid (∀ (r:Bool) (W:World),Up W2 W→takeT n Wh (k+1) (F.map nrOf) (f::T)=(if r=true then some T else none)→Took w0 cb n (.slice pw Wh.length cw) w (takeT n Wh (k+1) (F.map nrOf) (f::T)) (.returned (.bool r)) W):=fun r W hW e=>by
         rw [e]
         refine ⟨by cases r<;>rfl,i6.o.trans (Sol.of hW),g7.o.trans (hW.mono g7.o.size),fun T' h=>?_⟩
         cases r with
         | false=>cases h
         | true=>cases h; exact ⟨q,c2,g6.o.below g6.o.lt hW,p8.o⟩
        by_cases hp:f.pl=[]
        ·have ys:((strOf f.pl).toList==[])=true:=by rw [ByteArray.toList_eq,strOf_toList,hp]; rfl
         rw [decide_eq_true hp,Bool.true_and] at HE
         have m6:=Hd (fun W hW=>p0.o ba W hW HE.o)
         clear hp
         go_wp2_with fail
         refine wrh 14 rfl (S:=fun W=>W.cell? ⟨w.heap.size,0,none⟩=some (.int .i64 f.col)∧W.cell? ⟨w.heap.size,1,none⟩=some (.string (strOf f.pl))∧W.cell? ⟨w.heap.size,2,none⟩=some (.slice pv f.mu.length cv)∧W.cell? ⟨cb,0,none⟩=some (.int .i64 (n:Nat))) (by kernel_rfl) (m9.o _ (Below.refl _ _).drew) (fun hHeld=>?_)
         iterate 11 ((first|(refine tkf 13 49 (v:=?_) rfl rfl (by kernel_rfl) (fun _ _ _ h=>h) (Or.inl ⟨by rfl,?_⟩) (by assumption) ?_; rotate_left; (intro w y; (try dsimp only at y); go_simp; (try with_reducible rfl)))|refine tkf 13 49 (v:=undef) rfl rfl (by kernel_rfl) (fun _ _ _ h=>h) (Or.inr ⟨by rfl,rfl⟩) (by assumption) ?_); simp only [Nat.reduceSub,Act.put,List.setIfInBounds_toArray,List.set_cons_zero,List.set_cons_succ])
         refine wpAnyH_ready (rs:=[11]) (by kernel_rfl) (by simp) ?_
         refine AllReadyH.cons rfl (fun K hK=>?_) AllReadyH.nil
         go_simp
         go_at_call 54
         refine (o4.o _ (Below.refl _ _).drew).mono ?_
         rintro e m ⟨rfl,h9⟩
         have a9:Hid (Up W2 m):=(Below.refl _ _).drew.trans h9
         have z0:=m9.o m a9.o
         clear h9
         go_wp2_with fail
         refine hK.out _ _ z0 (fun hHeld2=>?_)
         clear hK K
         try simp only [Act.put,List.setIfInBounds_toArray,List.set_cons_zero,List.set_cons_succ]
         iterate 1 ((first|(refine tkf 13 49 (v:=?_) rfl rfl (by kernel_rfl) (fun _ _ _ h=>h) (Or.inl ⟨by rfl,?_⟩) (by assumption) ?_; rotate_left; (intro w y; (try dsimp only at y); go_simp; (try with_reducible rfl)))|refine tkf 13 49 (v:=undef) rfl rfl (by kernel_rfl) (fun _ _ _ h=>h) (Or.inr ⟨by rfl,rfl⟩) (by assumption) ?_); simp only [Nat.reduceSub,Act.put,List.setIfInBounds_toArray,List.set_cons_zero,List.set_cons_succ])
         refine tk 13 4 (v:=?_) rfl rfl (by kernel_rfl) (fun _ _ _ h=>h) (Or.inl ⟨by rfl,?_⟩) (by assumption) ?_
         rotate_left
         ·(intro w y; (try dsimp only at y); go_simp; (try with_reducible rfl))
         try simp only [Act.put,List.setIfInBounds_toArray,List.set_cons_zero,List.set_cons_succ]
         refine wpAnyH_done (by kernel_rfl) ?_ _
         go_wp2_with fail
         go_ret
         exact m6.o m a9.o
        ·have ys:((strOf f.pl).toList==[])=false:=by rw [ByteArray.toList_eq,strOf_toList,beq_eq_false_iff_ne]; exact hp
         rw [decide_eq_false hp,Bool.false_and] at HE
         have m6:=Hd (fun W hW=>p0.o false W hW HE.o)
         clear hp
         go_wp2_with fail
         refine wrh 14 rfl (S:=fun W=>W.cell? ⟨w.heap.size,0,none⟩=some (.int .i64 f.col)∧W.cell? ⟨w.heap.size,1,none⟩=some (.string (strOf f.pl))∧W.cell? ⟨w.heap.size,2,none⟩=some (.slice pv f.mu.length cv)∧W.cell? ⟨cb,0,none⟩=some (.int .i64 (n:Nat))) (by kernel_rfl) (m9.o _ (Below.refl _ _).drew) (fun hHeld=>?_)
         iterate 13 ((first|(refine tkf 13 49 (v:=?_) rfl rfl (by kernel_rfl) (fun _ _ _ h=>h) (Or.inl ⟨by rfl,?_⟩) (by assumption) ?_; rotate_left; (intro w y; (try dsimp only at y); go_simp; (try with_reducible rfl)))|refine tkf 13 49 (v:=undef) rfl rfl (by kernel_rfl) (fun _ _ _ h=>h) (Or.inr ⟨by rfl,rfl⟩) (by assumption) ?_); simp only [Nat.reduceSub,Act.put,List.setIfInBounds_toArray,List.set_cons_zero,List.set_cons_succ])
         refine tk 13 4 (v:=?_) rfl rfl (by kernel_rfl) (fun _ _ _ h=>h) (Or.inl ⟨by rfl,?_⟩) (by assumption) ?_
         rotate_left
         ·(intro w y; (try dsimp only at y); go_simp; (try with_reducible rfl))
         try simp only [Act.put,List.setIfInBounds_toArray,List.set_cons_zero,List.set_cons_succ]
         refine wpAnyH_done (by kernel_rfl) ?_ _
         go_wp2_with fail
         go_ret
         exact m6.o _ (Below.refl _ _).drew
       ·have yc:(f.col == -1)=false:=by rw [beq_eq_false_iff_ne]; exact e6
        have j7:=Hd e6
        clear e6
        have i4:=Hd (isBranch_any cb n _ _ Wh f pv cv W2 g6.o (HW.o.below g7.o) x4.o hn m8.o.2)
        cases i2:branchB n Wh f with
        | false=>
          have HE:Hid (takeT n Wh (k+1) (F.map nrOf) (f::T)=none):=by unfold Hid takeT; unfold branchB at i2; rw [if_neg HH.o,if_neg j7.o,i2]; rfl
          rw [i2] at i4
          go_wp2_with fail
          refine i4.o.mono ?_
          rintro e m ⟨rfl,h9⟩
          have a9:=Hd h9
          clear h9
          go_wp2_with fail
          go_ret
          exact ⟨by rw [HE.o]; rfl,i6.o.trans (Sol.of a9.o),g7.o.trans (a9.o.mono g7.o.size),fun T' h=>by rw [HE.o] at h; cases h⟩
        | true=>
          have o8:=Hd i2
          rw [i2] at i4
          clear i2
          have n8:=o8.o
          unfold branchB at n8
          simp only [Bool.and_eq_true,decide_eq_true_eq] at n8
          obtain ⟨⟨⟨⟨g0,g1⟩,g2⟩,g3⟩,g4⟩:=n8
          obtain ⟨col,j1⟩:∃ col:Nat,f.col=(col:Int):=⟨f.col.toNat,by omega⟩
          have z1:col<n:=by omega
          have s3:f.col.toNat=col:=by omega
          obtain ⟨A,hA⟩:=exW (numT (strOf f.pl))
          have HE:Hid (takeT n Wh (k+1) (F.map nrOf) (f::T)=(match takeT n Wh k (F.map nrOf++[lowN n col A]) T with|none=>none|some T'=>takeT n Wh k (F.map nrOf++[highN n col A]) T')):=by
           unfold Hid
           conv=>lhs; unfold takeT
           have hb:=o8.o
           unfold branchB at hb
           rw [if_neg HH.o,if_neg j7.o,if_pos hb,s3,hA]
           rfl
          have k7:textOk f.pl=true:=by
           unfold placeOk at g3
           rw [Bool.and_eq_true] at g3
           unfold textOk
           rw [g3.1,decide_eq_true (by have:=of_decide_eq_true g3.2; omega)]
           rfl
          have l8:Hid (A.natAbs<1000000000 ^ 5):=by unfold Hid; rw [← hA]; exact text_lt5 k7
          have i3:=Hd (fun W (hW:Up W2 W)=>childRows_any n f col pv f.mu.length cv W hn z1 j1 k7 m8.o.2 ((q0.o.below g7.o).below hW))
          have w8:Hid (isIntB (strOf f.pl)=true):=textOk_int k7
          clear g0 g1 g2 g3 g4 k7
          have A2:=Hd j1
          have h6:=Hd hA
          clear j1 s3 hA
          go_wp2_with fail
          refine i4.o.mono ?_
          rintro e m ⟨rfl,h9⟩
          have a9:=Hd h9
          have a5:Hid (∀ W,Up m W→W.cell? ⟨w.heap.size,0,none⟩=some (.int .i64 f.col)∧W.cell? ⟨w.heap.size,1,none⟩=some (.string (strOf f.pl))∧W.cell? ⟨w.heap.size,2,none⟩=some (.slice pv f.mu.length cv)∧W.cell? ⟨cb,0,none⟩=some (.int .i64 (n:Nat))):=fun W hW=>by
           have h1:=(i5.o.below i5.o.lt (a9.o.trans (hW.mono a9.o.size))).c3
           exact ⟨h1.1,h1.2.1,h1.2.2,(g6.o.below g6.o.lt (a9.o.trans (hW.mono a9.o.size))).c3.1⟩
          have i1:Hid (Up m m.drew):=(Below.refl _ _).drew
          clear h9 i4
          go_upto_region 9 with fail
          go_cut [6,7] from 53 (fun s6 s7 wx=>KidsR f n col A m s6 s7 wx)
          case first=>
           refine wrh 13 rfl (S:=fun W=>W.cell? ⟨w.heap.size,0,none⟩=some (.int .i64 f.col)∧W.cell? ⟨w.heap.size,1,none⟩=some (.string (strOf f.pl))∧W.cell? ⟨w.heap.size,2,none⟩=some (.slice pv f.mu.length cv)∧W.cell? ⟨cb,0,none⟩=some (.int .i64 (n:Nat))) (by kernel_rfl) (a5.o _ i1.o) (fun hHeld=>?_)
           refine tk 0 54 (v:=?_) rfl rfl (by kernel_rfl) (fun _ _ _ h=>h) (Or.inl ⟨by rfl,?_⟩) (by assumption) ?_
           rotate_left
           ·(intro w y; (try dsimp only at y); go_simp; (try with_reducible rfl))
           try simp only [Act.put,List.setIfInBounds_toArray,List.set_cons_zero,List.set_cons_succ]
           refine tk 1 55 (v:=?_) rfl rfl (by kernel_rfl) (fun _ _ _ h=>h) (Or.inl ⟨by rfl,?_⟩) (by assumption) ?_
           rotate_left
           ·(intro w y; (try dsimp only at y); go_simp; (try with_reducible rfl))
           try simp only [Act.put,List.setIfInBounds_toArray,List.set_cons_zero,List.set_cons_succ]
           refine tk 2 56 (v:=?_) rfl rfl (by kernel_rfl) (fun _ _ _ h=>h) (Or.inl ⟨by rfl,?_⟩) (by assumption) ?_
           rotate_left
           ·(intro w y; (try dsimp only at y); go_simp; (try with_reducible rfl))
           try simp only [Act.put,List.setIfInBounds_toArray,List.set_cons_zero,List.set_cons_succ]
           refine tk 3 57 (v:=?_) rfl rfl (by kernel_rfl) (fun _ _ _ h=>h) (Or.inl ⟨by rfl,?_⟩) (by assumption) ?_
           rotate_left
           ·(intro w y; (try dsimp only at y); go_simp; (try with_reducible rfl))
           try simp only [Act.put,List.setIfInBounds_toArray,List.set_cons_zero,List.set_cons_succ]
           refine tk 4 58 (v:=?_) rfl rfl (by kernel_rfl) (fun _ _ _ h=>h) (Or.inl ⟨by rfl,?_⟩) (by assumption) ?_
           rotate_left
           ·(intro w y; (try dsimp only at y); go_simp; (try with_reducible rfl))
           try simp only [Act.put,List.setIfInBounds_toArray,List.set_cons_zero,List.set_cons_succ]
           refine wpAnyH_ready (rs:=[5,9,10]) (by kernel_rfl) (by simp) ?_
           refine AllReadyH.cons rfl (fun K hK=>?_) (AllReadyH.cons rfl (fun K hK=>?_) (AllReadyH.cons rfl (fun K hK=>?_) AllReadyH.nil))
           ·go_simp
            go_at_call 56
            refine (i3.o _ (a9.o.trans (i1.o.mono a9.o.size))).mono ?_
            rintro e M ⟨g1,g2,u,rfl,hu,e3,e4,a8⟩
            have O:Hid (Up m M):=i1.o.trans (a8.mono i1.o.size)
            have q3:=Hd hu
            have l3:Hid (StrsAt M (.slice (some ⟨g1,0,none⟩) n n) (oneRow n col [49] f.pl).cs):=strs_n (oneRow_len _ _ _ _) e3
            have l4:Hid (StrsAt M (.slice (some ⟨g2,0,none⟩) n n) (oneRow n col [45,49] u).cs):=strs_n (oneRow_len _ _ _ _) e4
            clear hu e3 e4 a8
            go_wp2_with fail
            refine hK.out _ _ (a5.o _ O.o) (fun hHeld1=>?_)
            clear hK K
            try simp only [Act.put,List.setIfInBounds_toArray,List.set_cons_zero,List.set_cons_succ]
            refine tk 6 53 (v:=?_) rfl rfl (by kernel_rfl) (fun _ _ _ h=>h) (Or.inl ⟨by rfl,?_⟩) (by assumption) ?_
            rotate_left
            ·(intro w y; (try dsimp only at y); go_simp; (try with_reducible rfl))
            try simp only [Act.put,List.setIfInBounds_toArray,List.set_cons_zero,List.set_cons_succ]
            refine tk 7 60 (v:=?_) rfl rfl (by kernel_rfl) (fun _ _ _ h=>h) (Or.inl ⟨by rfl,?_⟩) (by assumption) ?_
            rotate_left
            ·(intro w y; (try dsimp only at y); go_simp; (try with_reducible rfl))
            try simp only [Act.put,List.setIfInBounds_toArray,List.set_cons_zero,List.set_cons_succ]
            refine tk 8 61 (v:=?_) rfl rfl (by kernel_rfl) (fun _ _ _ h=>h) (Or.inl ⟨by rfl,?_⟩) (by assumption) ?_
            rotate_left
            ·(intro w y; (try dsimp only at y); go_simp; (try with_reducible rfl))
            try simp only [Act.put,List.setIfInBounds_toArray,List.set_cons_zero,List.set_cons_succ]
            refine wpAnyH_ready (rs:=[9,10]) (by kernel_rfl) (by simp) ?_
            refine AllReadyH.cons rfl (fun K hK=>?_) (AllReadyH.cons rfl (fun K hK=>?_) AllReadyH.nil)
            ·obtain ⟨J,b6⟩:∃ V,M.alloc (.cells #[.slice none 0 0,.bool false,.string ⟨#[]⟩] 50)=V:=⟨_,rfl⟩
             have e5:=Hd b6
             have D:Up M J:=by rw [← b6]; exact below_alloc _ _
             have b5:Hid (Bx J M.heap.size [.slice none 0 0,.bool false,.string ⟨#[]⟩]):=by unfold Hid; rw [← b6]; exact bx_new M _ _
             have E:Hid (Up m J):=O.o.trans (D.mono O.o.size)
             have f5:=Hd (l3.o.below D)
             have f7:=Hd (l4.o.below D)
             clear b6 D
             go_simp
             go_wp2_with (rw [e5.o])
             try rw [e5.o]
             refine hK.out _ _ (a5.o _ E.o) (fun hHeld2=>?_)
             clear hK K
             try simp only [Act.put,List.setIfInBounds_toArray,List.set_cons_zero,List.set_cons_succ]
             refine wpAnyH_ready (rs:=[10]) (by kernel_rfl) (by simp) ?_
             refine AllReadyH.cons rfl (fun K hK=>?_) AllReadyH.nil
             obtain ⟨V3,b7⟩:∃ V,J.alloc (.cells #[.slice none 0 0,.bool false,.string ⟨#[]⟩] 50)=V:=⟨_,rfl⟩
             have g5:=Hd b7
             have D:Up J V3:=by rw [← b7]; exact below_alloc _ _
             have d9:Hid (Bx V3 J.heap.size [.slice none 0 0,.bool false,.string ⟨#[]⟩]):=by unfold Hid; rw [← b7]; exact bx_new J _ _
             have a6:Hid (Up m V3):=E.o.trans (D.mono E.o.size)
             have j:=Hd (b5.o.below b5.o.lt D)
             have d6:Hid (M.heap.size≠J.heap.size):=by unfold Hid; have:=b5.o.lt; omega
             have d4:=Hd (f5.o.below D)
             have d5:=Hd (f7.o.below D)
             clear b7 D
             go_simp
             go_wp2_with (rw [g5.o])
             try rw [g5.o]
             refine hK.out _ _ (a5.o _ a6.o) (fun hHeld3=>?_)
             clear hK K
             try simp only [Act.put,List.setIfInBounds_toArray,List.set_cons_zero,List.set_cons_succ]
             have H:Hid (m.heap.size≤M.heap.size):=by unfold Hid; exact O.o.size
             have I:Hid (m.heap.size≤J.heap.size):=by unfold Hid; exact E.o.size
             obtain ⟨t0,t1,t2⟩:=j.o.c3
             have f0:=j.o.frozen 0
             have f1:=j.o.frozen 1
             have f2:=j.o.frozen 2
             obtain ⟨WE,U⟩:=exW (((V3.setCell ⟨M.heap.size,0,none⟩ (.slice (some ⟨g1,0,none⟩) n n)).setCell ⟨M.heap.size,1,none⟩ (.bool false)).setCell ⟨M.heap.size,2,none⟩ (.string (strOf f.pl)))
             have d7:=Hd U
             have Z:Sol (M.heap.size) V3 WE:=by rw [← U]; exact ((Sol.set _ 0 _).trans (Sol.set _ 1 _)).trans (Sol.set _ 2 _)
             have e7:Hid (Bx WE (M.heap.size) [.slice (some ⟨g1,0,none⟩) n n,.bool false,.string (strOf f.pl)]):=by unfold Hid; rw [← U]; exact ((j.o.set 0 _).set 1 _).set 2 _
             have s:Hid (Bx WE (J.heap.size) [.slice none 0 0,.bool false,.string ⟨#[]⟩]):=d9.o.solTo Z (Ne.symm d6.o)
             have b9:Hid (Up m WE):=by unfold Hid; rw [← U]; exact ((a6.o.setCell (p:=⟨M.heap.size,0,none⟩) H.o _).setCell (p:=⟨M.heap.size,1,none⟩) H.o _).setCell (p:=⟨M.heap.size,2,none⟩) H.o _
             have c7:Hid (StrsAt WE (.slice (some ⟨g1,0,none⟩) n n) (oneRow n col [49] f.pl).cs):=d4.o.solN Z j.o.c3.1 (fun _ h=>by cases h)
             have c9:Hid (StrsAt WE (.slice (some ⟨g2,0,none⟩) n n) (oneRow n col [45,49] u).cs):=d5.o.solN Z j.o.c3.1 (fun _ h=>by cases h)
             clear U Z
             refine wpAnyH_ready (rs:=[11]) (by kernel_rfl) (by simp) ?_
             refine AllReadyH.cons rfl (fun K hK=>?_) AllReadyH.nil
             go_simp
             go_wp2_with (rw [d7.o])
             try rw [d7.o]
             refine hK.out _ _ (a5.o _ b9.o) (fun hHeldE=>?_)
             clear hK K t0 t1 t2 f0 f1 f2
             try simp only [Act.put,List.setIfInBounds_toArray,List.set_cons_zero,List.set_cons_succ]
             obtain ⟨t0,t1,t2⟩:=s.o.c3
             have f0:=s.o.frozen 0
             have f1:=s.o.frozen 1
             have f2:=s.o.frozen 2
             obtain ⟨WF,Y⟩:=exW (((WE.setCell ⟨J.heap.size,0,none⟩ (.slice (some ⟨g2,0,none⟩) n n)).setCell ⟨J.heap.size,1,none⟩ (.bool false)).setCell ⟨J.heap.size,2,none⟩ (.string (strOf u)))
             have d8:=Hd Y
             have a3:Sol (J.heap.size) WE WF:=by rw [← Y]; exact ((Sol.set _ 0 _).trans (Sol.set _ 1 _)).trans (Sol.set _ 2 _)
             have e9:Hid (Bx WF (J.heap.size) [.slice (some ⟨g2,0,none⟩) n n,.bool false,.string (strOf u)]):=by unfold Hid; rw [← Y]; exact ((s.o.set 0 _).set 1 _).set 2 _
             have e8:Hid (Bx WF (M.heap.size) [.slice (some ⟨g1,0,none⟩) n n,.bool false,.string (strOf f.pl)]):=e7.o.solTo a3 d6.o
             have d3:Hid (Up m WF):=by unfold Hid; rw [← Y]; exact ((b9.o.setCell (p:=⟨J.heap.size,0,none⟩) I.o _).setCell (p:=⟨J.heap.size,1,none⟩) I.o _).setCell (p:=⟨J.heap.size,2,none⟩) I.o _
             have f9:Hid (KidsR f n col A m (.pointer (some ⟨M.heap.size,0,none⟩)) (.pointer (some ⟨J.heap.size,0,none⟩)) WF):=⟨_,_,g1,g2,u,rfl,rfl,e8.o,e9.o,H.o,I.o,by rw [← h6.o]; exact q3.o,c7.o.solN a3 s.o.c3.1 (fun _ h=>by cases h),c9.o.solN a3 s.o.c3.1 (fun _ h=>by cases h),d3.o⟩
             clear Y a3
             refine wpAnyH_ready (rs:=[12]) (by kernel_rfl) (by simp) ?_
             refine AllReadyH.cons rfl (fun K hK=>?_) AllReadyH.nil
             go_simp
             go_wp2_with (rw [d8.o])
             try rw [d8.o]
             refine hK.out _ _ (a5.o _ d3.o) (fun hHeldF=>?_)
             clear hK K t0 t1 t2 f0 f1 f2
             try simp only [Act.put,List.setIfInBounds_toArray,List.set_cons_zero,List.set_cons_succ]
             refine wpAnyH_done (by kernel_rfl) ?_ _
             go_wp2_with fail
             go_meet
             case rel=>exact f9.o
            ·obtain ⟨J,b6⟩:∃ V,M.alloc (.cells #[.slice none 0 0,.bool false,.string ⟨#[]⟩] 50)=V:=⟨_,rfl⟩
             have e5:=Hd b6
             have D:Up M J:=by rw [← b6]; exact below_alloc _ _
             have b4:Hid (Bx J M.heap.size [.slice none 0 0,.bool false,.string ⟨#[]⟩]):=by unfold Hid; rw [← b6]; exact bx_new M _ _
             have E:Hid (Up m J):=O.o.trans (D.mono O.o.size)
             have f5:=Hd (l3.o.below D)
             have f7:=Hd (l4.o.below D)
             clear b6 D
             go_simp
             go_wp2_with (rw [e5.o])
             try rw [e5.o]
             refine hK.out _ _ (a5.o _ E.o) (fun hHeld2=>?_)
             clear hK K
             try simp only [Act.put,List.setIfInBounds_toArray,List.set_cons_zero,List.set_cons_succ]
             refine wpAnyH_ready (rs:=[9]) (by kernel_rfl) (by simp) ?_
             refine AllReadyH.cons rfl (fun K hK=>?_) AllReadyH.nil
             obtain ⟨V3,b7⟩:∃ V,J.alloc (.cells #[.slice none 0 0,.bool false,.string ⟨#[]⟩] 50)=V:=⟨_,rfl⟩
             have g5:=Hd b7
             have D:Up J V3:=by rw [← b7]; exact below_alloc _ _
             have j:Hid (Bx V3 J.heap.size [.slice none 0 0,.bool false,.string ⟨#[]⟩]):=by unfold Hid; rw [← b7]; exact bx_new J _ _
             have a6:Hid (Up m V3):=E.o.trans (D.mono E.o.size)
             have d9:=Hd (b4.o.below b4.o.lt D)
             have d6:Hid (J.heap.size≠M.heap.size):=by unfold Hid; have:=b4.o.lt; omega
             have d4:=Hd (f5.o.below D)
             have d5:=Hd (f7.o.below D)
             clear b7 D
             go_simp
             go_wp2_with (rw [g5.o])
             try rw [g5.o]
             refine hK.out _ _ (a5.o _ a6.o) (fun hHeld3=>?_)
             clear hK K
             try simp only [Act.put,List.setIfInBounds_toArray,List.set_cons_zero,List.set_cons_succ]
             have H:Hid (m.heap.size≤J.heap.size):=by unfold Hid; exact E.o.size
             have I:Hid (m.heap.size≤M.heap.size):=by unfold Hid; exact O.o.size
             obtain ⟨t0,t1,t2⟩:=j.o.c3
             have f0:=j.o.frozen 0
             have f1:=j.o.frozen 1
             have f2:=j.o.frozen 2
             obtain ⟨WE,U⟩:=exW (((V3.setCell ⟨J.heap.size,0,none⟩ (.slice (some ⟨g1,0,none⟩) n n)).setCell ⟨J.heap.size,1,none⟩ (.bool false)).setCell ⟨J.heap.size,2,none⟩ (.string (strOf f.pl)))
             have d7:=Hd U
             have Z:Sol (J.heap.size) V3 WE:=by rw [← U]; exact ((Sol.set _ 0 _).trans (Sol.set _ 1 _)).trans (Sol.set _ 2 _)
             have e7:Hid (Bx WE (J.heap.size) [.slice (some ⟨g1,0,none⟩) n n,.bool false,.string (strOf f.pl)]):=by unfold Hid; rw [← U]; exact ((j.o.set 0 _).set 1 _).set 2 _
             have s:Hid (Bx WE (M.heap.size) [.slice none 0 0,.bool false,.string ⟨#[]⟩]):=d9.o.solTo Z (Ne.symm d6.o)
             have b9:Hid (Up m WE):=by unfold Hid; rw [← U]; exact ((a6.o.setCell (p:=⟨J.heap.size,0,none⟩) H.o _).setCell (p:=⟨J.heap.size,1,none⟩) H.o _).setCell (p:=⟨J.heap.size,2,none⟩) H.o _
             have c7:Hid (StrsAt WE (.slice (some ⟨g1,0,none⟩) n n) (oneRow n col [49] f.pl).cs):=d4.o.solN Z j.o.c3.1 (fun _ h=>by cases h)
             have c9:Hid (StrsAt WE (.slice (some ⟨g2,0,none⟩) n n) (oneRow n col [45,49] u).cs):=d5.o.solN Z j.o.c3.1 (fun _ h=>by cases h)
             clear U Z
             refine wpAnyH_ready (rs:=[11]) (by kernel_rfl) (by simp) ?_
             refine AllReadyH.cons rfl (fun K hK=>?_) AllReadyH.nil
             go_simp
             go_wp2_with (rw [d7.o])
             try rw [d7.o]
             refine hK.out _ _ (a5.o _ b9.o) (fun hHeldE=>?_)
             clear hK K t0 t1 t2 f0 f1 f2
             try simp only [Act.put,List.setIfInBounds_toArray,List.set_cons_zero,List.set_cons_succ]
             obtain ⟨t0,t1,t2⟩:=s.o.c3
             have f0:=s.o.frozen 0
             have f1:=s.o.frozen 1
             have f2:=s.o.frozen 2
             obtain ⟨WF,Y⟩:=exW (((WE.setCell ⟨M.heap.size,0,none⟩ (.slice (some ⟨g2,0,none⟩) n n)).setCell ⟨M.heap.size,1,none⟩ (.bool false)).setCell ⟨M.heap.size,2,none⟩ (.string (strOf u)))
             have d8:=Hd Y
             have a3:Sol (M.heap.size) WE WF:=by rw [← Y]; exact ((Sol.set _ 0 _).trans (Sol.set _ 1 _)).trans (Sol.set _ 2 _)
             have e9:Hid (Bx WF (M.heap.size) [.slice (some ⟨g2,0,none⟩) n n,.bool false,.string (strOf u)]):=by unfold Hid; rw [← Y]; exact ((s.o.set 0 _).set 1 _).set 2 _
             have e8:Hid (Bx WF (J.heap.size) [.slice (some ⟨g1,0,none⟩) n n,.bool false,.string (strOf f.pl)]):=e7.o.solTo a3 d6.o
             have d3:Hid (Up m WF):=by unfold Hid; rw [← Y]; exact ((b9.o.setCell (p:=⟨M.heap.size,0,none⟩) I.o _).setCell (p:=⟨M.heap.size,1,none⟩) I.o _).setCell (p:=⟨M.heap.size,2,none⟩) I.o _
             have f9:Hid (KidsR f n col A m (.pointer (some ⟨J.heap.size,0,none⟩)) (.pointer (some ⟨M.heap.size,0,none⟩)) WF):=⟨_,_,g1,g2,u,rfl,rfl,e8.o,e9.o,H.o,I.o,by rw [← h6.o]; exact q3.o,c7.o.solN a3 s.o.c3.1 (fun _ h=>by cases h),c9.o.solN a3 s.o.c3.1 (fun _ h=>by cases h),d3.o⟩
             clear Y a3
             refine wpAnyH_ready (rs:=[12]) (by kernel_rfl) (by simp) ?_
             refine AllReadyH.cons rfl (fun K hK=>?_) AllReadyH.nil
             go_simp
             go_wp2_with (rw [d8.o])
             try rw [d8.o]
             refine hK.out _ _ (a5.o _ d3.o) (fun hHeldF=>?_)
             clear hK K t0 t1 t2 f0 f1 f2
             try simp only [Act.put,List.setIfInBounds_toArray,List.set_cons_zero,List.set_cons_succ]
             refine wpAnyH_done (by kernel_rfl) ?_ _
             go_wp2_with fail
             go_meet
             case rel=>exact f9.o
           ·obtain ⟨M,g9⟩:∃ V,(m.alloc (.cells #[.slice none 0 0,.bool false,.string ⟨#[]⟩] 50)).drew=V:=⟨_,rfl⟩
            have i8:=Hd g9
            have D:Up m M:=by rw [← g9]; exact (below_alloc m _).drew
            have h8:Hid (Bx M m.heap.size [.slice none 0 0,.bool false,.string ⟨#[]⟩]):=by unfold Hid; rw [← g9]; exact bx_new m _ _
            have O:=Hd D
            clear g9 D
            go_simp
            go_wp2_with (rw [i8.o])
            try rw [i8.o]
            refine hK.out _ _ (a5.o _ O.o) (fun hHeld1=>?_)
            clear hK K
            try simp only [Act.put,List.setIfInBounds_toArray,List.set_cons_zero,List.set_cons_succ]
            refine wpAnyH_ready (rs:=[5,10]) (by kernel_rfl) (by simp) ?_
            refine AllReadyH.cons rfl (fun K hK=>?_) (AllReadyH.cons rfl (fun K hK=>?_) AllReadyH.nil)
            ·go_simp
             go_at_call 56
             refine (i3.o _ (a9.o.trans (O.o.mono a9.o.size))).mono ?_
             rintro e J ⟨g1,g2,u,rfl,hu,e3,e4,a8⟩
             have E:Hid (Up m J):=O.o.trans (a8.mono O.o.size)
             have n4:=Hd hu
             have f5:Hid (StrsAt J (.slice (some ⟨g1,0,none⟩) n n) (oneRow n col [49] f.pl).cs):=strs_n (oneRow_len _ _ _ _) e3
             have f7:Hid (StrsAt J (.slice (some ⟨g2,0,none⟩) n n) (oneRow n col [45,49] u).cs):=strs_n (oneRow_len _ _ _ _) e4
             have b5:=Hd (h8.o.below h8.o.lt a8)
             clear hu e3 e4 a8
             go_wp2_with fail
             refine hK.out _ _ (a5.o _ E.o) (fun hHeld2=>?_)
             clear hK K
             try simp only [Act.put,List.setIfInBounds_toArray,List.set_cons_zero,List.set_cons_succ]
             refine tk 6 53 (v:=?_) rfl rfl (by kernel_rfl) (fun _ _ _ h=>h) (Or.inl ⟨by rfl,?_⟩) (by assumption) ?_
             rotate_left
             ·(intro w y; (try dsimp only at y); go_simp; (try with_reducible rfl))
             try simp only [Act.put,List.setIfInBounds_toArray,List.set_cons_zero,List.set_cons_succ]
             refine tk 7 60 (v:=?_) rfl rfl (by kernel_rfl) (fun _ _ _ h=>h) (Or.inl ⟨by rfl,?_⟩) (by assumption) ?_
             rotate_left
             ·(intro w y; (try dsimp only at y); go_simp; (try with_reducible rfl))
             try simp only [Act.put,List.setIfInBounds_toArray,List.set_cons_zero,List.set_cons_succ]
             refine tk 8 61 (v:=?_) rfl rfl (by kernel_rfl) (fun _ _ _ h=>h) (Or.inl ⟨by rfl,?_⟩) (by assumption) ?_
             rotate_left
             ·(intro w y; (try dsimp only at y); go_simp; (try with_reducible rfl))
             try simp only [Act.put,List.setIfInBounds_toArray,List.set_cons_zero,List.set_cons_succ]
             refine wpAnyH_ready (rs:=[10]) (by kernel_rfl) (by simp) ?_
             refine AllReadyH.cons rfl (fun K hK=>?_) AllReadyH.nil
             obtain ⟨V3,b7⟩:∃ V,J.alloc (.cells #[.slice none 0 0,.bool false,.string ⟨#[]⟩] 50)=V:=⟨_,rfl⟩
             have g5:=Hd b7
             have D:Up J V3:=by rw [← b7]; exact below_alloc _ _
             have d9:Hid (Bx V3 J.heap.size [.slice none 0 0,.bool false,.string ⟨#[]⟩]):=by unfold Hid; rw [← b7]; exact bx_new J _ _
             have a6:Hid (Up m V3):=E.o.trans (D.mono E.o.size)
             have j:=Hd (b5.o.below b5.o.lt D)
             have d6:Hid (m.heap.size≠J.heap.size):=by unfold Hid; have:=b5.o.lt; omega
             have d4:=Hd (f5.o.below D)
             have d5:=Hd (f7.o.below D)
             clear b7 D
             go_simp
             go_wp2_with (rw [g5.o])
             try rw [g5.o]
             refine hK.out _ _ (a5.o _ a6.o) (fun hHeld3=>?_)
             clear hK K
             try simp only [Act.put,List.setIfInBounds_toArray,List.set_cons_zero,List.set_cons_succ]
             have H:Hid (m.heap.size≤m.heap.size):=by unfold Hid; exact leR
             have I:Hid (m.heap.size≤J.heap.size):=by unfold Hid; exact E.o.size
             obtain ⟨t0,t1,t2⟩:=j.o.c3
             have f0:=j.o.frozen 0
             have f1:=j.o.frozen 1
             have f2:=j.o.frozen 2
             obtain ⟨WE,U⟩:=exW (((V3.setCell ⟨m.heap.size,0,none⟩ (.slice (some ⟨g1,0,none⟩) n n)).setCell ⟨m.heap.size,1,none⟩ (.bool false)).setCell ⟨m.heap.size,2,none⟩ (.string (strOf f.pl)))
             have d7:=Hd U
             have Z:Sol (m.heap.size) V3 WE:=by rw [← U]; exact ((Sol.set _ 0 _).trans (Sol.set _ 1 _)).trans (Sol.set _ 2 _)
             have e7:Hid (Bx WE (m.heap.size) [.slice (some ⟨g1,0,none⟩) n n,.bool false,.string (strOf f.pl)]):=by unfold Hid; rw [← U]; exact ((j.o.set 0 _).set 1 _).set 2 _
             have s:Hid (Bx WE (J.heap.size) [.slice none 0 0,.bool false,.string ⟨#[]⟩]):=d9.o.solTo Z (Ne.symm d6.o)
             have b9:Hid (Up m WE):=by unfold Hid; rw [← U]; exact ((a6.o.setCell (p:=⟨m.heap.size,0,none⟩) H.o _).setCell (p:=⟨m.heap.size,1,none⟩) H.o _).setCell (p:=⟨m.heap.size,2,none⟩) H.o _
             have c7:Hid (StrsAt WE (.slice (some ⟨g1,0,none⟩) n n) (oneRow n col [49] f.pl).cs):=d4.o.solN Z j.o.c3.1 (fun _ h=>by cases h)
             have c9:Hid (StrsAt WE (.slice (some ⟨g2,0,none⟩) n n) (oneRow n col [45,49] u).cs):=d5.o.solN Z j.o.c3.1 (fun _ h=>by cases h)
             clear U Z
             refine wpAnyH_ready (rs:=[11]) (by kernel_rfl) (by simp) ?_
             refine AllReadyH.cons rfl (fun K hK=>?_) AllReadyH.nil
             go_simp
             go_wp2_with (rw [d7.o])
             try rw [d7.o]
             refine hK.out _ _ (a5.o _ b9.o) (fun hHeldE=>?_)
             clear hK K t0 t1 t2 f0 f1 f2
             try simp only [Act.put,List.setIfInBounds_toArray,List.set_cons_zero,List.set_cons_succ]
             obtain ⟨t0,t1,t2⟩:=s.o.c3
             have f0:=s.o.frozen 0
             have f1:=s.o.frozen 1
             have f2:=s.o.frozen 2
             obtain ⟨WF,Y⟩:=exW (((WE.setCell ⟨J.heap.size,0,none⟩ (.slice (some ⟨g2,0,none⟩) n n)).setCell ⟨J.heap.size,1,none⟩ (.bool false)).setCell ⟨J.heap.size,2,none⟩ (.string (strOf u)))
             have d8:=Hd Y
             have a3:Sol (J.heap.size) WE WF:=by rw [← Y]; exact ((Sol.set _ 0 _).trans (Sol.set _ 1 _)).trans (Sol.set _ 2 _)
             have e9:Hid (Bx WF (J.heap.size) [.slice (some ⟨g2,0,none⟩) n n,.bool false,.string (strOf u)]):=by unfold Hid; rw [← Y]; exact ((s.o.set 0 _).set 1 _).set 2 _
             have e8:Hid (Bx WF (m.heap.size) [.slice (some ⟨g1,0,none⟩) n n,.bool false,.string (strOf f.pl)]):=e7.o.solTo a3 d6.o
             have d3:Hid (Up m WF):=by unfold Hid; rw [← Y]; exact ((b9.o.setCell (p:=⟨J.heap.size,0,none⟩) I.o _).setCell (p:=⟨J.heap.size,1,none⟩) I.o _).setCell (p:=⟨J.heap.size,2,none⟩) I.o _
             have f9:Hid (KidsR f n col A m (.pointer (some ⟨m.heap.size,0,none⟩)) (.pointer (some ⟨J.heap.size,0,none⟩)) WF):=⟨_,_,g1,g2,u,rfl,rfl,e8.o,e9.o,H.o,I.o,by rw [← h6.o]; exact n4.o,c7.o.solN a3 s.o.c3.1 (fun _ h=>by cases h),c9.o.solN a3 s.o.c3.1 (fun _ h=>by cases h),d3.o⟩
             clear Y a3
             refine wpAnyH_ready (rs:=[12]) (by kernel_rfl) (by simp) ?_
             refine AllReadyH.cons rfl (fun K hK=>?_) AllReadyH.nil
             go_simp
             go_wp2_with (rw [d8.o])
             try rw [d8.o]
             refine hK.out _ _ (a5.o _ d3.o) (fun hHeldF=>?_)
             clear hK K t0 t1 t2 f0 f1 f2
             try simp only [Act.put,List.setIfInBounds_toArray,List.set_cons_zero,List.set_cons_succ]
             refine wpAnyH_done (by kernel_rfl) ?_ _
             go_wp2_with fail
             go_meet
             case rel=>exact f9.o
            ·obtain ⟨J,b6⟩:∃ V,M.alloc (.cells #[.slice none 0 0,.bool false,.string ⟨#[]⟩] 50)=V:=⟨_,rfl⟩
             have e5:=Hd b6
             have D:Up M J:=by rw [← b6]; exact below_alloc _ _
             have b4:Hid (Bx J M.heap.size [.slice none 0 0,.bool false,.string ⟨#[]⟩]):=by unfold Hid; rw [← b6]; exact bx_new M _ _
             have E:Hid (Up m J):=O.o.trans (D.mono O.o.size)
             have b5:=Hd (h8.o.below h8.o.lt D)
             have d6:Hid (m.heap.size≠M.heap.size):=by unfold Hid; have:=h8.o.lt; omega
             clear b6 D
             go_simp
             go_wp2_with (rw [e5.o])
             try rw [e5.o]
             refine hK.out _ _ (a5.o _ E.o) (fun hHeld2=>?_)
             clear hK K
             try simp only [Act.put,List.setIfInBounds_toArray,List.set_cons_zero,List.set_cons_succ]
             refine wpAnyH_ready (rs:=[5]) (by kernel_rfl) (by simp) ?_
             refine AllReadyH.cons rfl (fun K hK=>?_) AllReadyH.nil
             go_simp
             go_at_call 56
             refine (i3.o _ (a9.o.trans (E.o.mono a9.o.size))).mono ?_
             rintro e V3 ⟨g1,g2,u,rfl,hu,e3,e4,a8⟩
             have a6:Hid (Up m V3):=E.o.trans (a8.mono E.o.size)
             have n5:=Hd hu
             have d4:Hid (StrsAt V3 (.slice (some ⟨g1,0,none⟩) n n) (oneRow n col [49] f.pl).cs):=strs_n (oneRow_len _ _ _ _) e3
             have d5:Hid (StrsAt V3 (.slice (some ⟨g2,0,none⟩) n n) (oneRow n col [45,49] u).cs):=strs_n (oneRow_len _ _ _ _) e4
             have j:=Hd (b5.o.below b5.o.lt a8)
             have d9:=Hd (b4.o.below b4.o.lt a8)
             clear hu e3 e4 a8
             go_wp2_with fail
             refine hK.out _ _ (a5.o _ a6.o) (fun hHeld3=>?_)
             clear hK K
             try simp only [Act.put,List.setIfInBounds_toArray,List.set_cons_zero,List.set_cons_succ]
             refine tk 6 53 (v:=?_) rfl rfl (by kernel_rfl) (fun _ _ _ h=>h) (Or.inl ⟨by rfl,?_⟩) (by assumption) ?_
             rotate_left
             ·(intro w y; (try dsimp only at y); go_simp; (try with_reducible rfl))
             try simp only [Act.put,List.setIfInBounds_toArray,List.set_cons_zero,List.set_cons_succ]
             refine tk 7 60 (v:=?_) rfl rfl (by kernel_rfl) (fun _ _ _ h=>h) (Or.inl ⟨by rfl,?_⟩) (by assumption) ?_
             rotate_left
             ·(intro w y; (try dsimp only at y); go_simp; (try with_reducible rfl))
             try simp only [Act.put,List.setIfInBounds_toArray,List.set_cons_zero,List.set_cons_succ]
             refine tk 8 61 (v:=?_) rfl rfl (by kernel_rfl) (fun _ _ _ h=>h) (Or.inl ⟨by rfl,?_⟩) (by assumption) ?_
             rotate_left
             ·(intro w y; (try dsimp only at y); go_simp; (try with_reducible rfl))
             try simp only [Act.put,List.setIfInBounds_toArray,List.set_cons_zero,List.set_cons_succ]
             have H:Hid (m.heap.size≤m.heap.size):=by unfold Hid; exact leR
             have I:Hid (m.heap.size≤M.heap.size):=by unfold Hid; exact O.o.size
             obtain ⟨t0,t1,t2⟩:=j.o.c3
             have f0:=j.o.frozen 0
             have f1:=j.o.frozen 1
             have f2:=j.o.frozen 2
             obtain ⟨WE,U⟩:=exW (((V3.setCell ⟨m.heap.size,0,none⟩ (.slice (some ⟨g1,0,none⟩) n n)).setCell ⟨m.heap.size,1,none⟩ (.bool false)).setCell ⟨m.heap.size,2,none⟩ (.string (strOf f.pl)))
             have d7:=Hd U
             have Z:Sol (m.heap.size) V3 WE:=by rw [← U]; exact ((Sol.set _ 0 _).trans (Sol.set _ 1 _)).trans (Sol.set _ 2 _)
             have e7:Hid (Bx WE (m.heap.size) [.slice (some ⟨g1,0,none⟩) n n,.bool false,.string (strOf f.pl)]):=by unfold Hid; rw [← U]; exact ((j.o.set 0 _).set 1 _).set 2 _
             have s:Hid (Bx WE (M.heap.size) [.slice none 0 0,.bool false,.string ⟨#[]⟩]):=d9.o.solTo Z (Ne.symm d6.o)
             have b9:Hid (Up m WE):=by unfold Hid; rw [← U]; exact ((a6.o.setCell (p:=⟨m.heap.size,0,none⟩) H.o _).setCell (p:=⟨m.heap.size,1,none⟩) H.o _).setCell (p:=⟨m.heap.size,2,none⟩) H.o _
             have c7:Hid (StrsAt WE (.slice (some ⟨g1,0,none⟩) n n) (oneRow n col [49] f.pl).cs):=d4.o.solN Z j.o.c3.1 (fun _ h=>by cases h)
             have c9:Hid (StrsAt WE (.slice (some ⟨g2,0,none⟩) n n) (oneRow n col [45,49] u).cs):=d5.o.solN Z j.o.c3.1 (fun _ h=>by cases h)
             clear U Z
             refine wpAnyH_ready (rs:=[11]) (by kernel_rfl) (by simp) ?_
             refine AllReadyH.cons rfl (fun K hK=>?_) AllReadyH.nil
             go_simp
             go_wp2_with (rw [d7.o])
             try rw [d7.o]
             refine hK.out _ _ (a5.o _ b9.o) (fun hHeldE=>?_)
             clear hK K t0 t1 t2 f0 f1 f2
             try simp only [Act.put,List.setIfInBounds_toArray,List.set_cons_zero,List.set_cons_succ]
             obtain ⟨t0,t1,t2⟩:=s.o.c3
             have f0:=s.o.frozen 0
             have f1:=s.o.frozen 1
             have f2:=s.o.frozen 2
             obtain ⟨WF,Y⟩:=exW (((WE.setCell ⟨M.heap.size,0,none⟩ (.slice (some ⟨g2,0,none⟩) n n)).setCell ⟨M.heap.size,1,none⟩ (.bool false)).setCell ⟨M.heap.size,2,none⟩ (.string (strOf u)))
             have d8:=Hd Y
             have a3:Sol (M.heap.size) WE WF:=by rw [← Y]; exact ((Sol.set _ 0 _).trans (Sol.set _ 1 _)).trans (Sol.set _ 2 _)
             have e9:Hid (Bx WF (M.heap.size) [.slice (some ⟨g2,0,none⟩) n n,.bool false,.string (strOf u)]):=by unfold Hid; rw [← Y]; exact ((s.o.set 0 _).set 1 _).set 2 _
             have e8:Hid (Bx WF (m.heap.size) [.slice (some ⟨g1,0,none⟩) n n,.bool false,.string (strOf f.pl)]):=e7.o.solTo a3 d6.o
             have d3:Hid (Up m WF):=by unfold Hid; rw [← Y]; exact ((b9.o.setCell (p:=⟨M.heap.size,0,none⟩) I.o _).setCell (p:=⟨M.heap.size,1,none⟩) I.o _).setCell (p:=⟨M.heap.size,2,none⟩) I.o _
             have f9:Hid (KidsR f n col A m (.pointer (some ⟨m.heap.size,0,none⟩)) (.pointer (some ⟨M.heap.size,0,none⟩)) WF):=⟨_,_,g1,g2,u,rfl,rfl,e8.o,e9.o,H.o,I.o,by rw [← h6.o]; exact n5.o,c7.o.solN a3 s.o.c3.1 (fun _ h=>by cases h),c9.o.solN a3 s.o.c3.1 (fun _ h=>by cases h),d3.o⟩
             clear Y a3
             refine wpAnyH_ready (rs:=[12]) (by kernel_rfl) (by simp) ?_
             refine AllReadyH.cons rfl (fun K hK=>?_) AllReadyH.nil
             go_simp
             go_wp2_with (rw [d8.o])
             try rw [d8.o]
             refine hK.out _ _ (a5.o _ d3.o) (fun hHeldF=>?_)
             clear hK K t0 t1 t2 f0 f1 f2
             try simp only [Act.put,List.setIfInBounds_toArray,List.set_cons_zero,List.set_cons_succ]
             refine wpAnyH_done (by kernel_rfl) ?_ _
             go_wp2_with fail
             go_meet
             case rel=>exact f9.o
           ·obtain ⟨M,g9⟩:∃ V,(m.alloc (.cells #[.slice none 0 0,.bool false,.string ⟨#[]⟩] 50)).drew=V:=⟨_,rfl⟩
            have i8:=Hd g9
            have D:Up m M:=by rw [← g9]; exact (below_alloc m _).drew
            have h7:Hid (Bx M m.heap.size [.slice none 0 0,.bool false,.string ⟨#[]⟩]):=by unfold Hid; rw [← g9]; exact bx_new m _ _
            have O:=Hd D
            clear g9 D
            go_simp
            go_wp2_with (rw [i8.o])
            try rw [i8.o]
            refine hK.out _ _ (a5.o _ O.o) (fun hHeld1=>?_)
            clear hK K
            try simp only [Act.put,List.setIfInBounds_toArray,List.set_cons_zero,List.set_cons_succ]
            refine wpAnyH_ready (rs:=[5,9]) (by kernel_rfl) (by simp) ?_
            refine AllReadyH.cons rfl (fun K hK=>?_) (AllReadyH.cons rfl (fun K hK=>?_) AllReadyH.nil)
            ·go_simp
             go_at_call 56
             refine (i3.o _ (a9.o.trans (O.o.mono a9.o.size))).mono ?_
             rintro e J ⟨g1,g2,u,rfl,hu,e3,e4,a8⟩
             have E:Hid (Up m J):=O.o.trans (a8.mono O.o.size)
             have n4:=Hd hu
             have f5:Hid (StrsAt J (.slice (some ⟨g1,0,none⟩) n n) (oneRow n col [49] f.pl).cs):=strs_n (oneRow_len _ _ _ _) e3
             have f7:Hid (StrsAt J (.slice (some ⟨g2,0,none⟩) n n) (oneRow n col [45,49] u).cs):=strs_n (oneRow_len _ _ _ _) e4
             have b4:=Hd (h7.o.below h7.o.lt a8)
             clear hu e3 e4 a8
             go_wp2_with fail
             refine hK.out _ _ (a5.o _ E.o) (fun hHeld2=>?_)
             clear hK K
             try simp only [Act.put,List.setIfInBounds_toArray,List.set_cons_zero,List.set_cons_succ]
             refine tk 6 53 (v:=?_) rfl rfl (by kernel_rfl) (fun _ _ _ h=>h) (Or.inl ⟨by rfl,?_⟩) (by assumption) ?_
             rotate_left
             ·(intro w y; (try dsimp only at y); go_simp; (try with_reducible rfl))
             try simp only [Act.put,List.setIfInBounds_toArray,List.set_cons_zero,List.set_cons_succ]
             refine tk 7 60 (v:=?_) rfl rfl (by kernel_rfl) (fun _ _ _ h=>h) (Or.inl ⟨by rfl,?_⟩) (by assumption) ?_
             rotate_left
             ·(intro w y; (try dsimp only at y); go_simp; (try with_reducible rfl))
             try simp only [Act.put,List.setIfInBounds_toArray,List.set_cons_zero,List.set_cons_succ]
             refine tk 8 61 (v:=?_) rfl rfl (by kernel_rfl) (fun _ _ _ h=>h) (Or.inl ⟨by rfl,?_⟩) (by assumption) ?_
             rotate_left
             ·(intro w y; (try dsimp only at y); go_simp; (try with_reducible rfl))
             try simp only [Act.put,List.setIfInBounds_toArray,List.set_cons_zero,List.set_cons_succ]
             refine wpAnyH_ready (rs:=[9]) (by kernel_rfl) (by simp) ?_
             refine AllReadyH.cons rfl (fun K hK=>?_) AllReadyH.nil
             obtain ⟨V3,b7⟩:∃ V,J.alloc (.cells #[.slice none 0 0,.bool false,.string ⟨#[]⟩] 50)=V:=⟨_,rfl⟩
             have g5:=Hd b7
             have D:Up J V3:=by rw [← b7]; exact below_alloc _ _
             have j:Hid (Bx V3 J.heap.size [.slice none 0 0,.bool false,.string ⟨#[]⟩]):=by unfold Hid; rw [← b7]; exact bx_new J _ _
             have a6:Hid (Up m V3):=E.o.trans (D.mono E.o.size)
             have d9:=Hd (b4.o.below b4.o.lt D)
             have d6:Hid (J.heap.size≠m.heap.size):=by unfold Hid; have:=b4.o.lt; omega
             have d4:=Hd (f5.o.below D)
             have d5:=Hd (f7.o.below D)
             clear b7 D
             go_simp
             go_wp2_with (rw [g5.o])
             try rw [g5.o]
             refine hK.out _ _ (a5.o _ a6.o) (fun hHeld3=>?_)
             clear hK K
             try simp only [Act.put,List.setIfInBounds_toArray,List.set_cons_zero,List.set_cons_succ]
             have H:Hid (m.heap.size≤J.heap.size):=by unfold Hid; exact E.o.size
             have I:Hid (m.heap.size≤m.heap.size):=by unfold Hid; exact leR
             obtain ⟨t0,t1,t2⟩:=j.o.c3
             have f0:=j.o.frozen 0
             have f1:=j.o.frozen 1
             have f2:=j.o.frozen 2
             obtain ⟨WE,U⟩:=exW (((V3.setCell ⟨J.heap.size,0,none⟩ (.slice (some ⟨g1,0,none⟩) n n)).setCell ⟨J.heap.size,1,none⟩ (.bool false)).setCell ⟨J.heap.size,2,none⟩ (.string (strOf f.pl)))
             have d7:=Hd U
             have Z:Sol (J.heap.size) V3 WE:=by rw [← U]; exact ((Sol.set _ 0 _).trans (Sol.set _ 1 _)).trans (Sol.set _ 2 _)
             have e7:Hid (Bx WE (J.heap.size) [.slice (some ⟨g1,0,none⟩) n n,.bool false,.string (strOf f.pl)]):=by unfold Hid; rw [← U]; exact ((j.o.set 0 _).set 1 _).set 2 _
             have s:Hid (Bx WE (m.heap.size) [.slice none 0 0,.bool false,.string ⟨#[]⟩]):=d9.o.solTo Z (Ne.symm d6.o)
             have b9:Hid (Up m WE):=by unfold Hid; rw [← U]; exact ((a6.o.setCell (p:=⟨J.heap.size,0,none⟩) H.o _).setCell (p:=⟨J.heap.size,1,none⟩) H.o _).setCell (p:=⟨J.heap.size,2,none⟩) H.o _
             have c7:Hid (StrsAt WE (.slice (some ⟨g1,0,none⟩) n n) (oneRow n col [49] f.pl).cs):=d4.o.solN Z j.o.c3.1 (fun _ h=>by cases h)
             have c9:Hid (StrsAt WE (.slice (some ⟨g2,0,none⟩) n n) (oneRow n col [45,49] u).cs):=d5.o.solN Z j.o.c3.1 (fun _ h=>by cases h)
             clear U Z
             refine wpAnyH_ready (rs:=[11]) (by kernel_rfl) (by simp) ?_
             refine AllReadyH.cons rfl (fun K hK=>?_) AllReadyH.nil
             go_simp
             go_wp2_with (rw [d7.o])
             try rw [d7.o]
             refine hK.out _ _ (a5.o _ b9.o) (fun hHeldE=>?_)
             clear hK K t0 t1 t2 f0 f1 f2
             try simp only [Act.put,List.setIfInBounds_toArray,List.set_cons_zero,List.set_cons_succ]
             obtain ⟨t0,t1,t2⟩:=s.o.c3
             have f0:=s.o.frozen 0
             have f1:=s.o.frozen 1
             have f2:=s.o.frozen 2
             obtain ⟨WF,Y⟩:=exW (((WE.setCell ⟨m.heap.size,0,none⟩ (.slice (some ⟨g2,0,none⟩) n n)).setCell ⟨m.heap.size,1,none⟩ (.bool false)).setCell ⟨m.heap.size,2,none⟩ (.string (strOf u)))
             have d8:=Hd Y
             have a3:Sol (m.heap.size) WE WF:=by rw [← Y]; exact ((Sol.set _ 0 _).trans (Sol.set _ 1 _)).trans (Sol.set _ 2 _)
             have e9:Hid (Bx WF (m.heap.size) [.slice (some ⟨g2,0,none⟩) n n,.bool false,.string (strOf u)]):=by unfold Hid; rw [← Y]; exact ((s.o.set 0 _).set 1 _).set 2 _
             have e8:Hid (Bx WF (J.heap.size) [.slice (some ⟨g1,0,none⟩) n n,.bool false,.string (strOf f.pl)]):=e7.o.solTo a3 d6.o
             have d3:Hid (Up m WF):=by unfold Hid; rw [← Y]; exact ((b9.o.setCell (p:=⟨m.heap.size,0,none⟩) I.o _).setCell (p:=⟨m.heap.size,1,none⟩) I.o _).setCell (p:=⟨m.heap.size,2,none⟩) I.o _
             have f9:Hid (KidsR f n col A m (.pointer (some ⟨J.heap.size,0,none⟩)) (.pointer (some ⟨m.heap.size,0,none⟩)) WF):=⟨_,_,g1,g2,u,rfl,rfl,e8.o,e9.o,H.o,I.o,by rw [← h6.o]; exact n4.o,c7.o.solN a3 s.o.c3.1 (fun _ h=>by cases h),c9.o.solN a3 s.o.c3.1 (fun _ h=>by cases h),d3.o⟩
             clear Y a3
             refine wpAnyH_ready (rs:=[12]) (by kernel_rfl) (by simp) ?_
             refine AllReadyH.cons rfl (fun K hK=>?_) AllReadyH.nil
             go_simp
             go_wp2_with (rw [d8.o])
             try rw [d8.o]
             refine hK.out _ _ (a5.o _ d3.o) (fun hHeldF=>?_)
             clear hK K t0 t1 t2 f0 f1 f2
             try simp only [Act.put,List.setIfInBounds_toArray,List.set_cons_zero,List.set_cons_succ]
             refine wpAnyH_done (by kernel_rfl) ?_ _
             go_wp2_with fail
             go_meet
             case rel=>exact f9.o
            ·obtain ⟨J,b6⟩:∃ V,M.alloc (.cells #[.slice none 0 0,.bool false,.string ⟨#[]⟩] 50)=V:=⟨_,rfl⟩
             have e5:=Hd b6
             have D:Up M J:=by rw [← b6]; exact below_alloc _ _
             have b5:Hid (Bx J M.heap.size [.slice none 0 0,.bool false,.string ⟨#[]⟩]):=by unfold Hid; rw [← b6]; exact bx_new M _ _
             have E:Hid (Up m J):=O.o.trans (D.mono O.o.size)
             have b4:=Hd (h7.o.below h7.o.lt D)
             have d6:Hid (M.heap.size≠m.heap.size):=by unfold Hid; have:=h7.o.lt; omega
             clear b6 D
             go_simp
             go_wp2_with (rw [e5.o])
             try rw [e5.o]
             refine hK.out _ _ (a5.o _ E.o) (fun hHeld2=>?_)
             clear hK K
             try simp only [Act.put,List.setIfInBounds_toArray,List.set_cons_zero,List.set_cons_succ]
             refine wpAnyH_ready (rs:=[5]) (by kernel_rfl) (by simp) ?_
             refine AllReadyH.cons rfl (fun K hK=>?_) AllReadyH.nil
             go_simp
             go_at_call 56
             refine (i3.o _ (a9.o.trans (E.o.mono a9.o.size))).mono ?_
             rintro e V3 ⟨g1,g2,u,rfl,hu,e3,e4,a8⟩
             have a6:Hid (Up m V3):=E.o.trans (a8.mono E.o.size)
             have n5:=Hd hu
             have d4:Hid (StrsAt V3 (.slice (some ⟨g1,0,none⟩) n n) (oneRow n col [49] f.pl).cs):=strs_n (oneRow_len _ _ _ _) e3
             have d5:Hid (StrsAt V3 (.slice (some ⟨g2,0,none⟩) n n) (oneRow n col [45,49] u).cs):=strs_n (oneRow_len _ _ _ _) e4
             have j:=Hd (b5.o.below b5.o.lt a8)
             have d9:=Hd (b4.o.below b4.o.lt a8)
             clear hu e3 e4 a8
             go_wp2_with fail
             refine hK.out _ _ (a5.o _ a6.o) (fun hHeld3=>?_)
             clear hK K
             try simp only [Act.put,List.setIfInBounds_toArray,List.set_cons_zero,List.set_cons_succ]
             refine tk 6 53 (v:=?_) rfl rfl (by kernel_rfl) (fun _ _ _ h=>h) (Or.inl ⟨by rfl,?_⟩) (by assumption) ?_
             rotate_left
             ·(intro w y; (try dsimp only at y); go_simp; (try with_reducible rfl))
             try simp only [Act.put,List.setIfInBounds_toArray,List.set_cons_zero,List.set_cons_succ]
             refine tk 7 60 (v:=?_) rfl rfl (by kernel_rfl) (fun _ _ _ h=>h) (Or.inl ⟨by rfl,?_⟩) (by assumption) ?_
             rotate_left
             ·(intro w y; (try dsimp only at y); go_simp; (try with_reducible rfl))
             try simp only [Act.put,List.setIfInBounds_toArray,List.set_cons_zero,List.set_cons_succ]
             refine tk 8 61 (v:=?_) rfl rfl (by kernel_rfl) (fun _ _ _ h=>h) (Or.inl ⟨by rfl,?_⟩) (by assumption) ?_
             rotate_left
             ·(intro w y; (try dsimp only at y); go_simp; (try with_reducible rfl))
             try simp only [Act.put,List.setIfInBounds_toArray,List.set_cons_zero,List.set_cons_succ]
             have H:Hid (m.heap.size≤M.heap.size):=by unfold Hid; exact O.o.size
             have I:Hid (m.heap.size≤m.heap.size):=by unfold Hid; exact leR
             obtain ⟨t0,t1,t2⟩:=j.o.c3
             have f0:=j.o.frozen 0
             have f1:=j.o.frozen 1
             have f2:=j.o.frozen 2
             obtain ⟨WE,U⟩:=exW (((V3.setCell ⟨M.heap.size,0,none⟩ (.slice (some ⟨g1,0,none⟩) n n)).setCell ⟨M.heap.size,1,none⟩ (.bool false)).setCell ⟨M.heap.size,2,none⟩ (.string (strOf f.pl)))
             have d7:=Hd U
             have Z:Sol (M.heap.size) V3 WE:=by rw [← U]; exact ((Sol.set _ 0 _).trans (Sol.set _ 1 _)).trans (Sol.set _ 2 _)
             have e7:Hid (Bx WE (M.heap.size) [.slice (some ⟨g1,0,none⟩) n n,.bool false,.string (strOf f.pl)]):=by unfold Hid; rw [← U]; exact ((j.o.set 0 _).set 1 _).set 2 _
             have s:Hid (Bx WE (m.heap.size) [.slice none 0 0,.bool false,.string ⟨#[]⟩]):=d9.o.solTo Z (Ne.symm d6.o)
             have b9:Hid (Up m WE):=by unfold Hid; rw [← U]; exact ((a6.o.setCell (p:=⟨M.heap.size,0,none⟩) H.o _).setCell (p:=⟨M.heap.size,1,none⟩) H.o _).setCell (p:=⟨M.heap.size,2,none⟩) H.o _
             have c7:Hid (StrsAt WE (.slice (some ⟨g1,0,none⟩) n n) (oneRow n col [49] f.pl).cs):=d4.o.solN Z j.o.c3.1 (fun _ h=>by cases h)
             have c9:Hid (StrsAt WE (.slice (some ⟨g2,0,none⟩) n n) (oneRow n col [45,49] u).cs):=d5.o.solN Z j.o.c3.1 (fun _ h=>by cases h)
             clear U Z
             refine wpAnyH_ready (rs:=[11]) (by kernel_rfl) (by simp) ?_
             refine AllReadyH.cons rfl (fun K hK=>?_) AllReadyH.nil
             go_simp
             go_wp2_with (rw [d7.o])
             try rw [d7.o]
             refine hK.out _ _ (a5.o _ b9.o) (fun hHeldE=>?_)
             clear hK K t0 t1 t2 f0 f1 f2
             try simp only [Act.put,List.setIfInBounds_toArray,List.set_cons_zero,List.set_cons_succ]
             obtain ⟨t0,t1,t2⟩:=s.o.c3
             have f0:=s.o.frozen 0
             have f1:=s.o.frozen 1
             have f2:=s.o.frozen 2
             obtain ⟨WF,Y⟩:=exW (((WE.setCell ⟨m.heap.size,0,none⟩ (.slice (some ⟨g2,0,none⟩) n n)).setCell ⟨m.heap.size,1,none⟩ (.bool false)).setCell ⟨m.heap.size,2,none⟩ (.string (strOf u)))
             have d8:=Hd Y
             have a3:Sol (m.heap.size) WE WF:=by rw [← Y]; exact ((Sol.set _ 0 _).trans (Sol.set _ 1 _)).trans (Sol.set _ 2 _)
             have e9:Hid (Bx WF (m.heap.size) [.slice (some ⟨g2,0,none⟩) n n,.bool false,.string (strOf u)]):=by unfold Hid; rw [← Y]; exact ((s.o.set 0 _).set 1 _).set 2 _
             have e8:Hid (Bx WF (M.heap.size) [.slice (some ⟨g1,0,none⟩) n n,.bool false,.string (strOf f.pl)]):=e7.o.solTo a3 d6.o
             have d3:Hid (Up m WF):=by unfold Hid; rw [← Y]; exact ((b9.o.setCell (p:=⟨m.heap.size,0,none⟩) I.o _).setCell (p:=⟨m.heap.size,1,none⟩) I.o _).setCell (p:=⟨m.heap.size,2,none⟩) I.o _
             have f9:Hid (KidsR f n col A m (.pointer (some ⟨M.heap.size,0,none⟩)) (.pointer (some ⟨m.heap.size,0,none⟩)) WF):=⟨_,_,g1,g2,u,rfl,rfl,e8.o,e9.o,H.o,I.o,by rw [← h6.o]; exact n5.o,c7.o.solN a3 s.o.c3.1 (fun _ h=>by cases h),c9.o.solN a3 s.o.c3.1 (fun _ h=>by cases h),d3.o⟩
             clear Y a3
             refine wpAnyH_ready (rs:=[12]) (by kernel_rfl) (by simp) ?_
             refine AllReadyH.cons rfl (fun K hK=>?_) AllReadyH.nil
             go_simp
             go_wp2_with (rw [d8.o])
             try rw [d8.o]
             refine hK.out _ _ (a5.o _ d3.o) (fun hHeldF=>?_)
             clear hK K t0 t1 t2 f0 f1 f2
             try simp only [Act.put,List.setIfInBounds_toArray,List.set_cons_zero,List.set_cons_succ]
             refine wpAnyH_done (by kernel_rfl) ?_ _
             go_wp2_with fail
             go_meet
             case rel=>exact f9.o
          case rest=>
           rename World=>wx
           obtain ⟨lo,hi,g1,g2,u,rfl,rfl,o0,t5,t3,l7,hu,s8,s9,s2⟩:=hcut
           have A3:=Hd o0
           have w1:=Hd t5
           have v3:=Hd s8
           have v5:=Hd s9
           have j6:Hid (Up W2 wx):=a9.o.trans (s2.mono a9.o.size)
           have HU:=Hd hu
           have y6:Hid (m.heap.size≤hi∧W2.heap.size≤m.heap.size):=⟨l7,a9.o.size⟩
           have j8:=Hd (g6.o.below g6.o.lt j6.o)
           have k9:Hid (Up w0 wx):=g7.o.trans (j6.o.mono g7.o.size)
           have p4:=Hd (p3.o.below j6.o)
           have p5:Hid (Sol cb w wx):=i6.o.trans (Sol.of j6.o)
           have h2:=text_int HU.o (by have h5:=l8.o; have:=lt56 h5; omega)
           have n6:=Hd h2
           have q9:=Hd (withRow_any _ (.slice (some ⟨g1,0,none⟩) n n) F (oneRow n col [49] f.pl) wx p4.o v3.o (by omega))
           have r3:Hid (Calls Tryz.prog 57 #[.slice pr F.length cr,.agg #[.slice (some ⟨g1,0,none⟩) n n,.bool false,.string (strOf f.pl)]] wx fun e w'=>∃ v',e=.returned v'∧RowsAt w' v' (F++[oneRow n col [49] f.pl])∧Up wx w'):=q9.o
           have x5:Hid (∀ g∈F++[oneRow n col [49] f.pl],RowT n g):=fun g hg=>by
            rcases List.mem_append.1 hg with hg|hg
            ·exact m7.o g hg
            ·rw [List.mem_singleton.1 hg]
             exact rowT_low w8.o (by rw [h6.o]; have:=lt56 l8.o; omega)
           have w2:Hid (∀ g∈F++[oneRow n col [45,49] u],RowT n g):=fun g hg=>by
            rcases List.mem_append.1 hg with hg|hg
            ·exact m7.o g hg
            ·rw [List.mem_singleton.1 hg]
             exact rowT_high n6.o.1 n6.o.2 (by have:=lt56 l8.o; omega)
           have x7:Hid ((F++[oneRow n col [49] f.pl]).map nrOf=F.map nrOf++[lowN n col A]):=by unfold Hid; rw [List.map_append,List.map_singleton,nr_low,h6.o]
           have x6:Hid ((F++[oneRow n col [45,49] u]).map nrOf=F.map nrOf++[highN n col A]):=by unfold Hid; rw [List.map_append,List.map_singleton,nr_high n col u A n6.o.2]
           obtain ⟨l0,l1,l2⟩:=o0.c3
           clear o0 t5 t3 l7 hu s8 s9 s2 h2 q9 n0 n1 n2 d0 d1 d2
           go_wp2_with fail
           refine r3.o.mono ?_
           rintro e w4 ⟨v4,rfl,t7,a8⟩
           have o5:=Hd a8
           have y7:=Hd (j8.o.below j8.o.lt a8)
           have o6:Hid (Up w0 w4):=k9.o.trans (a8.mono k9.o.size)
           have x8:=Hd t7
           obtain ⟨r1,k8⟩:∃ r,takeT n Wh k (F.map nrOf++[lowN n col A]) T=r:=⟨_,rfl⟩
           have p9:=Hd (l5.o T (F++[oneRow n col [49] f.pl]) v4 q c2 w4 p1.o p7.o o6.o y7.o p8.o x8.o x5.o (by rw [List.length_append]; simp; omega))
           rw [x7.o,k8] at p9
           rw [k8] at HE
           have p2:=Hd k8
           clear t7 a8 k8 l0 l1 l2
           go_wp2_with fail
           refine p9.o.mono ?_
           rintro e w5 ⟨rfl,o2,r9,j2⟩
           have y0:=Hd o2
           have m5:=Hd r9
           have y2:=Hd j2
           have l6:Hid (Sol cb w w5):=(p5.o.trans (Sol.of o5.o)).trans o2
           clear o2 r9 j2
           cases r1 with
           | none=>
             go_wp2_with fail
             go_ret
             exact ⟨by rw [HE.o]; rfl,l6.o,m5.o,fun T' h=>by rw [HE.o] at h; cases h⟩
           | some T1=>
             obtain ⟨q5,c5,u6,j2⟩:=y2.o T1 rfl
             have r6:=Hd u6
             have q2:=Hd j2
             have i7:Hid (Sol cb wx w5):=(Sol.of o5.o).trans y0.o
             have v9:=Hd (w1.o.solTo i7.o (by have h1:=y6.o; have h2:=g6.o.lt; omega))
             have v7:=Hd (v5.o.sol i7.o j8.o)
             have x9:=Hd (p4.o.sol i7.o j8.o)
             have q7:=Hd (withRow_any _ (.slice (some ⟨g2,0,none⟩) n n) F (oneRow n col [45,49] u) w5 x9.o v7.o (by omega))
             have q8:Hid (Calls Tryz.prog 57 #[.slice pr F.length cr,.agg #[.slice (some ⟨g2,0,none⟩) n n,.bool false,.string (strOf u)]] w5 fun e w'=>∃ v',e=.returned v'∧RowsAt w' v' (F++[oneRow n col [45,49] u])∧Up w5 w'):=q7.o
             have x3:Hid (T1.length<k):=by unfold Hid; have h1:=takeT_len n Wh k _ _ _ p2.o; have h2:=p1.o; omega
             have p6:Hid (∀ g∈T1,SmallT g):=fun g hg=>p7.o g ((takeT_suffix n Wh k _ _ _ p2.o).subset hg)
             obtain ⟨l0,l1,l2⟩:=v9.o.c3
             clear u6 j2 q7
             go_wp2_with fail
             refine q8.o.mono ?_
             rintro e w6 ⟨v6,rfl,t8,k1⟩
             have u9:=Hd k1
             have y8:=Hd (r6.o.below r6.o.lt k1)
             have o7:Hid (Up w0 w6):=m5.o.trans (k1.mono m5.o.size)
             have n3:=Hd (l5.o T1 (F++[oneRow n col [45,49] u]) v6 q5 c5 w6 x3.o p6.o o7.o y8.o q2.o t8 w2.o (by rw [List.length_append]; simp; omega))
             rw [x6.o] at n3
             obtain ⟨r2,o1⟩:∃ r,takeT n Wh k (F.map nrOf++[highN n col A]) T1=r:=⟨_,rfl⟩
             rw [o1] at n3
             have s:Hid (takeT n Wh (k+1) (F.map nrOf) (f::T)=r2):=HE.o.trans o1
             clear t8 k1 l0 l1 l2 o1
             go_wp2_with fail
             refine n3.o.mono ?_
             rintro e w7 ⟨rfl,t9,s0,u1⟩
             have y1:=Hd t9
             have v0:=Hd s0
             have y3:=Hd u1
             clear t9 s0 u1
             go_wp2_with fail
             go_ret
             exact ⟨by rw [s.o]; rfl,(l6.o.trans (Sol.of u9.o)).trans y1.o,v0.o,fun T' h=>y3.o T' (s.o.symm.trans h)⟩
def doneB:Option (List Tn)→Bool
 | some []=>true
 | _=>false
def ChkR (cols:Int) (Wh:List Bool) (F:List Lr) (T:List Tn) (b:Bool):Prop:=if flagOk cols Wh F=true then ∃ G:List Nr,G.length=F.length∧(∀ i,i<F.length→Tight Wh (nrOf (F.getD i ⟨[],false,[]⟩)) (G.getD i nr0))∧b=doneB (takeT cols.toNat Wh (T.length+1) G T) else b=false
theorem ChkR.eq {cols:Int} {Wh:List Bool} {F:List Lr} {T:List Tn} {a b:Bool} (h:ChkR cols Wh F T a) (h':ChkR cols Wh F T b):a=b:=by
 unfold ChkR at h h'
 by_cases j:flagOk cols Wh F=true
 ·rw [if_pos j] at h h'; obtain ⟨G,s,t1,rfl⟩:=h; obtain ⟨m,u,t2,rfl⟩:=h'; have e:G=m:=getD_ext nr0 (s.trans u.symm) (fun i hi=>(t1 i (by omega)).eq (t2 i (by omega))); rw [e]
 rw [if_neg j] at h h'; rw [h,h']
theorem flag_parts {cols:Int} {Wh:List Bool} {F:List Lr} (h:flagOk cols Wh F=true):(Wh.length:Int)=cols∧0≤cols∧cols≤20∧F.length≤50∧∀ f∈F,(f.cs.length:Int)=cols∧textOk f.bd=true∧f.cs.all textOk=true:=by
 unfold flagOk at h; rw [Bool.and_eq_true] at h; obtain ⟨j,h2⟩:=h; unfold goodR at j; rw [Bool.and_eq_true] at j; obtain ⟨h3,h4⟩:=j; have h3:=of_decide_eq_true h3; refine ⟨of_decide_eq_true h2,h3.1,h3.2.1,h3.2.2,fun f hf=>?_⟩; have:=List.all_eq_true.1 h4 f hf; unfold rowOk at this; simp only [Bool.and_eq_true,decide_eq_true_eq] at this; exact ⟨this.1.1,this.1.2,this.2⟩
theorem tightT_nr {Wh:List Bool} {f f':Lr} (h:TightT Wh f f') (hb:textOk f.bd=true) (hc:f.cs.all textOk=true):Tight Wh (nrOf f) (nrOf f')∧RowT f.cs.length f':=by
 have hl:=h.len; obtain ⟨n,m,h2⟩:=h; have s:=m.small (sm_of hb hc); obtain ⟨a1,a2,j⟩:=said_int h2 s; rw [j]; exact ⟨m,hl,a1,a2,by rw [j]; exact s⟩
theorem map_getD {F:List Lr} {i:Nat} (h:i<F.length):(F.map nrOf).getD i nr0=nrOf (F.getD i ⟨[],false,[]⟩):=by
 rw [map_at h,List.getD_eq_getElem?_getD,List.getElem?_eq_getElem h]; rfl
theorem checkTree_impl (cols:Int) (wv v tv:Value) (Wh:List Bool) (F:List Lr) (T:List Tn) (w:World) (hw:BoolsAt w wv Wh) (h:RowsAt w v F) (ht:TreeAt w tv T) (hP:∀ b c,v=.slice (some ⟨b,0,none⟩) F.length c→∀ i,i<F.length→∀ va,w.cell? ⟨b,i*3,none⟩=some va→Plain va) (hs:F.length≤1048576∧∀ f∈F,SmallR f) (hsT:T.length≤1048576∧∀ f∈T,SmallT f) (hc1 : -9223372036854775808≤cols) (hc2:cols≤9223372036854775807) (hT:Tabs w) :
 Calls Tryz.prog 18 #[.int .i64 cols,wv,v,tv] w fun e w'=>∃ b,e=.returned (.bool b)∧ChkR cols Wh F T b∧Up w w':=by
 have K:=Hd (areFlagged_any cols wv v Wh F w hw h hs hc1 hc2); have HW:=Hd hw; have HR:=Hd h; have c9:=Hd ht; have HP:=Hd hP; have HS:=Hd hs; have b9:=Hd hsT; have HT:=Hd hT; obtain ⟨pw,cw,rfl,w1,w2,-⟩:=hw; obtain ⟨pr,cr,rfl,r1,r2,-⟩:=h; obtain ⟨pt,ct,rfl,t1,t2,-⟩:=ht; unfold maxLen at w2 r2 t2; clear hP hs hsT hT
 cases hf:flagOk cols Wh F with
 | false=>
   rw [hf] at K; have HE:Hid (ChkR cols Wh F T false):=by unfold Hid ChkR; rw [if_neg (by rw [hf]; exact Bool.false_ne_true)]
   clear hf
   go_enter Tryz.func18,Tryz.ntmps18
   go_wp2_with fail
   refine K.o.mono ?_; rintro e J ⟨rfl,j⟩; have D:=Hd j; clear j
   go_wp2_with fail
   go_ret
   exact ⟨_,rfl,HE.o,D.o⟩
 | true=>
   rw [hf] at K; have M:=Hd hf; obtain ⟨p1,p2,p3,p4,p5⟩:=flag_parts hf; obtain ⟨n,rfl⟩:∃ n:Nat,cols=(n:Int):=⟨cols.toNat,by omega⟩; have b4:Wh.length=n:=by omega
   have d1:=Hd b4; have H5:=Hd p5; have H4:=Hd p4; have a9:n≤20:=by omega
   clear hf p1 p5 b4 p2 p3
   go_enter Tryz.func18,Tryz.ntmps18
   go_wp2_with fail
   refine K.o.mono ?_; rintro e J ⟨rfl,j⟩; obtain ⟨Z,y⟩:=exW (J.alloc (.cells #[.int .i64 (n:Nat),.slice pw Wh.length cw,.slice pt T.length ct] 65)); have a5:Up J Z:=by rw [← y]; exact below_alloc _ _
   have b5:Bx Z J.heap.size [.int .i64 (n:Nat),.slice pw Wh.length cw,.slice pt T.length ct]:=by rw [← y]; exact bx_new J _ _
   have d0:=Hd y; have Y:=Hd b5; have D:=Hd j; have m:Hid (Up w Z):=j.trans (a5.mono j.size); clear y b5 a5 j; have O:Hid (∀ b c,Value.slice pr F.length cr=.slice (some ⟨b,0,none⟩) F.length c→∀ i,i<F.length→∀ va,Z.cell? ⟨b,i*3,none⟩=some va→Plain va):=fun b c e i hi va hva=>by
    refine HP.o b c e i hi va ?_; obtain ⟨p',c',e',-,-,h3⟩:=HR.o
    rcases h3 with h3|⟨b',e2,hl,-⟩
    ·rw [h3] at hi; exact absurd hi (Nat.not_lt_zero _)
    ·simp only [Value.slice.injEq] at e e'; rw [← e'.1,e.1] at e2
     cases e2
     rw [m.o.cell (p:=⟨b,i*3,none⟩) hl] at hva; exact hva
   have U:=Hd (tighten_impl (n:Int) _ _ Wh F Z (HW.o.below m.o) (HR.o.below m.o) O.o HS.o hc1 hc2 (HT.o.below m.o))
   go_wp2_with (rw [d0.o])
   refine U.o.mono ?_; rintro e w5 ⟨v5,I,A5,rfl,a3,s,H⟩; rw [if_pos M.o] at s; have b7:Hid (Up w w5):=m.o.trans (H.mono m.o.size); have d2:=Hd (Y.o.below Y.o.lt H); have b8:Hid (∀ f∈I,RowT n f):=fun f hf=>by
    obtain ⟨i,hi,rfl⟩:=List.getElem_of_mem hf; have a7:i<F.length:=by omega
    have h1:=s.2 i a7; have hm:=H5.o _ (at_mem F ⟨[],false,[]⟩ a7); have h2:=(tightT_nr h1 hm.2.1 hm.2.2).2; rw [List.getD_eq_getElem?_getD (l:=I),List.getElem?_eq_getElem hi] at h2; have e:(F.getD i ⟨[],false,[]⟩).cs.length=n:=by omega
    rw [e] at h2; exact h2
   have u:Hid (∀ b,b=doneB (takeT n Wh (T.length+1) (I.map nrOf) T)→ChkR (n:Int) Wh F T b):=fun b hb=>by
    unfold ChkR; rw [if_pos M.o]; refine ⟨I.map nrOf,by rw [List.length_map]; exact s.1,fun i hi=>?_,by rw [hb]; rfl⟩; have hm:=H5.o _ (at_mem F ⟨[],false,[]⟩ hi); rw [map_getD (by omega)]; exact (tightT_nr (s.2 i hi) hm.2.1 hm.2.2).1
   have V:=Hd (takes_any w J.heap.size n Wh pw cw HW.o d1.o a9 HT.o D.o.size (T.length+1) T I v5 pt ct w5 (Nat.lt_succ_self _) b9.o.2 b7.o d2.o c9.o a3.at b8.o (by have:=H4.o; omega)); obtain ⟨r,hr⟩:=exW (takeT n Wh (T.length+1) (I.map nrOf) T); rw [hr] at V u; clear a3 s H hr U K O
   go_wp2_with fail
   refine V.o.mono ?_; rintro e w6 ⟨rfl,-,a6,b3⟩; have E:=Hd a6; have c7:=Hd b3; clear a6 b3
   cases r with
   | none=>
     go_wp2_with fail
     go_ret
     exact ⟨_,rfl,u.o _ rfl,E.o⟩
   | some T'=>
     obtain ⟨q,c,b6,-⟩:=c7.o T' rfl; obtain ⟨x0,x1,x2⟩:=b6.c3; clear b6
     cases T' with
     | nil=>
       simp only [List.length_nil] at x2
       go_wp2_with fail
       go_ret
       exact ⟨_,rfl,u.o _ rfl,E.o⟩
     | cons g T'=>
       simp only [List.length_cons] at x2; have y0:((T'.length:Int)+1==0)=false:=by rw [beq_eq_false_iff_ne]; omega
       go_wp2_with fail
       go_ret
       exact ⟨_,rfl,u.o _ rfl,E.o⟩
end Go.Proofs.YtfclfbpjjlinhaaGreatDoor.L
