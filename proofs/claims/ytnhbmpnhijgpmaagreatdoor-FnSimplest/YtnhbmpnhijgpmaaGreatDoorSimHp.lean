import Derived.Test.YtnhbmpnhijgpmaaGreatDoorSimFGp
import Derived.Deep.QuietTactic
import Derived.BigQuiet
set_option maxRecDepth 100000
set_option maxHeartbeats 16000000
namespace Go.Proofs.YtnhbmpnhijgpmaaGreatDoor
open Go.ChangeShapes Go.WideShapes Go.ChangeAt Go.RowKit
theorem ym_undef (f:Bool→Option Bool) (g:Option Value→Option Bool):Go.yielded.match_1 (fun _=>Option Bool) (some undef) f g=g (some undef):=rfl
attribute [local go_sem ↓] ym_undef
theorem numZ_nil (w:World):NumZ 0 w (.agg #[.int .i64 0,.bool false,.slice none 0 0]) 0 1000:=
 ⟨false,[],⟨(by intro x i; cases i),trimL_trim [],.inr ⟨Nat.zero_le _,rfl⟩⟩,rfl,Nat.zero_le _⟩
theorem simN_pos {lo:Bool} {a b:Int} {has ho:Bool} {c d:Int} (h:Ends lo a b has ho c d):0<simN lo a b∧simN lo a b≤a+1:=by
 have j:=h.a0; have m:=h.b0; unfold simN
 split
 ·rename_i h1
  rcases h.pos with i|i
  ·omega
  rw [h1.2] at i; cases i
 have h1:=Int.ediv_nonneg j (Int.le_of_lt m); have i:a / b≤a:=Int.ediv_le_self b j; omega
theorem ord_simH {ho:Bool} {c d n:Int}:(decide (ordI (n*d) (c*1)<0)||(decide (ordI (n*d) (c*1)=0)&&!ho))=true↔simH ho c d n:=by
 have h:=@adm_hi true ho c d n; unfold admB at h
 simpa using h
theorem putS_3_3 {W:World} {a0 a1 a2:Addr} {v0 v1 v2:Value} (m:W.cell? a0=some v0∧W.cell? a1=some v1∧W.cell? a2=some v2) (g:Nat) (h:g≠a0.block∧g≠a1.block∧g≠a2.block) (u0 u1 u2:Value):(((W.setCell ⟨g,0,none⟩ (u0)).setCell ⟨g,1,none⟩ (u1)).setCell ⟨g,2,none⟩ (u2)).cell? a0=some v0∧(((W.setCell ⟨g,0,none⟩ (u0)).setCell ⟨g,1,none⟩ (u1)).setCell ⟨g,2,none⟩ (u2)).cell? a1=some v1∧(((W.setCell ⟨g,0,none⟩ (u0)).setCell ⟨g,1,none⟩ (u1)).setCell ⟨g,2,none⟩ (u2)).cell? a2=some v2:=
 ⟨cell_farC3 g m.1 h.1 _ _ _,cell_farC3 g m.2.1 h.2.1 _ _ _,cell_farC3 g m.2.2 h.2.2 _ _ _⟩
theorem putS_11_8 {W:World} {a0 a1 a2 a3 a4 a5 a6 a7 a8 a9 a10:Addr} {v0 v1 v2 v3 v4 v5 v6 v7 v8 v9 v10:Value} (m:W.cell? a0=some v0∧W.cell? a1=some v1∧W.cell? a2=some v2∧W.cell? a3=some v3∧W.cell? a4=some v4∧W.cell? a5=some v5∧W.cell? a6=some v6∧W.cell? a7=some v7∧W.cell? a8=some v8∧W.cell? a9=some v9∧W.cell? a10=some v10) (g:Nat) (h:g≠a0.block∧g≠a1.block∧g≠a2.block∧g≠a3.block∧g≠a4.block∧g≠a5.block∧g≠a6.block∧g≠a7.block∧g≠a8.block∧g≠a9.block∧g≠a10.block) (u0 u1 u2 u3 u4 u5 u6 u7:Value):((((((((W.setCell ⟨g,0,none⟩ (u0)).setCell ⟨g,1,none⟩ (u1)).setCell ⟨g,2,none⟩ (u2)).setCell ⟨g,3,none⟩ (u3)).setCell ⟨g,4,none⟩ (u4)).setCell ⟨g,5,none⟩ (u5)).setCell ⟨g,6,none⟩ (u6)).setCell ⟨g,7,none⟩ (u7)).cell? a0=some v0∧((((((((W.setCell ⟨g,0,none⟩ (u0)).setCell ⟨g,1,none⟩ (u1)).setCell ⟨g,2,none⟩ (u2)).setCell ⟨g,3,none⟩ (u3)).setCell ⟨g,4,none⟩ (u4)).setCell ⟨g,5,none⟩ (u5)).setCell ⟨g,6,none⟩ (u6)).setCell ⟨g,7,none⟩ (u7)).cell? a1=some v1∧((((((((W.setCell ⟨g,0,none⟩ (u0)).setCell ⟨g,1,none⟩ (u1)).setCell ⟨g,2,none⟩ (u2)).setCell ⟨g,3,none⟩ (u3)).setCell ⟨g,4,none⟩ (u4)).setCell ⟨g,5,none⟩ (u5)).setCell ⟨g,6,none⟩ (u6)).setCell ⟨g,7,none⟩ (u7)).cell? a2=some v2∧((((((((W.setCell ⟨g,0,none⟩ (u0)).setCell ⟨g,1,none⟩ (u1)).setCell ⟨g,2,none⟩ (u2)).setCell ⟨g,3,none⟩ (u3)).setCell ⟨g,4,none⟩ (u4)).setCell ⟨g,5,none⟩ (u5)).setCell ⟨g,6,none⟩ (u6)).setCell ⟨g,7,none⟩ (u7)).cell? a3=some v3∧((((((((W.setCell ⟨g,0,none⟩ (u0)).setCell ⟨g,1,none⟩ (u1)).setCell ⟨g,2,none⟩ (u2)).setCell ⟨g,3,none⟩ (u3)).setCell ⟨g,4,none⟩ (u4)).setCell ⟨g,5,none⟩ (u5)).setCell ⟨g,6,none⟩ (u6)).setCell ⟨g,7,none⟩ (u7)).cell? a4=some v4∧((((((((W.setCell ⟨g,0,none⟩ (u0)).setCell ⟨g,1,none⟩ (u1)).setCell ⟨g,2,none⟩ (u2)).setCell ⟨g,3,none⟩ (u3)).setCell ⟨g,4,none⟩ (u4)).setCell ⟨g,5,none⟩ (u5)).setCell ⟨g,6,none⟩ (u6)).setCell ⟨g,7,none⟩ (u7)).cell? a5=some v5∧((((((((W.setCell ⟨g,0,none⟩ (u0)).setCell ⟨g,1,none⟩ (u1)).setCell ⟨g,2,none⟩ (u2)).setCell ⟨g,3,none⟩ (u3)).setCell ⟨g,4,none⟩ (u4)).setCell ⟨g,5,none⟩ (u5)).setCell ⟨g,6,none⟩ (u6)).setCell ⟨g,7,none⟩ (u7)).cell? a6=some v6∧((((((((W.setCell ⟨g,0,none⟩ (u0)).setCell ⟨g,1,none⟩ (u1)).setCell ⟨g,2,none⟩ (u2)).setCell ⟨g,3,none⟩ (u3)).setCell ⟨g,4,none⟩ (u4)).setCell ⟨g,5,none⟩ (u5)).setCell ⟨g,6,none⟩ (u6)).setCell ⟨g,7,none⟩ (u7)).cell? a7=some v7∧((((((((W.setCell ⟨g,0,none⟩ (u0)).setCell ⟨g,1,none⟩ (u1)).setCell ⟨g,2,none⟩ (u2)).setCell ⟨g,3,none⟩ (u3)).setCell ⟨g,4,none⟩ (u4)).setCell ⟨g,5,none⟩ (u5)).setCell ⟨g,6,none⟩ (u6)).setCell ⟨g,7,none⟩ (u7)).cell? a8=some v8∧((((((((W.setCell ⟨g,0,none⟩ (u0)).setCell ⟨g,1,none⟩ (u1)).setCell ⟨g,2,none⟩ (u2)).setCell ⟨g,3,none⟩ (u3)).setCell ⟨g,4,none⟩ (u4)).setCell ⟨g,5,none⟩ (u5)).setCell ⟨g,6,none⟩ (u6)).setCell ⟨g,7,none⟩ (u7)).cell? a9=some v9∧((((((((W.setCell ⟨g,0,none⟩ (u0)).setCell ⟨g,1,none⟩ (u1)).setCell ⟨g,2,none⟩ (u2)).setCell ⟨g,3,none⟩ (u3)).setCell ⟨g,4,none⟩ (u4)).setCell ⟨g,5,none⟩ (u5)).setCell ⟨g,6,none⟩ (u6)).setCell ⟨g,7,none⟩ (u7)).cell? a10=some v10:=
 ⟨cell_farC8 g m.1 h.1 _ _ _ _ _ _ _ _,cell_farC8 g m.2.1 h.2.1 _ _ _ _ _ _ _ _,cell_farC8 g m.2.2.1 h.2.2.1 _ _ _ _ _ _ _ _,cell_farC8 g m.2.2.2.1 h.2.2.2.1 _ _ _ _ _ _ _ _,cell_farC8 g m.2.2.2.2.1 h.2.2.2.2.1 _ _ _ _ _ _ _ _,cell_farC8 g m.2.2.2.2.2.1 h.2.2.2.2.2.1 _ _ _ _ _ _ _ _,cell_farC8 g m.2.2.2.2.2.2.1 h.2.2.2.2.2.2.1 _ _ _ _ _ _ _ _,cell_farC8 g m.2.2.2.2.2.2.2.1 h.2.2.2.2.2.2.2.1 _ _ _ _ _ _ _ _,cell_farC8 g m.2.2.2.2.2.2.2.2.1 h.2.2.2.2.2.2.2.2.1 _ _ _ _ _ _ _ _,cell_farC8 g m.2.2.2.2.2.2.2.2.2.1 h.2.2.2.2.2.2.2.2.2.1 _ _ _ _ _ _ _ _,cell_farC8 g m.2.2.2.2.2.2.2.2.2.2 h.2.2.2.2.2.2.2.2.2.2 _ _ _ _ _ _ _ _⟩
theorem l2Simple_any (N:Nat):∀ (lo:Bool) (a b:Int) (has ho:Bool) (c d:Int) (zl zh:Value) (w:World),(b+(if has then d else 0)).toNat≤N→IsES w zl true lo a b→IsES w zh has ho c d→Ends lo a b has ho c d →
 a.natAbs<lb 281∧b.natAbs<lb 281∧c.natAbs<lb 281∧d.natAbs<lb 281 →
 Calls Tryz.prog 57 #[zl,zh] w fun e w'=>∃ z p q,e=.returned z∧IsQN 0 w' z p q∧Sim lo a b has ho c d p q∧Up w w':=by
 induction N with
 | zero=>
   intro lo a b has ho c d zl zh w hN _ _ hE
   exfalso
   have h1:=hE.b0; have h2:0≤(if has then d else 0):=by
    cases has with
    | false=>exact Int.le_refl _
    | true=>exact Int.le_of_lt (hE.hi rfl).1
   omega
 | succ N ih=>
   intro lo a b has ho c d zl zh w hN hl hh hE N3; have IH:=Hd ih; have HN:=Hd hN; have HE:=Hd hE; have f7:=Hd N3; obtain ⟨a1,n1,d1,l1,c1,a2,n2,d2,l2,c2,rfl,i1,i2⟩:=hl; obtain ⟨a3,n3,d3,l3,c3,a4,n4,d4,l4,c4,rfl,i3,i4⟩:=hh; have H1:=Hd i1; have H2:=Hd i2; have H3:=Hd i3; have H4:=Hd i4; have m7:Hid (0<b):=hE.b0; clear ih hN hE N3 i1 i2 i3 i4; obtain ⟨W0,v6⟩:=exW (((w.alloc (.cells #[.bool true,.bool lo,.int .i64 a1,.bool n1,.slice d1 l1 c1,.int .i64 a2,.bool n2,.slice d2 l2 c2] 66)).alloc (.cells #[.bool has,.bool ho,.int .i64 a3,.bool n3,.slice d3 l3 c3,.int .i64 a4,.bool n4,.slice d4 l4 c4] 66)).alloc (.cells #[.int .i64 0,.bool false,.slice none 0 0,.int .i64 0,.bool false,.slice none 0 0] 51)); have S1:=Hd v6; have S:Hid (Up w W0):=by unfold Hid; rw [← v6]; exact below_al (below_al (below_alloc _ _) _) _
   have G8:Hid (W0.heap.size=w.heap.size+3):=by show W0.heap.size=_; rw [← v6]; simp
   have v7:Bx W0 (w.heap.size) [.bool true,.bool lo,.int .i64 a1,.bool n1,.slice d1 l1 c1,.int .i64 a2,.bool n2,.slice d2 l2 c2]:=by
    rw [← v6]; exact ((bx_new w _ _).alloc _).alloc _
   have v8:Bx W0 (w.heap.size+1) [.bool has,.bool ho,.int .i64 a3,.bool n3,.slice d3 l3 c3,.int .i64 a4,.bool n4,.slice d4 l4 c4]:=by
    rw [← v6]; have h:=bx_new (w.alloc (.cells #[.bool true,.bool lo,.int .i64 a1,.bool n1,.slice d1 l1 c1,.int .i64 a2,.bool n2,.slice d2 l2 c2] 66)) [.bool has,.bool ho,.int .i64 a3,.bool n3,.slice d3 l3 c3,.int .i64 a4,.bool n4,.slice d4 l4 c4] 66; rw [World.size_alloc] at h; exact (h).alloc _
   have v9:Bx W0 (w.heap.size+1+1) [.int .i64 0,.bool false,.slice none 0 0,.int .i64 0,.bool false,.slice none 0 0]:=by
    rw [← v6]; have h:=bx_new ((w.alloc (.cells #[.bool true,.bool lo,.int .i64 a1,.bool n1,.slice d1 l1 c1,.int .i64 a2,.bool n2,.slice d2 l2 c2] 66)).alloc (.cells #[.bool has,.bool ho,.int .i64 a3,.bool n3,.slice d3 l3 c3,.int .i64 a4,.bool n4,.slice d4 l4 c4] 66)) [.int .i64 0,.bool false,.slice none 0 0,.int .i64 0,.bool false,.slice none 0 0] 51; rw [World.size_alloc,World.size_alloc] at h; exact h
   have A:Hid (∀ W,Up W0 W→Bx W (w.heap.size) [.bool true,.bool lo,.int .i64 a1,.bool n1,.slice d1 l1 c1,.int .i64 a2,.bool n2,.slice d2 l2 c2]∧Bx W (w.heap.size+1) [.bool has,.bool ho,.int .i64 a3,.bool n3,.slice d3 l3 c3,.int .i64 a4,.bool n4,.slice d4 l4 c4]∧Bx W (w.heap.size+1+1) [.int .i64 0,.bool false,.slice none 0 0,.int .i64 0,.bool false,.slice none 0 0]):=fun W hW=>⟨v7.below v7.lt hW,v8.below v8.lt hW,v9.below v9.lt hW⟩; clear v6 v7 v8 v9
   go_enter Tryz.func57,Tryz.ntmps57
   go_upto_region 1 with fail
   rw [S1.o]
   go_wp2_with fail
   refine (l1Small_any 1 W0 (by decide) (by decide)).mono ?_; rintro e w1 ⟨z5,rfl,N7,M9⟩; obtain ⟨a5,n5,d5,l5,c5,rfl⟩:=N7.shape'; have k9:=Hd M9; clear N7 M9; obtain ⟨W1,C4⟩:=exW (w1.alloc (.cells #[.int .i64 a5,.bool n5,.slice d5 l5 c5] 49)); have S2:=Hd C4; have Q9:Hid (Up w1 W1):=by unfold Hid; rw [← C4]; exact below_alloc _ _
   have Y5:Hid (W1.heap.size=w1.heap.size+1):=by show W1.heap.size=_; rw [← C4]; simp
   have w0:Bx W1 (w1.heap.size) [.int .i64 a5,.bool n5,.slice d5 l5 c5]:=by
    rw [← C4]; exact bx_new w1 _ _
   have S5:Hid (∀ W,Up W1 W→Bx W (w1.heap.size) [.int .i64 a5,.bool n5,.slice d5 l5 c5]):=fun W hW=>w0.below w0.lt hW; have z0:Hid (Up W0 W1):=k9.o.trans (Q9.o.mono k9.o.size); have X6:w.heap.size+2<w1.heap.size:=by have:=k9.o.size; have:=G8.o; omega
   have b5:=(A.o W1 z0.o).1; obtain ⟨k0,k1,k2,k3,k4,k5,k6,k7⟩:=b5.k8; clear C4 w0 b5
   go_upto_region 2 with fail
   rw [S2.o]
   go_wp2_with fail
   refine (l2Floor_any 0 _ a b W1 (Nat.zero_le _) (qn_mk ((H1.o.below S.o).below z0.o) ((H2.o.below S.o).below z0.o)) (Int.ne_of_gt m7.o)).mono ?_; rintro e w2 ⟨z6,f,r,rfl,y8,N1,F2⟩; have hf:=isDiv_ediv N1 m7.o; have I8:f.natAbs<lb 281:=by
    have e0:=HE.o.a0; have e1:a / b≤a:=Int.ediv_le_self b e0; have e2:=Int.ediv_nonneg e0 (Int.le_of_lt m7.o); have e3:=f7.o.1; rw [hf]; omega
   have y8:=numZ_lt y8 (lb_le 281 1000 (by decide) I8); obtain ⟨a6,n6,d6,l6,c6,rfl⟩:=y8.shape'; have l0:=Hd hf; have K9:=Hd I8; have Y1:=Hd F2; have C9:=S5.o w2 F2; have E:NoInt w2 w1.heap.size:=noInt_of C9 (by simp); have b6:=keepsC3 w2 w1.heap.size (.int .i64 a6) (.bool n6) (.slice d6 l6 c6); have I2:=y8.keeps E E b6; have I0:Up W0 (((w2.setCell ⟨w1.heap.size,0,none⟩ (.int .i64 a6)).setCell ⟨w1.heap.size,1,none⟩ (.bool n6)).setCell ⟨w1.heap.size,2,none⟩ (.slice d6 l6 c6)):=((((z0.o.trans (F2.mono z0.o.size)).setCell (p:=⟨w1.heap.size,0,none⟩) (by dsimp only; have:=k9.o.size; omega) (.int .i64 a6)).setCell (p:=⟨w1.heap.size,1,none⟩) (by dsimp only; have:=k9.o.size; omega) (.bool n6)).setCell (p:=⟨w1.heap.size,2,none⟩) (by dsimp only; have:=k9.o.size; omega) (.slice d6 l6 c6)); have I6:=C9.s3 (.int .i64 a6) (.bool n6) (.slice d6 l6 c6); obtain ⟨W3,I5⟩:=exW (((w2.setCell ⟨w1.heap.size,0,none⟩ (.int .i64 a6)).setCell ⟨w1.heap.size,1,none⟩ (.bool n6)).setCell ⟨w1.heap.size,2,none⟩ (.slice d6 l6 c6)); rw [I5] at I2 I0 I6; have S3:=Hd I5; have R1:=Hd I2; have z1:=Hd I0; have L6:=Hd I6; obtain ⟨m0,m1,m2⟩:=C9.k3; obtain ⟨Z1,Z2,Z3⟩:=C9.f3; clear hf I8 y8 N1 F2 C9 E b6 I2 I0 I6 I5 k0 k1 k2 k3 k4 k5 k6 k7; have b5:=(A.o W3 z1.o).1; obtain ⟨k0,k1,k2,k3,k4,k5,k6,k7⟩:=b5.k8; clear b5
   go_upto_region 4 with fail
   rw [S3.o]
   go_cut [23,49] (fun q23 q49 wx=>q23=.bool (!decide (b=1∧lo=false))∧q49=undef∧Up W3 wx)
   case first=>
    cases lo
    ·go_wp2_with fail
     refine (l2Whole_any 0 _ a b _ (Nat.zero_le _) (qn_mk ((H1.o.below S.o).below z1.o) ((H2.o.below S.o).below z1.o))).mono ?_; rintro e wx ⟨rfl,e8⟩; have R0:=Hd e8; have HD:Hid ((!decide (b=1∧false=false))=!decide (b=1)):=by show _=_; simp
     clear e8
     go_wp2_with fail
     go_meet
     exact ⟨by rw [HD.o],rfl,R0.o⟩
    ·go_wp2_with fail
     go_meet
     exact ⟨by simp,rfl,Below.refl _ _⟩
   case rest=>
    obtain ⟨rfl,rfl,u⟩:=hcut; obtain ⟨wd,rfl⟩:∃ wd,wd=wc:=⟨_,rfl⟩; have Y2:=Hd u; have G2:Hid (Up W0 wd):=z1.o.trans (u.mono z1.o.size); have K8:=Hd (R1.o.below u); have o5:=Hd (L6.o.below L6.o.lt u); clear u k0 k1 k2 k3 k4 k5 k6 k7; have N6:=o5.o; obtain ⟨y0,y1,y2⟩:=N6.k3; clear N6
    go_upto_if 23 with fail
    go_cut [49] (fun q49 wx=>q49=undef∧∃ (a7:Int) (n7:Bool) (d7:Option Addr) (l7 c7:Nat),Bx wx w1.heap.size [.int .i64 a7,.bool n7,.slice d7 l7 c7]∧NumZ 0 wx (.agg #[.int .i64 a7,.bool n7,.slice d7 l7 c7]) (simN lo a b) 1000∧Up W0 wx)
    case first=>
     by_cases hq:b=1∧lo=false
     ·rw [decide_eq_true hq]; have o3:Hid (simN lo a b=f):=by
       unfold Hid
       unfold simN; rw [if_pos hq,l0.o,hq.1,Int.ediv_one]
      clear hq
      go_wp2_with fail
      go_meet
      exact ⟨rfl,_,_,_,_,_,o5.o,by rw [o3.o]; exact K8.o,G2.o⟩
     ·rw [decide_eq_false hq]; have o3:Hid (simN lo a b=f+1):=by
       unfold Hid
       unfold simN; rw [if_neg hq,l0.o]
      clear hq
      go_wp2_with fail
      go_region_with (first
       | (go_at_call 20
          refine (l1Small_any 1 _ (by decide) (by decide)).mono ?_; rintro e J ⟨u1,rfl,G,t⟩; have I:=Hd (G.mono' (B':=0) (n':=1000) (Nat.zero_le _) (by decide)); have s:Hid (Up wd J):=(Below.refl _ wd).drew.trans t; have i:=o5.o.below o5.o.lt s.o; obtain ⟨q0,q1,q2⟩:=i.k3; clear G t i)
       | (go_at_call 68
          refine (l1AddN_any 0 _ _ f 1 1000 1000 _ (Nat.zero_le _) (K8.o.below s.o) I.o (by decide) (by decide)).mono ?_; rintro e H ⟨u2,rfl,G,t⟩; have G:=numZ_lt G (k:=1000) (by
           have e1:=lb_add 281 K9.o (lb_one 281 (by decide)); have e2:(f+1).natAbs≤f.natAbs+1:=Int.natAbs_add_le f 1; exact lb_le 282 1000 (by decide) (Nat.lt_of_le_of_lt e2 e1))
          obtain ⟨a7,n7,d7,l7,c7,rfl⟩:=G.shape'; have b7:=Hd G; have m:Hid (Up wd H):=s.o.trans (t.mono s.o.size); have i:=o5.o.below o5.o.lt m.o; obtain ⟨r0,r1,r2⟩:=i.k3; obtain ⟨E3,E4,E5⟩:=i.f3; clear G t i))
      all_goals
       go_wp2_with fail
       go_meet
       have i:=o5.o.below o5.o.lt m.o; have E:NoInt H w1.heap.size:=noInt_of i (by simp); exact ⟨rfl,_,_,_,_,_,(((i.set 0 (.int .i64 a7)).set 1 (.bool n7)).set 2 (.slice d7 l7 c7)),by rw [o3.o]; exact b7.o.keeps E E (keepsC3 H w1.heap.size (.int .i64 a7) (.bool n7) (.slice d7 l7 c7)),((((G2.o.trans (m.o.mono G2.o.size)).setCell (p:=⟨w1.heap.size,0,none⟩) (by dsimp only; have:=k9.o.size; omega) (.int .i64 a7)).setCell (p:=⟨w1.heap.size,1,none⟩) (by dsimp only; have:=k9.o.size; omega) (.bool n7)).setCell (p:=⟨w1.heap.size,2,none⟩) (by dsimp only; have:=k9.o.size; omega) (.slice d7 l7 c7))⟩
    case rest=>
     obtain ⟨rfl,a7,n7,d7,l7,c7,M7,M4,M2⟩:=hcut; obtain ⟨W5,rfl⟩:∃ W5,W5=wc:=⟨_,rfl⟩; have K5:=Hd M2; have G4:=Hd M4; have H6:=Hd M7; clear M2 M4 M7 y0 y1 y2; obtain ⟨nn,I9⟩:=exW (simN lo a b); rw [I9] at G4; have o3:=Hd I9; clear I9; have D0:=H6.o; obtain ⟨g0,g1,g2⟩:=D0.k3; clear D0
     go_wp2_with fail
     refine (l1Sign_any 0 _ (nn) 1000 W5 (Nat.zero_le _) G4.o).mono ?_; rintro e w6 ⟨rfl,F3⟩; have L3:Hid (ordI (nn) 0=1):=by
      unfold Hid
      have:=(simN_pos HE.o).1; rw [o3.o] at this; unfold ordI; rw [if_neg (by omega),if_pos this]
     rw [L3.o]; have D:Hid (Up W0 w6):=K5.o.trans (F3.mono K5.o.size); have L4:=Hd (G4.o.below F3); have F:=Hd (H6.o.below H6.o.lt F3); have y8:w1.heap.size<w6.heap.size:=F.o.lt; clear F3 g0 g1 g2; have D0:=F.o; have N5:=(A.o w6 D.o).2.1; obtain ⟨g0,g1,g2⟩:=D0.k3; obtain ⟨j0,j1,j2,j3,j4,j5,j6,j7⟩:=N5.k8; clear D0 N5; have TO:Hid (∀ W,Up w6 W→Calls Tryz.prog 59 #[.agg #[.int .i64 a7,.bool n7,.slice d7 l7 c7]] W (fun e w'=>∃ z,e=.returned z∧IsQN 0 w' z (nn) 1∧Up W w')):=fun W hW=>l2OfZ_any 0 _ _ _ _ _ (nn) W (Nat.zero_le _) (L4.o.below hW)
     go_upto_region 8 with fail
     go_cut [54] (fun q54 wx=>q54=.bool (!has||(decide (ordI ((nn)*d) (c*1)<0)||(decide (ordI ((nn)*d) (c*1)=0)&&!ho)))∧Up w6 wx)
     case first=>
      cases has
      ·go_wp2_with fail
       go_quiet (fail)
       all_goals
        go_wp2_with fail
        go_meet
        exact ⟨rfl,below_drewN (Below.refl _ _) _⟩
      ·obtain ⟨r,hr⟩:=exW (ordI ((nn)*d) (c*1)); have h3:=ordI_three ((nn)*d) (c*1); have TC:Hid (∀ W z,Up w6 W→IsQN 0 W z (nn) 1→Calls Tryz.prog 40 #[z,.agg #[.int .i64 a3,.bool n3,.slice d3 l3 c3,.int .i64 a4,.bool n4,.slice d4 l4 c4]] W (fun e w'=>e=.returned (.int .i64 r)∧Up W w')):=fun W z hW hz=>by
        rw [← hr]; exact l2Cmp_any 0 z _ (nn) 1 c d W (Nat.zero_le _) hz (qn_mk (((H3.o.below S.o).below D.o).below hW) (((H4.o.below S.o).below D.o).below hW))
       rw [hr] at h3; have R8:=Hd hr; clear hr; have i9:Hid (∀ wx,Up w6 wx→(.bool (!true||(decide (r<0)||(decide (r=0)&&!ho))):Value)=.bool (!true||(decide (ordI ((nn)*d) (c*1)<0)||(decide (ordI ((nn)*d) (c*1)=0)&&!ho)))∧Up w6 wx):=fun wx h=>⟨by rw [R8.o],h⟩
       rcases h3 with rfl|rfl|rfl
       ·go_wp2_with fail
        first
        | (go_region_with (first
          | (go_at_call 59
             refine (TO.o _ T.o).mono ?_; rintro e r8 ⟨u3,rfl,G,t⟩; have A4:=Hd G; have Y:Hid (Up w6 r8):=T.o.trans (t.mono T.o.size); have i:=(A.o r8 (D.o.trans (Y.o.mono D.o.size))).2.1; have j:=F.o.below F.o.lt Y.o; obtain ⟨p0,p1,p2,p3,p4,p5,p6,p7⟩:=i.k8; obtain ⟨V4,V5,V6⟩:=j.k3; clear i j; clear G t)
          | (go_at_call 59
             refine (TO.o _ ?_).mono ?_
             ·exact (Below.refl _ w6).drew
             rintro e J ⟨u1,rfl,G,t⟩; have I:=Hd G; have s:Hid (Up w6 J):=(Below.refl _ w6).drew.trans t; have i:=(A.o J (D.o.trans (s.o.mono D.o.size))).2.1; have j:=F.o.below F.o.lt s.o; obtain ⟨s0,s1,s2,s3,s4,s5,s6,s7⟩:=i.k8; obtain ⟨V7,V8,V9⟩:=j.k3; clear i j; clear G t)
          | (go_at_call 40
             refine (TC.o _ _ Y.o A4.o).mono ?_; rintro e r9 ⟨rfl,t⟩; have f9:Hid (Up w6 r9):=Y.o.trans (t.mono Y.o.size); have i:=(A.o r9 (D.o.trans (f9.o.mono D.o.size))).2.1; have j:=F.o.below F.o.lt f9.o; obtain ⟨t0,t1,t2,t3,t4,t5,t6,t7⟩:=i.k8; obtain ⟨W2,W4,W7⟩:=j.k3; clear i j; clear t)
          | (go_at_call 40
             refine (TC.o _ _ s.o I.o).mono ?_; rintro e q9 ⟨rfl,t⟩; have T:Hid (Up w6 q9):=s.o.trans (t.mono s.o.size); have i:=(A.o q9 (D.o.trans (T.o.mono D.o.size))).2.1; have j:=F.o.below F.o.lt T.o; obtain ⟨u0,u1,u2,u3,u4,u5,u6,u7⟩:=i.k8; obtain ⟨W8,X0,X1⟩:=j.k3; clear i j; clear t)))
        | fail "no way"
        all_goals
         go_wp2_with fail
         go_meet
         first
          | exact i9.o _ f9.o
          | exact i9.o _ T.o
       ·go_wp2_with fail
        first
        | (go_region_held3 (fun W=>W.cell? ⟨w.heap.size+1,0,none⟩=some (.bool true)∧W.cell? ⟨w.heap.size+1,1,none⟩=some (.bool ho)∧W.cell? ⟨w.heap.size+1,2,none⟩=some (.int .i64 a3)∧W.cell? ⟨w.heap.size+1,3,none⟩=some (.bool n3)∧W.cell? ⟨w.heap.size+1,4,none⟩=some (.slice d3 l3 c3)∧W.cell? ⟨w.heap.size+1,5,none⟩=some (.int .i64 a4)∧W.cell? ⟨w.heap.size+1,6,none⟩=some (.bool n4)∧W.cell? ⟨w.heap.size+1,7,none⟩=some (.slice d4 l4 c4)∧W.cell? ⟨w1.heap.size,0,none⟩=some (.int .i64 a7)∧W.cell? ⟨w1.heap.size,1,none⟩=some (.bool n7)∧W.cell? ⟨w1.heap.size,2,none⟩=some (.slice d7 l7 c7)) (first
          | with_reducible assumption|go_keep) (first
          | (go_at_call 59
             refine (TO.o _ T.o).mono ?_; rintro e r8 ⟨u3,rfl,G,t⟩; have A4:=Hd G; have Y:Hid (Up w6 r8):=T.o.trans (t.mono T.o.size); have i:=(A.o r8 (D.o.trans (Y.o.mono D.o.size))).2.1; have j:=F.o.below F.o.lt Y.o; have T8:=cc8_3 i j; clear i j; clear G t)
          | (go_at_call 59
             refine (TO.o _ ?_).mono ?_
             ·exact (Below.refl _ w6).drew
             rintro e J ⟨u1,rfl,G,t⟩; have I:=Hd G; have s:Hid (Up w6 J):=(Below.refl _ w6).drew.trans t; have i:=(A.o J (D.o.trans (s.o.mono D.o.size))).2.1; have j:=F.o.below F.o.lt s.o; have T6:=cc8_3 i j; clear i j; clear G t)
          | (go_at_call 40
             refine (TC.o _ _ Y.o A4.o).mono ?_; rintro e r9 ⟨rfl,t⟩; have f9:Hid (Up w6 r9):=Y.o.trans (t.mono Y.o.size); have i:=(A.o r9 (D.o.trans (f9.o.mono D.o.size))).2.1; have j:=F.o.below F.o.lt f9.o; have T9:=cc8_3 i j; clear i j; clear t)
          | (go_at_call 40
             refine (TC.o _ _ s.o I.o).mono ?_; rintro e q9 ⟨rfl,t⟩; have T:Hid (Up w6 q9):=s.o.trans (t.mono s.o.size); have i:=(A.o q9 (D.o.trans (T.o.mono D.o.size))).2.1; have j:=F.o.below F.o.lt T.o; have T7:=cc8_3 i j; clear i j; clear t)))
        | fail "no way"
        all_goals
         go_wp2_with fail
         go_meet
         first
          | exact i9.o _ f9.o
          | exact i9.o _ T.o
       ·go_wp2_with fail
        first
        | (go_region_with (first
          | (go_at_call 59
             refine (TO.o _ T.o).mono ?_; rintro e r8 ⟨u3,rfl,G,t⟩; have A4:=Hd G; have Y:Hid (Up w6 r8):=T.o.trans (t.mono T.o.size); have i:=(A.o r8 (D.o.trans (Y.o.mono D.o.size))).2.1; have j:=F.o.below F.o.lt Y.o; obtain ⟨p0,p1,p2,p3,p4,p5,p6,p7⟩:=i.k8; obtain ⟨V4,V5,V6⟩:=j.k3; clear i j; clear G t)
          | (go_at_call 59
             refine (TO.o _ ?_).mono ?_
             ·exact (Below.refl _ w6).drew
             rintro e J ⟨u1,rfl,G,t⟩; have I:=Hd G; have s:Hid (Up w6 J):=(Below.refl _ w6).drew.trans t; have i:=(A.o J (D.o.trans (s.o.mono D.o.size))).2.1; have j:=F.o.below F.o.lt s.o; obtain ⟨s0,s1,s2,s3,s4,s5,s6,s7⟩:=i.k8; obtain ⟨V7,V8,V9⟩:=j.k3; clear i j; clear G t)
          | (go_at_call 40
             refine (TC.o _ _ Y.o A4.o).mono ?_; rintro e r9 ⟨rfl,t⟩; have f9:Hid (Up w6 r9):=Y.o.trans (t.mono Y.o.size); have i:=(A.o r9 (D.o.trans (f9.o.mono D.o.size))).2.1; have j:=F.o.below F.o.lt f9.o; obtain ⟨t0,t1,t2,t3,t4,t5,t6,t7⟩:=i.k8; obtain ⟨W2,W4,W7⟩:=j.k3; clear i j; clear t)
          | (go_at_call 40
             refine (TC.o _ _ s.o I.o).mono ?_; rintro e q9 ⟨rfl,t⟩; have T:Hid (Up w6 q9):=s.o.trans (t.mono s.o.size); have i:=(A.o q9 (D.o.trans (T.o.mono D.o.size))).2.1; have j:=F.o.below F.o.lt T.o; obtain ⟨u0,u1,u2,u3,u4,u5,u6,u7⟩:=i.k8; obtain ⟨W8,X0,X1⟩:=j.k3; clear i j; clear t)))
        | fail "no way"
        all_goals
         go_wp2_with fail
         go_meet
         first
          | exact i9.o _ f9.o
          | exact i9.o _ T.o
     case rest=>
      obtain ⟨rfl,u⟩:=hcut; obtain ⟨w7,rfl⟩:∃ w7,w7=wc:=⟨_,rfl⟩; have Y3:=Hd u; have E6:Hid (Up W0 w7):=D.o.trans (u.mono D.o.size); have L5:=Hd (L4.o.below u); have u9:=Hd (F.o.below F.o.lt u); have Y9:w1.heap.size<w7.heap.size:=u9.o.lt; have L1:Hid ((!has||(decide (ordI ((nn)*d) (c*1)<0)||(decide (ordI ((nn)*d) (c*1)=0)&&!ho)))=true↔has=false∨simH ho c d (simN lo a b)):=by
       show _↔_
       rw [o3.o]
       cases has with
       | false=>simp
       | true=>exact Iff.trans (by simp) (Iff.trans (ord_simH (ho:=ho) (c:=c) (d:=d) (n:=nn)) (by simp))
      clear u g0 g1 g2 j0 j1 j2 j3 j4 j5 j6 j7 TO
      by_cases y5:has=false∨simH ho c d (simN lo a b)
      ·rw [L1.o.2 y5]; have S0:=Hd y5; clear y5; have D1:=u9.o; obtain ⟨g0,g1,g2⟩:=D1.k3; clear D1
       go_wp2_with fail
       refine (l2OfZ_any 0 _ _ _ _ _ (nn) w7 (Nat.zero_le _) L5.o).mono ?_; rintro e w8 ⟨z8,rfl,U4,N0⟩; obtain ⟨a8,n8,d8,l8,c8,a9,n9,d9,l9,c9,rfl,q1,q2⟩:=U4; have R7:=Hd q1; have G7:=Hd q2; have m6:Hid (Up W0 w8):=E6.o.trans (N0.mono E6.o.size); have I7:=(A.o w8 m6.o).2.2; clear N0 q1 q2 g0 g1 g2; obtain ⟨r0,r1,r2,r3,r4,r5⟩:=I7.k6; obtain ⟨E3,E4,E5,F7,F8,F9⟩:=I7.f6; clear I7
       go_wp2
       have q4:=(A.o w8 m6.o).2.2; have E:NoInt w8 (w.heap.size+1+1):=noInt_of q4 (by simp); have b6:=keepsC6 w8 (w.heap.size+1+1) (.int .i64 a8) (.bool n8) (.slice d8 l8 c8) (.int .i64 a9) (.bool n9) (.slice d9 l9 c9); have p9:=R7.o.keeps E E b6; have q3:=G7.o.keeps E E b6; have C3:=bs6 (S.o.trans (m6.o.mono S.o.size)) (w.heap.size+1+1) (by omega) (.int .i64 a8) (.bool n8) (.slice d8 l8 c8) (.int .i64 a9) (.bool n9) (.slice d9 l9 c9); have C6:=q4.s6 (.int .i64 a8) (.bool n8) (.slice d8 l8 c8) (.int .i64 a9) (.bool n9) (.slice d9 l9 c9); generalize (((((w8.setCell ⟨w.heap.size+1+1,0,none⟩ (.int .i64 a8)).setCell ⟨w.heap.size+1+1,1,none⟩ (.bool n8)).setCell ⟨w.heap.size+1+1,2,none⟩ (.slice d8 l8 c8)).setCell ⟨w.heap.size+1+1,3,none⟩ (.int .i64 a9)).setCell ⟨w.heap.size+1+1,4,none⟩ (.bool n9)).setCell ⟨w.heap.size+1+1,5,none⟩ (.slice d9 l9 c9)=W9 at *; obtain ⟨v0,v1,v2,v3,v4,v5⟩:=C6.k6; have e6:Sim lo a b has ho c d (simN lo a b) 1:=Sim.found lo a b has ho c d S0.o; rw [o3.o] at e6; refine bodyPost_ret (v:=.agg #[.int .i64 a8,.bool n8,.slice d8 l8 c8,.int .i64 a9,.bool n9,.slice d9 l9 c9]) ?_ rfl ⟨_,_,_,rfl,qn_mk p9 q3,e6,C3⟩; simp [results,Tryz.results57,go_sem,v0,v1,v2,v3,v4,v5]
      ·have E7:=Hd y5; have N2:(!has||(decide (ordI ((nn)*d) (c*1)<0)||(decide (ordI ((nn)*d) (c*1)=0)&&!ho)))=false:=by
        rw [← Bool.not_eq_true,L1.o]; exact y5
       rw [N2]; clear y5 N2; obtain rfl:has=true:=by
        cases has with
        | false=>exact absurd (.inl rfl) E7.o
        | true=>rfl
       have F4:=ends_step HE.o (fun h=>E7.o (.inr h)); rw [← l0.o] at F4; have Z:=Hd F4; have R4:Hid (nn=f+1):=o3.o.symm.trans F4.1; clear F4; have D1:=u9.o; obtain ⟨g0,g1,g2⟩:=D1.k3; clear D1; have S7:Hid (∀ W zp,Up w7 W→NumZ 0 W zp 1 1000→Calls Tryz.prog 70 #[.agg #[.int .i64 a7,.bool n7,.slice d7 l7 c7],zp] W (fun e w'=>∃ z,e=.returned z∧NumZ 0 w' z f 1000∧Up W w')):=fun W zp hW hz=>by
        refine (l1SubN_any _ _ nn 1 1000 1000 W (L5.o.below hW) hz (by decide) (by decide)).mono ?_; rintro e w' ⟨z,rfl,hz,t⟩; have e1:nn - 1=f:=by have:=R4.o; omega
        rw [e1] at hz; exact ⟨z,rfl,numZ_lt hz (lb_le 281 1000 (by decide) K9.o),t⟩
       go_upto_region 10 with fail
       go_cut [6] (fun q6 wx=>∃ (gb:Nat) (a8:Int) (n8:Bool) (d8:Option Addr) (l8 c8:Nat),q6=.pointer (some ⟨gb,0,none⟩)∧w7.heap.size≤gb∧Bx wx gb [.int .i64 a8,.bool n8,.slice d8 l8 c8]∧NumZ 0 wx (.agg #[.int .i64 a8,.bool n8,.slice d8 l8 c8]) (f) 1000∧Up w7 wx)
       case first=>
        go_wp2_with fail
        go_region_held3 (fun W=>W.cell? ⟨w1.heap.size,0,none⟩=some (.int .i64 a7)∧W.cell? ⟨w1.heap.size,1,none⟩=some (.bool n7)∧W.cell? ⟨w1.heap.size,2,none⟩=some (.slice d7 l7 c7)) (first
         | with_reducible assumption|with_reducible exact putS_3_3 (by with_reducible assumption) _ (by dsimp only; omega) _ _ _|go_keep) (first
         | (go_at_call 20
            refine (l1Small_any 1 _ (by decide) (by decide)).mono ?_; rintro e J ⟨u1,rfl,G,t⟩; have I:=Hd (G.mono' (B':=0) (n':=1000) (Nat.zero_le _) (by decide)); have s:Hid (Up w7 J):=by
             unfold Hid
             refine Below.trans ?_ (t.mono ?_)
             ·repeat' (first|exact Below.refl _ _|refine Below.drew ?_|refine Below.alloc ?_ ?_ _|assumption|(simp; done)|(simp; omega))
             ·simp
            have A2:=Hd (fun (gg:Nat) (l:List Value) (hx:Bx _ gg l)=>hx.below hx.lt t); have y7:=s.o.size
            try (have hnb:Bx J w7.heap.size [.int .i64 0,.bool false,.slice none 0 0]:=by with_reducible exact A2.o _ _ (bx_newD _ _ _))
            try have R3:=Hd hnb
            try clear hnb
            have i:=u9.o.below u9.o.lt s.o; have I3:=cc3 i; clear G t i)
         | (go_at_call 70
            refine (S7.o _ _ ?_ ?_).mono ?_
            ·repeat' (first|exact s.o|refine Below.drew ?_|refine Below.alloc ?_ ?_ _|assumption|(simp; done)|(simp; omega))
            ·first|exact I.o|exact I.o.below (below_alloc _ _)
            rintro e H ⟨u2,rfl,G,t⟩; have b7:=Hd G; have m:Hid (Up w7 H):=by
             unfold Hid
             refine Below.trans ?_ (t.mono ?_)
             ·repeat' (first|exact s.o|refine Below.drew ?_|refine Below.alloc ?_ ?_ _|assumption|(simp; done)|(simp; omega))
             ·first|exact y7|(simp; omega)
            have L2:=Hd (fun (gg:Nat) (l:List Value) (hx:Bx _ gg l)=>hx.below hx.lt t); have U3:=m.o.size
            try (have hnb:Bx H w7.heap.size [.int .i64 0,.bool false,.slice none 0 0]:=by with_reducible exact L2.o _ _ R3.o)
            try (have hnb:Bx H J.heap.size [.int .i64 0,.bool false,.slice none 0 0]:=by with_reducible exact L2.o _ _ (bx_new _ _ _))
            try (have n0:=hnb.cell 0; have n1:=hnb.cell 1; have n2:=hnb.cell 2; have Z5:=hnb.frozen 0; have Z6:=hnb.frozen 1; have Z7:=hnb.frozen 2; simp only [List.getElem?_cons_zero,List.getElem?_cons_succ] at n0 n1 n2)
            try have A3:=Hd hnb
            try clear hnb
            obtain ⟨a8,n8,d8,l8,c8,rfl⟩:=G.shape'; have i:=u9.o.below u9.o.lt m.o; have T5:=cc3 i; clear G t i))
        all_goals
         go_wp2_with fail
         go_meet
         first
          | (have hnb:=A3.o; exact ⟨_,a8,n8,d8,l8,c8,rfl,(by first|exact leR|exact y7),((hnb.set 0 _).set 1 _).set 2 _,b7.o.keeps (noInt_of hnb (by simp)) (noInt_of hnb (by simp)) (keepsC3 H _ _ _ _),((m.o.setCell (by dsimp only; omega) _).setCell (by dsimp only; omega) _).setCell (by dsimp only; omega) _⟩)
          | exact ⟨H.heap.size,a8,n8,d8,l8,c8,rfl,U3,bx_new H _ _,b7.o.below (below_alloc _ _),m.o.alloc m.o.size _⟩
       case rest=>
        obtain ⟨gb,a8,n8,d8,l8,c8,rfl,Y7,e8,N4,u⟩:=hcut; obtain ⟨wb,rfl⟩:∃ wb,wb=wc:=⟨_,rfl⟩; have m6:Hid (Up W0 wb):=E6.o.trans (u.mono E6.o.size); have E9:=Hd e8; have R2:=Hd N4; have Z0:gb<wb.heap.size:=e8.lt; clear u e8 N4 g0 g1 g2; obtain ⟨WU,C5⟩:=exW (wb.alloc (.cells #[.bool false,.bool false,.int .i64 0,.bool false,.slice none 0 0,.int .i64 0,.bool false,.slice none 0 0] 66)); have S4:=Hd C5; have z7:Hid (Up wb WU):=by unfold Hid; rw [← C5]; exact below_alloc _ _
        have Y6:Hid (WU.heap.size=wb.heap.size+1):=by show WU.heap.size=_; rw [← C5]; simp
        have w3:Bx WU (wb.heap.size) [.bool false,.bool false,.int .i64 0,.bool false,.slice none 0 0,.int .i64 0,.bool false,.slice none 0 0]:=by
         rw [← C5]; exact bx_new wb _ _
        have S6:Hid (∀ W,Up WU W→Bx W (wb.heap.size) [.bool false,.bool false,.int .i64 0,.bool false,.slice none 0 0,.int .i64 0,.bool false,.slice none 0 0]):=fun W hW=>w3.below w3.lt hW; clear C5 w3; have j9:Hid (Up W0 WU):=m6.o.trans (z7.o.mono m6.o.size); have g4:=Hd (E9.o.below E9.o.lt z7.o); have L0:=Hd (R2.o.below z7.o); have b5:=(A.o WU j9.o).1; have b4:=g4.o; obtain ⟨k0,k1,k2,k3,k4,k5,k6,k7⟩:=b5.k8; obtain ⟨g0,g1,g2⟩:=b4.k3; clear b5 b4; have L7:Hid (∀ W,Up WU W→Calls Tryz.prog 59 #[.agg #[.int .i64 a8,.bool n8,.slice d8 l8 c8]] W (fun e w'=>∃ z,e=.returned z∧IsQN 0 w' z f 1∧Up W w')):=fun W hW=>l2OfZ_any 0 _ _ _ _ _ f W (Nat.zero_le _) (L0.o.below hW); have G7:Hid (ordI (a*1) (f*b)=if a - f*b≠0 then 1 else 0):=by
         unfold Hid
         have e1:=div_parts a b m7.o; rw [← l0.o] at e1; unfold ordI; rw [Int.mul_one,if_neg (by omega)]
         by_cases h0:a - f*b≠0
         ·rw [if_pos h0,if_pos (by omega)]
         ·rw [if_neg h0,if_neg (by omega)]
        go_upto_region 12 with fail
        rw [S4.o]
        go_cut [70] (fun q70 wx=>q70=.bool (decide (a - f*b≠0))∧Up WU wx)
        case first=>
         obtain ⟨r2,J0⟩:=exW (ordI (a*1) (f*b)); have G5:Hid (decide (0<r2)=decide (a - f*b≠0)):=by
          show _=_
          rw [← J0,G7.o]
          by_cases h0:a - f*b≠0
          ·rw [if_pos h0,decide_eq_true h0]; rfl
          ·rw [if_neg h0,decide_eq_false h0]; rfl
         have L8:Hid (∀ W z,Up WU W→IsQN 0 W z f 1→Calls Tryz.prog 40 #[.agg #[.int .i64 a1,.bool n1,.slice d1 l1 c1,.int .i64 a2,.bool n2,.slice d2 l2 c2],z] W (fun e w'=>e=.returned (.int .i64 r2)∧Up W w')):=fun W z hW hz=>by
          rw [← J0]; exact l2Cmp_any 0 _ z a b f 1 W (Nat.zero_le _) (qn_mk (((H1.o.below S.o).below j9.o).below hW) (((H2.o.below S.o).below j9.o).below hW)) hz
         clear J0
         go_wp2_with fail
         go_region_held3 (fun W=>W.cell? ⟨w.heap.size,0,none⟩=some (.bool true)∧W.cell? ⟨w.heap.size,1,none⟩=some (.bool lo)∧W.cell? ⟨w.heap.size,2,none⟩=some (.int .i64 a1)∧W.cell? ⟨w.heap.size,3,none⟩=some (.bool n1)∧W.cell? ⟨w.heap.size,4,none⟩=some (.slice d1 l1 c1)∧W.cell? ⟨w.heap.size,5,none⟩=some (.int .i64 a2)∧W.cell? ⟨w.heap.size,6,none⟩=some (.bool n2)∧W.cell? ⟨w.heap.size,7,none⟩=some (.slice d2 l2 c2)∧W.cell? ⟨gb,0,none⟩=some (.int .i64 a8)∧W.cell? ⟨gb,1,none⟩=some (.bool n8)∧W.cell? ⟨gb,2,none⟩=some (.slice d8 l8 c8)) (first
          | with_reducible assumption|go_keep) (first
          | (go_at_call 59
             refine (L7.o _ ?_).mono ?_
             ·exact (Below.refl _ WU).drew
             rintro e J ⟨u1,rfl,G,t⟩; have I:=Hd G; have s:Hid (Up WU J):=(Below.refl _ WU).drew.trans t; have i:=(A.o J (j9.o.trans (s.o.mono j9.o.size))).1; have j:=g4.o.below g4.o.lt s.o; have I3:=cc8_3 i j; clear G t i j)
          | (go_at_call 40
             refine (L8.o _ _ s.o I.o).mono ?_; rintro e H ⟨rfl,t⟩; have m:Hid (Up WU H):=s.o.trans (t.mono s.o.size); have i:=(A.o H (j9.o.trans (m.o.mono j9.o.size))).1; have j:=g4.o.below g4.o.lt m.o; have T5:=cc8_3 i j; clear t i j))
         all_goals
          go_wp2_with fail
          go_meet
          exact ⟨by rw [← G5.o],m.o⟩
        case rest=>
         obtain ⟨rfl,u⟩:=hcut; obtain ⟨wv,rfl⟩:∃ wv,wv=wc:=⟨_,rfl⟩; have K6:=Hd u; have y4:Hid (Up W0 wv):=j9.o.trans (u.mono j9.o.size); have x7:=Hd (g4.o.below g4.o.lt u); have A1:=Hd (L0.o.below u); have o7:=Hd (S6.o wv u); clear u k0 k1 k2 k3 k4 k5 k6 k7 g0 g1 g2
         by_cases y6:a - f*b≠0
         ·rw [decide_eq_true y6]; have E8:=Hd y6; clear y6; have b5:=(A.o wv y4.o).1; have b4:=x7.o; obtain ⟨k0,k1,k2,k3,k4,k5,k6,k7⟩:=b5.k8; obtain ⟨g0,g1,g2⟩:=b4.k3; clear b5 b4; have S8:Hid (∀ W,Up wv W→Calls Tryz.prog 87 #[.agg #[.int .i64 a1,.bool n1,.slice d1 l1 c1,.int .i64 a2,.bool n2,.slice d2 l2 c2],.agg #[.int .i64 a8,.bool n8,.slice d8 l8 c8]] W (fun e w'=>∃ z',e=.returned z'∧IsQN 0 w' z' b (a - f*b)∧Up W w')):=fun W hW=>by
           have e1:=div_parts a b m7.o; rw [← l0.o] at e1; have e2:=f7.o.2.1; exact l2Turn_any _ _ a b f W (qn_mk (((H1.o.below S.o).below y4.o).below hW) (((H2.o.below S.o).below y4.o).below hW)) (A1.o.below hW) (lb_le 281 1000 (by decide) (by omega))
          go_wp2_with fail
          go_region_held3 (fun W=>W.cell? ⟨w.heap.size,0,none⟩=some (.bool true)∧W.cell? ⟨w.heap.size,1,none⟩=some (.bool lo)∧W.cell? ⟨w.heap.size,2,none⟩=some (.int .i64 a1)∧W.cell? ⟨w.heap.size,3,none⟩=some (.bool n1)∧W.cell? ⟨w.heap.size,4,none⟩=some (.slice d1 l1 c1)∧W.cell? ⟨w.heap.size,5,none⟩=some (.int .i64 a2)∧W.cell? ⟨w.heap.size,6,none⟩=some (.bool n2)∧W.cell? ⟨w.heap.size,7,none⟩=some (.slice d2 l2 c2)∧W.cell? ⟨gb,0,none⟩=some (.int .i64 a8)∧W.cell? ⟨gb,1,none⟩=some (.bool n8)∧W.cell? ⟨gb,2,none⟩=some (.slice d8 l8 c8)) (first
           | with_reducible assumption|with_reducible exact putS_11_8 (by with_reducible assumption) (wb.heap.size) (by dsimp only; omega) _ _ _ _ _ _ _ _|go_keep) (first
           | (go_at_call 87
              refine (S8.o _ ?_).mono ?_
              ·exact (Below.refl _ wv).drew
              rintro e H ⟨u1,rfl,G,t⟩; obtain ⟨a9,n9,d9,l9,c9,B3,D8,B8,D3,B6,rfl,j1,j2⟩:=G; have I:=Hd j1; have b7:=Hd j2; have m:Hid (Up wv H):=(Below.refl _ wv).drew.trans t; have i:=(A.o H (y4.o.trans (m.o.mono y4.o.size))).1; have j:=x7.o.below x7.o.lt m.o; have I3:=cc8_3 i j; have d0:=o7.o.below o7.o.lt m.o; obtain ⟨r0,r1,r2,r3,r4,r5,r6,r7⟩:=d0.k8; obtain ⟨E3,E4,E5,F7,F8,F9,V2,V3⟩:=d0.f8; clear j1 j2 t i j d0))
          all_goals
           try simp only [List.getElem_toArray,List.getElem_cons_succ,List.getElem_cons_zero,Act.put,List.setIfInBounds_toArray,List.set_cons_succ,List.set_cons_zero]
           have d0:=o7.o.below o7.o.lt m.o; have E:NoInt H wb.heap.size:=noInt_of d0 (by simp); have b6:=keepsC8 H wb.heap.size (.bool true) (.bool lo) (.int .i64 a9) (.bool n9) (.slice d9 l9 c9) (.int .i64 B3) (.bool D8) (.slice B8 D3 B6); have p9:=I.o.keeps E E b6; have q3:=b7.o.keeps E E b6; have M3:=(A1.o.below m.o).keeps E E b6; have I1:=bs8 (z7.o.trans ((K6.o.trans (m.o.mono K6.o.size)).mono z7.o.size)) wb.heap.size (by omega) (.bool true) (.bool lo) (.int .i64 a9) (.bool n9) (.slice d9 l9 c9) (.int .i64 B3) (.bool D8) (.slice B8 D3 B6); have M8:=d0.s8 (.bool true) (.bool lo) (.int .i64 a9) (.bool n9) (.slice d9 l9 c9) (.int .i64 B3) (.bool D8) (.slice B8 D3 B6); clear r0 E3 r1 E4 r2 E5 r3 F7 r4 F8 r5 F9 r6 V2 r7 V3 I3 E d0 b6 k0 k1 k2 k3 k4 k5 k6 k7 g0 g1 g2; generalize (((((((H.setCell ⟨wb.heap.size,0,none⟩ (.bool true)).setCell ⟨wb.heap.size,1,none⟩ (.bool lo)).setCell ⟨wb.heap.size,2,none⟩ (.int .i64 a9)).setCell ⟨wb.heap.size,3,none⟩ (.bool n9)).setCell ⟨wb.heap.size,4,none⟩ (.slice d9 l9 c9)).setCell ⟨wb.heap.size,5,none⟩ (.int .i64 B3)).setCell ⟨wb.heap.size,6,none⟩ (.bool D8)).setCell ⟨wb.heap.size,7,none⟩ (.slice B8 D3 B6)=Wt at *; have b9:=Hd (m6.o.trans (I1.mono m6.o.size)); have U:=Hd (E9.o.below E9.o.lt I1); have g6:=Hd M8; have m9:=Hd M3; have H0:Hid (IsES Wt (.agg #[.bool true,.bool lo,.int .i64 a9,.bool n9,.slice d9 l9 c9,.int .i64 B3,.bool D8,.slice B8 D3 B6]) true lo b (a - f*b)):=⟨_,_,_,_,_,_,_,_,_,_,rfl,p9,q3⟩; have A6:Hid (Ends ho d (c - f*d) true lo b (a - f*b)):=by
            have h9:=Z.o.2.2.2; rw [decide_eq_true E8.o] at h9; exact h9
           have A7:Hid ((c - f*d+(if true=true then a - f*b else 0)).toNat≤N):=by
            unfold Hid
            have e1:=div_parts a b m7.o; rw [← l0.o] at e1; have e2:=Z.o.2.1; have e3:=Z.o.2.2.1; have e5:=HN.o; simp only [if_true] at e5 ⊢; omega
           have o4:Hid (b.natAbs<lb 281∧(a - f*b).natAbs<lb 281):=by
            have e1:=div_parts a b m7.o; rw [← l0.o] at e1; have e2:=f7.o.2.1; exact ⟨e2,by omega⟩
           have A8:Hid (∀ p q,Sim ho d (c - f*d) true lo b (a - f*b) p q→Sim ho d (c - f*d) (decide (a - f*b≠0)) lo b (a - f*b) p q):=fun p q h=>by rw [decide_eq_true E8.o]; exact h
           clear I1 M8 M3 p9 q3; have U6:gb<Wt.heap.size:=U.o.lt; have U7:wb.heap.size<Wt.heap.size:=g6.o.lt; have b5:=(A.o Wt b9.o).2.1; have b4:=U.o; obtain ⟨k0,k1,k2,k3,k4,k5,k6,k7⟩:=b5.k8; obtain ⟨g0,g1,g2⟩:=b4.k3; clear b5 b4; have H7:Hid (∀ W,Up Wt W→Calls Tryz.prog 87 #[.agg #[.int .i64 a3,.bool n3,.slice d3 l3 c3,.int .i64 a4,.bool n4,.slice d4 l4 c4],.agg #[.int .i64 a8,.bool n8,.slice d8 l8 c8]] W (fun e w'=>∃ z',e=.returned z'∧IsQN 0 w' z' d (c - f*d)∧Up W w')):=fun W hW=>by
            have e1:=Z.o.2.1; have e2:=Z.o.2.2.1; have e3:=f7.o.2.2.2; exact l2Turn_any _ _ c d f W (qn_mk (((H3.o.below S.o).below b9.o).below hW) (((H4.o.below S.o).below b9.o).below hW)) (m9.o.below hW) (lb_le 281 1000 (by decide) (by omega))
           go_upto_region 14 with fail
           go_cut [8] (fun q8 wx=>∃ (gd:Nat) (a11:Int) (n11:Bool) (d11:Option Addr) (l11 c11:Nat) (a12:Int) (n12:Bool) (d12:Option Addr) (l12 c12:Nat),q8=.pointer (some ⟨gd,0,none⟩)∧Wt.heap.size≤gd∧Bx wx gd [.bool true,.bool ho,.int .i64 a11,.bool n11,.slice d11 l11 c11,.int .i64 a12,.bool n12,.slice d12 l12 c12]∧NumZ 0 wx (.agg #[.int .i64 a11,.bool n11,.slice d11 l11 c11]) (d) 1000∧NumZ 0 wx (.agg #[.int .i64 a12,.bool n12,.slice d12 l12 c12]) (c - f*d) 1000∧Up Wt wx)
           case first=>
            go_wp2_with fail
            go_region_held3 (fun W=>W.cell? ⟨w.heap.size+1,0,none⟩=some (.bool true)∧W.cell? ⟨w.heap.size+1,1,none⟩=some (.bool ho)∧W.cell? ⟨w.heap.size+1,2,none⟩=some (.int .i64 a3)∧W.cell? ⟨w.heap.size+1,3,none⟩=some (.bool n3)∧W.cell? ⟨w.heap.size+1,4,none⟩=some (.slice d3 l3 c3)∧W.cell? ⟨w.heap.size+1,5,none⟩=some (.int .i64 a4)∧W.cell? ⟨w.heap.size+1,6,none⟩=some (.bool n4)∧W.cell? ⟨w.heap.size+1,7,none⟩=some (.slice d4 l4 c4)∧W.cell? ⟨gb,0,none⟩=some (.int .i64 a8)∧W.cell? ⟨gb,1,none⟩=some (.bool n8)∧W.cell? ⟨gb,2,none⟩=some (.slice d8 l8 c8)) (first
             | with_reducible assumption|with_reducible exact putS_11_8 (by with_reducible assumption) _ (by dsimp only; omega) _ _ _ _ _ _ _ _|go_keep) (first
             | (go_at_call 87
                refine (H7.o _ ?_).mono ?_
                ·repeat' (first|exact Below.refl _ _|refine Below.drew ?_|refine Below.alloc ?_ ?_ _|assumption|(simp; done)|(simp; omega))
                rintro e H ⟨u1,rfl,G,t⟩; obtain ⟨a11,n11,d11,l11,c11,a12,n12,d12,l12,c12,rfl,j1,j2⟩:=G; have I:=Hd j1; have b7:=Hd j2; have m:Hid (Up Wt H):=by
                 unfold Hid
                 refine Below.trans ?_ (t.mono ?_)
                 ·repeat' (first|exact Below.refl _ _|refine Below.drew ?_|refine Below.alloc ?_ ?_ _|assumption|(simp; done)|(simp; omega))
                 ·simp
                have A2:=Hd (fun (gg:Nat) (l:List Value) (hx:Bx _ gg l)=>hx.below hx.lt t); have y7:=m.o.size
                try (have hnb:Bx H Wt.heap.size [.bool false,.bool false,.int .i64 0,.bool false,.slice none 0 0,.int .i64 0,.bool false,.slice none 0 0]:=by with_reducible exact A2.o _ _ (bx_newD _ _ _))
                try (have J1:=hnb.cell 0; have O6:=hnb.frozen 0; have J2:=hnb.cell 1; have O7:=hnb.frozen 1; have J3:=hnb.cell 2; have O8:=hnb.frozen 2; have J4:=hnb.cell 3; have O9:=hnb.frozen 3; have J5:=hnb.cell 4; have P0:=hnb.frozen 4; have J6:=hnb.cell 5; have P1:=hnb.frozen 5; have J7:=hnb.cell 6; have P2:=hnb.frozen 6; have J8:=hnb.cell 7; have P3:=hnb.frozen 7; simp only [List.getElem?_cons_zero,List.getElem?_cons_succ] at J1 J2 J3 J4 J5 J6 J7 J8)
                try have A3:=Hd hnb
                try clear hnb
                have i:=(A.o H (b9.o.trans (m.o.mono b9.o.size))).2.1; have j:=U.o.below U.o.lt m.o; have M5:=cc8_3 i j; clear i j; clear j1 j2 t))
            all_goals
             go_wp2_with fail
             go_meet
             first
              | (have hnb:=A3.o; exact ⟨_,a11,n11,d11,l11,c11,a12,n12,d12,l12,c12,rfl,leR,((((((((hnb.set 0 (.bool true)).set 1 (.bool ho)).set 2 (.int .i64 a11)).set 3 (.bool n11)).set 4 (.slice d11 l11 c11)).set 5 (.int .i64 a12)).set 6 (.bool n12)).set 7 (.slice d12 l12 c12)),I.o.keeps (noInt_of hnb (by simp)) (noInt_of hnb (by simp)) (keepsC8 H _ _ _ _ _ _ _ _ _),b7.o.keeps (noInt_of hnb (by simp)) (noInt_of hnb (by simp)) (keepsC8 H _ _ _ _ _ _ _ _ _),((((((((m.o.setCell (p:=⟨Wt.heap.size,0,none⟩) (by dsimp only; omega) (.bool true)).setCell (p:=⟨Wt.heap.size,1,none⟩) (by dsimp only; omega) (.bool ho)).setCell (p:=⟨Wt.heap.size,2,none⟩) (by dsimp only; omega) (.int .i64 a11)).setCell (p:=⟨Wt.heap.size,3,none⟩) (by dsimp only; omega) (.bool n11)).setCell (p:=⟨Wt.heap.size,4,none⟩) (by dsimp only; omega) (.slice d11 l11 c11)).setCell (p:=⟨Wt.heap.size,5,none⟩) (by dsimp only; omega) (.int .i64 a12)).setCell (p:=⟨Wt.heap.size,6,none⟩) (by dsimp only; omega) (.bool n12)).setCell (p:=⟨Wt.heap.size,7,none⟩) (by dsimp only; omega) (.slice d12 l12 c12))⟩)
              | exact ⟨H.heap.size,a11,n11,d11,l11,c11,a12,n12,d12,l12,c12,rfl,y7,bx_new H _ _,I.o.below (below_alloc _ _),b7.o.below (below_alloc _ _),m.o.alloc m.o.size _⟩
           case rest=>
            obtain ⟨gd,a11,n11,d11,l11,c11,a12,n12,d12,l12,c12,rfl,U1,e8,q5,q7,u⟩:=hcut; obtain ⟨we,rfl⟩:∃ we,we=wc:=⟨_,rfl⟩; have z3:Hid (Up W0 we):=b9.o.trans (u.mono b9.o.size); have o6:=Hd (U.o.below U.o.lt u); have A9:=Hd (g6.o.below g6.o.lt u); have z9:=Hd (m9.o.below u); have A5:=Hd (H0.o.below u); have G3:Hid (IsES we (.agg #[.bool true,.bool ho,.int .i64 a11,.bool n11,.slice d11 l11 c11,.int .i64 a12,.bool n12,.slice d12 l12 c12]) true ho d (c - f*d)):=⟨_,_,_,_,_,_,_,_,_,_,rfl,q5,q7⟩; clear u q5 q7 k0 k1 k2 k3 k4 k5 k6 k7 g0 g1 g2; have D2:=A9.o; obtain ⟨k0,k1,k2,k3,k4,k5,k6,k7⟩:=e8.k8; obtain ⟨j0,j1,j2,j3,j4,j5,j6,j7⟩:=D2.k8; clear e8 D2
            go_wp2_with fail
            refine (IH.o ho d (c - f*d) true lo b (a - f*b) _ _ we A7.o G3.o A5.o A6.o ⟨f7.o.2.2.2,(by have e1:=Z.o.2.1; have e2:=Z.o.2.2.1; have e3:=f7.o.2.2.2; omega),o4.o.1,o4.o.2⟩).mono ?_; rintro e wf ⟨z,p,q,rfl,hq,e6,m5⟩; obtain ⟨K,Q,M,O,L,g7,i7,h7,i5,g9,rfl,y1,y2⟩:=hq; have HP:=Hd y1; have HQ:=Hd y2; have G9:=Hd (A8.o p q e6); have t8:Hid (Up W0 wf):=z3.o.trans (m5.mono z3.o.size); have g3:=Hd (o6.o.below o6.o.lt m5); have A0:=Hd (z9.o.below m5); have U5:gb<wf.heap.size:=g3.o.lt; have U2:w.heap.size+2<wf.heap.size:=by have:=t8.o.size; have:=G8.o; omega
            clear y1 y2 e6 m5 k0 j0 k1 j1 k2 j2 k3 j3 k4 j4 k5 j5 k6 j6 k7 j7; obtain ⟨WG,i0⟩:=exW (wf.alloc (.cells #[.int .i64 K,.bool Q,.slice M O L,.int .i64 g7,.bool i7,.slice h7 i5 g9] 51)); have H5:=Hd i0; have f5:Hid (Up wf WG):=by unfold Hid; rw [← i0]; exact below_alloc _ _
            have R9:Hid (WG.heap.size=wf.heap.size+1):=by show WG.heap.size=_; rw [← i0]; simp
            have V:Bx WG (wf.heap.size) [.int .i64 K,.bool Q,.slice M O L,.int .i64 g7,.bool i7,.slice h7 i5 g9]:=by
             rw [← i0]; exact bx_new wf _ _
            have B0:Hid (∀ W,Up WG W→Bx W (wf.heap.size) [.int .i64 K,.bool Q,.slice M O L,.int .i64 g7,.bool i7,.slice h7 i5 g9]):=fun W hW=>V.below V.lt hW; obtain ⟨x0,x1,x2,x3,x4,x5⟩:=V.k6; clear i0 V; have j8:Hid (Up W0 WG):=t8.o.trans (f5.o.mono t8.o.size); have b3:=Hd (g3.o.below g3.o.lt f5.o); have m8:=Hd (A0.o.below f5.o); have t9:=Hd (HP.o.below f5.o); have G6:=Hd (HQ.o.below f5.o); have b4:=b3.o; obtain ⟨g0,g1,g2⟩:=b4.k3; clear b4; have o0:Hid (Sim lo a b true ho c d (f*p+q) p):=by
             unfold Hid
             have h9:=G9.o; rw [l0.o] at h9 ⊢; exact Sim.step lo a b ho c d p q (fun h=>E7.o (.inr h)) h9
            have B1:Hid (∀ W,Up WG W→Calls Tryz.prog 67 #[.agg #[.int .i64 a8,.bool n8,.slice d8 l8 c8],.agg #[.int .i64 K,.bool Q,.slice M O L]] W (fun e w'=>∃ z,e=.returned z∧NumZ 0 w' z (f*p) 2000∧Up W w')):=fun W hW=>by
             refine (l1MulN_any 0 _ _ f p 1000 1000 W (Nat.zero_le _) (m8.o.below hW) (t9.o.below hW) (by decide) (by decide)).mono ?_; rintro e w' ⟨z,rfl,hz,t⟩; refine ⟨z,rfl,numZ_lt hz ?_,t⟩; rw [Int.natAbs_mul]; exact lb_mul 1000 1000 (numZ_val m8.o) (numZ_val t9.o)
            have B2:Hid (∀ W zp,Up WG W→NumZ 0 W zp (f*p) 2000→Calls Tryz.prog 68 #[zp,.agg #[.int .i64 g7,.bool i7,.slice h7 i5 g9]] W (fun e w'=>∃ z,e=.returned z∧NumZ 0 w' z (f*p+q) 1000∧Up W w')):=fun W zp hW hz=>by
             refine (l1AddN_any 0 _ _ (f*p) q 2000 1000 W (Nat.zero_le _) hz (G6.o.below hW) (by decide) (by decide)).mono ?_; rintro e w' ⟨z,rfl,hz,t⟩; have C7:=o0.o.bound HE.o; exact ⟨z,rfl,numZ_lt hz (lb_le 282 1000 (by decide) (sim_lt f7.o C7.1 C7.2.2.1)),t⟩
            go_upto_region 16 with fail
            rw [H5.o]
            go_wp2_with fail
            go_region_held3 (fun W=>W.cell? ⟨gb,0,none⟩=some (.int .i64 a8)∧W.cell? ⟨gb,1,none⟩=some (.bool n8)∧W.cell? ⟨gb,2,none⟩=some (.slice d8 l8 c8)∧W.cell? ⟨wf.heap.size,0,none⟩=some (.int .i64 K)∧W.cell? ⟨wf.heap.size,1,none⟩=some (.bool Q)∧W.cell? ⟨wf.heap.size,2,none⟩=some (.slice M O L)∧W.cell? ⟨wf.heap.size,3,none⟩=some (.int .i64 g7)∧W.cell? ⟨wf.heap.size,4,none⟩=some (.bool i7)∧W.cell? ⟨wf.heap.size,5,none⟩=some (.slice h7 i5 g9)) (first
             | with_reducible assumption|with_reducible exact putS_9_6 (by with_reducible assumption) (w.heap.size+1+1) (by dsimp only; omega) _ _ _ _ _ _|go_keep) (first
             | (go_at_call 67
                refine (B1.o _ ?_).mono ?_
                ·exact (Below.refl _ WG).drew
                rintro e J ⟨u1,rfl,G,t⟩; have I:=Hd G; have s:Hid (Up WG J):=(Below.refl _ WG).drew.trans t; have i:=b3.o.below b3.o.lt s.o; have j:=B0.o J s.o; have I4:=cc3_6 i j; clear i j; clear G t)
             | (go_at_call 68
                refine (B2.o _ _ s.o I.o).mono ?_; rintro e H ⟨u2,rfl,G,t⟩; have b7:=Hd G; have m:Hid (Up WG H):=s.o.trans (t.mono s.o.size); obtain ⟨g8,i8,h8,i6,h6,rfl⟩:=G.shape'; have i:=b3.o.below b3.o.lt m.o; have j:=B0.o H m.o; have M6:=cc3_6 i j; clear i j; have d0:=(A.o H (j8.o.trans (m.o.mono j8.o.size))).2.2; obtain ⟨r0,r1,r2,r3,r4,r5⟩:=d0.k6; obtain ⟨E3,E4,E5,F7,F8,F9⟩:=d0.f6; clear G t d0))
            all_goals
             try simp only [List.getElem_toArray,List.getElem_cons_succ,List.getElem_cons_zero,Act.put,List.setIfInBounds_toArray,List.set_cons_succ,List.set_cons_zero]
             go_wp2
             have z2:=j8.o.trans (m.o.mono j8.o.size); have q4:=(A.o H z2).2.2; have E:NoInt H (w.heap.size+1+1):=noInt_of q4 (by simp); have b6:=keepsC6 H (w.heap.size+1+1) (.int .i64 g8) (.bool i8) (.slice h8 i6 h6) (.int .i64 K) (.bool Q) (.slice M O L); have p9:=b7.o.keeps E E b6; have q3:=(t9.o.below m.o).keeps E E b6; have C3:=bs6 (S.o.trans (z2.mono S.o.size)) (w.heap.size+1+1) (by omega) (.int .i64 g8) (.bool i8) (.slice h8 i6 h6) (.int .i64 K) (.bool Q) (.slice M O L); have C6:=q4.s6 (.int .i64 g8) (.bool i8) (.slice h8 i6 h6) (.int .i64 K) (.bool Q) (.slice M O L); generalize (((((H.setCell ⟨w.heap.size+1+1,0,none⟩ (.int .i64 g8)).setCell ⟨w.heap.size+1+1,1,none⟩ (.bool i8)).setCell ⟨w.heap.size+1+1,2,none⟩ (.slice h8 i6 h6)).setCell ⟨w.heap.size+1+1,3,none⟩ (.int .i64 K)).setCell ⟨w.heap.size+1+1,4,none⟩ (.bool Q)).setCell ⟨w.heap.size+1+1,5,none⟩ (.slice M O L)=W9 at *; obtain ⟨v0,v1,v2,v3,v4,v5⟩:=C6.k6; refine bodyPost_ret (v:=.agg #[.int .i64 g8,.bool i8,.slice h8 i6 h6,.int .i64 K,.bool Q,.slice M O L]) ?_ rfl ⟨_,_,_,rfl,qn_mk p9 q3,o0.o,C3⟩; simp [results,Tryz.results57,go_sem,v0,v1,v2,v3,v4,v5]
         ·rw [decide_eq_false y6]; have E8:=Hd y6; clear y6; obtain ⟨Wt,rfl⟩:∃ Wt,Wt=wv:=⟨_,rfl⟩; have b9:=y4; have U:=x7; have g6:=o7; have m9:=A1; have H0:Hid (IsES Wt (.agg #[.bool false,.bool false,.int .i64 0,.bool false,.slice none 0 0,.int .i64 0,.bool false,.slice none 0 0]) false false 0 0):=⟨_,_,_,_,_,_,_,_,_,_,rfl,numZ_nil _,numZ_nil _⟩; have A6:Hid (Ends ho d (c - f*d) false false 0 0):=⟨Z.o.2.2.2.b0,Z.o.2.2.2.a0,Z.o.2.2.2.g,Z.o.2.2.2.pos,fun h=>by cases h⟩; have A7:Hid ((c - f*d+(if false=true then (0:Int) else 0)).toNat≤N):=by
           unfold Hid
           have e0:=m7.o; have e2:=Z.o.2.1; have e3:=Z.o.2.2.1; have e5:=HN.o; simp at e5 ⊢; omega
          have o4:Hid ((0:Int).natAbs<lb 281∧(0:Int).natAbs<lb 281):=by
           have h1:(0:Int).natAbs<lb 281:=Nat.lt_of_lt_of_le (by decide) (Nat.le_of_lt (lb_one 281 (by decide))); exact ⟨h1,h1⟩
          have A8:Hid (∀ p q,Sim ho d (c - f*d) false false 0 0 p q→Sim ho d (c - f*d) (decide (a - f*b≠0)) lo b (a - f*b) p q):=fun p q h=>by
           rw [decide_eq_false E8.o]
           rcases h.inv with ⟨_,rfl,rfl⟩|⟨h,_⟩
           · exact Sim.found _ _ _ _ _ _ _ (.inl rfl)
           · cases h
          have U6:gb<Wt.heap.size:=U.o.lt; have U7:wb.heap.size<Wt.heap.size:=g6.o.lt; have b5:=(A.o Wt b9.o).2.1; have b4:=U.o; obtain ⟨k0,k1,k2,k3,k4,k5,k6,k7⟩:=b5.k8; obtain ⟨g0,g1,g2⟩:=b4.k3; clear b5 b4; have H7:Hid (∀ W,Up Wt W→Calls Tryz.prog 87 #[.agg #[.int .i64 a3,.bool n3,.slice d3 l3 c3,.int .i64 a4,.bool n4,.slice d4 l4 c4],.agg #[.int .i64 a8,.bool n8,.slice d8 l8 c8]] W (fun e w'=>∃ z',e=.returned z'∧IsQN 0 w' z' d (c - f*d)∧Up W w')):=fun W hW=>by
           have e1:=Z.o.2.1; have e2:=Z.o.2.2.1; have e3:=f7.o.2.2.2; exact l2Turn_any _ _ c d f W (qn_mk (((H3.o.below S.o).below b9.o).below hW) (((H4.o.below S.o).below b9.o).below hW)) (m9.o.below hW) (lb_le 281 1000 (by decide) (by omega))
          go_upto_region 14 with fail
          go_cut [8] (fun q8 wx=>∃ (gd:Nat) (a11:Int) (n11:Bool) (d11:Option Addr) (l11 c11:Nat) (a12:Int) (n12:Bool) (d12:Option Addr) (l12 c12:Nat),q8=.pointer (some ⟨gd,0,none⟩)∧Wt.heap.size≤gd∧Bx wx gd [.bool true,.bool ho,.int .i64 a11,.bool n11,.slice d11 l11 c11,.int .i64 a12,.bool n12,.slice d12 l12 c12]∧NumZ 0 wx (.agg #[.int .i64 a11,.bool n11,.slice d11 l11 c11]) (d) 1000∧NumZ 0 wx (.agg #[.int .i64 a12,.bool n12,.slice d12 l12 c12]) (c - f*d) 1000∧Up Wt wx)
          case first=>
           go_wp2_with fail
           go_region_held3 (fun W=>W.cell? ⟨w.heap.size+1,0,none⟩=some (.bool true)∧W.cell? ⟨w.heap.size+1,1,none⟩=some (.bool ho)∧W.cell? ⟨w.heap.size+1,2,none⟩=some (.int .i64 a3)∧W.cell? ⟨w.heap.size+1,3,none⟩=some (.bool n3)∧W.cell? ⟨w.heap.size+1,4,none⟩=some (.slice d3 l3 c3)∧W.cell? ⟨w.heap.size+1,5,none⟩=some (.int .i64 a4)∧W.cell? ⟨w.heap.size+1,6,none⟩=some (.bool n4)∧W.cell? ⟨w.heap.size+1,7,none⟩=some (.slice d4 l4 c4)∧W.cell? ⟨gb,0,none⟩=some (.int .i64 a8)∧W.cell? ⟨gb,1,none⟩=some (.bool n8)∧W.cell? ⟨gb,2,none⟩=some (.slice d8 l8 c8)) (first
            | with_reducible assumption|with_reducible exact putS_11_8 (by with_reducible assumption) _ (by dsimp only; omega) _ _ _ _ _ _ _ _|go_keep) (first
            | (go_at_call 87
               refine (H7.o _ ?_).mono ?_
               ·repeat' (first|exact Below.refl _ _|refine Below.drew ?_|refine Below.alloc ?_ ?_ _|assumption|(simp; done)|(simp; omega))
               rintro e H ⟨u1,rfl,G,t⟩; obtain ⟨a11,n11,d11,l11,c11,a12,n12,d12,l12,c12,rfl,j1,j2⟩:=G; have I:=Hd j1; have b7:=Hd j2; have m:Hid (Up Wt H):=by
                unfold Hid
                refine Below.trans ?_ (t.mono ?_)
                ·repeat' (first|exact Below.refl _ _|refine Below.drew ?_|refine Below.alloc ?_ ?_ _|assumption|(simp; done)|(simp; omega))
                ·simp
               have A2:=Hd (fun (gg:Nat) (l:List Value) (hx:Bx _ gg l)=>hx.below hx.lt t); have y7:=m.o.size
               try (have hnb:Bx H Wt.heap.size [.bool false,.bool false,.int .i64 0,.bool false,.slice none 0 0,.int .i64 0,.bool false,.slice none 0 0]:=by with_reducible exact A2.o _ _ (bx_newD _ _ _))
               try (have J1:=hnb.cell 0; have O6:=hnb.frozen 0; have J2:=hnb.cell 1; have O7:=hnb.frozen 1; have J3:=hnb.cell 2; have O8:=hnb.frozen 2; have J4:=hnb.cell 3; have O9:=hnb.frozen 3; have J5:=hnb.cell 4; have P0:=hnb.frozen 4; have J6:=hnb.cell 5; have P1:=hnb.frozen 5; have J7:=hnb.cell 6; have P2:=hnb.frozen 6; have J8:=hnb.cell 7; have P3:=hnb.frozen 7; simp only [List.getElem?_cons_zero,List.getElem?_cons_succ] at J1 J2 J3 J4 J5 J6 J7 J8)
               try have A3:=Hd hnb
               try clear hnb
               have i:=(A.o H (b9.o.trans (m.o.mono b9.o.size))).2.1; have j:=U.o.below U.o.lt m.o; have M5:=cc8_3 i j; clear i j; clear j1 j2 t))
           all_goals
            go_wp2_with fail
            go_meet
            first
             | (have hnb:=A3.o; exact ⟨_,a11,n11,d11,l11,c11,a12,n12,d12,l12,c12,rfl,leR,((((((((hnb.set 0 (.bool true)).set 1 (.bool ho)).set 2 (.int .i64 a11)).set 3 (.bool n11)).set 4 (.slice d11 l11 c11)).set 5 (.int .i64 a12)).set 6 (.bool n12)).set 7 (.slice d12 l12 c12)),I.o.keeps (noInt_of hnb (by simp)) (noInt_of hnb (by simp)) (keepsC8 H _ _ _ _ _ _ _ _ _),b7.o.keeps (noInt_of hnb (by simp)) (noInt_of hnb (by simp)) (keepsC8 H _ _ _ _ _ _ _ _ _),((((((((m.o.setCell (p:=⟨Wt.heap.size,0,none⟩) (by dsimp only; omega) (.bool true)).setCell (p:=⟨Wt.heap.size,1,none⟩) (by dsimp only; omega) (.bool ho)).setCell (p:=⟨Wt.heap.size,2,none⟩) (by dsimp only; omega) (.int .i64 a11)).setCell (p:=⟨Wt.heap.size,3,none⟩) (by dsimp only; omega) (.bool n11)).setCell (p:=⟨Wt.heap.size,4,none⟩) (by dsimp only; omega) (.slice d11 l11 c11)).setCell (p:=⟨Wt.heap.size,5,none⟩) (by dsimp only; omega) (.int .i64 a12)).setCell (p:=⟨Wt.heap.size,6,none⟩) (by dsimp only; omega) (.bool n12)).setCell (p:=⟨Wt.heap.size,7,none⟩) (by dsimp only; omega) (.slice d12 l12 c12))⟩)
             | exact ⟨H.heap.size,a11,n11,d11,l11,c11,a12,n12,d12,l12,c12,rfl,y7,bx_new H _ _,I.o.below (below_alloc _ _),b7.o.below (below_alloc _ _),m.o.alloc m.o.size _⟩
          case rest=>
           obtain ⟨gd,a11,n11,d11,l11,c11,a12,n12,d12,l12,c12,rfl,U1,e8,q5,q7,u⟩:=hcut; obtain ⟨we,rfl⟩:∃ we,we=wc:=⟨_,rfl⟩; have z3:Hid (Up W0 we):=b9.o.trans (u.mono b9.o.size); have o6:=Hd (U.o.below U.o.lt u); have A9:=Hd (g6.o.below g6.o.lt u); have z9:=Hd (m9.o.below u); have A5:=Hd (H0.o.below u); have G3:Hid (IsES we (.agg #[.bool true,.bool ho,.int .i64 a11,.bool n11,.slice d11 l11 c11,.int .i64 a12,.bool n12,.slice d12 l12 c12]) true ho d (c - f*d)):=⟨_,_,_,_,_,_,_,_,_,_,rfl,q5,q7⟩; clear u q5 q7 k0 k1 k2 k3 k4 k5 k6 k7 g0 g1 g2; have D2:=A9.o; obtain ⟨k0,k1,k2,k3,k4,k5,k6,k7⟩:=e8.k8; obtain ⟨j0,j1,j2,j3,j4,j5,j6,j7⟩:=D2.k8; clear e8 D2
           go_wp2_with fail
           refine (IH.o ho d (c - f*d) false false 0 0 _ _ we A7.o G3.o A5.o A6.o ⟨f7.o.2.2.2,(by have e1:=Z.o.2.1; have e2:=Z.o.2.2.1; have e3:=f7.o.2.2.2; omega),o4.o.1,o4.o.2⟩).mono ?_; rintro e wf ⟨z,p,q,rfl,hq,e6,m5⟩; obtain ⟨K,Q,M,O,L,g7,i7,h7,i5,g9,rfl,y1,y2⟩:=hq; have HP:=Hd y1; have HQ:=Hd y2; have G9:=Hd (A8.o p q e6); have t8:Hid (Up W0 wf):=z3.o.trans (m5.mono z3.o.size); have g3:=Hd (o6.o.below o6.o.lt m5); have A0:=Hd (z9.o.below m5); have U5:gb<wf.heap.size:=g3.o.lt; have U2:w.heap.size+2<wf.heap.size:=by have:=t8.o.size; have:=G8.o; omega
           clear y1 y2 e6 m5 k0 j0 k1 j1 k2 j2 k3 j3 k4 j4 k5 j5 k6 j6 k7 j7; obtain ⟨WG,i0⟩:=exW (wf.alloc (.cells #[.int .i64 K,.bool Q,.slice M O L,.int .i64 g7,.bool i7,.slice h7 i5 g9] 51)); have H5:=Hd i0; have f5:Hid (Up wf WG):=by unfold Hid; rw [← i0]; exact below_alloc _ _
           have R9:Hid (WG.heap.size=wf.heap.size+1):=by show WG.heap.size=_; rw [← i0]; simp
           have V:Bx WG (wf.heap.size) [.int .i64 K,.bool Q,.slice M O L,.int .i64 g7,.bool i7,.slice h7 i5 g9]:=by
            rw [← i0]; exact bx_new wf _ _
           have B0:Hid (∀ W,Up WG W→Bx W (wf.heap.size) [.int .i64 K,.bool Q,.slice M O L,.int .i64 g7,.bool i7,.slice h7 i5 g9]):=fun W hW=>V.below V.lt hW; obtain ⟨x0,x1,x2,x3,x4,x5⟩:=V.k6; clear i0 V; have j8:Hid (Up W0 WG):=t8.o.trans (f5.o.mono t8.o.size); have b3:=Hd (g3.o.below g3.o.lt f5.o); have m8:=Hd (A0.o.below f5.o); have t9:=Hd (HP.o.below f5.o); have G6:=Hd (HQ.o.below f5.o); have b4:=b3.o; obtain ⟨g0,g1,g2⟩:=b4.k3; clear b4; have o0:Hid (Sim lo a b true ho c d (f*p+q) p):=by
            unfold Hid
            have h9:=G9.o; rw [l0.o] at h9 ⊢; exact Sim.step lo a b ho c d p q (fun h=>E7.o (.inr h)) h9
           have B1:Hid (∀ W,Up WG W→Calls Tryz.prog 67 #[.agg #[.int .i64 a8,.bool n8,.slice d8 l8 c8],.agg #[.int .i64 K,.bool Q,.slice M O L]] W (fun e w'=>∃ z,e=.returned z∧NumZ 0 w' z (f*p) 2000∧Up W w')):=fun W hW=>by
            refine (l1MulN_any 0 _ _ f p 1000 1000 W (Nat.zero_le _) (m8.o.below hW) (t9.o.below hW) (by decide) (by decide)).mono ?_; rintro e w' ⟨z,rfl,hz,t⟩; refine ⟨z,rfl,numZ_lt hz ?_,t⟩; rw [Int.natAbs_mul]; exact lb_mul 1000 1000 (numZ_val m8.o) (numZ_val t9.o)
           have B2:Hid (∀ W zp,Up WG W→NumZ 0 W zp (f*p) 2000→Calls Tryz.prog 68 #[zp,.agg #[.int .i64 g7,.bool i7,.slice h7 i5 g9]] W (fun e w'=>∃ z,e=.returned z∧NumZ 0 w' z (f*p+q) 1000∧Up W w')):=fun W zp hW hz=>by
            refine (l1AddN_any 0 _ _ (f*p) q 2000 1000 W (Nat.zero_le _) hz (G6.o.below hW) (by decide) (by decide)).mono ?_; rintro e w' ⟨z,rfl,hz,t⟩; have C7:=o0.o.bound HE.o; exact ⟨z,rfl,numZ_lt hz (lb_le 282 1000 (by decide) (sim_lt f7.o C7.1 C7.2.2.1)),t⟩
           go_upto_region 16 with fail
           rw [H5.o]
           go_wp2_with fail
           go_region_held3 (fun W=>W.cell? ⟨gb,0,none⟩=some (.int .i64 a8)∧W.cell? ⟨gb,1,none⟩=some (.bool n8)∧W.cell? ⟨gb,2,none⟩=some (.slice d8 l8 c8)∧W.cell? ⟨wf.heap.size,0,none⟩=some (.int .i64 K)∧W.cell? ⟨wf.heap.size,1,none⟩=some (.bool Q)∧W.cell? ⟨wf.heap.size,2,none⟩=some (.slice M O L)∧W.cell? ⟨wf.heap.size,3,none⟩=some (.int .i64 g7)∧W.cell? ⟨wf.heap.size,4,none⟩=some (.bool i7)∧W.cell? ⟨wf.heap.size,5,none⟩=some (.slice h7 i5 g9)) (first
            | with_reducible assumption|with_reducible exact putS_9_6 (by with_reducible assumption) (w.heap.size+1+1) (by dsimp only; omega) _ _ _ _ _ _|go_keep) (first
            | (go_at_call 67
               refine (B1.o _ ?_).mono ?_
               ·exact (Below.refl _ WG).drew
               rintro e J ⟨u1,rfl,G,t⟩; have I:=Hd G; have s:Hid (Up WG J):=(Below.refl _ WG).drew.trans t; have i:=b3.o.below b3.o.lt s.o; have j:=B0.o J s.o; have I4:=cc3_6 i j; clear i j; clear G t)
            | (go_at_call 68
               refine (B2.o _ _ s.o I.o).mono ?_; rintro e H ⟨u2,rfl,G,t⟩; have b7:=Hd G; have m:Hid (Up WG H):=s.o.trans (t.mono s.o.size); obtain ⟨g8,i8,h8,i6,h6,rfl⟩:=G.shape'; have i:=b3.o.below b3.o.lt m.o; have j:=B0.o H m.o; have M6:=cc3_6 i j; clear i j; have d0:=(A.o H (j8.o.trans (m.o.mono j8.o.size))).2.2; obtain ⟨r0,r1,r2,r3,r4,r5⟩:=d0.k6; obtain ⟨E3,E4,E5,F7,F8,F9⟩:=d0.f6; clear G t d0))
           all_goals
            try simp only [List.getElem_toArray,List.getElem_cons_succ,List.getElem_cons_zero,Act.put,List.setIfInBounds_toArray,List.set_cons_succ,List.set_cons_zero]
            go_wp2
            have z2:=j8.o.trans (m.o.mono j8.o.size); have q4:=(A.o H z2).2.2; have E:NoInt H (w.heap.size+1+1):=noInt_of q4 (by simp); have b6:=keepsC6 H (w.heap.size+1+1) (.int .i64 g8) (.bool i8) (.slice h8 i6 h6) (.int .i64 K) (.bool Q) (.slice M O L); have p9:=b7.o.keeps E E b6; have q3:=(t9.o.below m.o).keeps E E b6; have C3:=bs6 (S.o.trans (z2.mono S.o.size)) (w.heap.size+1+1) (by omega) (.int .i64 g8) (.bool i8) (.slice h8 i6 h6) (.int .i64 K) (.bool Q) (.slice M O L); have C6:=q4.s6 (.int .i64 g8) (.bool i8) (.slice h8 i6 h6) (.int .i64 K) (.bool Q) (.slice M O L); generalize (((((H.setCell ⟨w.heap.size+1+1,0,none⟩ (.int .i64 g8)).setCell ⟨w.heap.size+1+1,1,none⟩ (.bool i8)).setCell ⟨w.heap.size+1+1,2,none⟩ (.slice h8 i6 h6)).setCell ⟨w.heap.size+1+1,3,none⟩ (.int .i64 K)).setCell ⟨w.heap.size+1+1,4,none⟩ (.bool Q)).setCell ⟨w.heap.size+1+1,5,none⟩ (.slice M O L)=W9 at *; obtain ⟨v0,v1,v2,v3,v4,v5⟩:=C6.k6; refine bodyPost_ret (v:=.agg #[.int .i64 g8,.bool i8,.slice h8 i6 h6,.int .i64 K,.bool Q,.slice M O L]) ?_ rfl ⟨_,_,_,rfl,qn_mk p9 q3,o0.o,C3⟩; simp [results,Tryz.results57,go_sem,v0,v1,v2,v3,v4,v5]
end Go.Proofs.YtnhbmpnhijgpmaaGreatDoor
