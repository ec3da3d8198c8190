import Derived.Test.YtnhbmpnhijgpmaaGreatDoorSimACp
set_option maxRecDepth 100000
set_option maxHeartbeats 8000000
namespace Go.Proofs.YtnhbmpnhijgpmaaGreatDoor
open Go.ChangeShapes Go.WideShapes Go.ChangeAt Go.RowKit
theorem isDiv_ediv {x y q r:Int} (h:IsDiv x y q r) (hy:0<y):q=x / y:=by
 obtain ⟨e,r0,r1⟩:=h; rw [e,Int.add_comm,Int.add_mul_ediv_right _ _ (by omega),Int.ediv_eq_zero_of_lt r0 (by omega)]; omega
theorem adm_low {lo:Bool} {a b:Int} {has ho:Bool} {c d:Int} (h:Ends lo a b has ho c d):admB true lo (-a) b (-(a / b)) 1=decide (b=1∧lo=false):=by
 obtain ⟨s,r0,r1⟩:=div_parts a b h.b0; unfold admB ordI; have k : -(a / b)*b = -(a / b*b):=Int.neg_mul ..; rw [k,Int.mul_one]
 by_cases i:b=1
 ·have m:a / b*b=a:=by rw [i,Int.ediv_one,Int.mul_one]
  rw [m,if_neg (by omega),if_neg (by omega)]
  cases lo<;>simp [i]
 have j:a / b*b≠a:=fun e=>i (gcd_whole h.g h.b0 e.symm); rw [if_neg (by omega),if_pos (by omega)]; simp [i]
theorem adm_hi {has ho:Bool} {c d n:Int}:admB has ho c d n 1=true↔has=false∨simH ho c d n:=by
 unfold admB ordI simH; rw [Int.mul_one]
 rcases Int.lt_trichotomy (n*d) c with h|h|h
 ·rw [if_pos h]; cases has<;>simp [h]
 ·rw [if_neg (by omega),if_neg (by omega)]
  cases has<;>cases ho<;>simp [h]
 rw [if_neg (by omega),if_pos h]; have i:¬ n*d<c:=by omega
 have j:n*d≠c:=by omega
 cases has<;>simp [i,j]
theorem IsE.tight {w:World} {z:Value} {hs op:Bool} {x y:Int} {n k:Nat} (h:IsE w z hs op x y n) (hx:x.natAbs<lb k) (hy:y.natAbs<lb k):IsE w z hs op x y k:=by
 obtain ⟨s1,t,m,c1,s2,u,s,c2,e,i,j⟩:=h; exact ⟨s1,t,m,c1,s2,u,s,c2,e,i.tight hx,j.tight hy⟩
theorem sim_lt {a c p:Int} {has:Bool} {b d:Int} (h:a.natAbs<lb 281∧b.natAbs<lb 281∧c.natAbs<lb 281∧d.natAbs<lb 281) (hp:0<p) (hle:p≤a+(if has then c else 1)):p.natAbs<lb 282:=by
 have i:=lb_add 281 h.1 h.2.2.1; have j:=lb_add 281 h.1 (lb_one 281 (by decide)); have h3:a.natAbs+c.natAbs<lb 282:=i; have h4:a.natAbs+1<lb 282:=j
 cases has with
 | true=>
   have h5:p≤a+c:=by simpa using hle
   omega
 | false=>
   have h5:p≤a+1:=by simpa using hle
   omega
theorem IsQR.keeps {w W:World} {z:Value} {x y:Int} {n:Nat} {g h:Nat} (hq:IsQR 0 w z x y n) (n1:NoInt w g) (n2:NoInt w h) (k:Keeps g h w W):IsQR 0 W z x y n:=by
 obtain ⟨s1,m,s2,s,e,i,j⟩:=hq; exact ⟨s1,m,s2,s,e,i.keeps n1 n2 k,j.keeps n1 n2 k⟩
theorem qr_parts {w:World} {s1 s2:Bool} {p1 p2:Option Addr} {l1 c1 l2 c2:Nat} {x y:Int} {n:Nat} (h:IsQR 0 w (.agg #[.bool s1,.slice p1 l1 c1,.bool s2,.slice p2 l2 c2]) x y n):IsI 0 w (.agg #[.bool s1,.slice p1 l1 c1]) x n∧IsI 0 w (.agg #[.bool s2,.slice p2 l2 c2]) y n:=by
 obtain ⟨t1,t,m1,m,t2,u,m2,s,e,i,j⟩:=h.shape; simp only [Value.agg.injEq,Array.mk.injEq,List.cons.injEq,Value.bool.injEq,Value.slice.injEq] at e; obtain ⟨rfl,⟨rfl,rfl,rfl⟩,rfl,⟨rfl,rfl,rfl⟩,_⟩:=e; exact ⟨i,j⟩
theorem putS_2_4 {W:World} {a0 a1:Addr} {v0 v1:Value} (m:W.cell? a0=some v0∧W.cell? a1=some v1) (g:Nat) (h:g≠a0.block∧g≠a1.block) (u0 u1 u2 u3:Value):((((W.setCell ⟨g,0,none⟩ (u0)).setCell ⟨g,1,none⟩ (u1)).setCell ⟨g,2,none⟩ (u2)).setCell ⟨g,3,none⟩ (u3)).cell? a0=some v0∧((((W.setCell ⟨g,0,none⟩ (u0)).setCell ⟨g,1,none⟩ (u1)).setCell ⟨g,2,none⟩ (u2)).setCell ⟨g,3,none⟩ (u3)).cell? a1=some v1:=
 ⟨cell_farC4 g m.1 h.1 _ _ _ _,cell_farC4 g m.2 h.2 _ _ _ _⟩
theorem putS_6_4 {W:World} {a0 a1 a2 a3 a4 a5:Addr} {v0 v1 v2 v3 v4 v5:Value} (m:W.cell? a0=some v0∧W.cell? a1=some v1∧W.cell? a2=some v2∧W.cell? a3=some v3∧W.cell? a4=some v4∧W.cell? a5=some v5) (g:Nat) (h:g≠a0.block∧g≠a1.block∧g≠a2.block∧g≠a3.block∧g≠a4.block∧g≠a5.block) (u0 u1 u2 u3:Value):((((W.setCell ⟨g,0,none⟩ (u0)).setCell ⟨g,1,none⟩ (u1)).setCell ⟨g,2,none⟩ (u2)).setCell ⟨g,3,none⟩ (u3)).cell? a0=some v0∧((((W.setCell ⟨g,0,none⟩ (u0)).setCell ⟨g,1,none⟩ (u1)).setCell ⟨g,2,none⟩ (u2)).setCell ⟨g,3,none⟩ (u3)).cell? a1=some v1∧((((W.setCell ⟨g,0,none⟩ (u0)).setCell ⟨g,1,none⟩ (u1)).setCell ⟨g,2,none⟩ (u2)).setCell ⟨g,3,none⟩ (u3)).cell? a2=some v2∧((((W.setCell ⟨g,0,none⟩ (u0)).setCell ⟨g,1,none⟩ (u1)).setCell ⟨g,2,none⟩ (u2)).setCell ⟨g,3,none⟩ (u3)).cell? a3=some v3∧((((W.setCell ⟨g,0,none⟩ (u0)).setCell ⟨g,1,none⟩ (u1)).setCell ⟨g,2,none⟩ (u2)).setCell ⟨g,3,none⟩ (u3)).cell? a4=some v4∧((((W.setCell ⟨g,0,none⟩ (u0)).setCell ⟨g,1,none⟩ (u1)).setCell ⟨g,2,none⟩ (u2)).setCell ⟨g,3,none⟩ (u3)).cell? a5=some v5:=
 ⟨cell_farC4 g m.1 h.1 _ _ _ _,cell_farC4 g m.2.1 h.2.1 _ _ _ _,cell_farC4 g m.2.2.1 h.2.2.1 _ _ _ _,cell_farC4 g m.2.2.2.1 h.2.2.2.1 _ _ _ _,cell_farC4 g m.2.2.2.2.1 h.2.2.2.2.1 _ _ _ _,cell_farC4 g m.2.2.2.2.2 h.2.2.2.2.2 _ _ _ _⟩
theorem putS_14_4 {W:World} {a0 a1 a2 a3 a4 a5 a6 a7 a8 a9 a10 a11 a12 a13:Addr} {v0 v1 v2 v3 v4 v5 v6 v7 v8 v9 v10 v11 v12 v13:Value} (m:W.cell? a0=some v0∧W.cell? a1=some v1∧W.cell? a2=some v2∧W.cell? a3=some v3∧W.cell? a4=some v4∧W.cell? a5=some v5∧W.cell? a6=some v6∧W.cell? a7=some v7∧W.cell? a8=some v8∧W.cell? a9=some v9∧W.cell? a10=some v10∧W.cell? a11=some v11∧W.cell? a12=some v12∧W.cell? a13=some v13) (g:Nat) (h:g≠a0.block∧g≠a1.block∧g≠a2.block∧g≠a3.block∧g≠a4.block∧g≠a5.block∧g≠a6.block∧g≠a7.block∧g≠a8.block∧g≠a9.block∧g≠a10.block∧g≠a11.block∧g≠a12.block∧g≠a13.block) (u0 u1 u2 u3:Value):((((W.setCell ⟨g,0,none⟩ (u0)).setCell ⟨g,1,none⟩ (u1)).setCell ⟨g,2,none⟩ (u2)).setCell ⟨g,3,none⟩ (u3)).cell? a0=some v0∧((((W.setCell ⟨g,0,none⟩ (u0)).setCell ⟨g,1,none⟩ (u1)).setCell ⟨g,2,none⟩ (u2)).setCell ⟨g,3,none⟩ (u3)).cell? a1=some v1∧((((W.setCell ⟨g,0,none⟩ (u0)).setCell ⟨g,1,none⟩ (u1)).setCell ⟨g,2,none⟩ (u2)).setCell ⟨g,3,none⟩ (u3)).cell? a2=some v2∧((((W.setCell ⟨g,0,none⟩ (u0)).setCell ⟨g,1,none⟩ (u1)).setCell ⟨g,2,none⟩ (u2)).setCell ⟨g,3,none⟩ (u3)).cell? a3=some v3∧((((W.setCell ⟨g,0,none⟩ (u0)).setCell ⟨g,1,none⟩ (u1)).setCell ⟨g,2,none⟩ (u2)).setCell ⟨g,3,none⟩ (u3)).cell? a4=some v4∧((((W.setCell ⟨g,0,none⟩ (u0)).setCell ⟨g,1,none⟩ (u1)).setCell ⟨g,2,none⟩ (u2)).setCell ⟨g,3,none⟩ (u3)).cell? a5=some v5∧((((W.setCell ⟨g,0,none⟩ (u0)).setCell ⟨g,1,none⟩ (u1)).setCell ⟨g,2,none⟩ (u2)).setCell ⟨g,3,none⟩ (u3)).cell? a6=some v6∧((((W.setCell ⟨g,0,none⟩ (u0)).setCell ⟨g,1,none⟩ (u1)).setCell ⟨g,2,none⟩ (u2)).setCell ⟨g,3,none⟩ (u3)).cell? a7=some v7∧((((W.setCell ⟨g,0,none⟩ (u0)).setCell ⟨g,1,none⟩ (u1)).setCell ⟨g,2,none⟩ (u2)).setCell ⟨g,3,none⟩ (u3)).cell? a8=some v8∧((((W.setCell ⟨g,0,none⟩ (u0)).setCell ⟨g,1,none⟩ (u1)).setCell ⟨g,2,none⟩ (u2)).setCell ⟨g,3,none⟩ (u3)).cell? a9=some v9∧((((W.setCell ⟨g,0,none⟩ (u0)).setCell ⟨g,1,none⟩ (u1)).setCell ⟨g,2,none⟩ (u2)).setCell ⟨g,3,none⟩ (u3)).cell? a10=some v10∧((((W.setCell ⟨g,0,none⟩ (u0)).setCell ⟨g,1,none⟩ (u1)).setCell ⟨g,2,none⟩ (u2)).setCell ⟨g,3,none⟩ (u3)).cell? a11=some v11∧((((W.setCell ⟨g,0,none⟩ (u0)).setCell ⟨g,1,none⟩ (u1)).setCell ⟨g,2,none⟩ (u2)).setCell ⟨g,3,none⟩ (u3)).cell? a12=some v12∧((((W.setCell ⟨g,0,none⟩ (u0)).setCell ⟨g,1,none⟩ (u1)).setCell ⟨g,2,none⟩ (u2)).setCell ⟨g,3,none⟩ (u3)).cell? a13=some v13:=
 ⟨cell_farC4 g m.1 h.1 _ _ _ _,cell_farC4 g m.2.1 h.2.1 _ _ _ _,cell_farC4 g m.2.2.1 h.2.2.1 _ _ _ _,cell_farC4 g m.2.2.2.1 h.2.2.2.1 _ _ _ _,cell_farC4 g m.2.2.2.2.1 h.2.2.2.2.1 _ _ _ _,cell_farC4 g m.2.2.2.2.2.1 h.2.2.2.2.2.1 _ _ _ _,cell_farC4 g m.2.2.2.2.2.2.1 h.2.2.2.2.2.2.1 _ _ _ _,cell_farC4 g m.2.2.2.2.2.2.2.1 h.2.2.2.2.2.2.2.1 _ _ _ _,cell_farC4 g m.2.2.2.2.2.2.2.2.1 h.2.2.2.2.2.2.2.2.1 _ _ _ _,cell_farC4 g m.2.2.2.2.2.2.2.2.2.1 h.2.2.2.2.2.2.2.2.2.1 _ _ _ _,cell_farC4 g m.2.2.2.2.2.2.2.2.2.2.1 h.2.2.2.2.2.2.2.2.2.2.1 _ _ _ _,cell_farC4 g m.2.2.2.2.2.2.2.2.2.2.2.1 h.2.2.2.2.2.2.2.2.2.2.2.1 _ _ _ _,cell_farC4 g m.2.2.2.2.2.2.2.2.2.2.2.2.1 h.2.2.2.2.2.2.2.2.2.2.2.2.1 _ _ _ _,cell_farC4 g m.2.2.2.2.2.2.2.2.2.2.2.2.2 h.2.2.2.2.2.2.2.2.2.2.2.2.2 _ _ _ _⟩
theorem simplestAbove_any (N:Nat):∀ (lo:Bool) (a b:Int) (has ho:Bool) (c d:Int) (zl zh:Value) (w:World),(b+(if has then d else 0)).toNat≤N→IsE w zl true lo a b 281→IsE w zh has ho c d 281→Ends lo a b has ho c d →
 a.natAbs<lb 281∧b.natAbs<lb 281∧c.natAbs<lb 281∧d.natAbs<lb 281→SP w →
 Calls Tryz.prog 49 #[zl,zh] w fun e w'=>∃ z p q,e=.returned z∧IsQR 0 w' z p q 282∧Sim lo a b has ho c d p q∧Up w w':=by
 induction N with
 | zero=>
   intro lo a b has ho c d zl zh w hN _ _ hE
   exfalso
   have h1:=hE.b0; have h2:0≤(if has then d else 0):=by
    cases has with
    | false=>exact Int.le_refl _
    | true=>exact Int.le_of_lt (hE.hi rfl).1
   omega
 | succ N ih=>
   intro lo a b has ho c d zl zh w hN hl hh hE x9 x1; have IH:=Hd ih; have HN:=Hd hN; have HE:=Hd hE; have d1:=Hd x9; have K:=Hd x1; obtain ⟨s1,p1,l1,c1,s2,p2,l2,c2,rfl,h1,h2⟩:=hl; obtain ⟨s3,p3,l3,c3,s4,p4,l4,c4,rfl,h3,h4⟩:=hh; have H1:=Hd h1; have H2:=Hd h2; have H3:=Hd h3; have H4:=Hd h4; have f9:Hid (0<b):=hE.b0; clear ih hN hE x9 x1 h1 h2 h3 h4; obtain ⟨W0,d3⟩:=exW (((w.alloc (.cells #[.bool true,.bool lo,.bool s1,.slice p1 l1 c1,.bool s2,.slice p2 l2 c2] 59)).alloc (.cells #[.bool has,.bool ho,.bool s3,.slice p3 l3 c3,.bool s4,.slice p4 l4 c4] 59)).alloc (.cells #[.bool false,.slice none 0 0,.bool false,.slice none 0 0] 57)); have B5:=Hd d3; have i:Hid (Up w W0):=by unfold Hid; rw [← d3]; exact below_al (below_al (below_alloc _ _) _) _
   have B2:Hid (W0.heap.size=w.heap.size+3):=by show W0.heap.size=_; rw [← d3]; simp
   have a3:Bx W0 (w.heap.size) [.bool true,.bool lo,.bool s1,.slice p1 l1 c1,.bool s2,.slice p2 l2 c2]:=by
    rw [← d3]; exact ((bx_new w _ _).alloc _).alloc _
   have d4:Bx W0 (w.heap.size+1) [.bool has,.bool ho,.bool s3,.slice p3 l3 c3,.bool s4,.slice p4 l4 c4]:=by
    rw [← d3]; have h:=bx_new (w.alloc (.cells #[.bool true,.bool lo,.bool s1,.slice p1 l1 c1,.bool s2,.slice p2 l2 c2] 59)) [.bool has,.bool ho,.bool s3,.slice p3 l3 c3,.bool s4,.slice p4 l4 c4] 59; rw [World.size_alloc] at h; exact (h).alloc _
   have d5:Bx W0 (w.heap.size+1+1) [.bool false,.slice none 0 0,.bool false,.slice none 0 0]:=by
    rw [← d3]; have h:=bx_new ((w.alloc (.cells #[.bool true,.bool lo,.bool s1,.slice p1 l1 c1,.bool s2,.slice p2 l2 c2] 59)).alloc (.cells #[.bool has,.bool ho,.bool s3,.slice p3 l3 c3,.bool s4,.slice p4 l4 c4] 59)) [.bool false,.slice none 0 0,.bool false,.slice none 0 0] 57; rw [World.size_alloc,World.size_alloc] at h; exact h
   have J:Hid (∀ W,Up W0 W→Bx W (w.heap.size) [.bool true,.bool lo,.bool s1,.slice p1 l1 c1,.bool s2,.slice p2 l2 c2]∧Bx W (w.heap.size+1) [.bool has,.bool ho,.bool s3,.slice p3 l3 c3,.bool s4,.slice p4 l4 c4]∧Bx W (w.heap.size+1+1) [.bool false,.slice none 0 0,.bool false,.slice none 0 0]):=fun W hW=>⟨a3.below a3.lt hW,d4.below d4.lt hW,d5.below d5.lt hW⟩; obtain ⟨k0,k1,k2,k3,k4,k5⟩:=a3.k6; clear d3 a3 d4 d5
   go_enter Tryz.func49,Tryz.ntmps49
   go_upto_region 1 with fail
   rw [B5.o]
   go_wp2_with fail
   refine (floor_any 0 _ a b 281 W0 (Nat.zero_le _) (qr_mk (H1.o.below i.o) (H2.o.below i.o)) (by decide) (Int.ne_of_gt f9.o) (K.o.below i.o)).mono ?_; rintro e w1 ⟨r,f,t,rfl,hr,x6,L⟩; have hf:=isDiv_ediv x6 f9.o; have q9:f.natAbs<lb 281:=by
    have e0:=HE.o.a0; have e1:a / b≤a:=Int.ediv_le_self b e0; have e2:=Int.ediv_nonneg e0 (Int.le_of_lt f9.o); have e3:=d1.o.1; rw [hf]; omega
   have b5:=Hd hf; have A7:=Hd (hr.tight q9); have F7:=Hd q9; have o5:=Hd L; obtain ⟨s5,p5,l5,c5,rfl⟩:=hr.shape; clear hr x6 L hf q9 k0 k1 k2 k3 k4 k5; obtain ⟨W1,g9⟩:=exW (w1.alloc (.cells #[.bool s5,.slice p5 l5 c5] 55)); have B6:=Hd g9; have o4:Hid (Up w1 W1):=by unfold Hid; rw [← g9]; exact below_alloc _ _
   have B3:Hid (W1.heap.size=w1.heap.size+1):=by show W1.heap.size=_; rw [← g9]; simp
   have a5:Bx W1 (w1.heap.size) [.bool s5,.slice p5 l5 c5]:=by
    rw [← g9]; exact bx_new w1 _ _
   have w5:Hid (∀ W,Up W1 W→Bx W (w1.heap.size) [.bool s5,.slice p5 l5 c5]):=fun W hW=>a5.below a5.lt hW; obtain ⟨i0,i1⟩:=a5.k2; clear g9 a5
   go_upto_region 2 with fail
   rw [B6.o]
   go_wp2_with fail
   refine (wholeRational_any s5 p5 l5 c5 W1).mono ?_; rintro e Q ⟨s6,p6,l6,c6,rfl,b6,x4⟩; have v9:=Hd (b6.mono (B':=0) (n':=281) (Nat.zero_le _) (by decide)); have d0:=Hd x4; clear b6 x4 i0 i1; obtain ⟨W2,h0⟩:=exW (Q.alloc (.cells #[.bool s5,.slice p5 l5 c5,.bool s6,.slice p6 l6 c6] 57)); have B7:=Hd h0; have u7:Hid (Up Q W2):=by unfold Hid; rw [← h0]; exact below_alloc _ _
   have F9:Hid (W2.heap.size=Q.heap.size+1):=by show W2.heap.size=_; rw [← h0]; simp
   have a6:Bx W2 (Q.heap.size) [.bool s5,.slice p5 l5 c5,.bool s6,.slice p6 l6 c6]:=by
    rw [← h0]; exact bx_new Q _ _
   have B8:Hid (∀ W,Up W2 W→Bx W (Q.heap.size) [.bool s5,.slice p5 l5 c5,.bool s6,.slice p6 l6 c6]):=fun W hW=>a6.below a6.lt hW; have i8:Hid (Up W0 W1):=o5.o.trans (o4.o.mono o5.o.size); have U:Hid (Up W1 W2):=d0.o.trans (u7.o.mono d0.o.size); have d8:Hid (Up W0 W2):=i8.o.trans (U.o.mono i8.o.size); have u9:Hid (IsI 0 W2 (.agg #[.bool s5,.slice p5 l5 c5]) f 281):=A7.o.below (o4.o.trans (U.o.mono o4.o.size)); have v7:Hid (IsI 0 W2 (.agg #[.bool s6,.slice p6 l6 c6]) 1 281):=v9.o.below u7.o; have F2:w.heap.size+2<w1.heap.size:=by have:=o5.o.size; have:=B2.o; omega
   have F3:w1.heap.size<Q.heap.size:=by have:=d0.o.size; have:=B3.o; omega
   have x3:=(J.o W2 d8.o).1; obtain ⟨k0,k1,k2,k3,k4,k5⟩:=x3.k6; obtain ⟨r0,r1,r2,r3⟩:=a6.k4; clear h0 a6 x3; have u6:Hid (admB true lo (-a) b (-f) 1=decide (b=1∧lo=false)):=by show _=_; rw [b5.o]; exact adm_low HE.o
   go_upto_region 3 with fail
   rw [B7.o]
   go_wp2_with fail
   refine (admitsAbove_any _ _ true lo a b f 1 281 W2 ⟨_,_,_,_,_,_,_,_,rfl,(H1.o.below i.o).below d8.o,(H2.o.below i.o).below d8.o⟩ (qr_mk u9.o v7.o) (by decide) ((K.o.below i.o).below d8.o)).mono ?_; rintro e w3 ⟨rfl,h7⟩; have i9:=Hd h7; have b9:Hid (Up W0 w3):=d8.o.trans (h7.mono d8.o.size); have j6:=Hd (u9.o.below h7); have v8:=Hd (v7.o.below h7); rw [u6.o]; clear h7 k0 k1 k2 k3 k4 k5 r0 r1 r2 r3; have m7:=w5.o w3 (U.o.trans (i9.o.mono U.o.size)); have m8:=B8.o w3 i9.o; have e6:=Hd m7; have e7:=Hd m8
   by_cases hq:b=1∧lo=false
   ·rw [decide_eq_true hq]; have Y:Hid (simN lo a b=f):=by
     unfold Hid
     unfold simN; rw [if_pos hq,b5.o,hq.1,Int.ediv_one]
    have d2:Hid (admB has ho c d f 1=true):=by
     show _=true
     rw [adm_hi]
     cases hh:has with
     | false=>exact .inl rfl
     | true=>
       refine .inr ?_; have hE:=HE.o; rw [hh] at hE
       by_cases hs:simH ho c d (simN lo a b)
       ·rw [Y.o] at hs; exact hs
       ·exfalso
        have:=(ends_step hE hs).1; rw [Y.o,b5.o] at this; omega
    clear hq m7; have L:=(J.o w3 b9.o).2.1; obtain ⟨j0,j1,j2,j3,j4,j5⟩:=L.k6; obtain ⟨m0,m1,m2,m3⟩:=m8.k4; clear L
    go_wp2_with fail
    refine (admitsBelow_any _ _ has ho c d f 1 281 w3 ⟨_,_,_,_,_,_,_,_,rfl,((H3.o.below i.o).below b9.o).mono leR (by decide),((H4.o.below i.o).below b9.o).mono leR (by decide)⟩ (qr_mk j6.o v8.o) (by decide) ((K.o.below i.o).below b9.o)).mono ?_; rintro e H ⟨rfl,E⟩; have s:Hid (Up W0 H):=b9.o.trans (E.mono b9.o.size); have q5:=Hd (j6.o.below E); have p0:=Hd (v8.o.below E); have Z:=(J.o H s.o).2.2; have q6:=e7.o.below e7.o.lt E; rw [d2.o]; clear E j0 j1 j2 j3 j4 j5 m0 m1 m2 m3 m8; obtain ⟨m0,m1,m2,m3⟩:=q6.k4; obtain ⟨q0,q1,q2,q3⟩:=Z.k4; obtain ⟨E0,E1,E2,E3⟩:=Z.f4
    go_wp2
    have u:NoInt H (w.heap.size+1+1):=noInt_of Z (by simp); have HK:=keepsC4 H (w.heap.size+1+1) (.bool s5) (.slice p5 l5 c5) (.bool s6) (.slice p6 l6 c6); have g7:=q5.o.keeps u u HK; have g8:=p0.o.keeps u u HK; have g6:=bs4 (i.o.trans (s.o.mono i.o.size)) (w.heap.size+1+1) (by omega) (.bool s5) (.slice p5 l5 c5) (.bool s6) (.slice p6 l6 c6); have h6:=Z.s4 (.bool s5) (.slice p5 l5 c5) (.bool s6) (.slice p6 l6 c6); generalize (((H.setCell ⟨w.heap.size+1+1,0,none⟩ (.bool s5)).setCell ⟨w.heap.size+1+1,1,none⟩ (.slice p5 l5 c5)).setCell ⟨w.heap.size+1+1,2,none⟩ (.bool s6)).setCell ⟨w.heap.size+1+1,3,none⟩ (.slice p6 l6 c6)=W9 at *; obtain ⟨v0,v1,v2,v3⟩:=h6.k4; have m:Sim lo a b has ho c d (simN lo a b) 1:=Sim.found lo a b has ho c d (adm_hi.1 (by rw [Y.o]; exact d2.o)); have S:=m.bound HE.o; rw [Y.o] at m S; refine bodyPost_ret (v:=.agg #[.bool s5,.slice p5 l5 c5,.bool s6,.slice p6 l6 c6]) ?_ rfl ⟨_,f,1,rfl,(qr_mk g7 g8).tight (sim_lt d1.o S.1 S.2.2.1) (lb_one 282 (by decide)),m,g6⟩; simp [results,Tryz.results49,go_sem,v0,v1,v2,v3]
   ·rw [decide_eq_false hq]; have Y:Hid (simN lo a b=f+1):=by
     unfold Hid
     unfold simN; rw [if_neg hq,b5.o]
    obtain ⟨D3,D4⟩:=m7.k2; clear hq m7 m8
    go_wp2_with fail
    go_region_held3 (fun W=>W.cell? ⟨w1.heap.size,0,none⟩=some (.bool s5)∧W.cell? ⟨w1.heap.size,1,none⟩=some (.slice p5 l5 c5)) (first
     | with_reducible assumption|with_reducible exact putS_2_4 (by with_reducible assumption) (Q.heap.size) (by dsimp only; omega) _ _ _ _|go_keep) (first
     | (go_at_call 78
        refine (wholeNumber_any 1 _ (by decide)).mono ?_; rintro e b3 ⟨u1,rfl,M,hb⟩; have e9:=Hd (M.mono (B':=0) (n':=281) (Nat.zero_le _) (by decide)); have D:Hid (Up w3 b3):=(Below.refl _ w3).drew.trans hb; have j:=e6.o.below e6.o.lt D.o; have C7:=cc2 j; clear M hb j)
     | (go_at_call 80
        refine (plus_any 0 _ _ f 1 281 281 _ (j6.o.below D.o) e9.o (by decide) (by decide) (((K.o.below i.o).below b9.o).below D.o)).mono ?_; rintro e b7 ⟨u2,rfl,M,hb⟩; have f5:=Hd (M.mono (B':=0) (n':=600) (Nat.zero_le _) (by decide)); have V:Hid (Up w3 b7):=D.o.trans (hb.mono D.o.size); have j:=e6.o.below e6.o.lt V.o; have C8:=cc2 j; obtain ⟨s7,p7,l7,c7,rfl⟩:=M.shape; clear M hb j)
     | (go_at_call 47
        refine (wholeRational_any s7 p7 l7 c7 _).mono ?_; rintro e T ⟨s8,p8,l8,c8,rfl,b6,hb⟩; have j9:=Hd (b6.mono (B':=0) (n':=600) (Nat.zero_le _) (by decide)); have B4:=Hd (f5.o.below hb); have A:Hid (Up w3 T):=V.o.trans (hb.mono V.o.size); have j:=e6.o.below e6.o.lt A.o; have C9:=cc2 j; have O:=e7.o.below e7.o.lt A.o; obtain ⟨r0,r1,r2,r3⟩:=O.k4; obtain ⟨y8,y9,z0,z1⟩:=O.f4; clear b6 hb j O))
    all_goals
     try simp only [List.getElem_toArray,List.getElem_cons_succ,List.getElem_cons_zero,Act.put,List.setIfInBounds_toArray,List.set_cons_succ,List.set_cons_zero]
     have O:=e7.o.below e7.o.lt A.o; have u:NoInt T Q.heap.size:=noInt_of O (by simp); have HK:=keepsC4 T Q.heap.size (.bool s7) (.slice p7 l7 c7) (.bool s8) (.slice p8 l8 c8); have w8:=(j6.o.below A.o).keeps u u HK; have w9:=B4.o.keeps u u HK; have x0:=j9.o.keeps u u HK; have m5:Up W1 ((((T.setCell ⟨Q.heap.size,0,none⟩ (.bool s7)).setCell ⟨Q.heap.size,1,none⟩ (.slice p7 l7 c7)).setCell ⟨Q.heap.size,2,none⟩ (.bool s8)).setCell ⟨Q.heap.size,3,none⟩ (.slice p8 l8 c8)):=(((((U.o.trans ((i9.o.trans (A.o.mono i9.o.size)).mono U.o.size)).setCell (p:=⟨Q.heap.size,0,none⟩) (by dsimp only; have:=d0.o.size; omega) (.bool s7)).setCell (p:=⟨Q.heap.size,1,none⟩) (by dsimp only; have:=d0.o.size; omega) (.slice p7 l7 c7)).setCell (p:=⟨Q.heap.size,2,none⟩) (by dsimp only; have:=d0.o.size; omega) (.bool s8)).setCell (p:=⟨Q.heap.size,3,none⟩) (by dsimp only; have:=d0.o.size; omega) (.slice p8 l8 c8)); have hZ:=O.s4 (.bool s7) (.slice p7 l7 c7) (.bool s8) (.slice p8 l8 c8); clear r0 r1 r2 r3 y8 y9 z0 z1 C7 C8 C9 D3 D4 HK u O; generalize (((T.setCell ⟨Q.heap.size,0,none⟩ (.bool s7)).setCell ⟨Q.heap.size,1,none⟩ (.slice p7 l7 c7)).setCell ⟨Q.heap.size,2,none⟩ (.bool s8)).setCell ⟨Q.heap.size,3,none⟩ (.slice p8 l8 c8)=W5 at *; have E5:=Hd m5; have I:Hid (Up W0 W5):=i8.o.trans (m5.mono i8.o.size); have A5:=Hd w8; have o9:=Hd w9; have q4:=Hd x0; have n7:=Hd hZ; have n6:=Hd (w5.o W5 m5); clear m5 w8 w9 x0
     by_cases f7:has=false∨simH ho c d (simN lo a b)
     ·have d2:Hid (admB has ho c d (f+1) 1=true):=by show _=true; rw [adm_hi,← Y.o]; exact f7
      have j7:=Hd f7; clear f7; have L:=(J.o W5 I.o).2.1; obtain ⟨j0,j1,j2,j3,j4,j5⟩:=L.k6; obtain ⟨m0,m1,m2,m3⟩:=hZ.k4; clear L
      go_wp2_with fail
      refine (admitsBelow_any _ _ has ho c d (f+1) 1 600 W5 ⟨_,_,_,_,_,_,_,_,rfl,((H3.o.below i.o).below I.o).mono leR (by decide),((H4.o.below i.o).below I.o).mono leR (by decide)⟩ (qr_mk o9.o q4.o) (by decide) ((K.o.below i.o).below I.o)).mono ?_; rintro e H ⟨rfl,E⟩; have s:Hid (Up W0 H):=I.o.trans (E.mono I.o.size); have q5:=Hd (o9.o.below E); have p0:=Hd (q4.o.below E); have Z:=(J.o H s.o).2.2; have q6:=n7.o.below n7.o.lt E; rw [d2.o]; clear E j0 j1 j2 j3 j4 j5 m0 m1 m2 m3 hZ; obtain ⟨m0,m1,m2,m3⟩:=q6.k4; obtain ⟨q0,q1,q2,q3⟩:=Z.k4; obtain ⟨E0,E1,E2,E3⟩:=Z.f4
      go_wp2
      have u:NoInt H (w.heap.size+1+1):=noInt_of Z (by simp); have HK:=keepsC4 H (w.heap.size+1+1) (.bool s7) (.slice p7 l7 c7) (.bool s8) (.slice p8 l8 c8); have g7:=q5.o.keeps u u HK; have g8:=p0.o.keeps u u HK; have g6:=bs4 (i.o.trans (s.o.mono i.o.size)) (w.heap.size+1+1) (by omega) (.bool s7) (.slice p7 l7 c7) (.bool s8) (.slice p8 l8 c8); have h6:=Z.s4 (.bool s7) (.slice p7 l7 c7) (.bool s8) (.slice p8 l8 c8); generalize (((H.setCell ⟨w.heap.size+1+1,0,none⟩ (.bool s7)).setCell ⟨w.heap.size+1+1,1,none⟩ (.slice p7 l7 c7)).setCell ⟨w.heap.size+1+1,2,none⟩ (.bool s8)).setCell ⟨w.heap.size+1+1,3,none⟩ (.slice p8 l8 c8)=W9 at *; obtain ⟨v0,v1,v2,v3⟩:=h6.k4; have m:Sim lo a b has ho c d (simN lo a b) 1:=Sim.found lo a b has ho c d (adm_hi.1 (by rw [Y.o]; exact d2.o)); have S:=m.bound HE.o; rw [Y.o] at m S; refine bodyPost_ret (v:=.agg #[.bool s7,.slice p7 l7 c7,.bool s8,.slice p8 l8 c8]) ?_ rfl ⟨_,(f+1),1,rfl,(qr_mk g7 g8).tight (sim_lt d1.o S.1 S.2.2.1) (lb_one 282 (by decide)),m,g6⟩; simp [results,Tryz.results49,go_sem,v0,v1,v2,v3]
     ·have d2:Hid (admB has ho c d (f+1) 1=false):=by
       show _=false
       rw [← Bool.not_eq_true,adm_hi,← Y.o]; exact f7
      have j7:=Hd f7; clear f7; obtain rfl:has=true:=by
       cases has with
       | false=>exact absurd (.inl rfl) j7.o
       | true=>rfl
      have r5:=ends_step HE.o (fun h=>j7.o (.inr h)); rw [← b5.o] at r5; have g0:=Hd r5; clear r5; have L:=(J.o W5 I.o).2.1; obtain ⟨j0,j1,j2,j3,j4,j5⟩:=L.k6; obtain ⟨m0,m1,m2,m3⟩:=hZ.k4; clear L
      go_wp2_with fail
      refine (admitsBelow_any _ _ true ho c d (f+1) 1 600 W5 ⟨_,_,_,_,_,_,_,_,rfl,((H3.o.below i.o).below I.o).mono leR (by decide),((H4.o.below i.o).below I.o).mono leR (by decide)⟩ (qr_mk o9.o q4.o) (by decide) ((K.o.below i.o).below I.o)).mono ?_; rintro e H ⟨rfl,E⟩; have s:Hid (Up W0 H):=I.o.trans (E.mono I.o.size); have o7:=Hd (A5.o.below E); have F:=Hd (n6.o.below n6.o.lt E); have F4:w1.heap.size<H.heap.size:=F.o.lt; rw [d2.o]; clear E j0 j1 j2 j3 j4 j5 m0 m1 m2 m3 hZ; have B9:Hid (∀ W,Up H W→Calls Tryz.prog 81 #[.agg #[.bool true,.bool ho,.bool s3,.slice p3 l3 c3,.bool s4,.slice p4 l4 c4],.agg #[.bool s5,.slice p5 l5 c5]] W (fun e w'=>∃ z',e=.returned z'∧IsE w' z' true ho d (c - f*d) 281∧Up W w')):=fun W hW=>by
       refine (inverseFrom_any _ _ true ho c d f 281 281 W ⟨_,_,_,_,_,_,_,_,rfl,((H3.o.below i.o).below s.o).below hW,((H4.o.below i.o).below s.o).below hW⟩ (o7.o.below hW) (by decide) (by decide) (((K.o.below i.o).below s.o).below hW)).mono ?_; rintro e w' ⟨z,rfl,hz,hb⟩; have e1:=g0.o.2.1; have e2:=g0.o.2.2.1; have e3:=d1.o.2.2.2; have hd:decide (c - f*d≠0)=true:=decide_eq_true (by omega); rw [hd] at hz; exact ⟨z,rfl,hz.tight e3 (by omega),hb⟩
      have C0:Hid (∀ W,Up H W→Calls Tryz.prog 81 #[.agg #[.bool true,.bool lo,.bool s1,.slice p1 l1 c1,.bool s2,.slice p2 l2 c2],.agg #[.bool s5,.slice p5 l5 c5]] W (fun e w'=>∃ z',e=.returned z'∧IsE w' z' (decide (a - f*b≠0)) lo b (a - f*b) 281∧Up W w')):=fun W hW=>by
       refine (inverseFrom_any _ _ true lo a b f 281 281 W ⟨_,_,_,_,_,_,_,_,rfl,((H1.o.below i.o).below s.o).below hW,((H2.o.below i.o).below s.o).below hW⟩ (o7.o.below hW) (by decide) (by decide) (((K.o.below i.o).below s.o).below hW)).mono ?_; rintro e w' ⟨z,rfl,hz,hb⟩; have e1:=div_parts a b f9.o; rw [← b5.o] at e1; have e3:=d1.o.2.1; exact ⟨z,rfl,hz.tight e3 (by omega),hb⟩
      have C1:Hid (∀ W za zb,Up H W→IsE W za true ho d (c - f*d) 281→IsE W zb (decide (a - f*b≠0)) lo b (a - f*b) 281→Calls Tryz.prog 49 #[za,zb] W (fun e w'=>∃ z p q,e=.returned z∧IsQR 0 w' z p q 282∧Sim ho d (c - f*d) (decide (a - f*b≠0)) lo b (a - f*b) p q∧Up W w')):=fun W za zb hW ha hb=>by
       have e1:=div_parts a b f9.o; rw [← b5.o] at e1; have e2:=g0.o.2.1; have e3:=g0.o.2.2.1; have e4:=d1.o; have e5:=HN.o; simp only [if_true] at e5; refine IH.o ho d (c - f*d) (decide (a - f*b≠0)) lo b (a - f*b) za zb W ?_ ha hb g0.o.2.2.2 ⟨e4.2.2.2,by omega,e4.2.1,by omega⟩ (((K.o.below i.o).below s.o).below hW)
       split<;>omega
      have O:=J.o H s.o; have x7:=O.1; have x8:=O.2.1; have h8:=F.o; obtain ⟨k0,k1,k2,k3,k4,k5⟩:=x7.k6; obtain ⟨j0,j1,j2,j3,j4,j5⟩:=x8.k6; obtain ⟨i0,i1⟩:=h8.k2; clear O x7 x8 h8
      go_upto_region 7 with fail
      go_cut [7] (fun q7 wx=>∃ (gb:Nat) (t1:Bool) (a1:Option Addr) (e1 g1:Nat) (t2:Bool) (a2:Option Addr) (e2 g2:Nat) (p q:Int),q7=.pointer (some ⟨gb,0,none⟩)∧H.heap.size≤gb∧Bx wx gb [.bool t1,.slice a1 e1 g1,.bool t2,.slice a2 e2 g2]∧IsQR 0 wx (.agg #[.bool t1,.slice a1 e1 g1,.bool t2,.slice a2 e2 g2]) p q 282∧Sim ho d (c - f*d) (decide (a - f*b≠0)) lo b (a - f*b) p q∧Up H wx)
      case first=>
       go_wp2_with fail
       go_region_held3 (fun W=>W.cell? ⟨w.heap.size,0,none⟩=some (.bool true)∧W.cell? ⟨w.heap.size,1,none⟩=some (.bool lo)∧W.cell? ⟨w.heap.size,2,none⟩=some (.bool s1)∧W.cell? ⟨w.heap.size,3,none⟩=some (.slice p1 l1 c1)∧W.cell? ⟨w.heap.size,4,none⟩=some (.bool s2)∧W.cell? ⟨w.heap.size,5,none⟩=some (.slice p2 l2 c2)∧W.cell? ⟨w.heap.size+1,0,none⟩=some (.bool true)∧W.cell? ⟨w.heap.size+1,1,none⟩=some (.bool ho)∧W.cell? ⟨w.heap.size+1,2,none⟩=some (.bool s3)∧W.cell? ⟨w.heap.size+1,3,none⟩=some (.slice p3 l3 c3)∧W.cell? ⟨w.heap.size+1,4,none⟩=some (.bool s4)∧W.cell? ⟨w.heap.size+1,5,none⟩=some (.slice p4 l4 c4)∧W.cell? ⟨w1.heap.size,0,none⟩=some (.bool s5)∧W.cell? ⟨w1.heap.size,1,none⟩=some (.slice p5 l5 c5)) (first
        | with_reducible assumption|with_reducible exact putS_14_4 (by with_reducible assumption) _ (by dsimp only; omega) _ _ _ _|go_keep) (first
        | (go_at_call_of 81 (Value.slice p3 l3 c3)
           refine (B9.o _ ?_).mono ?_
           ·repeat' (first|exact Below.refl _ _|refine Below.drew ?_|refine Below.alloc ?_ ?_ _|assumption|(simp; done)|(simp; omega))
           rintro e b3 ⟨u1,rfl,M,hb⟩; have e9:=Hd M; have D:Hid (Up H b3):=by
            unfold Hid
            refine Below.trans ?_ (hb.mono ?_)
            ·repeat' (first|exact Below.refl _ _|refine Below.drew ?_|refine Below.alloc ?_ ?_ _|assumption|(simp; done)|(simp; omega))
            ·simp
           have A8:=Hd (fun (gg:Nat) (l:List Value) (hx:Bx _ gg l)=>hx.below hx.lt hb); have y1:=D.o.size
           try (have hnb:Bx b3 H.heap.size [.bool false,.slice none 0 0,.bool false,.slice none 0 0]:=by with_reducible exact A8.o _ _ (bx_newD _ _ _))
           try have A9:=Hd hnb
           try clear hnb
           have j:=J.o b3 (s.o.trans (D.o.mono s.o.size)); have G:=F.o.below F.o.lt D.o; have D0:=cc6_6_2 j.1 j.2.1 G; clear j G; clear M hb)
        | (go_at_call_of 81 (Value.slice p1 l1 c1)
           refine (C0.o _ ?_).mono ?_
           ·repeat' (first|exact D.o|refine Below.drew ?_|refine Below.alloc ?_ ?_ _|assumption|(simp; done)|(simp; omega))
           rintro e b7 ⟨u2,rfl,M,hb⟩; have f5:=Hd M; have w0:Hid (IsE b7 u1 true ho d (c - f*d) 281):=by
            unfold Hid
            first|exact e9.o.below hb|exact (e9.o.below (below_alloc _ _)).below hb
           have V:Hid (Up H b7):=by
            unfold Hid
            refine Below.trans ?_ (hb.mono ?_)
            ·repeat' (first|exact D.o|refine Below.drew ?_|refine Below.alloc ?_ ?_ _|assumption|(simp; done)|(simp; omega))
            ·first|exact y1|(simp; omega)
           have v5:=Hd (fun (gg:Nat) (l:List Value) (hx:Bx _ gg l)=>hx.below hx.lt hb); have y2:=V.o.size
           try (have hnb:Bx b7 H.heap.size [.bool false,.slice none 0 0,.bool false,.slice none 0 0]:=by with_reducible exact v5.o _ _ A9.o)
           try (have hnb:Bx b7 b3.heap.size [.bool false,.slice none 0 0,.bool false,.slice none 0 0]:=by with_reducible exact v5.o _ _ (bx_new _ _ _))
           try have v6:=Hd hnb
           try clear hnb
           have j:=J.o b7 (s.o.trans (V.o.mono s.o.size)); have G:=F.o.below F.o.lt V.o; have D1:=cc6_6_2 j.1 j.2.1 G; clear j G; clear M hb)
        | (go_at_call 49
           refine (C1.o _ _ _ ?_ ?_ ?_).mono ?_
           ·repeat' (first|exact V.o|refine Below.drew ?_|refine Below.alloc ?_ ?_ _|assumption|(simp; done)|(simp; omega))
           ·first|exact w0.o|exact w0.o.below (below_alloc _ _)
           ·first|exact f5.o|exact f5.o.below (below_alloc _ _)
           rintro e T ⟨u3,p,q,rfl,M,m,hb⟩; have j9:=Hd M; have j8:=Hd m; have A:Hid (Up H T):=by
            unfold Hid
            refine Below.trans ?_ (hb.mono ?_)
            ·repeat' (first|exact V.o|refine Below.drew ?_|refine Below.alloc ?_ ?_ _|assumption|(simp; done)|(simp; omega))
            ·first|exact y2|(simp; omega)
           have o8:=Hd (fun (gg:Nat) (l:List Value) (hx:Bx _ gg l)=>hx.below hx.lt hb); have D9:=A.o.size
           try (have hnb:Bx T H.heap.size [.bool false,.slice none 0 0,.bool false,.slice none 0 0]:=by with_reducible exact o8.o _ _ v6.o)
           try (have hnb:Bx T b3.heap.size [.bool false,.slice none 0 0,.bool false,.slice none 0 0]:=by with_reducible exact o8.o _ _ v6.o)
           try (have hnb:Bx T b7.heap.size [.bool false,.slice none 0 0,.bool false,.slice none 0 0]:=by with_reducible exact o8.o _ _ (bx_new _ _ _))
           try (have n0:=hnb.cell 0; have n1:=hnb.cell 1; have n2:=hnb.cell 2; have n3:=hnb.cell 3; have G8:=hnb.frozen 0; have G9:=hnb.frozen 1; have H0:=hnb.frozen 2; have H5:=hnb.frozen 3; simp only [List.getElem?_cons_zero,List.getElem?_cons_succ] at n0 n1 n2 n3)
           try have B0:=Hd hnb
           try clear hnb
           obtain ⟨t1,a1,e1,g1,t2,a2,e2,g2,rfl,_,_⟩:=M.shape; have j:=J.o T (s.o.trans (A.o.mono s.o.size)); have G:=F.o.below F.o.lt A.o; have F0:=cc6_6_2 j.1 j.2.1 G; clear j G; clear M m hb))
       all_goals
        go_wp2_with fail
        go_meet
        first
         | (have hnb:=B0.o; exact ⟨_,t1,a1,e1,g1,t2,a2,e2,g2,p,q,rfl,(by first|exact leR|exact y1|exact y2),(((hnb.set 0 _).set 1 _).set 2 _).set 3 _,j9.o.keeps (noInt_of hnb (by simp)) (noInt_of hnb (by simp)) (keepsC4 T _ _ _ _ _),j8.o,(((A.o.setCell (by dsimp only; omega) _).setCell (by dsimp only; omega) _).setCell (by dsimp only; omega) _).setCell (by dsimp only; omega) _⟩)
         | exact ⟨T.heap.size,t1,a1,e1,g1,t2,a2,e2,g2,p,q,rfl,D9,bx_new T _ _,j9.o.below (below_alloc _ _),j8.o,A.o.alloc A.o.size _⟩
      case rest=>
       obtain ⟨gb,t1,a1,e1,g1,t2,a2,e2,g2,p,q,rfl,G3,q8,y0,m,d7⟩:=hcut; have k7:=Hd q8; have HP:=Hd (qr_parts y0); have j8:=Hd m; have d9:Hid (Up W0 wc):=s.o.trans (d7.mono s.o.size); have b4:=Hd (F.o.below F.o.lt d7); have A6:=Hd (o7.o.below d7); have F5:w.heap.size+2<gb:=by omega
       clear k0 k1 k2 k3 k4 k5 j0 j1 j2 j3 j4 j5 i0 i1 y0 m d7; have h8:=b4.o; obtain ⟨i0,i1⟩:=h8.k2; obtain ⟨m0,m1,m2,m3⟩:=q8.k4; clear h8 q8; have C2:Hid (∀ W,Up wc W→Calls Tryz.prog 76 #[.agg #[.bool s5,.slice p5 l5 c5],.agg #[.bool t1,.slice a1 e1 g1]] W (fun e w'=>∃ z,e=.returned z∧IsI 0 w' z (f*p) 563∧Up W w')):=fun W hW=>by
        refine (times_any 0 _ _ f p 281 282 W (A6.o.below hW) (HP.o.1.below hW) (by decide) (by decide) (((K.o.below i.o).below d9.o).below hW)).mono ?_; rintro e w' ⟨z,rfl,hz,hb⟩; exact ⟨z,rfl,hz.mono (Nat.zero_le _) leR,hb⟩
       have C3:Hid (∀ W zp,Up wc W→IsI 0 W zp (f*p) 563→Calls Tryz.prog 80 #[zp,.agg #[.bool t2,.slice a2 e2 g2]] W (fun e w'=>∃ z,e=.returned z∧IsI 0 w' z (f*p+q) 846∧Up W w')):=fun W zp hW hz=>by
        refine (plus_any 0 _ _ (f*p) q 563 282 W hz (HP.o.2.below hW) (by decide) (by decide) (((K.o.below i.o).below d9.o).below hW)).mono ?_; rintro e w' ⟨z,rfl,hz,hb⟩; exact ⟨z,rfl,hz.mono (Nat.zero_le _) leR,hb⟩
       go_wp2_with fail
       go_region_held3 (fun W=>W.cell? ⟨w1.heap.size,0,none⟩=some (.bool s5)∧W.cell? ⟨w1.heap.size,1,none⟩=some (.slice p5 l5 c5)∧W.cell? ⟨gb,0,none⟩=some (.bool t1)∧W.cell? ⟨gb,1,none⟩=some (.slice a1 e1 g1)∧W.cell? ⟨gb,2,none⟩=some (.bool t2)∧W.cell? ⟨gb,3,none⟩=some (.slice a2 e2 g2)) (first
        | with_reducible assumption|with_reducible exact putS_6_4 (by with_reducible assumption) (w.heap.size+1+1) (by dsimp only; omega) _ _ _ _|go_keep) (first
        | (go_at_call 76
           refine (C2.o _ ?_).mono ?_
           ·exact (Below.refl _ wc).drew
           rintro e b3 ⟨u1,rfl,M,hb⟩; have e9:=Hd M; have D:Hid (Up wc b3):=(Below.refl _ wc).drew.trans hb; have j:=b4.o.below b4.o.lt D.o; have G:=k7.o.below k7.o.lt D.o; have D2:=cc2_4 j G; clear j G; clear M hb)
        | (go_at_call 80
           refine (C3.o _ _ D.o e9.o).mono ?_; rintro e T ⟨u2,rfl,M,hb⟩; have f5:=Hd M; have A:Hid (Up wc T):=D.o.trans (hb.mono D.o.size); obtain ⟨s9,p9,l9,c9,rfl⟩:=M.shape; have j:=b4.o.below b4.o.lt A.o; have G:=k7.o.below k7.o.lt A.o; have F1:=cc2_4 j G; clear j G; have r6:=(J.o T (d9.o.trans (A.o.mono d9.o.size))).2.2; obtain ⟨r0,r1,r2,r3⟩:=r6.k4; obtain ⟨y8,y9,z0,z1⟩:=r6.f4; clear M hb r6))
       all_goals
        try simp only [List.getElem_toArray,List.getElem_cons_succ,List.getElem_cons_zero,Act.put,List.setIfInBounds_toArray,List.set_cons_succ,List.set_cons_zero]
        go_wp2
        have u5:=d9.o.trans (A.o.mono d9.o.size); have x5:=(J.o T u5).2.2; have u:NoInt T (w.heap.size+1+1):=noInt_of x5 (by simp); have HK:=keepsC4 T (w.heap.size+1+1) (.bool s9) (.slice p9 l9 c9) (.bool t1) (.slice a1 e1 g1); have g7:=f5.o.keeps u u HK; have g8:=(HP.o.1.below A.o).keeps u u HK; have g6:=bs4 (i.o.trans (u5.mono i.o.size)) (w.heap.size+1+1) (by omega) (.bool s9) (.slice p9 l9 c9) (.bool t1) (.slice a1 e1 g1); have h6:=x5.s4 (.bool s9) (.slice p9 l9 c9) (.bool t1) (.slice a1 e1 g1); generalize (((T.setCell ⟨w.heap.size+1+1,0,none⟩ (.bool s9)).setCell ⟨w.heap.size+1+1,1,none⟩ (.slice p9 l9 c9)).setCell ⟨w.heap.size+1+1,2,none⟩ (.bool t1)).setCell ⟨w.heap.size+1+1,3,none⟩ (.slice a1 e1 g1)=W9 at *; obtain ⟨v0,v1,v2,v3⟩:=h6.k4; have m:Sim lo a b true ho c d (f*p+q) p:=by
         have h9:=j8.o; rw [b5.o] at h9 ⊢; exact Sim.step lo a b ho c d p q (fun h=>j7.o (.inr h)) h9
        have S:=m.bound HE.o; refine bodyPost_ret (v:=.agg #[.bool s9,.slice p9 l9 c9,.bool t1,.slice a1 e1 g1]) ?_ rfl ⟨_,f*p+q,p,rfl,qr_mk (g7.tight (sim_lt d1.o S.1 S.2.2.1)) g8,m,g6⟩; simp [results,Tryz.results49,go_sem,v0,v1,v2,v3]
end Go.Proofs.YtnhbmpnhijgpmaaGreatDoor
