import Derived.Test.YtnhbmpnhijgpmaaGreatDoorU1p
import Derived.Test.YtnhbmpnhijgpmaaGreatDoorQXp
import Derived.Deep.DeepCutAuto
set_option maxRecDepth 100000
set_option maxHeartbeats 4000000
namespace Go.Proofs.YtnhbmpnhijgpmaaGreatDoor
open Go.ChangeShapes Go.WideShapes Go.ChangeAt Go.RowKit
theorem floor_any (B:Nat) (z:Value) (x y:Int) (n:Nat) (w:World) (hBw:B≤w.heap.size) (h:IsQR B w z x y n) (hn:n≤80000) (hy:y≠0) (hSP:SP w) :
 Calls Tryz.prog 79 #[z] w fun e w'=>∃ r q t,e=.returned r∧IsI B w' r q (n+2)∧IsDiv x y q t∧Up w w':=by
 obtain ⟨s1,p1,l1,c1,s2,p2,l2,c2,rfl,h1,h2⟩:=h.shape; have Y:=Hd hSP; have U:=Hd hBw; have H1:=Hd h1; have H2:=Hd h2; clear h hSP hBw h1 h2; obtain ⟨L,s⟩:=exW ((w.alloc (.cells #[.bool s1,.slice p1 l1 c1,.bool s2,.slice p2 l2 c2] 57)).alloc (.cells #[.bool false,.slice none 0 0] 55)); have Z:=Hd s; have j:Hid (Up w L):=by
  unfold Hid
  rw [← s]; exact below_al (below_alloc _ _) _
 have Q:Bx L w.heap.size [.bool s1,.slice p1 l1 c1,.bool s2,.slice p2 l2 c2]:=by rw [← s]; exact (bx_new w _ _).alloc _
 have I:Bx L (w.heap.size+1) [.bool false,.slice none 0 0]:=by
  rw [← s]; have h:=bx_new (w.alloc (.cells #[.bool s1,.slice p1 l1 c1,.bool s2,.slice p2 l2 c2] 57)) [.bool false,.slice none 0 0] 55; rw [World.size_alloc] at h; exact h
 have HX:Hid (∀ W,Up L W→Bx W (w.heap.size+1) [.bool false,.slice none 0 0]):=fun W hW=>I.below I.lt hW; clear s; obtain ⟨k0,k1,k2,k3⟩:=Q.k4; clear Q I
 go_enter Tryz.func79,Tryz.ntmps79
 go_upto_region 1 with fail
 rw [Z.o]
 go_wp2_with fail
 refine (dividedBy_any B _ _ x y n n _ (by have:=U.o; have:=j.o.size; omega) (H1.o.below j.o) (H2.o.below j.o) hy (by omega) (by omega) (Y.o.below j.o)).mono ?_; rintro e T ⟨z1,z2,q,r,rfl,J,S,O,M⟩; obtain ⟨F,E,D,c5,rfl⟩:=J.shape; obtain ⟨s6,p6,l6,c6,rfl⟩:=S.shape; have a5:=Hd J; have V:=Hd O; have K:=Hd M; obtain ⟨u,A⟩:=exW ((T.alloc (.cells #[.bool F,.slice E D c5] 55)).alloc (.cells #[.bool s6,.slice p6 l6 c6] 55)); have a3:=Hd A; have G:Up T u:=by rw [← A]; exact below_al (below_alloc _ _) _
 have H:Bx u T.heap.size [.bool F,.slice E D c5]:=by rw [← A]; exact (bx_new T _ _).alloc _
 have m:Hid (Up L u):=K.o.trans (G.mono K.o.size); have a6:Hid (IsI B u (.agg #[.bool F,.slice E D c5]) q (n+2)):=a5.o.below G; have q0:=H.cell 0; have q1:=H.cell 1; have i:=HX.o u m.o; have r0:=i.cell 0; have r1:=i.cell 1; simp only [List.getElem?_cons_zero,List.getElem?_cons_succ] at q0 q1 r0 r1; obtain ⟨f0,f1⟩:=i.f2; clear J S O M k0 k1 k2 k3 A G H i
 go_upto_region 2 with fail
 rw [a3.o]
 go_wp2
 have i:=HX.o u m.o; have a8:NoInt u (w.heap.size+1):=noInt_of i (by simp); have a7:=a6.o.put2 a8 (.bool F) (.slice E D c5); have hZ:Bx ((u.setCell ⟨w.heap.size+1,0,none⟩ (.bool F)).setCell ⟨w.heap.size+1,1,none⟩ (.slice E D c5)) (w.heap.size+1) [.bool F,.slice E D c5]:=(i.set 0 _).set 1 _; have hE:=set2 (j.o.trans (m.o.mono j.o.size)) (w.heap.size+1) (Nat.le_succ _) (.bool F) (.slice E D c5); generalize (u.setCell ⟨w.heap.size+1,0,none⟩ (.bool F)).setCell ⟨w.heap.size+1,1,none⟩ (.slice E D c5)=WE at *; obtain ⟨m0,m1⟩:=hZ.k2; refine bodyPost_ret (v:=.agg #[.bool F,.slice E D c5]) ?_ rfl ⟨_,q,r,rfl,a7,V.o,hE⟩; simp [results,Tryz.results79,go_sem,m0,m1]
def simN (lo:Bool) (a b:Int):Int:=if b=1∧lo=false then a else a / b+1
def simH (ho:Bool) (c d n:Int):Prop:=n*d<c∨n*d=c∧ho=false
abbrev SimT:=Bool→Int→Int→Bool→Bool→Int→Int→Int→Int→Prop
def SimX (S:SimT) (lo:Bool) (a b:Int) (has ho:Bool) (c d p q:Int):Prop:=(has=false∨simH ho c d (simN lo a b))∧p=simN lo a b∧q=1∨has=true∧¬ simH ho c d (simN lo a b)∧∃ r,S ho d (c - a / b*d) (decide (a - a / b*b≠0)) lo b (a - a / b*b) q r∧p=a / b*q+r
def SimFu:Nat→SimT
 | 0=>fun _ _ _ _ _ _ _ _ _=>False
 | n+1=>SimX (SimFu n)
def Sim (lo:Bool) (a b:Int) (has ho:Bool) (c d p q:Int):Prop:=∃ n,SimFu n lo a b has ho c d p q
theorem Sim.found (lo:Bool) (a b:Int) (has ho:Bool) (c d:Int) (h:has=false∨simH ho c d (simN lo a b)):Sim lo a b has ho c d (simN lo a b) 1:=⟨1,.inl ⟨h,rfl,rfl⟩⟩
theorem Sim.step (lo:Bool) (a b:Int) (ho:Bool) (c d p q:Int) (h:¬ simH ho c d (simN lo a b)) (hr:Sim ho d (c - a / b*d) (decide (a - a / b*b≠0)) lo b (a - a / b*b) p q):Sim lo a b true ho c d (a / b*p+q) p:=hr.elim fun n k=>⟨n+1,.inr ⟨rfl,h,q,k,rfl⟩⟩
theorem Sim.ind {M:∀ lo a b has ho c d p q,Sim lo a b has ho c d p q→Prop} (found:∀ lo a b has ho c d h,M lo a b has ho c d _ _ (Sim.found lo a b has ho c d h)) (step:∀ lo a b ho c d p q h hr,M _ _ _ _ _ _ _ _ _ hr→M lo a b true ho c d _ _ (Sim.step lo a b ho c d p q h hr)) {lo:Bool} {a b:Int} {has ho:Bool} {c d p q:Int} (h:Sim lo a b has ho c d p q):M lo a b has ho c d p q h:=by
 obtain ⟨n,h⟩:=h
 induction n generalizing lo a b has ho c d p q with
 | zero=>cases h
 | succ n ih=>
   rcases h with ⟨h,rfl,rfl⟩|⟨rfl,h,r,k,rfl⟩
   ·exact found _ _ _ _ _ _ _ h
   ·exact step _ _ _ _ _ _ _ _ h ⟨n,k⟩ (ih k)
theorem Sim.inv {lo:Bool} {a b:Int} {has ho:Bool} {c d p q:Int} (h:Sim lo a b has ho c d p q):SimX Sim lo a b has ho c d p q:=by
 obtain ⟨_|n,h⟩:=h
 ·cases h
 rcases h with h|⟨x,y,r,k,e⟩
 ·exact .inl h
 exact .inr ⟨x,y,r,⟨n,k⟩,e⟩
theorem Sim.unique {lo:Bool} {a b:Int} {has ho:Bool} {c d p q:Int} (h:Sim lo a b has ho c d p q):∀ p' q',Sim lo a b has ho c d p' q'→p=p'∧q=q':=by
 induction h using Sim.ind with
 | found lo a b has ho c d h=>
   intro p' q' j
   rcases j.inv with ⟨_,rfl,rfl⟩|⟨rfl,i,_⟩
   ·exact ⟨rfl,rfl⟩
   ·rcases h with h|h
    ·cases h
    ·exact absurd h i
 | step lo a b ho c d p q h hr ih=>
   intro p' q' j
   rcases j.inv with ⟨i,_⟩|⟨_,_,r,m,rfl⟩
   ·rcases i with i|i
    ·cases i
    ·exact absurd i h
   ·obtain ⟨rfl,rfl⟩:=ih _ _ m; exact ⟨rfl,rfl⟩
structure Ends (lo:Bool) (a b:Int) (has ho:Bool) (c d:Int):Prop where
 b0:0<b
 a0:0≤a
 g:Int.gcd a b=1
 pos:0<a∨lo=true
 hi:has=true→0<d∧Int.gcd c d=1∧(a*d<c*b∨a*d=c*b∧lo=false∧ho=false)
theorem div_parts (a b:Int) (hb:0<b):a / b*b+(a - a / b*b)=a∧0≤a - a / b*b∧a - a / b*b<b:=by
 have i:=Int.mul_ediv_add_emod a b; have j:=Int.emod_nonneg a (Int.ne_of_gt hb); have h3:=Int.emod_lt_of_pos a hb; rw [Int.mul_comm] at i; omega
theorem gcd_part (a b f:Int) (h:Int.gcd a b=1):Int.gcd b (a - f*b)=1:=by
 have i:(Int.gcd b (a - f*b):Int)∣b:=Int.gcd_dvd_left ..; have m:(Int.gcd b (a - f*b):Int)∣(a - f*b):=Int.gcd_dvd_right ..; have h3:(Int.gcd b (a - f*b):Int)∣a:=by
  have h4:=Int.dvd_add m (Int.dvd_mul_of_dvd_right i:_∣f*b)
  rwa [Int.sub_add_cancel] at h4
 have h5:=Int.dvd_coe_gcd h3 i; rw [h] at h5; have j:=Int.natAbs_dvd_natAbs.2 h5; rw [Int.natAbs_natCast] at j; exact Nat.dvd_one.1 j
theorem gcd_whole {a b f:Int} (h:Int.gcd a b=1) (hb:0<b) (e:a=f*b):b=1:=by
 have j:b∣a:=⟨f,by rw [e,Int.mul_comm]⟩; have i:=Int.dvd_coe_gcd j (Int.dvd_refl b); rw [h] at i; have h3:=Int.natAbs_dvd_natAbs.2 i; have h4:=Nat.le_of_dvd (by decide) h3; simp at h4; omega
theorem ends_low {lo:Bool} {a b c d:Int} {ho:Bool} (h:Ends lo a b true ho c d) (f r:Int) (hf:f*b+r=a):r*d<(c - f*d)*b∨r*d=(c - f*d)*b∧lo=false∧ho=false:=by
 obtain ⟨s,_,m⟩:=h.hi rfl; have t:a*d=f*b*d+r*d:=by rw [← hf,Int.add_mul]
 have u:(c - f*d)*b=c*b - f*b*d:=by rw [Int.sub_mul,Int.mul_right_comm]
 rcases m with i|⟨i,j⟩
 ·left; omega
 right; exact ⟨by omega,j⟩
theorem ends_step {lo:Bool} {a b c d:Int} {ho:Bool} (h:Ends lo a b true ho c d) (hn:¬ simH ho c d (simN lo a b)) :
 simN lo a b=a / b+1∧0<c - a / b*d∧c - a / b*d≤d∧Ends ho d (c - a / b*d) (decide (a - a / b*b≠0)) lo b (a - a / b*b):=by
 obtain ⟨D,L,I⟩:=h.hi rfl; have E:=h.b0; obtain ⟨A,r0,r1⟩:=div_parts a b E; have hl:=ends_low h _ _ A; obtain ⟨f,s⟩:=exW (a / b); obtain ⟨r,K⟩:=exW (a - a / b*b); rw [K] at A r0 r1 hl ⊢; have H:simN lo a b=a / b+1:=by
  unfold simN
  by_cases J:b=1∧lo=false
  ·exfalso
   obtain ⟨u,G⟩:=J; have F:simN lo a b=a:=by unfold simN; rw [if_pos ⟨u,G⟩]
   rw [F] at hn; refine hn ?_; unfold simH; subst u; rw [Int.mul_one] at I
   rcases I with i|⟨i,_,h3⟩
   ·exact .inl i
   exact .inr ⟨i,h3⟩
  rw [if_neg J]
 rw [H] at hn; rw [s] at A hl hn ⊢; rw [← s,H,s]; have M:c - f*d≤d:=by
  unfold simH at hn; have i:¬ (f+1)*d<c:=fun h2=>hn (.inl h2); have h2:(f+1)*d=f*d+d:=by rw [Int.add_mul,Int.one_mul]
  omega
 have T:0≤r*d:=Int.mul_nonneg r0 (Int.le_of_lt D); have m:0<c - f*d:=by
  rcases Int.lt_trichotomy 0 (c - f*d) with i|i|i
  ·exact i
  ·exfalso
   rw [← i,Int.zero_mul] at hl; have t:lo=false∧r*d=0:=by
    rcases hl with h2|⟨h2,h3,_⟩
    ·omega
    exact ⟨h3,h2⟩
   have S:r=0:=by
    rcases Int.mul_eq_zero.1 t.2 with h2|h2
    ·exact h2
    omega
   have j:=gcd_whole h.g E (show a=f*b by omega); have h2:simN lo a b=a:=by unfold simN; rw [if_pos ⟨j,t.1⟩]
   rw [h2,s] at H; rw [j,Int.mul_one] at A; omega
  exfalso
  have h2:(c - f*d)*b<0:=Int.mul_neg_of_neg_of_pos i E
  rcases hl with h3|⟨h3,_⟩<;>omega
 refine ⟨rfl,m,M,m,Int.le_of_lt D,?_,.inl D,?_⟩
 ·exact gcd_part c d f L
 intro O; have Q:r≠0:=of_decide_eq_true O; refine ⟨by omega,?_,?_⟩
 ·rw [← K,s]; exact gcd_part a b f h.g
 rw [Int.mul_comm d r,Int.mul_comm b (c - f*d)]
 rcases hl with i|⟨i,h2,h3⟩
 ·exact .inl i
 exact .inr ⟨i,h3,h2⟩
theorem Sim.bound {lo:Bool} {a b:Int} {has ho:Bool} {c d p q:Int} (h:Sim lo a b has ho c d p q):Ends lo a b has ho c d→0<p∧0<q∧p≤a+(if has then c else 1)∧q≤b+(if has then d else 0):=by
 induction h using Sim.ind with
 | found lo a b has ho c d h=>
   intro i; have s:=i.b0; have u:=i.a0; have F:0<simN lo a b∧simN lo a b≤a+1:=by
    unfold simN
    split
    ·rename_i h1
     rcases i.pos with j|j
     ·omega
     ·rw [h1.2] at j; cases j
    ·have h1:=Int.ediv_nonneg u (Int.le_of_lt s); have j:a / b≤a:=Int.ediv_le_self b u; omega
   cases has with
   | false=>simp; omega
   | true=>
     have E:=i.hi rfl
     rcases h with h|h
     ·cases h
     ·have O:0<c:=by
       have A:=E.1; have:0<simN lo a b*d:=Int.mul_pos F.1 A; unfold simH at h; omega
      simp; omega
 | step lo a b ho c d p q h hr ih=>
   intro i; obtain ⟨G,h1,j,h3⟩:=ends_step i h; obtain ⟨D,Q,H,I⟩:=ih h3; have A:=(i.hi rfl).1; have s:=i.b0; obtain ⟨K,r0,r1⟩:=div_parts a b s; have m:=Int.ediv_nonneg i.a0 (Int.le_of_lt s); clear ih hr h3 G h; generalize a / b=f at *; have t:p≤d+b:=by
    refine Int.le_trans H ?_
    split<;>omega
   have J:q≤c - f*d+(a - f*b):=by
    refine Int.le_trans I ?_
    split
    ·exact Int.le_refl _
    ·omega
   have h5:f*p≤f*(d+b):=Int.mul_le_mul_of_nonneg_left t m; have L:f*(d+b)=f*d+f*b:=Int.mul_add ..; have M:0≤f*p:=Int.mul_nonneg m (Int.le_of_lt D); simp; refine ⟨by omega,D,by omega,by omega⟩
theorem IsI.keeps {B:Nat} {w W:World} {z:Value} {x:Int} {n:Nat} {g h:Nat} (hi:IsI B w z x n) (n1:NoInt w g) (n2:NoInt w h) (k:Keeps g h w W):IsI B W z x n:=by
 obtain ⟨neg,v,t,e,i,r⟩:=hi; exact ⟨neg,v,t,e,i.keeps n1 n2 k,r⟩
def IsE (w:World) (z:Value) (hs op:Bool) (x y:Int) (n:Nat):Prop:=∃ s1 p1 l1 c1 s2 p2 l2 c2,z=.agg #[.bool hs,.bool op,.bool s1,.slice p1 l1 c1,.bool s2,.slice p2 l2 c2]∧IsI 0 w (.agg #[.bool s1,.slice p1 l1 c1]) x n∧IsI 0 w (.agg #[.bool s2,.slice p2 l2 c2]) y n
theorem IsE.below {w w':World} {z:Value} {hs op:Bool} {x y:Int} {n:Nat} (h:IsE w z hs op x y n) (hb:Up w w'):IsE w' z hs op x y n:=by
 obtain ⟨s1,t,m,c1,s2,u,s,c2,e,i,j⟩:=h; exact ⟨s1,t,m,c1,s2,u,s,c2,e,i.below hb,j.below hb⟩
theorem qr_mk {w:World} {s1 s2:Bool} {v1 v2:Value} {x y:Int} {n:Nat} (h1:IsI 0 w (.agg #[.bool s1,v1]) x n) (h2:IsI 0 w (.agg #[.bool s2,v2]) y n):IsQR 0 w (.agg #[.bool s1,v1,.bool s2,v2]) x y n:=⟨_,_,_,_,rfl,h1,h2⟩
def admB (hs op:Bool) (c d x y:Int):Bool:=!hs||(decide (ordI (x*d) (c*y)<0)||(decide (ordI (x*d) (c*y)=0)&&!op))
theorem ordI_three (x y:Int):ordI x y = -1∨ordI x y=0∨ordI x y=1:=by
 unfold ordI
 split
 ·exact .inl rfl
 split
 ·exact .inr (.inr rfl)
 exact .inr (.inl rfl)
theorem cell_farC6 {W:World} {a:Addr} {v:Value} (g:Nat) (h:W.cell? a=some v) (hg:g≠a.block) (u0 u1 u2 u3 u4 u5:Value):((((((W.setCell ⟨g,0,none⟩ (u0)).setCell ⟨g,1,none⟩ (u1)).setCell ⟨g,2,none⟩ (u2)).setCell ⟨g,3,none⟩ (u3)).setCell ⟨g,4,none⟩ (u4)).setCell ⟨g,5,none⟩ (u5)).cell? a=some v:=by
 rw [World.cell?_setCell_far _ _ _ _ hg,World.cell?_setCell_far _ _ _ _ hg,World.cell?_setCell_far _ _ _ _ hg,World.cell?_setCell_far _ _ _ _ hg,World.cell?_setCell_far _ _ _ _ hg,World.cell?_setCell_far _ _ _ _ hg]; exact h
theorem cell_farC4 {W:World} {a:Addr} {v:Value} (g:Nat) (h:W.cell? a=some v) (hg:g≠a.block) (u0 u1 u2 u3:Value):((((W.setCell ⟨g,0,none⟩ (u0)).setCell ⟨g,1,none⟩ (u1)).setCell ⟨g,2,none⟩ (u2)).setCell ⟨g,3,none⟩ (u3)).cell? a=some v:=by
 rw [World.cell?_setCell_far _ _ _ _ hg,World.cell?_setCell_far _ _ _ _ hg,World.cell?_setCell_far _ _ _ _ hg,World.cell?_setCell_far _ _ _ _ hg]; exact h
theorem cell_farC2 {W:World} {a:Addr} {v:Value} (g:Nat) (h:W.cell? a=some v) (hg:g≠a.block) (u0 u1:Value):((W.setCell ⟨g,0,none⟩ (u0)).setCell ⟨g,1,none⟩ (u1)).cell? a=some v:=by
 rw [World.cell?_setCell_far _ _ _ _ hg,World.cell?_setCell_far _ _ _ _ hg]; exact h
theorem keepsC2 (W:World) (g:Nat) (u0 u1:Value):Keeps g g W ((W.setCell ⟨g,0,none⟩ (u0)).setCell ⟨g,1,none⟩ (u1)):=
 Keeps.setCell (Keeps.setCell (Keeps.refl g g W) ⟨g,0,none⟩ u0 (Or.inl rfl)) ⟨g,1,none⟩ u1 (Or.inl rfl)
theorem keepsC4 (W:World) (g:Nat) (u0 u1 u2 u3:Value):Keeps g g W ((((W.setCell ⟨g,0,none⟩ (u0)).setCell ⟨g,1,none⟩ (u1)).setCell ⟨g,2,none⟩ (u2)).setCell ⟨g,3,none⟩ (u3)):=
 Keeps.setCell (Keeps.setCell (Keeps.setCell (Keeps.setCell (Keeps.refl g g W) ⟨g,0,none⟩ u0 (Or.inl rfl)) ⟨g,1,none⟩ u1 (Or.inl rfl)) ⟨g,2,none⟩ u2 (Or.inl rfl)) ⟨g,3,none⟩ u3 (Or.inl rfl)
theorem keepsC6 (W:World) (g:Nat) (u0 u1 u2 u3 u4 u5:Value):Keeps g g W ((((((W.setCell ⟨g,0,none⟩ (u0)).setCell ⟨g,1,none⟩ (u1)).setCell ⟨g,2,none⟩ (u2)).setCell ⟨g,3,none⟩ (u3)).setCell ⟨g,4,none⟩ (u4)).setCell ⟨g,5,none⟩ (u5)):=
 Keeps.setCell (Keeps.setCell (Keeps.setCell (Keeps.setCell (Keeps.setCell (Keeps.setCell (Keeps.refl g g W) ⟨g,0,none⟩ u0 (Or.inl rfl)) ⟨g,1,none⟩ u1 (Or.inl rfl)) ⟨g,2,none⟩ u2 (Or.inl rfl)) ⟨g,3,none⟩ u3 (Or.inl rfl)) ⟨g,4,none⟩ u4 (Or.inl rfl)) ⟨g,5,none⟩ u5 (Or.inl rfl)
theorem putS_4_4 {W:World} {a0 a1 a2 a3:Addr} {v0 v1 v2 v3:Value} (m:W.cell? a0=some v0∧W.cell? a1=some v1∧W.cell? a2=some v2∧W.cell? a3=some v3) (g:Nat) (h:g≠a0.block∧g≠a1.block∧g≠a2.block∧g≠a3.block) (u0 u1 u2 u3:Value):((((W.setCell ⟨g,0,none⟩ (u0)).setCell ⟨g,1,none⟩ (u1)).setCell ⟨g,2,none⟩ (u2)).setCell ⟨g,3,none⟩ (u3)).cell? a0=some v0∧((((W.setCell ⟨g,0,none⟩ (u0)).setCell ⟨g,1,none⟩ (u1)).setCell ⟨g,2,none⟩ (u2)).setCell ⟨g,3,none⟩ (u3)).cell? a1=some v1∧((((W.setCell ⟨g,0,none⟩ (u0)).setCell ⟨g,1,none⟩ (u1)).setCell ⟨g,2,none⟩ (u2)).setCell ⟨g,3,none⟩ (u3)).cell? a2=some v2∧((((W.setCell ⟨g,0,none⟩ (u0)).setCell ⟨g,1,none⟩ (u1)).setCell ⟨g,2,none⟩ (u2)).setCell ⟨g,3,none⟩ (u3)).cell? a3=some v3:=
 ⟨cell_farC4 g m.1 h.1 _ _ _ _,cell_farC4 g m.2.1 h.2.1 _ _ _ _,cell_farC4 g m.2.2.1 h.2.2.1 _ _ _ _,cell_farC4 g m.2.2.2 h.2.2.2 _ _ _ _⟩
theorem putS_6_6 {W:World} {a0 a1 a2 a3 a4 a5:Addr} {v0 v1 v2 v3 v4 v5:Value} (m:W.cell? a0=some v0∧W.cell? a1=some v1∧W.cell? a2=some v2∧W.cell? a3=some v3∧W.cell? a4=some v4∧W.cell? a5=some v5) (g:Nat) (h:g≠a0.block∧g≠a1.block∧g≠a2.block∧g≠a3.block∧g≠a4.block∧g≠a5.block) (u0 u1 u2 u3 u4 u5:Value):((((((W.setCell ⟨g,0,none⟩ (u0)).setCell ⟨g,1,none⟩ (u1)).setCell ⟨g,2,none⟩ (u2)).setCell ⟨g,3,none⟩ (u3)).setCell ⟨g,4,none⟩ (u4)).setCell ⟨g,5,none⟩ (u5)).cell? a0=some v0∧((((((W.setCell ⟨g,0,none⟩ (u0)).setCell ⟨g,1,none⟩ (u1)).setCell ⟨g,2,none⟩ (u2)).setCell ⟨g,3,none⟩ (u3)).setCell ⟨g,4,none⟩ (u4)).setCell ⟨g,5,none⟩ (u5)).cell? a1=some v1∧((((((W.setCell ⟨g,0,none⟩ (u0)).setCell ⟨g,1,none⟩ (u1)).setCell ⟨g,2,none⟩ (u2)).setCell ⟨g,3,none⟩ (u3)).setCell ⟨g,4,none⟩ (u4)).setCell ⟨g,5,none⟩ (u5)).cell? a2=some v2∧((((((W.setCell ⟨g,0,none⟩ (u0)).setCell ⟨g,1,none⟩ (u1)).setCell ⟨g,2,none⟩ (u2)).setCell ⟨g,3,none⟩ (u3)).setCell ⟨g,4,none⟩ (u4)).setCell ⟨g,5,none⟩ (u5)).cell? a3=some v3∧((((((W.setCell ⟨g,0,none⟩ (u0)).setCell ⟨g,1,none⟩ (u1)).setCell ⟨g,2,none⟩ (u2)).setCell ⟨g,3,none⟩ (u3)).setCell ⟨g,4,none⟩ (u4)).setCell ⟨g,5,none⟩ (u5)).cell? a4=some v4∧((((((W.setCell ⟨g,0,none⟩ (u0)).setCell ⟨g,1,none⟩ (u1)).setCell ⟨g,2,none⟩ (u2)).setCell ⟨g,3,none⟩ (u3)).setCell ⟨g,4,none⟩ (u4)).setCell ⟨g,5,none⟩ (u5)).cell? a5=some v5:=
 ⟨cell_farC6 g m.1 h.1 _ _ _ _ _ _,cell_farC6 g m.2.1 h.2.1 _ _ _ _ _ _,cell_farC6 g m.2.2.1 h.2.2.1 _ _ _ _ _ _,cell_farC6 g m.2.2.2.1 h.2.2.2.1 _ _ _ _ _ _,cell_farC6 g m.2.2.2.2.1 h.2.2.2.2.1 _ _ _ _ _ _,cell_farC6 g m.2.2.2.2.2 h.2.2.2.2.2 _ _ _ _ _ _⟩
theorem negQ_any (z:Value) (x y:Int) (n:Nat) (w:World) (h:IsQR 0 w z x y n) :
 Calls Tryz.prog 52 #[z] w fun e w'=>∃ z',e=.returned z'∧IsQR 0 w' z' (-x) y n∧Up w w':=by
 obtain ⟨s1,K,J,c1,s2,t,s,c2,rfl,V,Y⟩:=h.shape; have H1:=Hd V; have H2:=Hd Y; clear h V Y; obtain ⟨u,m⟩:=exW ((w.alloc (.cells #[.bool s1,.slice K J c1,.bool s2,.slice t s c2] 57)).alloc (.cells #[.bool false,.slice none 0 0,.bool false,.slice none 0 0] 57)); have O:=Hd m; have A:Hid (Up w u):=by unfold Hid; rw [← m]; exact below_al (below_alloc _ _) _
 have a6:Hid (u.heap.size=w.heap.size+2):=by show u.heap.size=_; rw [← m]; simp
 have i:Bx u (w.heap.size) [.bool s1,.slice K J c1,.bool s2,.slice t s c2]:=by
  rw [← m]; exact (bx_new w _ _).alloc _
 have j:Bx u (w.heap.size+1) [.bool false,.slice none 0 0,.bool false,.slice none 0 0]:=by
  rw [← m]; have h:=bx_new (w.alloc (.cells #[.bool s1,.slice K J c1,.bool s2,.slice t s c2] 57)) [.bool false,.slice none 0 0,.bool false,.slice none 0 0] 57; rw [World.size_alloc] at h; exact h
 have L:Hid (∀ W,Up u W→Bx W (w.heap.size) [.bool s1,.slice K J c1,.bool s2,.slice t s c2]∧Bx W (w.heap.size+1) [.bool false,.slice none 0 0,.bool false,.slice none 0 0]):=fun W hW=>⟨i.below i.lt hW,j.below j.lt hW⟩; have T1:Hid (∀ W,Up u W→Calls Tryz.prog 82 #[.agg #[.bool s1,.slice K J c1]] W (fun e w'=>∃ z,e=.returned z∧IsI 0 w' z (-x) n∧Up W w')):=fun W hW=>negated_any 0 _ x n W ((H1.o.below A.o).below hW); obtain ⟨k0,k1,k2,k3⟩:=i.k4; clear m i j
 go_enter Tryz.func52,Tryz.ntmps52
 go_upto_region 1 with fail
 rw [O.o]
 go_wp2_with fail
 go_region_held3 (fun W=>W.cell? ⟨w.heap.size,0,none⟩=some (.bool s1)∧W.cell? ⟨w.heap.size,1,none⟩=some (.slice K J c1)∧W.cell? ⟨w.heap.size,2,none⟩=some (.bool s2)∧W.cell? ⟨w.heap.size,3,none⟩=some (.slice t s c2)) (first
  | with_reducible assumption|with_reducible exact putS_4_4 (by with_reducible assumption) (w.heap.size+1) (by dsimp only; omega) _ _ _ _|go_keep) (first
  | (go_at_call 82
     refine (T1.o _ ?_).mono ?_
     ·exact (Below.refl _ u).drew
     rintro e G ⟨u1,rfl,U,Z⟩; have HU:=Hd U; have D:Hid (Up u G):=(Below.refl _ u).drew.trans Z; obtain ⟨t1,a1,H,I,rfl⟩:=U.shape; have F:=L.o G D.o; have a9:=cc4 F.1; obtain ⟨r0,r1,r2,r3⟩:=F.2.k4; obtain ⟨b4,b5,b6,b7⟩:=F.2.f4; clear U Z F))
 all_goals
  try simp only [List.getElem_toArray,List.getElem_cons_succ,List.getElem_cons_zero,Act.put,List.setIfInBounds_toArray,List.set_cons_succ,List.set_cons_zero]
  go_wp2
  have M:=(L.o G D.o).2; have E:NoInt G (w.heap.size+1):=noInt_of M (by simp); have S:=HU.o.keeps E E (keepsC4 G (w.heap.size+1) (.bool t1) (.slice a1 H I) (.bool s2) (.slice t s c2)); have T:=((H2.o.below A.o).below D.o).keeps E E (keepsC4 G (w.heap.size+1) (.bool t1) (.slice a1 H I) (.bool s2) (.slice t s c2)); have Q:=bs4 (A.o.trans (D.o.mono A.o.size)) (w.heap.size+1) (by omega) (.bool t1) (.slice a1 H I) (.bool s2) (.slice t s c2); have hZ:=M.s4 (.bool t1) (.slice a1 H I) (.bool s2) (.slice t s c2); generalize (((G.setCell ⟨w.heap.size+1,0,none⟩ (.bool t1)).setCell ⟨w.heap.size+1,1,none⟩ (.slice a1 H I)).setCell ⟨w.heap.size+1,2,none⟩ (.bool s2)).setCell ⟨w.heap.size+1,3,none⟩ (.slice t s c2)=W9 at *; obtain ⟨v0,v1,v2,v3⟩:=hZ.k4; refine bodyPost_ret (v:=.agg #[.bool t1,.slice a1 H I,.bool s2,.slice t s c2]) ?_ rfl ⟨_,rfl,qr_mk S T,Q⟩; simp [results,Tryz.results52,go_sem,v0,v1,v2,v3]
theorem mirrored_any (z:Value) (hs op:Bool) (x y:Int) (n:Nat) (w:World) (h:IsE w z hs op x y n) :
 Calls Tryz.prog 51 #[z] w fun e w'=>∃ z',e=.returned z'∧IsE w' z' hs op (-x) y n∧Up w w':=by
 obtain ⟨s1,L,J,c1,s2,M,K,c2,rfl,h1,h2⟩:=h; have H1:=Hd h1; have H2:=Hd h2; clear h1 h2; obtain ⟨s,m⟩:=exW ((w.alloc (.cells #[.bool hs,.bool op,.bool s1,.slice L J c1,.bool s2,.slice M K c2] 59)).alloc (.cells #[.bool false,.bool false,.bool false,.slice none 0 0,.bool false,.slice none 0 0] 59)); have Y:=Hd m; have t:Hid (Up w s):=by unfold Hid; rw [← m]; exact below_al (below_alloc _ _) _
 have b5:Hid (s.heap.size=w.heap.size+2):=by show s.heap.size=_; rw [← m]; simp
 have i:Bx s (w.heap.size) [.bool hs,.bool op,.bool s1,.slice L J c1,.bool s2,.slice M K c2]:=by
  rw [← m]; exact (bx_new w _ _).alloc _
 have j:Bx s (w.heap.size+1) [.bool false,.bool false,.bool false,.slice none 0 0,.bool false,.slice none 0 0]:=by
  rw [← m]; have h:=bx_new (w.alloc (.cells #[.bool hs,.bool op,.bool s1,.slice L J c1,.bool s2,.slice M K c2] 59)) [.bool false,.bool false,.bool false,.slice none 0 0,.bool false,.slice none 0 0] 59; rw [World.size_alloc] at h; exact h
 have O:Hid (∀ W,Up s W→Bx W (w.heap.size) [.bool hs,.bool op,.bool s1,.slice L J c1,.bool s2,.slice M K c2]∧Bx W (w.heap.size+1) [.bool false,.bool false,.bool false,.slice none 0 0,.bool false,.slice none 0 0]):=fun W hW=>⟨i.below i.lt hW,j.below j.lt hW⟩; have T1:Hid (∀ W,Up s W→Calls Tryz.prog 52 #[.agg #[.bool s1,.slice L J c1,.bool s2,.slice M K c2]] W (fun e w'=>∃ z',e=.returned z'∧IsQR 0 w' z' (-x) y n∧Up W w')):=fun W hW=>negQ_any _ x y n W (qr_mk ((H1.o.below t.o).below hW) ((H2.o.below t.o).below hW)); obtain ⟨k0,k1,k2,k3,k4,k5⟩:=i.k6; clear m i j
 go_enter Tryz.func51,Tryz.ntmps51
 go_upto_region 1 with fail
 rw [Y.o]
 go_wp2_with fail
 go_region_held3 (fun W=>W.cell? ⟨w.heap.size,0,none⟩=some (.bool hs)∧W.cell? ⟨w.heap.size,1,none⟩=some (.bool op)∧W.cell? ⟨w.heap.size,2,none⟩=some (.bool s1)∧W.cell? ⟨w.heap.size,3,none⟩=some (.slice L J c1)∧W.cell? ⟨w.heap.size,4,none⟩=some (.bool s2)∧W.cell? ⟨w.heap.size,5,none⟩=some (.slice M K c2)) (first
  | with_reducible assumption|with_reducible exact putS_6_6 (by with_reducible assumption) (w.heap.size+1) (by dsimp only; omega) _ _ _ _ _ _|go_keep) (first
  | (go_at_call 52
     refine (T1.o _ ?_).mono ?_
     ·exact (Below.refl _ s).drew
     rintro e E ⟨u1,rfl,hu,hb⟩; have D:Hid (Up s E):=(Below.refl _ s).drew.trans hb; obtain ⟨t1,a1,F,H,t2,a2,G,I,rfl,S,T⟩:=hu.shape; have U:=Hd S; have V:=Hd T; have A:=O.o E D.o; have b7:=cc6 A.1; obtain ⟨r0,r1,r2,r3,r4,r5⟩:=A.2.k6; obtain ⟨b9,c6,c7,c8,c9,d0⟩:=A.2.f6; clear hu S T hb A))
 all_goals
  try simp only [List.getElem_toArray,List.getElem_cons_succ,List.getElem_cons_zero,Act.put,List.setIfInBounds_toArray,List.set_cons_succ,List.set_cons_zero]
  go_wp2
  have Q:=(O.o E D.o).2; have u:NoInt E (w.heap.size+1):=noInt_of Q (by simp); have a3:=U.o.keeps u u (keepsC6 E (w.heap.size+1) (.bool hs) (.bool op) (.bool t1) (.slice a1 F H) (.bool t2) (.slice a2 G I)); have a5:=V.o.keeps u u (keepsC6 E (w.heap.size+1) (.bool hs) (.bool op) (.bool t1) (.slice a1 F H) (.bool t2) (.slice a2 G I)); have Z:=bs6 (t.o.trans (D.o.mono t.o.size)) (w.heap.size+1) (by omega) (.bool hs) (.bool op) (.bool t1) (.slice a1 F H) (.bool t2) (.slice a2 G I); have hZ:=Q.s6 (.bool hs) (.bool op) (.bool t1) (.slice a1 F H) (.bool t2) (.slice a2 G I); generalize (((((E.setCell ⟨w.heap.size+1,0,none⟩ (.bool hs)).setCell ⟨w.heap.size+1,1,none⟩ (.bool op)).setCell ⟨w.heap.size+1,2,none⟩ (.bool t1)).setCell ⟨w.heap.size+1,3,none⟩ (.slice a1 F H)).setCell ⟨w.heap.size+1,4,none⟩ (.bool t2)).setCell ⟨w.heap.size+1,5,none⟩ (.slice a2 G I)=W9 at *; obtain ⟨v0,v1,v2,v3,v4,v5⟩:=hZ.k6; refine bodyPost_ret (v:=.agg #[.bool hs,.bool op,.bool t1,.slice a1 F H,.bool t2,.slice a2 G I]) ?_ rfl ⟨_,rfl,⟨_,_,_,_,_,_,_,_,rfl,a3,a5⟩,Z⟩; simp [results,Tryz.results51,go_sem,v0,v1,v2,v3,v4,v5]
theorem admitsBelow_any (z zx:Value) (hs op:Bool) (c d x y:Int) (n:Nat) (w:World) (h:IsE w z hs op c d n) (hq:IsQR 0 w zx x y n) (hn:n≤10000) (hSP:SP w) :
 Calls Tryz.prog 50 #[z,zx] w fun e w'=>e=.returned (.bool (admB hs op c d x y))∧Up w w':=by
 obtain ⟨s1,K,G,c1,s2,L,H,c2,rfl,U,V⟩:=h; obtain ⟨s3,M,I,c3,s4,O,J,c4,rfl,h3,h4⟩:=hq.shape; have Z:=Hd U; have H2:=Hd V; have H3:=Hd h3; have H4:=Hd h4; have Q:=Hd hSP; clear U V h3 h4 hq hSP; obtain ⟨D,s⟩:=exW ((w.alloc (.cells #[.bool hs,.bool op,.bool s1,.slice K G c1,.bool s2,.slice L H c2] 59)).alloc (.cells #[.bool s3,.slice M I c3,.bool s4,.slice O J c4] 57)); have E:=Hd s; have m:Hid (Up w D):=by unfold Hid; rw [← s]; exact below_al (below_alloc _ _) _
 have a7:Hid (D.heap.size=w.heap.size+2):=by show D.heap.size=_; rw [← s]; simp
 have i:Bx D (w.heap.size) [.bool hs,.bool op,.bool s1,.slice K G c1,.bool s2,.slice L H c2]:=by
  rw [← s]; exact (bx_new w _ _).alloc _
 have j:Bx D (w.heap.size+1) [.bool s3,.slice M I c3,.bool s4,.slice O J c4]:=by
  rw [← s]; have h:=bx_new (w.alloc (.cells #[.bool hs,.bool op,.bool s1,.slice K G c1,.bool s2,.slice L H c2] 59)) [.bool s3,.slice M I c3,.bool s4,.slice O J c4] 57; rw [World.size_alloc] at h; exact h
 have S:Hid (∀ W,Up D W→Bx W (w.heap.size) [.bool hs,.bool op,.bool s1,.slice K G c1,.bool s2,.slice L H c2]∧Bx W (w.heap.size+1) [.bool s3,.slice M I c3,.bool s4,.slice O J c4]):=fun W hW=>⟨i.below i.lt hW,j.below j.lt hW⟩; obtain ⟨k0,k1,k2,k3,k4,k5⟩:=i.k6; obtain ⟨j0,j1,j2,j3⟩:=j.k4; clear s i j; cases hs
 ·go_enter Tryz.func50,Tryz.ntmps50
  go_upto_region 1 with fail
  rw [E.o]
  go_wp2
  go_ret
  exact ⟨rfl,m.o⟩
 go_enter Tryz.func50,Tryz.ntmps50
 go_upto_region 1 with fail
 rw [E.o]
 go_wp2_with fail
 refine (compareQ_any 0 _ _ x y c d n _ (Nat.zero_le _) (qr_mk (H3.o.below m.o) (H4.o.below m.o)) (qr_mk (Z.o.below m.o) (H2.o.below m.o)) hn (Q.o.below m.o)).mono ?_; rintro e Y ⟨rfl,A⟩; have t:Hid (Up w Y):=m.o.trans (A.mono m.o.size); have F:=(S.o Y A).1; have m1:=F.cell 1; simp only [List.getElem?_cons_zero,List.getElem?_cons_succ] at m1; have T:Hid (∀ r,ordI (x*d) (c*y)=r→admB true op c d x y=(decide (r<0)||(decide (r=0)&&!op))):=fun r hr=>by unfold admB; rw [hr]; rfl
 have h3:=ordI_three (x*d) (c*y); clear A F; obtain ⟨r,hr⟩:=exW (ordI (x*d) (c*y)); have u:=Hd (T.o r hr); rw [hr] at h3 ⊢; clear hr T
 rcases h3 with rfl|rfl|rfl
 ·go_wp2
  go_ret
  exact ⟨ret_bool (by rw [u.o]; rfl),t.o⟩
 ·cases op
  ·go_wp2
   go_ret
   exact ⟨ret_bool (by rw [u.o]; rfl),t.o⟩
  go_wp2
  go_ret
  exact ⟨ret_bool (by rw [u.o]; rfl),t.o⟩
 go_wp2
 go_ret
 exact ⟨ret_bool (by rw [u.o]; rfl),t.o⟩
theorem admitsAbove_any (z zx:Value) (hs op:Bool) (c d x y:Int) (n:Nat) (w:World) (h:IsE w z hs op c d n) (hq:IsQR 0 w zx x y n) (hn:n≤10000) (hSP:SP w) :
 Calls Tryz.prog 48 #[z,zx] w fun e w'=>e=.returned (.bool (admB hs op (-c) d (-x) y))∧Up w w':=by
 obtain ⟨s1,K,G,c1,s2,L,H,c2,rfl,h1,h2⟩:=h; obtain ⟨s3,M,I,c3,s4,O,J,c4,rfl,h3,h4⟩:=hq.shape; have H1:=Hd h1; have H2:=Hd h2; have H3:=Hd h3; have H4:=Hd h4; have V:=Hd hSP; clear h1 h2 h3 h4 hq hSP; obtain ⟨t,u⟩:=exW ((w.alloc (.cells #[.bool hs,.bool op,.bool s1,.slice K G c1,.bool s2,.slice L H c2] 59)).alloc (.cells #[.bool s3,.slice M I c3,.bool s4,.slice O J c4] 57)); have a5:=Hd u; have s:Hid (Up w t):=by unfold Hid; rw [← u]; exact below_al (below_alloc _ _) _
 have b6:Hid (t.heap.size=w.heap.size+2):=by show t.heap.size=_; rw [← u]; simp
 have j:Bx t (w.heap.size) [.bool hs,.bool op,.bool s1,.slice K G c1,.bool s2,.slice L H c2]:=by
  rw [← u]; exact (bx_new w _ _).alloc _
 have m:Bx t (w.heap.size+1) [.bool s3,.slice M I c3,.bool s4,.slice O J c4]:=by
  rw [← u]; have h:=bx_new (w.alloc (.cells #[.bool hs,.bool op,.bool s1,.slice K G c1,.bool s2,.slice L H c2] 59)) [.bool s3,.slice M I c3,.bool s4,.slice O J c4] 57; rw [World.size_alloc] at h; exact h
 have F:Hid (∀ W,Up t W→Bx W (w.heap.size) [.bool hs,.bool op,.bool s1,.slice K G c1,.bool s2,.slice L H c2]∧Bx W (w.heap.size+1) [.bool s3,.slice M I c3,.bool s4,.slice O J c4]):=fun W hW=>⟨j.below j.lt hW,m.below m.lt hW⟩; obtain ⟨k0,k1,k2,k3,k4,k5⟩:=j.k6; obtain ⟨j0,j1,j2,j3⟩:=m.k4; clear u j m; have T1:Hid (∀ W,Up t W→Calls Tryz.prog 51 #[.agg #[.bool hs,.bool op,.bool s1,.slice K G c1,.bool s2,.slice L H c2]] W (fun e w'=>∃ z',e=.returned z'∧IsE w' z' hs op (-c) d n∧Up W w')):=fun W hW=>mirrored_any _ hs op c d n W ⟨_,_,_,_,_,_,_,_,rfl,(H1.o.below s.o).below hW,(H2.o.below s.o).below hW⟩; have T2:Hid (∀ W,Up t W→Calls Tryz.prog 52 #[.agg #[.bool s3,.slice M I c3,.bool s4,.slice O J c4]] W (fun e w'=>∃ z',e=.returned z'∧IsQR 0 w' z' (-x) y n∧Up W w')):=fun W hW=>negQ_any _ x y n W (qr_mk ((H3.o.below s.o).below hW) ((H4.o.below s.o).below hW))
 go_enter Tryz.func48,Tryz.ntmps48
 go_upto_region 1 with fail
 rw [a5.o]
 go_wp2_with fail
 go_region_held3 (fun W=>W.cell? ⟨w.heap.size,0,none⟩=some (.bool hs)∧W.cell? ⟨w.heap.size,1,none⟩=some (.bool op)∧W.cell? ⟨w.heap.size,2,none⟩=some (.bool s1)∧W.cell? ⟨w.heap.size,3,none⟩=some (.slice K G c1)∧W.cell? ⟨w.heap.size,4,none⟩=some (.bool s2)∧W.cell? ⟨w.heap.size,5,none⟩=some (.slice L H c2)∧W.cell? ⟨w.heap.size+1,0,none⟩=some (.bool s3)∧W.cell? ⟨w.heap.size+1,1,none⟩=some (.slice M I c3)∧W.cell? ⟨w.heap.size+1,2,none⟩=some (.bool s4)∧W.cell? ⟨w.heap.size+1,3,none⟩=some (.slice O J c4)) (first
  | with_reducible assumption|go_keep) (first
  | (go_at_call 51
     refine (T1.o _ ?_).mono ?_
     ·exact (Below.refl _ t).drew
     rintro e T ⟨u1,rfl,S,E⟩; have Y:=Hd S; have A:Hid (Up t T):=(Below.refl _ t).drew.trans E; have i:=F.o T A.o; have b9:=cc6_4 i.1 i.2; clear S E i)
  | (go_at_call 52
     refine (T2.o _ ?_).mono ?_
     ·exact A.o
     rintro e U ⟨u2,rfl,S,E⟩; have Z:=Hd S; have a3:=Hd (Y.o.below E); have D:Hid (Up t U):=A.o.trans (E.mono A.o.size); have i:=F.o U D.o; have c6:=cc6_4 i.1 i.2; clear S E i)
  | (go_at_call 50
     refine (admitsBelow_any _ _ hs op (-c) d (-x) y n _ a3.o Z.o hn ((V.o.below s.o).below D.o)).mono ?_; rintro e wm ⟨rfl,E⟩; have Q:Hid (Up t wm):=D.o.trans (E.mono D.o.size); have i:=F.o wm Q.o; have c7:=cc6_4 i.1 i.2; clear E i))
 all_goals
  try simp only [List.getElem_toArray,List.getElem_cons_succ,List.getElem_cons_zero,Act.put,List.setIfInBounds_toArray,List.set_cons_succ,List.set_cons_zero]
  go_wp2
  go_ret
  exact ⟨rfl,s.o.trans (Q.o.mono s.o.size)⟩
theorem bx_newD (W:World) (l:List Value) (ty:TypeId):Bx (W.alloc (.cells l.toArray ty)).drew W.heap.size l:=(bx_new W l ty).drew
theorem zero_len {B:Nat} {w:World} {s:Bool} {p:Option Addr} {l c:Nat} {x:Int} {n:Nat} (h:IsI B w (.agg #[.bool s,.slice p l c]) x n):((l:Int)==0)=decide (x=0):=by
 obtain ⟨neg,v,t,e,u,A,D,_⟩:=h; obtain ⟨a,cap,m,_⟩:=u; have j:Value.slice p l c=v:=by
  have:=congrArg (fun z=>match z with|.agg c=>c[1]? | _=>none) e
  simpa using this
 rw [m] at j; obtain ⟨rfl,rfl,rfl⟩:p=a∧l=t.length∧c=cap:=by simpa using j
 rw [← D]; have:=sg_zero_iff neg t A
 by_cases i:t=[]
 ·rw [decide_eq_true (this.2 i),i]; rfl
 rw [decide_eq_false (fun e=>i (this.1 e))]; have:t.length≠0:=fun e=>i (List.eq_nil_of_length_eq_zero e); rw [beq_eq_false_iff_ne]; omega
theorem putS_8_2 {W:World} {a0 a1 a2 a3 a4 a5 a6 a7:Addr} {v0 v1 v2 v3 v4 v5 v6 v7:Value} (m:W.cell? a0=some v0∧W.cell? a1=some v1∧W.cell? a2=some v2∧W.cell? a3=some v3∧W.cell? a4=some v4∧W.cell? a5=some v5∧W.cell? a6=some v6∧W.cell? a7=some v7) (g:Nat) (h:g≠a0.block∧g≠a1.block∧g≠a2.block∧g≠a3.block∧g≠a4.block∧g≠a5.block∧g≠a6.block∧g≠a7.block) (u0 u1:Value):((W.setCell ⟨g,0,none⟩ (u0)).setCell ⟨g,1,none⟩ (u1)).cell? a0=some v0∧((W.setCell ⟨g,0,none⟩ (u0)).setCell ⟨g,1,none⟩ (u1)).cell? a1=some v1∧((W.setCell ⟨g,0,none⟩ (u0)).setCell ⟨g,1,none⟩ (u1)).cell? a2=some v2∧((W.setCell ⟨g,0,none⟩ (u0)).setCell ⟨g,1,none⟩ (u1)).cell? a3=some v3∧((W.setCell ⟨g,0,none⟩ (u0)).setCell ⟨g,1,none⟩ (u1)).cell? a4=some v4∧((W.setCell ⟨g,0,none⟩ (u0)).setCell ⟨g,1,none⟩ (u1)).cell? a5=some v5∧((W.setCell ⟨g,0,none⟩ (u0)).setCell ⟨g,1,none⟩ (u1)).cell? a6=some v6∧((W.setCell ⟨g,0,none⟩ (u0)).setCell ⟨g,1,none⟩ (u1)).cell? a7=some v7:=
 ⟨cell_farC2 g m.1 h.1 _ _,cell_farC2 g m.2.1 h.2.1 _ _,cell_farC2 g m.2.2.1 h.2.2.1 _ _,cell_farC2 g m.2.2.2.1 h.2.2.2.1 _ _,cell_farC2 g m.2.2.2.2.1 h.2.2.2.2.1 _ _,cell_farC2 g m.2.2.2.2.2.1 h.2.2.2.2.2.1 _ _,cell_farC2 g m.2.2.2.2.2.2.1 h.2.2.2.2.2.2.1 _ _,cell_farC2 g m.2.2.2.2.2.2.2 h.2.2.2.2.2.2.2 _ _⟩
theorem putS_8_6 {W:World} {a0 a1 a2 a3 a4 a5 a6 a7:Addr} {v0 v1 v2 v3 v4 v5 v6 v7:Value} (m:W.cell? a0=some v0∧W.cell? a1=some v1∧W.cell? a2=some v2∧W.cell? a3=some v3∧W.cell? a4=some v4∧W.cell? a5=some v5∧W.cell? a6=some v6∧W.cell? a7=some v7) (g:Nat) (h:g≠a0.block∧g≠a1.block∧g≠a2.block∧g≠a3.block∧g≠a4.block∧g≠a5.block∧g≠a6.block∧g≠a7.block) (u0 u1 u2 u3 u4 u5:Value):((((((W.setCell ⟨g,0,none⟩ (u0)).setCell ⟨g,1,none⟩ (u1)).setCell ⟨g,2,none⟩ (u2)).setCell ⟨g,3,none⟩ (u3)).setCell ⟨g,4,none⟩ (u4)).setCell ⟨g,5,none⟩ (u5)).cell? a0=some v0∧((((((W.setCell ⟨g,0,none⟩ (u0)).setCell ⟨g,1,none⟩ (u1)).setCell ⟨g,2,none⟩ (u2)).setCell ⟨g,3,none⟩ (u3)).setCell ⟨g,4,none⟩ (u4)).setCell ⟨g,5,none⟩ (u5)).cell? a1=some v1∧((((((W.setCell ⟨g,0,none⟩ (u0)).setCell ⟨g,1,none⟩ (u1)).setCell ⟨g,2,none⟩ (u2)).setCell ⟨g,3,none⟩ (u3)).setCell ⟨g,4,none⟩ (u4)).setCell ⟨g,5,none⟩ (u5)).cell? a2=some v2∧((((((W.setCell ⟨g,0,none⟩ (u0)).setCell ⟨g,1,none⟩ (u1)).setCell ⟨g,2,none⟩ (u2)).setCell ⟨g,3,none⟩ (u3)).setCell ⟨g,4,none⟩ (u4)).setCell ⟨g,5,none⟩ (u5)).cell? a3=some v3∧((((((W.setCell ⟨g,0,none⟩ (u0)).setCell ⟨g,1,none⟩ (u1)).setCell ⟨g,2,none⟩ (u2)).setCell ⟨g,3,none⟩ (u3)).setCell ⟨g,4,none⟩ (u4)).setCell ⟨g,5,none⟩ (u5)).cell? a4=some v4∧((((((W.setCell ⟨g,0,none⟩ (u0)).setCell ⟨g,1,none⟩ (u1)).setCell ⟨g,2,none⟩ (u2)).setCell ⟨g,3,none⟩ (u3)).setCell ⟨g,4,none⟩ (u4)).setCell ⟨g,5,none⟩ (u5)).cell? a5=some v5∧((((((W.setCell ⟨g,0,none⟩ (u0)).setCell ⟨g,1,none⟩ (u1)).setCell ⟨g,2,none⟩ (u2)).setCell ⟨g,3,none⟩ (u3)).setCell ⟨g,4,none⟩ (u4)).setCell ⟨g,5,none⟩ (u5)).cell? a6=some v6∧((((((W.setCell ⟨g,0,none⟩ (u0)).setCell ⟨g,1,none⟩ (u1)).setCell ⟨g,2,none⟩ (u2)).setCell ⟨g,3,none⟩ (u3)).setCell ⟨g,4,none⟩ (u4)).setCell ⟨g,5,none⟩ (u5)).cell? a7=some v7:=
 ⟨cell_farC6 g m.1 h.1 _ _ _ _ _ _,cell_farC6 g m.2.1 h.2.1 _ _ _ _ _ _,cell_farC6 g m.2.2.1 h.2.2.1 _ _ _ _ _ _,cell_farC6 g m.2.2.2.1 h.2.2.2.1 _ _ _ _ _ _,cell_farC6 g m.2.2.2.2.1 h.2.2.2.2.1 _ _ _ _ _ _,cell_farC6 g m.2.2.2.2.2.1 h.2.2.2.2.2.1 _ _ _ _ _ _,cell_farC6 g m.2.2.2.2.2.2.1 h.2.2.2.2.2.2.1 _ _ _ _ _ _,cell_farC6 g m.2.2.2.2.2.2.2 h.2.2.2.2.2.2.2 _ _ _ _ _ _⟩
theorem inverseFrom_any (z zf:Value) (hs op:Bool) (x y f:Int) (n m:Nat) (w:World) (h:IsE w z hs op x y n) (hf:IsI 0 w zf f m) (hn:n≤10000) (hm:m≤10000) (hSP:SP w) :
 Calls Tryz.prog 81 #[z,zf] w fun e w'=>∃ z',e=.returned z'∧IsE w' z' (decide (x - f*y≠0)) op y (x - f*y) (n+(m+n)+1)∧Up w w':=by
 obtain ⟨s1,T,S,c1,s2,H,G,c2,rfl,h1,h2⟩:=h; obtain ⟨s5,p5,l5,c5,rfl⟩:=hf.shape; have H1:=Hd h1; have H2:=Hd h2; have HF:=Hd hf; have b4:=Hd hSP; clear h1 h2 hf hSP; obtain ⟨A,D⟩:=exW (((w.alloc (.cells #[.bool hs,.bool op,.bool s1,.slice T S c1,.bool s2,.slice H G c2] 59)).alloc (.cells #[.bool s5,.slice p5 l5 c5] 55)).alloc (.cells #[.bool false,.bool false,.bool false,.slice none 0 0,.bool false,.slice none 0 0] 59)); have d4:=Hd D; have u:Hid (Up w A):=by unfold Hid; rw [← D]; exact below_al (below_al (below_alloc _ _) _) _
 have d3:Hid (A.heap.size=w.heap.size+3):=by show A.heap.size=_; rw [← D]; simp
 have s:Bx A (w.heap.size) [.bool hs,.bool op,.bool s1,.slice T S c1,.bool s2,.slice H G c2]:=by
  rw [← D]; exact ((bx_new w _ _).alloc _).alloc _
 have t:Bx A (w.heap.size+1) [.bool s5,.slice p5 l5 c5]:=by
  rw [← D]; have h:=bx_new (w.alloc (.cells #[.bool hs,.bool op,.bool s1,.slice T S c1,.bool s2,.slice H G c2] 59)) [.bool s5,.slice p5 l5 c5] 55; rw [World.size_alloc] at h; exact (h).alloc _
 have E:Bx A (w.heap.size+1+1) [.bool false,.bool false,.bool false,.slice none 0 0,.bool false,.slice none 0 0]:=by
  rw [← D]; have h:=bx_new ((w.alloc (.cells #[.bool hs,.bool op,.bool s1,.slice T S c1,.bool s2,.slice H G c2] 59)).alloc (.cells #[.bool s5,.slice p5 l5 c5] 55)) [.bool false,.bool false,.bool false,.slice none 0 0,.bool false,.slice none 0 0] 59; rw [World.size_alloc,World.size_alloc] at h; exact h
 have I:Hid (∀ W,Up A W→Bx W (w.heap.size) [.bool hs,.bool op,.bool s1,.slice T S c1,.bool s2,.slice H G c2]∧Bx W (w.heap.size+1) [.bool s5,.slice p5 l5 c5]∧Bx W (w.heap.size+1+1) [.bool false,.bool false,.bool false,.slice none 0 0,.bool false,.slice none 0 0]):=fun W hW=>⟨s.below s.lt hW,t.below t.lt hW,E.below E.lt hW⟩; have T1:Hid (∀ W,Up A W→Calls Tryz.prog 76 #[.agg #[.bool s5,.slice p5 l5 c5],.agg #[.bool s2,.slice H G c2]] W (fun e w'=>∃ z,e=.returned z∧IsI 0 w' z (f*y) (m+n)∧Up W w')):=fun W hW=>by
  refine (times_any 0 _ _ f y m n W ((HF.o.below u.o).below hW) ((H2.o.below u.o).below hW) (by omega) (by omega) ((b4.o.below u.o).below hW)).mono ?_; rintro e w' ⟨z,rfl,hz,J⟩; exact ⟨z,rfl,hz.mono (Nat.zero_le _) leR,J⟩
 have T2:Hid (∀ W zp,Up A W→IsI 0 W zp (f*y) (m+n)→Calls Tryz.prog 105 #[.agg #[.bool s1,.slice T S c1],zp] W (fun e w'=>∃ z,e=.returned z∧IsI 0 w' z (x - f*y) (n+(m+n)+1)∧Up W w')):=fun W zp hW hz=>by
  refine (minus_any 0 _ _ x (f*y) n (m+n) W ((H1.o.below u.o).below hW) hz (by omega) (by omega) ((b4.o.below u.o).below hW)).mono ?_; rintro e w' ⟨z,rfl,hz,J⟩; exact ⟨z,rfl,hz.mono (Nat.zero_le _) leR,J⟩
 obtain ⟨k0,k1,k2,k3,k4,k5⟩:=s.k6; obtain ⟨j0,j1⟩:=t.k2; have g7:w.heap.size+2<A.heap.size:=by have:=d3.o; omega
 clear D s t E
 go_enter Tryz.func81,Tryz.ntmps81
 go_upto_region 1 with fail
 rw [d4.o]
 go_cut [5] (fun q5 wx=>∃ (gb:Nat) (t1:Bool) (a1:Option Addr) (e1 g1:Nat),q5=.pointer (some ⟨gb,0,none⟩)∧A.heap.size≤gb∧Bx wx gb [.bool t1,.slice a1 e1 g1]∧IsI 0 wx (.agg #[.bool t1,.slice a1 e1 g1]) (x - f*y) (n+(m+n)+1)∧Up A wx)
 case first=>
  go_wp2_with fail
  go_region_held3 (fun W=>W.cell? ⟨w.heap.size,0,none⟩=some (.bool hs)∧W.cell? ⟨w.heap.size,1,none⟩=some (.bool op)∧W.cell? ⟨w.heap.size,2,none⟩=some (.bool s1)∧W.cell? ⟨w.heap.size,3,none⟩=some (.slice T S c1)∧W.cell? ⟨w.heap.size,4,none⟩=some (.bool s2)∧W.cell? ⟨w.heap.size,5,none⟩=some (.slice H G c2)∧W.cell? ⟨w.heap.size+1,0,none⟩=some (.bool s5)∧W.cell? ⟨w.heap.size+1,1,none⟩=some (.slice p5 l5 c5)) (first
   | with_reducible assumption|with_reducible exact putS_8_2 (by with_reducible assumption) _ (by dsimp only; omega) _ _|go_keep) (first
   | (go_at_call 76
      refine (T1.o _ ?_).mono ?_
      ·repeat' (first|exact Below.refl _ _|refine Below.drew ?_|refine Below.alloc ?_ ?_ _|assumption|(simp; done)|(simp; omega))
      rintro e Q ⟨u1,rfl,hu,J⟩; have b5:=Hd hu; have M:Hid (Up A Q):=by
       unfold Hid
       refine Below.trans ?_ (J.mono ?_)
       ·repeat' (first|exact Below.refl _ _|refine Below.drew ?_|refine Below.alloc ?_ ?_ _|assumption|(simp; done)|(simp; omega))
       ·simp
      have c9:=Hd (fun (gg:Nat) (l:List Value) (hx:Bx _ gg l)=>hx.below hx.lt J); have c6:=M.o.size
      try (have hnb:Bx Q A.heap.size [.bool false,.slice none 0 0]:=by with_reducible exact c9.o _ _ (bx_newD _ _ _))
      try have d1:=Hd hnb
      try clear hnb
      have i:=I.o Q M.o; have d8:=cc6_2 i.1 i.2.1; clear hu J i)
   | (go_at_call 105
      refine (T2.o _ _ ?_ ?_).mono ?_
      ·repeat' (first|exact M.o|refine Below.drew ?_|refine Below.alloc ?_ ?_ _|assumption|(simp; done)|(simp; omega))
      ·first|exact b5.o|exact b5.o.below (below_alloc _ _)
      rintro e F ⟨u2,rfl,hu,J⟩; have b6:=Hd hu; have j:Hid (Up A F):=by
       unfold Hid
       refine Below.trans ?_ (J.mono ?_)
       ·repeat' (first|exact M.o|refine Below.drew ?_|refine Below.alloc ?_ ?_ _|assumption|(simp; done)|(simp; omega))
       ·first|exact c6|(simp; omega)
      have b3:=Hd (fun (gg:Nat) (l:List Value) (hx:Bx _ gg l)=>hx.below hx.lt J); have d9:=j.o.size
      try (have hnb:Bx F A.heap.size [.bool false,.slice none 0 0]:=by with_reducible exact b3.o _ _ d1.o)
      try (have hnb:Bx F Q.heap.size [.bool false,.slice none 0 0]:=by with_reducible exact b3.o _ _ (bx_new _ _ _))
      try (have n0:=hnb.cell 0; have n1:=hnb.cell 1; have h6:=hnb.frozen 0; have h7:=hnb.frozen 1; simp only [List.getElem?_cons_zero,List.getElem?_cons_succ] at n0 n1)
      try have d2:=Hd hnb
      try clear hnb
      obtain ⟨t1,a1,e1,g1,rfl⟩:=hu.shape; have i:=I.o F j.o; have g3:=cc6_2 i.1 i.2.1; clear hu J i))
  all_goals
   go_wp2_with fail
   go_meet
   first
    | exact ⟨F.heap.size,t1,a1,e1,g1,rfl,d9,bx_new F _ _,b6.o.below (below_alloc _ _),j.o.alloc j.o.size _⟩
    | (have hnb:=d2.o; exact ⟨_,t1,a1,e1,g1,rfl,(by first|exact c6|exact leR),(hnb.set 0 _).set 1 _,b6.o.keeps (noInt_of hnb (by simp)) (noInt_of hnb (by simp)) (keepsC2 F _ _ _),(j.o.setCell (by dsimp only; omega) _).setCell (by dsimp only; omega) _⟩)
 case rest=>
  obtain ⟨gb,t1,a1,e1,g1,rfl,g6,Y,hi,K⟩:=hcut; have a9:=Hd Y; have HI:=Hd hi; have L:=Hd K; obtain ⟨V,Z⟩:=exW ((e1:Int)==0); have c8:=Hd Z; have d0:Hid ((!V)=decide (x - f*y≠0)):=by
   show (!V)=_
   rw [← Z,zero_len hi]
   by_cases h0:x - f*y=0
   ·rw [decide_eq_true h0,decide_eq_false (fun h=>h h0)]; rfl
   ·rw [decide_eq_false h0,decide_eq_true h0]; rfl
  have i:=(I.o wc K).1; clear k0 k1 k2 k3 k4 k5 j0 j1; obtain ⟨k0,k1,k2,k3,k4,k5⟩:=i.k6; obtain ⟨n0,n1⟩:=Y.k2; clear Z hi K Y i
  go_wp2_with fail
  go_region_held3 (fun W=>W.cell? ⟨w.heap.size,0,none⟩=some (.bool hs)∧W.cell? ⟨w.heap.size,1,none⟩=some (.bool op)∧W.cell? ⟨w.heap.size,2,none⟩=some (.bool s1)∧W.cell? ⟨w.heap.size,3,none⟩=some (.slice T S c1)∧W.cell? ⟨w.heap.size,4,none⟩=some (.bool s2)∧W.cell? ⟨w.heap.size,5,none⟩=some (.slice H G c2)∧W.cell? ⟨gb,0,none⟩=some (.bool t1)∧W.cell? ⟨gb,1,none⟩=some (.slice a1 e1 g1)) (first
   | with_reducible assumption|with_reducible exact putS_8_6 (by with_reducible assumption) (w.heap.size+1+1) (by dsimp only; omega) _ _ _ _ _ _|go_keep) (first
   | (go_at_call 74
      refine (isZero_any _ _ _ _ _).mono ?_; rintro e F ⟨rfl,b8⟩; rw [c8.o]; have j:Hid (Up wc F):=by
       unfold Hid
       rw [b8]
       repeat' (first|exact Below.refl _ _|refine Below.drew ?_|refine Below.alloc ?_ ?_ _|(simp; done))
      have i:=I.o F (L.o.trans (j.o.mono L.o.size)); have b9:=a9.o.below a9.o.lt j.o; have d8:=cc6_2 i.1 b9; have a3:=i.2.2; obtain ⟨r0,r1,r2,r3,r4,r5⟩:=a3.k6; obtain ⟨h8,h9,i0,i1,i2,i3⟩:=a3.f6; clear b8 i b9 a3))
  all_goals
   try simp only [List.getElem_toArray,List.getElem_cons_succ,List.getElem_cons_zero,Act.put,List.setIfInBounds_toArray,List.set_cons_succ,List.set_cons_zero]
   go_wp2
   have U:=L.o.trans (j.o.mono L.o.size); have b7:=(I.o F U).2.2; have O:NoInt F (w.heap.size+1+1):=noInt_of b7 (by simp); have HK:=keepsC6 F (w.heap.size+1+1) (.bool (!V)) (.bool op) (.bool s2) (.slice H G c2) (.bool t1) (.slice a1 e1 g1); have d6:=((H2.o.below u.o).below U).keeps O O HK; have d7:=(HI.o.below j.o).keeps O O HK; have d5:=bs6 (u.o.trans (U.mono u.o.size)) (w.heap.size+1+1) (by omega) (.bool (!V)) (.bool op) (.bool s2) (.slice H G c2) (.bool t1) (.slice a1 e1 g1); have hZ:=b7.s6 (.bool (!V)) (.bool op) (.bool s2) (.slice H G c2) (.bool t1) (.slice a1 e1 g1); generalize (((((F.setCell ⟨w.heap.size+1+1,0,none⟩ (.bool (!V))).setCell ⟨w.heap.size+1+1,1,none⟩ (.bool op)).setCell ⟨w.heap.size+1+1,2,none⟩ (.bool s2)).setCell ⟨w.heap.size+1+1,3,none⟩ (.slice H G c2)).setCell ⟨w.heap.size+1+1,4,none⟩ (.bool t1)).setCell ⟨w.heap.size+1+1,5,none⟩ (.slice a1 e1 g1)=W9 at *; obtain ⟨v0,v1,v2,v3,v4,v5⟩:=hZ.k6; refine bodyPost_ret (v:=.agg #[.bool (!V),.bool op,.bool s2,.slice H G c2,.bool t1,.slice a1 e1 g1]) ?_ rfl ⟨_,rfl,⟨_,_,_,_,_,_,_,_,by rw [d0.o],d6.mono leR (by omega),d7⟩,d5⟩; simp [results,Tryz.results81,go_sem,v0,v1,v2,v3,v4,v5]
end Go.Proofs.YtnhbmpnhijgpmaaGreatDoor
