import Derived.Test.YtnhbmpnhijgpmaaGreatDoorSimDp
import Derived.Test.YtnhbmpnhijgpmaaGreatDoorU1p
import Derived.Test.YtnhbmpnhijgpmaaGreatDoorQXp
set_option maxRecDepth 100000
set_option maxHeartbeats 4000000
namespace Go.Proofs.YtnhbmpnhijgpmaaGreatDoor
open Go.ChangeShapes Go.WideShapes Go.ChangeAt Go.RowKit
theorem ratV_gcd' {c:ByteArray} {k:Option Nat} {x y:Int} (h:RatV c k x y):Int.gcd x y=1:=by
 cases k with
 | none=>rw [h.2.2]; simp
 | some i=>rw [h.2.2.1,h.2.2.2]; exact h.2.1.2.2.2.2
theorem isI_nil (w:World) (n:Nat):IsI 0 w (.agg #[.bool false,.slice none 0 0]) 0 n:=
 ⟨false,_,[],rfl,⟨none,0,rfl,leR,Nat.zero_le _,(by intro x i; cases i),.inl rfl⟩,trimL_trim [],rfl,Nat.zero_le _⟩
def RdE (h:Bool) (t:ByteArray) (k:Option Nat) (x y:Int):Prop:=if h=true then RatV t k x y else x=0∧y=0
def NoneB (h1 o1:Bool) (x1 y1:Int) (h2 o2:Bool) (x2 y2:Int):Bool:=h1&&h2&&(decide (x2*y1<x1*y2)||(decide (x1*y2=x2*y1)&&(o1||o2)))
def lowOut (h1 o1:Bool) (x1:Int):Bool:=h1&&(decide (0<x1)||(decide (x1=0)&&o1))
def highOut (h2 o2:Bool) (x2:Int):Bool:=h2&&(decide (x2<0)||(decide (x2=0)&&o2))
def Best (h1 o1:Bool) (x1 y1:Int) (h2 o2:Bool) (x2 y2 p q:Int):Prop:=
 if lowOut h1 o1 x1=true then Sim o1 x1 y1 h2 o2 x2 y2 p q
 else if highOut h2 o2 x2=true then ∃ p',p = -p'∧Sim o2 (-x2) y2 h1 o1 (-x1) y1 p' q
 else p=0∧q=1
theorem Sim.none {lo:Bool} {a b:Int} {ho:Bool} {c d p q:Int} (h:Sim lo a b false ho c d p q):p=simN lo a b∧q=1:=by
 rcases h.inv with ⟨_,rfl,rfl⟩|⟨h,_⟩
 ·exact ⟨rfl,rfl⟩
 cases h
theorem Best.unique {h1 o1:Bool} {x1 y1:Int} {h2 o2:Bool} {x2 y2 p q x1' y1' x2' y2' p' q':Int} (h:Best h1 o1 x1 y1 h2 o2 x2 y2 p q) (h':Best h1 o1 x1' y1' h2 o2 x2' y2' p' q') (e1:h1=true→x1=x1'∧y1=y1') (e2:h2=true→x2=x2'∧y2=y2'):p=p'∧q=q':=by
 unfold Best at h h'; have s:lowOut h1 o1 x1'=lowOut h1 o1 x1:=by
  cases h1 with
  | false=>rfl
  | true=>rw [(e1 rfl).1]
 have m:highOut h2 o2 x2'=highOut h2 o2 x2:=by
  cases h2 with
  | false=>rfl
  | true=>rw [(e2 rfl).1]
 rw [s,m] at h'
 by_cases hl:lowOut h1 o1 x1=true
 ·rw [if_pos hl] at h h'; have i:h1=true:=by cases h1 with
   | false=>cases hl
   | true=>rfl
  obtain ⟨rfl,rfl⟩:=e1 i
  cases h2 with
  | false=>
    have a1:=h.none; have a2:=h'.none; exact ⟨a1.1.trans a2.1.symm,a1.2.trans a2.2.symm⟩
  | true=>
    obtain ⟨rfl,rfl⟩:=e2 rfl; exact h.unique _ _ h'
 rw [if_neg hl] at h h'
 by_cases i:highOut h2 o2 x2=true
 ·rw [if_pos i] at h h'; have j:h2=true:=by cases h2 with
   | false=>cases i
   | true=>rfl
  obtain ⟨rfl,rfl⟩:=e2 j; obtain ⟨a,rfl,h⟩:=h; obtain ⟨t,rfl,h'⟩:=h'
  cases h1 with
  | false=>
    have a1:=h.none; have a2:=h'.none; exact ⟨by rw [a1.1,a2.1],a1.2.trans a2.2.symm⟩
  | true=>
    obtain ⟨rfl,rfl⟩:=e1 rfl; obtain ⟨rfl,rfl⟩:=h.unique _ _ h'; exact ⟨rfl,rfl⟩
 rw [if_neg i] at h h'; exact ⟨h.1.trans h'.1.symm,h.2.trans h'.2.symm⟩
theorem Sim.irrel {lo:Bool} {a b:Int} {ho:Bool} {c d p q:Int} (h:Sim lo a b false ho c d p q) (c' d':Int):Sim lo a b false ho c' d' p q:=by
 rcases h.inv with ⟨_,rfl,rfl⟩|⟨h,_⟩
 ·exact Sim.found _ _ _ _ _ _ _ (.inl rfl)
 cases h
theorem Best.irrel {h1 o1:Bool} {x1 y1:Int} {h2 o2:Bool} {x2 y2 p q:Int} (h:Best h1 o1 x1 y1 h2 o2 x2 y2 p q) (x1' y1' x2' y2':Int) (e1:h1=true→x1=x1'∧y1=y1') (e2:h2=true→x2=x2'∧y2=y2'):Best h1 o1 x1' y1' h2 o2 x2' y2' p q:=by
 unfold Best at h ⊢; have s:lowOut h1 o1 x1'=lowOut h1 o1 x1:=by
  cases h1 with
  | false=>rfl
  | true=>rw [(e1 rfl).1]
 have m:highOut h2 o2 x2'=highOut h2 o2 x2:=by
  cases h2 with
  | false=>rfl
  | true=>rw [(e2 rfl).1]
 rw [s,m]
 by_cases hl:lowOut h1 o1 x1=true
 ·rw [if_pos hl] at h ⊢; have i:h1=true:=by cases h1 with
   | false=>cases hl
   | true=>rfl
  obtain ⟨rfl,rfl⟩:=e1 i
  cases h2 with
  | false=>exact h.irrel _ _
  | true=>
    obtain ⟨rfl,rfl⟩:=e2 rfl; exact h
 rw [if_neg hl] at h ⊢
 by_cases i:highOut h2 o2 x2=true
 ·rw [if_pos i] at h ⊢; have j:h2=true:=by cases h2 with
   | false=>cases i
   | true=>rfl
  obtain ⟨rfl,rfl⟩:=e2 j; obtain ⟨a,rfl,h⟩:=h
  cases h1 with
  | false=>exact ⟨a,rfl,h.irrel _ _⟩
  | true=>
    obtain ⟨rfl,rfl⟩:=e1 rfl; exact ⟨a,rfl,h⟩
 rw [if_neg i] at h ⊢; exact h
def ResS (h1 o1:Bool) (t1:ByteArray) (h2 o2:Bool) (t2 u:ByteArray):Prop:=∃ k1 k2,IsCut t1 k1∧IsCut t2 k2 ∧
 ((∃ x1 y1 x2 y2,RdE h1 t1 k1 x1 y1∧RdE h2 t2 k2 x2 y2∧((NoneB h1 (h1&&o1) x1 y1 h2 (h2&&o2) x2 y2=false∧∃ p q,Best h1 (h1&&o1) x1 y1 h2 (h2&&o2) x2 y2 p q∧TextR p q u)∨(NoneB h1 (h1&&o1) x1 y1 h2 (h2&&o2) x2 y2=true∧u=⟨#[]⟩))) ∨
  ((¬ ∃ x1 y1 x2 y2,RdE h1 t1 k1 x1 y1∧RdE h2 t2 k2 x2 y2)∧u=⟨#[]⟩))
theorem RdE.one {h:Bool} {t:ByteArray} {k:Option Nat} {x y x' y':Int} (a:RdE h t k x y) (b:RdE h t k x' y'):x=x'∧y=y':=by
 unfold RdE at a b
 cases h with
 | false=>exact ⟨a.1.trans b.1.symm,a.2.trans b.2.symm⟩
 | true=>exact ratV_one a b
theorem ResS.eq {h1 o1:Bool} {t1:ByteArray} {h2 o2:Bool} {t2 u v:ByteArray} (h:ResS h1 o1 t1 h2 o2 t2 u) (h':ResS h1 o1 t1 h2 o2 t2 v):u=v:=by
 obtain ⟨I,k2,c1,c2,h⟩:=h; obtain ⟨m1,m2,E,F,h'⟩:=h'; obtain rfl:=isCut_unique c1 E; obtain rfl:=isCut_unique c2 F
 rcases h with ⟨L,O,M,Q,a1,a2,h⟩|⟨n,rfl⟩
 ·rcases h' with ⟨s,A,t,D,b1,b2,h'⟩|⟨n,rfl⟩
  ·obtain ⟨rfl,rfl⟩:=a1.one b1; obtain ⟨rfl,rfl⟩:=a2.one b2
   rcases h with ⟨e,p,q,G,H⟩|⟨e,rfl⟩<;>rcases h' with ⟨i,J,K,j,m⟩|⟨i,rfl⟩
   ·obtain ⟨rfl,rfl⟩:=G.unique j (fun _=>⟨rfl,rfl⟩) (fun _=>⟨rfl,rfl⟩); exact H.eq m
   ·rw [e] at i; cases i
   ·rw [e] at i; cases i
   rfl
  exact absurd ⟨_,_,_,_,a1,a2⟩ n
 rcases h' with ⟨s,A,t,D,b1,b2,h'⟩|⟨_,rfl⟩
 ·exact absurd ⟨_,_,_,_,b1,b2⟩ n
 rfl
theorem RdE.lt {h:Bool} {t:ByteArray} {k:Option Nat} {x y:Int} (a:RdE h t k x y):x.natAbs<lb 281∧y.natAbs<lb 281∧(h=true→0<y∧Int.gcd x y=1):=by
 unfold RdE at a
 cases h with
 | false=>
   obtain ⟨rfl,rfl⟩:=a; have i:(0:Int).natAbs<lb 281:=Nat.lt_of_lt_of_le (by decide) (Nat.le_of_lt (lb_one 281 (by decide))); exact ⟨i,i,fun e=>by cases e⟩
 | true=>
   have hl:=ratV_lt a; exact ⟨lb_le 280 281 (by decide) hl.1,lb_le 280 281 (by decide) hl.2.1,fun _=>⟨hl.2.2,ratV_gcd' a⟩⟩
theorem IsE.mono {w:World} {z:Value} {hs op:Bool} {x y:Int} {n n':Nat} (h:IsE w z hs op x y n) (hn:n≤n'):IsE w z hs op x y n':=by
 obtain ⟨s1,t,m,c1,s2,u,s,c2,e,i,j⟩:=h; exact ⟨s1,t,m,c1,s2,u,s,c2,e,i.mono leR hn,j.mono leR hn⟩
structure Two (h1 o1:Bool) (x1 y1:Int) (h2 o2:Bool) (x2 y2:Int):Prop where
 l:h1=true→0<y1∧Int.gcd x1 y1=1
 h:h2=true→0<y2∧Int.gcd x2 y2=1
 n:NoneB h1 o1 x1 y1 h2 o2 x2 y2=false
theorem Two.low {h1 o1:Bool} {x1 y1:Int} {h2 o2:Bool} {x2 y2:Int} (t:Two h1 o1 x1 y1 h2 o2 x2 y2) (hl:lowOut h1 o1 x1=true):h1=true∧Ends o1 x1 y1 h2 o2 x2 y2:=by
 unfold lowOut at hl
 cases h1 with
 | false=>cases hl
 | true=>
   have j:0<x1∨x1=0∧o1=true:=by simpa using hl
   refine ⟨rfl,(t.l rfl).1,by omega,(t.l rfl).2,by rcases j with h|h; exact .inl h; exact .inr h.2,fun hh=>?_⟩; subst hh; refine ⟨(t.h rfl).1,(t.h rfl).2,?_⟩; have hn:=t.n; unfold NoneB at hn; have i:¬ (x2*y1<x1*y2∨x1*y2=x2*y1∧(o1=true∨o2=true)):=by
    intro h; have:(decide (x2*y1<x1*y2)||(decide (x1*y2=x2*y1)&&(o1||o2)))=true:=by simpa using h
    simp [this] at hn
   rcases Int.lt_trichotomy (x1*y2) (x2*y1) with h|h|h
   ·exact .inl h
   ·refine .inr ⟨h,?_,?_⟩
    ·cases o1 with
     | false=>rfl
     | true=>exact absurd (.inr ⟨h,.inl rfl⟩) i
    ·cases o2 with
     | false=>rfl
     | true=>exact absurd (.inr ⟨h,.inr rfl⟩) i
   ·exact absurd (.inl h) i
theorem Two.mirror {h1 o1:Bool} {x1 y1:Int} {h2 o2:Bool} {x2 y2:Int} (t:Two h1 o1 x1 y1 h2 o2 x2 y2):Two h2 o2 (-x2) y2 h1 o1 (-x1) y1:=by
 refine ⟨fun h=>⟨(t.h h).1,by rw [Int.neg_gcd]; exact (t.h h).2⟩,fun h=>⟨(t.l h).1,by rw [Int.neg_gcd]; exact (t.l h).2⟩,?_⟩; have hn:=t.n; unfold NoneB at hn ⊢; have i:(-x1*y2 < -x2*y1)=(x2*y1<x1*y2):=by rw [Int.neg_mul,Int.neg_mul]; exact propext ⟨fun h=>by omega,fun h=>by omega⟩
 have j:(-x2*y1 = -x1*y2)=(x1*y2=x2*y1):=by rw [Int.neg_mul,Int.neg_mul]; exact propext ⟨fun h=>by omega,fun h=>by omega⟩
 simp only [i,j]; rw [Bool.and_comm h2 h1,Bool.or_comm o2 o1]; exact hn
theorem high_low (h2 o2:Bool) (x2:Int):highOut h2 o2 x2=lowOut h2 o2 (-x2):=by
 unfold highOut lowOut; have i:(x2<0)=(0 < -x2):=propext ⟨fun h=>by omega,fun h=>by omega⟩; have j:(x2=0)=(-x2=0):=propext ⟨fun h=>by omega,fun h=>by omega⟩; simp only [i,j]
theorem adm_zl (h1 o1:Bool) (x1 y1:Int):admB h1 o1 (-x1) y1 (-0) 1=!lowOut h1 o1 x1:=by
 unfold admB lowOut ordI; have i:(-0:Int)*y1=0:=by rw [Int.neg_zero,Int.zero_mul]
 rw [i,Int.mul_one]
 rcases Int.lt_trichotomy x1 0 with h|h|h
 ·rw [if_pos (by omega)]; have a:¬ 0<x1:=by omega
  have b:x1≠0:=by omega
  cases h1<;>simp [a,b]
 ·subst h; cases h1<;>cases o1<;>simp
 rw [if_neg (by omega),if_pos (by omega)]
 cases h1<;>simp [h]
theorem adm_zh (h2 o2:Bool) (x2 y2:Int):admB h2 o2 x2 y2 0 1=!highOut h2 o2 x2:=by
 unfold admB highOut ordI; rw [Int.zero_mul,Int.mul_one]
 rcases Int.lt_trichotomy x2 0 with h|h|h
 ·rw [if_neg (by omega),if_pos h]
  cases h2<;>simp [h]
 ·subst h; cases h2<;>cases o2<;>simp
 rw [if_pos h]; have a:¬ x2<0:=by omega
 have b:x2≠0:=by omega
 cases h2<;>simp [a,b]
theorem Best.lt {h1 o1:Bool} {x1 y1:Int} {h2 o2:Bool} {x2 y2 p q:Int} (h:Best h1 o1 x1 y1 h2 o2 x2 y2 p q) (t:Two h1 o1 x1 y1 h2 o2 x2 y2) (b:x1.natAbs<lb 281∧y1.natAbs<lb 281∧x2.natAbs<lb 281∧y2.natAbs<lb 281):p.natAbs<lb 282:=by
 unfold Best at h
 by_cases hl:lowOut h1 o1 x1=true
 ·rw [if_pos hl] at h; have i:=h.bound (t.low hl).2; exact sim_lt b i.1 i.2.2.1
 rw [if_neg hl] at h
 by_cases j:highOut h2 o2 x2=true
 ·rw [if_pos j] at h; obtain ⟨m,rfl,h⟩:=h; rw [high_low] at j; have i:=h.bound (t.mirror.low j).2; rw [Int.natAbs_neg]; exact sim_lt (b:=y2) (d:=y1) ⟨by rw [Int.natAbs_neg]; exact b.2.2.1,b.2.2.2,by rw [Int.natAbs_neg]; exact b.1,b.2.1⟩ i.1 i.2.2.1
 rw [if_neg j] at h; rw [h.1]; exact Nat.lt_of_lt_of_le (by decide) (Nat.le_of_lt (lb_one 282 (by decide)))
theorem none_ord (o1 o2:Bool) (x1 y1 x2 y2:Int):NoneB true o1 x1 y1 true o2 x2 y2=(decide (0<ordI (x1*y2) (x2*y1))||(decide (ordI (x1*y2) (x2*y1)=0)&&(o1||o2))):=by
 unfold NoneB ordI
 rcases Int.lt_trichotomy (x1*y2) (x2*y1) with h|h|h
 ·rw [if_pos h]; have a:¬ x2*y1<x1*y2:=by omega
  have b:x1*y2≠x2*y1:=by omega
  simp [a,b]
 ·rw [h,if_neg (by omega),if_neg (by omega)]; simp
 rw [if_neg (by omega),if_pos h]; simp [h]
theorem putS_12_4 {W:World} {a0 a1 a2 a3 a4 a5 a6 a7 a8 a9 a10 a11:Addr} {v0 v1 v2 v3 v4 v5 v6 v7 v8 v9 v10 v11:Value} (m:W.cell? a0=some v0∧W.cell? a1=some v1∧W.cell? a2=some v2∧W.cell? a3=some v3∧W.cell? a4=some v4∧W.cell? a5=some v5∧W.cell? a6=some v6∧W.cell? a7=some v7∧W.cell? a8=some v8∧W.cell? a9=some v9∧W.cell? a10=some v10∧W.cell? a11=some v11) (g:Nat) (h:g≠a0.block∧g≠a1.block∧g≠a2.block∧g≠a3.block∧g≠a4.block∧g≠a5.block∧g≠a6.block∧g≠a7.block∧g≠a8.block∧g≠a9.block∧g≠a10.block∧g≠a11.block) (u0 u1 u2 u3:Value):((((W.setCell ⟨g,0,none⟩ (u0)).setCell ⟨g,1,none⟩ (u1)).setCell ⟨g,2,none⟩ (u2)).setCell ⟨g,3,none⟩ (u3)).cell? a0=some v0∧((((W.setCell ⟨g,0,none⟩ (u0)).setCell ⟨g,1,none⟩ (u1)).setCell ⟨g,2,none⟩ (u2)).setCell ⟨g,3,none⟩ (u3)).cell? a1=some v1∧((((W.setCell ⟨g,0,none⟩ (u0)).setCell ⟨g,1,none⟩ (u1)).setCell ⟨g,2,none⟩ (u2)).setCell ⟨g,3,none⟩ (u3)).cell? a2=some v2∧((((W.setCell ⟨g,0,none⟩ (u0)).setCell ⟨g,1,none⟩ (u1)).setCell ⟨g,2,none⟩ (u2)).setCell ⟨g,3,none⟩ (u3)).cell? a3=some v3∧((((W.setCell ⟨g,0,none⟩ (u0)).setCell ⟨g,1,none⟩ (u1)).setCell ⟨g,2,none⟩ (u2)).setCell ⟨g,3,none⟩ (u3)).cell? a4=some v4∧((((W.setCell ⟨g,0,none⟩ (u0)).setCell ⟨g,1,none⟩ (u1)).setCell ⟨g,2,none⟩ (u2)).setCell ⟨g,3,none⟩ (u3)).cell? a5=some v5∧((((W.setCell ⟨g,0,none⟩ (u0)).setCell ⟨g,1,none⟩ (u1)).setCell ⟨g,2,none⟩ (u2)).setCell ⟨g,3,none⟩ (u3)).cell? a6=some v6∧((((W.setCell ⟨g,0,none⟩ (u0)).setCell ⟨g,1,none⟩ (u1)).setCell ⟨g,2,none⟩ (u2)).setCell ⟨g,3,none⟩ (u3)).cell? a7=some v7∧((((W.setCell ⟨g,0,none⟩ (u0)).setCell ⟨g,1,none⟩ (u1)).setCell ⟨g,2,none⟩ (u2)).setCell ⟨g,3,none⟩ (u3)).cell? a8=some v8∧((((W.setCell ⟨g,0,none⟩ (u0)).setCell ⟨g,1,none⟩ (u1)).setCell ⟨g,2,none⟩ (u2)).setCell ⟨g,3,none⟩ (u3)).cell? a9=some v9∧((((W.setCell ⟨g,0,none⟩ (u0)).setCell ⟨g,1,none⟩ (u1)).setCell ⟨g,2,none⟩ (u2)).setCell ⟨g,3,none⟩ (u3)).cell? a10=some v10∧((((W.setCell ⟨g,0,none⟩ (u0)).setCell ⟨g,1,none⟩ (u1)).setCell ⟨g,2,none⟩ (u2)).setCell ⟨g,3,none⟩ (u3)).cell? a11=some v11:=
 ⟨cell_farC4 g m.1 h.1 _ _ _ _,cell_farC4 g m.2.1 h.2.1 _ _ _ _,cell_farC4 g m.2.2.1 h.2.2.1 _ _ _ _,cell_farC4 g m.2.2.2.1 h.2.2.2.1 _ _ _ _,cell_farC4 g m.2.2.2.2.1 h.2.2.2.2.1 _ _ _ _,cell_farC4 g m.2.2.2.2.2.1 h.2.2.2.2.2.1 _ _ _ _,cell_farC4 g m.2.2.2.2.2.2.1 h.2.2.2.2.2.2.1 _ _ _ _,cell_farC4 g m.2.2.2.2.2.2.2.1 h.2.2.2.2.2.2.2.1 _ _ _ _,cell_farC4 g m.2.2.2.2.2.2.2.2.1 h.2.2.2.2.2.2.2.2.1 _ _ _ _,cell_farC4 g m.2.2.2.2.2.2.2.2.2.1 h.2.2.2.2.2.2.2.2.2.1 _ _ _ _,cell_farC4 g m.2.2.2.2.2.2.2.2.2.2.1 h.2.2.2.2.2.2.2.2.2.2.1 _ _ _ _,cell_farC4 g m.2.2.2.2.2.2.2.2.2.2.2 h.2.2.2.2.2.2.2.2.2.2.2 _ _ _ _⟩
theorem readEnd_any (h o:Bool) (t:ByteArray) (k:Option Nat) (w:World) (ht:t.size≤maxLen) (hk:IsCut t k) (hSP:SP w) (hNS:NS w) (hLT:LT w) :
 Calls Tryz.prog 21 #[.agg #[.bool h,.bool o,.string t]] w fun e w'=>∃ z ok,e=.returned (.tuple #[z,.bool ok])∧(∃ s1 p1 l1 c1 s2 p2 l2 c2,z=.agg #[.bool h,.bool (h&&o),.bool s1,.slice p1 l1 c1,.bool s2,.slice p2 l2 c2])∧(ok=true↔(h=true→∃ x y,RatV t k x y))∧(ok=true→∃ x y,RdE h t k x y∧IsE w' z h (h&&o) x y 280)∧Up w w':=by
 have HK:=Hd hk; have b4:=Hd hSP; have a9:=Hd hNS; have a8:=Hd hLT; clear hk hSP hNS hLT; obtain ⟨F,u⟩:=exW ((w.alloc (.cells #[.bool h,.bool o,.string t] 24)).alloc (.cells #[.bool false,.bool false,.bool false,.slice none 0 0,.bool false,.slice none 0 0] 59)); have U:=Hd u; have s:Hid (Up w F):=by unfold Hid; rw [← u]; exact below_al (below_alloc _ _) _
 have d7:Hid (F.heap.size=w.heap.size+2):=by show F.heap.size=_; rw [← u]; simp
 have j:Bx F (w.heap.size) [.bool h,.bool o,.string t]:=by
  rw [← u]; exact (bx_new w _ _).alloc _
 have i:Bx F (w.heap.size+1) [.bool false,.bool false,.bool false,.slice none 0 0,.bool false,.slice none 0 0]:=by
  rw [← u]; have h:=bx_new (w.alloc (.cells #[.bool h,.bool o,.string t] 24)) [.bool false,.bool false,.bool false,.slice none 0 0,.bool false,.slice none 0 0] 59; rw [World.size_alloc] at h; exact h
 have K:Hid (∀ W,Up F W→Bx W (w.heap.size) [.bool h,.bool o,.string t]∧Bx W (w.heap.size+1) [.bool false,.bool false,.bool false,.slice none 0 0,.bool false,.slice none 0 0]):=fun W hW=>⟨j.below j.lt hW,i.below i.lt hW⟩; obtain ⟨k0,k1,k2⟩:=j.k3; obtain ⟨r0,r1,r2,r3,r4,r5⟩:=i.k6; obtain ⟨Y,Z,a3,a5,a6,a7⟩:=i.f6; clear u j i; cases h
 ·go_enter Tryz.func21,Tryz.ntmps21
  go_upto_region 1 with fail
  rw [U.o]
  go_wp2
  have G:=(K.o F (Below.refl _ _)).2; have L:=bs6 s.o (w.heap.size+1) (by omega) (.bool false) (.bool false) (.bool false) (.slice none 0 0) (.bool false) (.slice none 0 0); have hZ:=G.s6 (.bool false) (.bool false) (.bool false) (.slice none 0 0) (.bool false) (.slice none 0 0); generalize (((((F.setCell ⟨w.heap.size+1,0,none⟩ (.bool false)).setCell ⟨w.heap.size+1,1,none⟩ (.bool false)).setCell ⟨w.heap.size+1,2,none⟩ (.bool false)).setCell ⟨w.heap.size+1,3,none⟩ (.slice none 0 0)).setCell ⟨w.heap.size+1,4,none⟩ (.bool false)).setCell ⟨w.heap.size+1,5,none⟩ (.slice none 0 0)=W9 at *; obtain ⟨v0,v1,v2,v3,v4,v5⟩:=hZ.k6; refine bodyPost_ret (v:=.tuple #[.agg #[.bool false,.bool false,.bool false,.slice none 0 0,.bool false,.slice none 0 0],.bool true]) ?_ rfl ⟨_,true,rfl,⟨_,_,_,_,_,_,_,_,rfl⟩,⟨fun _ h=>Bool.noConfusion h,fun _=>rfl⟩,fun _=>⟨0,0,⟨rfl,rfl⟩,_,_,_,_,_,_,_,_,rfl,isI_nil _ _,isI_nil _ _⟩,L⟩; simp [results,Tryz.results21,go_sem,v0,v1,v2,v3,v4,v5]
 go_enter Tryz.func21,Tryz.ntmps21
 go_upto_region 1 with fail
 rw [U.o]
 go_wp2_with fail
 refine (readRational_any t k F ht HK.o (b4.o.below s.o) (a9.o.below s.o) (a8.o.below s.o)).mono ?_; rintro e O ⟨z,ok,rfl,hR,V⟩; have HR:=Hd hR; obtain ⟨s1,p1,l1,c1,s2,p2,l2,c2,rfl⟩:=hR.1; have S:=Hd V; clear hR V k0 k1 k2 r0 r1 r2 r3 r4 r5 Y Z a3 a5 a6 a7; obtain ⟨A,D⟩:=exW (O.alloc (.cells #[.bool s1,.slice p1 l1 c1,.bool s2,.slice p2 l2 c2] 57)); have b5:=Hd D; have Q:Hid (Up O A):=by unfold Hid; rw [← D]; exact below_alloc _ _
 have d8:Hid (A.heap.size=O.heap.size+1):=by show A.heap.size=_; rw [← D]; simp
 have m:Bx A (O.heap.size) [.bool s1,.slice p1 l1 c1,.bool s2,.slice p2 l2 c2]:=by
  rw [← D]; exact bx_new O _ _
 have d9:Hid (∀ W,Up A W→Bx W (O.heap.size) [.bool s1,.slice p1 l1 c1,.bool s2,.slice p2 l2 c2]):=fun W hW=>m.below m.lt hW; have J:Hid (Up F A):=S.o.trans (Q.o.mono S.o.size); have M:=(K.o A J.o); have I:=M.1; have E:=M.2; obtain ⟨k0,k1,k2⟩:=I.k3; obtain ⟨r0,r1,r2,r3,r4,r5⟩:=E.k6; obtain ⟨Y,Z,a3,a5,a6,a7⟩:=E.f6; obtain ⟨m0,m1,m2,m3⟩:=m.k4; clear D m M I E
 go_upto_region 4 with fail
 rw [b5.o]
 go_wp2
 have G:=(K.o A J.o).2; have H:NoInt A (w.heap.size+1):=noInt_of G (by simp); have T:=keepsC6 A (w.heap.size+1) (.bool true) (.bool o) (.bool s1) (.slice p1 l1 c1) (.bool s2) (.slice p2 l2 c2); have L:=bs6 (s.o.trans (J.o.mono s.o.size)) (w.heap.size+1) (by omega) (.bool true) (.bool o) (.bool s1) (.slice p1 l1 c1) (.bool s2) (.slice p2 l2 c2); have hZ:=G.s6 (.bool true) (.bool o) (.bool s1) (.slice p1 l1 c1) (.bool s2) (.slice p2 l2 c2); generalize (((((A.setCell ⟨w.heap.size+1,0,none⟩ (.bool true)).setCell ⟨w.heap.size+1,1,none⟩ (.bool o)).setCell ⟨w.heap.size+1,2,none⟩ (.bool s1)).setCell ⟨w.heap.size+1,3,none⟩ (.slice p1 l1 c1)).setCell ⟨w.heap.size+1,4,none⟩ (.bool s2)).setCell ⟨w.heap.size+1,5,none⟩ (.slice p2 l2 c2)=W9 at *; obtain ⟨v0,v1,v2,v3,v4,v5⟩:=hZ.k6; refine bodyPost_ret (v:=.tuple #[.agg #[.bool true,.bool o,.bool s1,.slice p1 l1 c1,.bool s2,.slice p2 l2 c2],.bool ok]) ?_ rfl ⟨_,ok,rfl,⟨_,_,_,_,_,_,_,_,rfl⟩,⟨fun h _=>HR.o.2.1.1 h,fun h=>HR.o.2.1.2 (h (by first|rfl|trivial))⟩,fun hok=>?_,L⟩
 ·simp [results,Tryz.results21,go_sem,v0,v1,v2,v3,v4,v5]
 obtain ⟨x,y,hV,hq⟩:=HR.o.2.2 hok; have hl:=ratV_lt hV; have b8:=((hq.mono (B':=0) (Nat.zero_le _) leR).below Q.o).tight hl.1 hl.2.1; obtain ⟨i1,i2⟩:=qr_parts b8; refine ⟨x,y,?_,_,_,_,_,_,_,_,_,rfl,i1.keeps H H T,i2.keeps H H T⟩; unfold RdE; rw [if_pos rfl]; exact hV
theorem nothingBetween_any (zl zh:Value) (h1 o1:Bool) (x1 y1:Int) (h2 o2:Bool) (x2 y2:Int) (n:Nat) (w:World) (hl:IsE w zl h1 o1 x1 y1 n) (hh:IsE w zh h2 o2 x2 y2 n) (hn:n≤10000) (hSP:SP w) :
 Calls Tryz.prog 22 #[zl,zh] w fun e w'=>e=.returned (.bool (NoneB h1 o1 x1 y1 h2 o2 x2 y2))∧Up w w':=by
 obtain ⟨s1,M,I,c1,s2,O,J,c2,rfl,Y,Z⟩:=hl; obtain ⟨s3,Q,K,c3,s4,S,L,c4,rfl,i3,i4⟩:=hh; have H1:=Hd Y; have H2:=Hd Z; have H3:=Hd i3; have H4:=Hd i4; have T:=Hd hSP; clear Y Z i3 i4 hSP; obtain ⟨G,s⟩:=exW ((w.alloc (.cells #[.bool h1,.bool o1,.bool s1,.slice M I c1,.bool s2,.slice O J c2] 59)).alloc (.cells #[.bool h2,.bool o2,.bool s3,.slice Q K c3,.bool s4,.slice S L c4] 59)); have D:=Hd s; have i:Hid (Up w G):=by unfold Hid; rw [← s]; exact below_al (below_alloc _ _) _
 have b4:Hid (G.heap.size=w.heap.size+2):=by show G.heap.size=_; rw [← s]; simp
 have j:Bx G (w.heap.size) [.bool h1,.bool o1,.bool s1,.slice M I c1,.bool s2,.slice O J c2]:=by
  rw [← s]; exact (bx_new w _ _).alloc _
 have m:Bx G (w.heap.size+1) [.bool h2,.bool o2,.bool s3,.slice Q K c3,.bool s4,.slice S L c4]:=by
  rw [← s]; have h:=bx_new (w.alloc (.cells #[.bool h1,.bool o1,.bool s1,.slice M I c1,.bool s2,.slice O J c2] 59)) [.bool h2,.bool o2,.bool s3,.slice Q K c3,.bool s4,.slice S L c4] 59; rw [World.size_alloc] at h; exact h
 have U:Hid (∀ W,Up G W→Bx W (w.heap.size) [.bool h1,.bool o1,.bool s1,.slice M I c1,.bool s2,.slice O J c2]∧Bx W (w.heap.size+1) [.bool h2,.bool o2,.bool s3,.slice Q K c3,.bool s4,.slice S L c4]):=fun W hW=>⟨j.below j.lt hW,m.below m.lt hW⟩; obtain ⟨k0,k1,k2,k3,k4,k5⟩:=j.k6; obtain ⟨j0,j1,j2,j3,j4,j5⟩:=m.k6; clear s j m; cases h1
 ·go_enter Tryz.func22,Tryz.ntmps22
  go_upto_region 1 with fail
  rw [D.o]
  go_wp2
  go_ret
  exact ⟨rfl,i.o⟩
 cases h2
 ·go_enter Tryz.func22,Tryz.ntmps22
  go_upto_region 1 with fail
  rw [D.o]
  go_wp2
  go_ret
  exact ⟨rfl,i.o⟩
 go_enter Tryz.func22,Tryz.ntmps22
 go_upto_region 1 with fail
 rw [D.o]
 go_wp2_with fail
 refine (compareQ_any 0 _ _ x1 y1 x2 y2 n _ (Nat.zero_le _) (qr_mk (H1.o.below i.o) (H2.o.below i.o)) (qr_mk (H3.o.below i.o) (H4.o.below i.o)) hn (T.o.below i.o)).mono ?_; rintro e wa ⟨rfl,E⟩; have A:Hid (Up w wa):=i.o.trans (E.mono i.o.size); have F:=U.o wa E; have t:=F.1; have u:=F.2; have m1:=t.cell 1; have q1:=u.cell 1; simp only [List.getElem?_cons_zero,List.getElem?_cons_succ] at m1 q1; have H:Hid (NoneB true o1 x1 y1 true o2 x2 y2=(decide (0<ordI (x1*y2) (x2*y1))||(decide (ordI (x1*y2) (x2*y1)=0)&&(o1||o2)))):=none_ord o1 o2 x1 y1 x2 y2; have h3:=ordI_three (x1*y2) (x2*y1); clear E F t u k0 k1 k2 k3 k4 k5 j0 j1 j2 j3 j4 j5; obtain ⟨r,V⟩:=exW (ordI (x1*y2) (x2*y1)); rw [V] at h3 H ⊢; clear V
 rcases h3 with rfl|rfl|rfl
 ·go_wp2
  go_ret
  exact ⟨ret_bool (by rw [H.o]; rfl),A.o⟩
 ·cases o1<;>cases o2
  all_goals
   go_wp2
   go_ret
   exact ⟨ret_bool (by rw [H.o]; rfl),A.o⟩
 go_wp2
 go_ret
 exact ⟨ret_bool (by rw [H.o]; rfl),A.o⟩
theorem simplestBetween_any (zl zh:Value) (h1 o1:Bool) (x1 y1:Int) (h2 o2:Bool) (x2 y2:Int) (w:World) (hl:IsE w zl h1 o1 x1 y1 281) (hh:IsE w zh h2 o2 x2 y2 281) (t:Two h1 o1 x1 y1 h2 o2 x2 y2)
 (hb:x1.natAbs<lb 281∧y1.natAbs<lb 281∧x2.natAbs<lb 281∧y2.natAbs<lb 281) (hSP:SP w) :
 Calls Tryz.prog 23 #[zl,zh] w fun e w'=>∃ z p q,e=.returned z∧IsQR 0 w' z p q 282∧Best h1 o1 x1 y1 h2 o2 x2 y2 p q∧Up w w':=by
 obtain ⟨s1,p1,l1,c1,s2,p2,l2,c2,rfl,i1,i2⟩:=hl; obtain ⟨s3,p3,l3,c3,s4,p4,l4,c4,rfl,i3,i4⟩:=hh; have H1:=Hd i1; have H2:=Hd i2; have H3:=Hd i3; have H4:=Hd i4; have d0:=Hd hSP; have HT:=Hd t; have Y:=Hd hb; clear i1 i2 i3 i4 hSP t hb; obtain ⟨T,I⟩:=exW (((w.alloc (.cells #[.bool h1,.bool o1,.bool s1,.slice p1 l1 c1,.bool s2,.slice p2 l2 c2] 59)).alloc (.cells #[.bool h2,.bool o2,.bool s3,.slice p3 l3 c3,.bool s4,.slice p4 l4 c4] 59)).alloc (.cells #[.bool false,.slice none 0 0,.bool false,.slice none 0 0] 57)); have n1:=Hd I; have j:Hid (Up w T):=by unfold Hid; rw [← I]; exact below_al (below_al (below_alloc _ _) _) _
 have q9:Hid (T.heap.size=w.heap.size+3):=by show T.heap.size=_; rw [← I]; simp
 have M:Bx T (w.heap.size) [.bool h1,.bool o1,.bool s1,.slice p1 l1 c1,.bool s2,.slice p2 l2 c2]:=by
  rw [← I]; exact ((bx_new w _ _).alloc _).alloc _
 have O:Bx T (w.heap.size+1) [.bool h2,.bool o2,.bool s3,.slice p3 l3 c3,.bool s4,.slice p4 l4 c4]:=by
  rw [← I]; have h:=bx_new (w.alloc (.cells #[.bool h1,.bool o1,.bool s1,.slice p1 l1 c1,.bool s2,.slice p2 l2 c2] 59)) [.bool h2,.bool o2,.bool s3,.slice p3 l3 c3,.bool s4,.slice p4 l4 c4] 59; rw [World.size_alloc] at h; exact (h).alloc _
 have Q:Bx T (w.heap.size+1+1) [.bool false,.slice none 0 0,.bool false,.slice none 0 0]:=by
  rw [← I]; have h:=bx_new ((w.alloc (.cells #[.bool h1,.bool o1,.bool s1,.slice p1 l1 c1,.bool s2,.slice p2 l2 c2] 59)).alloc (.cells #[.bool h2,.bool o2,.bool s3,.slice p3 l3 c3,.bool s4,.slice p4 l4 c4] 59)) [.bool false,.slice none 0 0,.bool false,.slice none 0 0] 57; rw [World.size_alloc,World.size_alloc] at h; exact h
 have A:Hid (∀ W,Up T W→Bx W (w.heap.size) [.bool h1,.bool o1,.bool s1,.slice p1 l1 c1,.bool s2,.slice p2 l2 c2]∧Bx W (w.heap.size+1) [.bool h2,.bool o2,.bool s3,.slice p3 l3 c3,.bool s4,.slice p4 l4 c4]∧Bx W (w.heap.size+1+1) [.bool false,.slice none 0 0,.bool false,.slice none 0 0]):=fun W hW=>⟨M.below M.lt hW,O.below O.lt hW,Q.below Q.lt hW⟩; clear I M O Q
 go_enter Tryz.func23,Tryz.ntmps23
 go_upto_region 1 with fail
 rw [n1.o]
 go_wp2_with fail
 refine (wholeRational_any false none 0 0 T).mono ?_; rintro e w1 ⟨s6,p6,l6,c6,rfl,d5,h9⟩; have g7:=Hd h9; have h6:=Hd (d5.mono (B':=0) (n':=281) (Nat.zero_le _) (by decide)); clear d5 h9; obtain ⟨W1,b3⟩:=exW (w1.alloc (.cells #[.bool false,.slice none 0 0,.bool s6,.slice p6 l6 c6] 57)); have n2:=Hd b3; have g6:Hid (Up w1 W1):=by unfold Hid; rw [← b3]; exact below_alloc _ _
 have r4:Hid (W1.heap.size=w1.heap.size+1):=by show W1.heap.size=_; rw [← b3]; simp
 have E:Bx W1 (w1.heap.size) [.bool false,.slice none 0 0,.bool s6,.slice p6 l6 c6]:=by
  rw [← b3]; exact bx_new w1 _ _
 have h7:Hid (∀ W,Up W1 W→Bx W (w1.heap.size) [.bool false,.slice none 0 0,.bool s6,.slice p6 l6 c6]):=fun W hW=>E.below E.lt hW; have S:Hid (Up T W1):=g7.o.trans (g6.o.mono g7.o.size); have g9:=Hd (h6.o.below g6.o); have h8:=(A.o W1 S.o).1; obtain ⟨k0,k1,k2,k3,k4,k5⟩:=h8.k6; obtain ⟨r0,r1,r2,r3⟩:=E.k4; clear b3 E h8
 go_upto_region 2 with fail
 rw [n2.o]
 go_wp2_with fail
 refine (admitsAbove_any _ _ h1 o1 x1 y1 0 1 281 W1 ⟨_,_,_,_,_,_,_,_,rfl,(H1.o.below j.o).below S.o,(H2.o.below j.o).below S.o⟩ (qr_mk (isI_nil _ _) g9.o) (by decide) ((d0.o.below j.o).below S.o)).mono ?_; rintro e w2 ⟨rfl,d2⟩; have e4:=Hd d2; have u:Hid (Up T w2):=S.o.trans (d2.mono S.o.size); have h0:=Hd (g9.o.below d2); rw [adm_zl]; clear d2 k0 k1 k2 k3 k4 k5 r0 r1 r2 r3; have H:=A.o w2 u.o; have b6:=H.1; have b7:=H.2.1; have b8:=h7.o w2 e4.o; obtain ⟨k0,k1,k2,k3,k4,k5⟩:=b6.k6; obtain ⟨j0,j1,j2,j3,j4,j5⟩:=b7.k6; obtain ⟨m0,m1,m2,m3⟩:=b8.k4; clear H b6 b7 b8
 cases b9:lowOut h1 o1 x1
 ·have g8:=Hd b9; clear b9
  go_wp2_with fail
  refine (admitsBelow_any _ _ h2 o2 x2 y2 0 1 281 w2 ⟨_,_,_,_,_,_,_,_,rfl,(H3.o.below j.o).below u.o,(H4.o.below j.o).below u.o⟩ (qr_mk (isI_nil _ _) h0.o) (by decide) ((d0.o.below j.o).below u.o)).mono ?_; rintro e D ⟨rfl,J⟩; have l8:Hid (Up W1 D):=e4.o.trans (J.mono e4.o.size); have i:Hid (Up T D):=u.o.trans (J.mono u.o.size); have m5:=Hd (h0.o.below J); rw [adm_zh]; clear J k0 k1 k2 k3 k4 k5 j0 j1 j2 j3 j4 j5 m0 m1 m2 m3; have H:=A.o D i.o; have b6:=H.1; have b7:=H.2.1; have K:=H.2.2; have b8:=h7.o D l8.o; obtain ⟨k0,k1,k2,k3,k4,k5⟩:=b6.k6; obtain ⟨j0,j1,j2,j3,j4,j5⟩:=b7.k6; obtain ⟨q0,q1,q2,q3⟩:=K.k4; obtain ⟨o7,o8,o9,p0⟩:=K.f4; obtain ⟨m0,m1,m2,m3⟩:=b8.k4; clear H b6 b7 K b8
  cases b5:highOut h2 o2 x2
  ·have V:Hid (Best h1 o1 x1 y1 h2 o2 x2 y2 0 1):=by
    unfold Hid
    unfold Best; rw [if_neg (by rw [g8.o]; decide),if_neg (by rw [b5]; decide)]; exact ⟨rfl,rfl⟩
   clear b5
   go_wp2
   have F:=(A.o D i.o).2.2; have s:NoInt D (w.heap.size+1+1):=noInt_of F (by simp); have HK:=keepsC4 D (w.heap.size+1+1) (.bool false) (.slice none 0 0) (.bool s6) (.slice p6 l6 c6); have a8:=(isI_nil D 282).keeps s s HK; have a9:=(m5.o.mono leR (n':=282) (by decide)).keeps s s HK; have a7:=bs4 (j.o.trans (i.o.mono j.o.size)) (w.heap.size+1+1) (by omega) (.bool false) (.slice none 0 0) (.bool s6) (.slice p6 l6 c6); have b4:=F.s4 (.bool false) (.slice none 0 0) (.bool s6) (.slice p6 l6 c6); generalize (((D.setCell ⟨w.heap.size+1+1,0,none⟩ (.bool false)).setCell ⟨w.heap.size+1+1,1,none⟩ (.slice none 0 0)).setCell ⟨w.heap.size+1+1,2,none⟩ (.bool s6)).setCell ⟨w.heap.size+1+1,3,none⟩ (.slice p6 l6 c6)=W9 at *; obtain ⟨v0,v1,v2,v3⟩:=b4.k4; refine bodyPost_ret (v:=.agg #[.bool false,.slice none 0 0,.bool s6,.slice p6 l6 c6]) ?_ rfl ⟨_,_,_,rfl,qr_mk a8 a9,V.o,a7⟩; simp [results,Tryz.results23,go_sem,v0,v1,v2,v3]
  have L:=HT.o.mirror.low (by rw [← high_low]; exact b5); have n7:=L.1; have HE:=Hd L.2; have V:Hid (∀ p q,Sim o2 (-x2) y2 h1 o1 (-x1) y1 p q→Best h1 o1 x1 y1 h2 o2 x2 y2 (-p) q):=fun p q hs=>by
   unfold Best; rw [if_neg (by rw [g8.o]; decide),if_pos b5]; exact ⟨p,rfl,hs⟩
  subst n7; have TA:Hid (∀ W,Up D W→Calls Tryz.prog 51 #[.agg #[.bool true,.bool o2,.bool s3,.slice p3 l3 c3,.bool s4,.slice p4 l4 c4]] W (fun e w'=>∃ z',e=.returned z'∧IsE w' z' true o2 (-x2) y2 281∧Up W w')):=fun W hW=>mirrored_any _ true o2 x2 y2 281 W ⟨_,_,_,_,_,_,_,_,rfl,((H3.o.below j.o).below i.o).below hW,((H4.o.below j.o).below i.o).below hW⟩; have TB:Hid (∀ W,Up D W→Calls Tryz.prog 51 #[.agg #[.bool h1,.bool o1,.bool s1,.slice p1 l1 c1,.bool s2,.slice p2 l2 c2]] W (fun e w'=>∃ z',e=.returned z'∧IsE w' z' h1 o1 (-x1) y1 281∧Up W w')):=fun W hW=>mirrored_any _ h1 o1 x1 y1 281 W ⟨_,_,_,_,_,_,_,_,rfl,((H1.o.below j.o).below i.o).below hW,((H2.o.below j.o).below i.o).below hW⟩; have TC:Hid (∀ W za zb,Up D W→IsE W za true o2 (-x2) y2 281→IsE W zb h1 o1 (-x1) y1 281→Calls Tryz.prog 49 #[za,zb] W (fun e w'=>∃ z p q,e=.returned z∧IsQR 0 w' z p q 282∧Sim o2 (-x2) y2 h1 o1 (-x1) y1 p q∧Up W w')):=fun W za zb hW ha hb=>
   simplestAbove_any _ o2 (-x2) y2 h1 o1 (-x1) y1 za zb W leR ha hb HE.o ⟨by rw [Int.natAbs_neg]; exact Y.o.2.2.1,Y.o.2.2.2,by rw [Int.natAbs_neg]; exact Y.o.1,Y.o.2.1⟩ (((d0.o.below j.o).below i.o).below hW)
  clear b5 L
  go_wp2_with fail
  go_region_held3 (fun W=>W.cell? ⟨w.heap.size,0,none⟩=some (.bool h1)∧W.cell? ⟨w.heap.size,1,none⟩=some (.bool o1)∧W.cell? ⟨w.heap.size,2,none⟩=some (.bool s1)∧W.cell? ⟨w.heap.size,3,none⟩=some (.slice p1 l1 c1)∧W.cell? ⟨w.heap.size,4,none⟩=some (.bool s2)∧W.cell? ⟨w.heap.size,5,none⟩=some (.slice p2 l2 c2)∧W.cell? ⟨w.heap.size+1,0,none⟩=some (.bool true)∧W.cell? ⟨w.heap.size+1,1,none⟩=some (.bool o2)∧W.cell? ⟨w.heap.size+1,2,none⟩=some (.bool s3)∧W.cell? ⟨w.heap.size+1,3,none⟩=some (.slice p3 l3 c3)∧W.cell? ⟨w.heap.size+1,4,none⟩=some (.bool s4)∧W.cell? ⟨w.heap.size+1,5,none⟩=some (.slice p4 l4 c4)) (first
   | with_reducible assumption|with_reducible exact putS_12_4 (by with_reducible assumption) (w.heap.size+1+1) (by dsimp only; omega) _ _ _ _|go_keep) (first
   | (go_at_call_of 51 (Value.slice p3 l3 c3)
      refine (TA.o _ ?_).mono ?_
      ·exact (Below.refl _ D).drew
      rintro e j8 ⟨u1,rfl,U,hb⟩; have m6:=Hd U; have c8:Hid (Up D j8):=(Below.refl _ D).drew.trans hb; have m:=A.o j8 (i.o.trans (c8.o.mono i.o.size)); have n3:=cc6_6 m.1 m.2.1; clear m; clear U hb)
   | (go_at_call_of 51 (Value.slice p1 l1 c1)
      refine (TB.o _ c8.o).mono ?_; rintro e j9 ⟨u2,rfl,U,hb⟩; have m7:=Hd U; have n0:=Hd (m6.o.below hb); have c9:Hid (Up D j9):=c8.o.trans (hb.mono c8.o.size); have m:=A.o j9 (i.o.trans (c9.o.mono i.o.size)); have n4:=cc6_6 m.1 m.2.1; clear m; clear U hb)
   | (go_at_call 49
      refine (TC.o _ _ _ c9.o n0.o m7.o).mono ?_; rintro e k7 ⟨u3,p,q,rfl,U,G,hb⟩; have m8:=Hd U; have e7:=Hd G; have e5:Hid (Up D k7):=c9.o.trans (hb.mono c9.o.size); have m:=A.o k7 (i.o.trans (e5.o.mono i.o.size)); have n5:=cc6_6 m.1 m.2.1; clear m; clear U G hb)
   | (go_at_call 52
      refine (negQ_any _ p q 282 _ m8.o).mono ?_; rintro e wm ⟨u4,rfl,U,hb⟩; have m9:=Hd U; obtain ⟨t1,a1,Z,g1,t2,a2,e2,g2,rfl,_,_⟩:=U.shape; have e6:Hid (Up D wm):=e5.o.trans (hb.mono e5.o.size); have m:=A.o wm (i.o.trans (e6.o.mono i.o.size)); have p8:=cc6_6 m.1 m.2.1; clear m; have e8:=(A.o wm (i.o.trans (e6.o.mono i.o.size))).2.2; obtain ⟨r0,r1,r2,r3⟩:=e8.k4; obtain ⟨s7,s9,t3,t5⟩:=e8.f4; clear U hb e8))
  all_goals
   try simp only [List.getElem_toArray,List.getElem_cons_succ,List.getElem_cons_zero,Act.put,List.setIfInBounds_toArray,List.set_cons_succ,List.set_cons_zero]
   go_wp2
   have g4:=i.o.trans (e6.o.mono i.o.size); have c7:=qr_parts m9.o; have F:=(A.o wm g4).2.2; have s:NoInt wm (w.heap.size+1+1):=noInt_of F (by simp); have HK:=keepsC4 wm (w.heap.size+1+1) (.bool t1) (.slice a1 Z g1) (.bool t2) (.slice a2 e2 g2); have a8:=(c7.1).keeps s s HK; have a9:=(c7.2).keeps s s HK; have a7:=bs4 (j.o.trans (g4.mono j.o.size)) (w.heap.size+1+1) (by omega) (.bool t1) (.slice a1 Z g1) (.bool t2) (.slice a2 e2 g2); have b4:=F.s4 (.bool t1) (.slice a1 Z g1) (.bool t2) (.slice a2 e2 g2); generalize (((wm.setCell ⟨w.heap.size+1+1,0,none⟩ (.bool t1)).setCell ⟨w.heap.size+1+1,1,none⟩ (.slice a1 Z g1)).setCell ⟨w.heap.size+1+1,2,none⟩ (.bool t2)).setCell ⟨w.heap.size+1+1,3,none⟩ (.slice a2 e2 g2)=W9 at *; obtain ⟨v0,v1,v2,v3⟩:=b4.k4; refine bodyPost_ret (v:=.agg #[.bool t1,.slice a1 Z g1,.bool t2,.slice a2 e2 g2]) ?_ rfl ⟨_,_,_,rfl,qr_mk a8 a9,V.o _ _ e7.o,a7⟩; simp [results,Tryz.results23,go_sem,v0,v1,v2,v3]
 have L:=HT.o.low b9; have n6:=L.1; have HE:=Hd L.2; have V:Hid (∀ p q,Sim o1 x1 y1 h2 o2 x2 y2 p q→Best h1 o1 x1 y1 h2 o2 x2 y2 p q):=fun p q hs=>by
  unfold Best; rw [if_pos b9]; exact hs
 subst n6; clear b9 L
 go_wp2_with fail
 refine (simplestAbove_any _ o1 x1 y1 h2 o2 x2 y2 _ _ w2 leR ⟨_,_,_,_,_,_,_,_,rfl,(H1.o.below j.o).below u.o,(H2.o.below j.o).below u.o⟩ ⟨_,_,_,_,_,_,_,_,rfl,(H3.o.below j.o).below u.o,(H4.o.below j.o).below u.o⟩ HE.o Y.o ((d0.o.below j.o).below u.o)).mono ?_; rintro e D ⟨z,p,q,rfl,hq,G,J⟩; obtain ⟨t1,a1,Z,g1,t2,a2,e2,g2,rfl,_,_⟩:=hq.shape; have HQ:=Hd hq; have e7:=Hd G; have i:Hid (Up T D):=u.o.trans (J.mono u.o.size); clear hq G J k0 k1 k2 k3 k4 k5 j0 j1 j2 j3 j4 j5 m0 m1 m2 m3; have K:=(A.o D i.o).2.2; obtain ⟨q0,q1,q2,q3⟩:=K.k4; obtain ⟨o7,o8,o9,p0⟩:=K.f4; clear K
 go_wp2
 have c7:=qr_parts HQ.o; have F:=(A.o D i.o).2.2; have s:NoInt D (w.heap.size+1+1):=noInt_of F (by simp); have HK:=keepsC4 D (w.heap.size+1+1) (.bool t1) (.slice a1 Z g1) (.bool t2) (.slice a2 e2 g2); have a8:=(c7.1).keeps s s HK; have a9:=(c7.2).keeps s s HK; have a7:=bs4 (j.o.trans (i.o.mono j.o.size)) (w.heap.size+1+1) (by omega) (.bool t1) (.slice a1 Z g1) (.bool t2) (.slice a2 e2 g2); have b4:=F.s4 (.bool t1) (.slice a1 Z g1) (.bool t2) (.slice a2 e2 g2); generalize (((D.setCell ⟨w.heap.size+1+1,0,none⟩ (.bool t1)).setCell ⟨w.heap.size+1+1,1,none⟩ (.slice a1 Z g1)).setCell ⟨w.heap.size+1+1,2,none⟩ (.bool t2)).setCell ⟨w.heap.size+1+1,3,none⟩ (.slice a2 e2 g2)=W9 at *; obtain ⟨v0,v1,v2,v3⟩:=b4.k4; refine bodyPost_ret (v:=.agg #[.bool t1,.slice a1 Z g1,.bool t2,.slice a2 e2 g2]) ?_ rfl ⟨_,_,_,rfl,qr_mk a8 a9,V.o _ _ e7.o,a7⟩; simp [results,Tryz.results23,go_sem,v0,v1,v2,v3]
end Go.Proofs.YtnhbmpnhijgpmaaGreatDoor
