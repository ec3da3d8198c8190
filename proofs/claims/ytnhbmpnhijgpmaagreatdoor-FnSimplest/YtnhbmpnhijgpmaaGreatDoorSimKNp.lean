import Derived.Test.YtnhbmpnhijgpmaaGreatDoorSimEp
import Derived.Test.YtnhbmpnhijgpmaaGreatDoorSimIJp
import Derived.Test.YtnhbmpnhijgpmaaGreatDoorQXp
import Derived.Test.YtnhbmpnhijgpmaaGreatDoorNumXp
set_option maxRecDepth 100000
set_option maxHeartbeats 8000000
namespace Go.Proofs.YtnhbmpnhijgpmaaGreatDoor
def inL (lo:Bool) (a b x y:Int):Prop:=a*y<x*b∨a*y=x*b∧lo=false
def inH (ho:Bool) (c d x y:Int):Prop:=x*d<c*y∨x*d=c*y∧ho=false
theorem inL_floor {lo:Bool} {a b x y:Int} (hb:0<b) (hy:0<y) (h:inL lo a b x y):a / b*y≤x∧(¬ (b=1∧lo=false)→Int.gcd a b=1→a / b*y<x):=by
 obtain ⟨s,r0,r1⟩:=div_parts a b hb; have t:a*y=a / b*y*b+(a - a / b*b)*y:=by
  have:a*y=(a / b*b+(a - a / b*b))*y:=by rw [s]
  rw [this,Int.add_mul,Int.mul_right_comm]
 have u:0≤(a - a / b*b)*y:=Int.mul_nonneg r0 (Int.le_of_lt hy); have i:a / b*y*b≤x*b:=by
  unfold inL at h
  rcases h with h|h<;>omega
 refine ⟨Int.le_of_mul_le_mul_right i hb,fun hn hg=>?_⟩
 rcases Int.lt_or_eq_of_le i with j|j
 ·exact Int.lt_of_mul_lt_mul_right j (Int.le_of_lt hb)
 exfalso
 have m:(a - a / b*b)*y=0∧lo=false:=by
  unfold inL at h
  rcases h with h|h
  ·omega
  exact ⟨by omega,h.2⟩
 have h3:a - a / b*b=0:=by
  rcases Int.mul_eq_zero.1 m.1 with h4|h4
  ·exact h4
  omega
 exact hn ⟨gcd_whole hg hb (show a=a / b*b by omega),m.2⟩
theorem Sim.opt {lo:Bool} {a b:Int} {has ho:Bool} {c d p q:Int} (h:Sim lo a b has ho c d p q):Ends lo a b has ho c d→(inL lo a b p q∧(has=true→inH ho c d p q))∧∀ x y,0<y→inL lo a b x y→(has=true→inH ho c d x y)→q≤y∧p≤x:=by
 induction h using Sim.ind with
 | found lo a b has ho c d h=>
   intro i; have j:=i.b0; refine ⟨⟨?_,fun hh=>?_⟩,fun x y hy hL hH=>⟨by omega,?_⟩⟩
   ·unfold inL simN
    split
    ·rename_i h1; exact .inr ⟨by rw [h1.1],h1.2⟩
    ·left
     obtain ⟨G,r0,r1⟩:=div_parts a b j; rw [Int.add_mul,Int.one_mul,Int.mul_one]; omega
   ·rcases h with h|h
    ·rw [h] at hh; cases hh
    ·unfold simH at h; unfold inH; rw [Int.mul_one]; exact h
   ·obtain ⟨f1,f2⟩:=inL_floor j hy hL; have m:=Int.ediv_nonneg i.a0 (Int.le_of_lt j); unfold simN
    split
    ·rename_i h1; have M:a / b=a:=by rw [h1.1,Int.ediv_one]
     rw [M] at f1; have H:a*1≤a*y:=Int.mul_le_mul_of_nonneg_left (by omega) i.a0; omega
    ·rename_i h1; have H:=f2 h1 i.g; have h3:a / b*1≤a / b*y:=Int.mul_le_mul_of_nonneg_left (by omega) m; omega
 | step lo a b ho c d p q h hr ih=>
   intro i; obtain ⟨J,h1,H,h3⟩:=ends_step i h; have F:¬ (b=1∧lo=false):=by
    intro I; have h4:simN lo a b=a:=by unfold simN; rw [if_pos I]
    rw [h4,I.1,Int.ediv_one] at J; omega
   obtain ⟨⟨K,Q⟩,S⟩:=ih h3; have L:=hr.bound h3; have Z:=(i.hi rfl).1; have j:=i.b0; obtain ⟨G,r0,r1⟩:=div_parts a b j; have m:=Int.ediv_nonneg i.a0 (Int.le_of_lt j); clear ih hr J h; have E:=fun x y hy hL=>(inL_floor (lo:=lo) (a:=a) (b:=b) (x:=x) (y:=y) j hy hL).2 F i.g; generalize a / b=f at *; refine ⟨⟨?_,fun _=>?_⟩,fun x y hy hL hH=>?_⟩
   ·-- the lower end
    unfold inL; have D:a*p=f*p*b+(a - f*b)*p:=by
     have A:a*p=(f*b+(a - f*b))*p:=by rw [G]
     rw [A,Int.add_mul,Int.mul_right_comm]
    have T:(f*p+q)*b=f*p*b+q*b:=Int.add_mul ..
    by_cases h0:a - f*b≠0
    ·have h5:=Q (decide_eq_true h0); unfold inH at h5; have U:p*(a - f*b)=(a - f*b)*p:=Int.mul_comm ..; have V:b*q=q*b:=Int.mul_comm ..
     rcases h5 with h5|h5
     ·left; omega
     ·right; exact ⟨by omega,h5.2⟩
    ·left
     have O:a - f*b=0:=by omega
     have W:(a - f*b)*p=0:=by rw [O,Int.zero_mul]
     have Y:0<q*b:=Int.mul_pos L.2.1 j; omega
   ·-- the upper end
    unfold inH; unfold inL at K; have D:(f*p+q)*d=f*d*p+d*q:=by rw [Int.add_mul,Int.mul_right_comm,Int.mul_comm q d]
    have A:c*p=f*d*p+p*(c - f*d):=by rw [Int.mul_sub,Int.mul_comm p c,Int.mul_comm p (f*d)]; omega
    rcases K with h5|h5
    ·left; omega
    ·right; exact ⟨by omega,h5.2⟩
   ·have t:0<x - f*y:=by have:=E x y hy hL; omega
    have s:=hH rfl; have u:=S y (x - f*y) t (by
     unfold inL; unfold inH at s; have D:y*(c - f*d)=c*y - f*d*y:=by rw [Int.mul_sub,Int.mul_comm y c,Int.mul_comm y (f*d)]
     have A:d*(x - f*y)=x*d - f*d*y:=by rw [Int.mul_sub,Int.mul_comm d x,← Int.mul_assoc,Int.mul_comm d f]
     rcases s with h5|h5
     ·left; omega
     ·right; exact ⟨by omega,h5.2⟩) (fun h0=>by
     unfold inH; unfold inL at hL; have D:y*(a - f*b)=a*y - f*b*y:=by rw [Int.mul_sub,Int.mul_comm y a,Int.mul_comm y (f*b)]
     have A:b*(x - f*y)=x*b - f*b*y:=by rw [Int.mul_sub,Int.mul_comm b x,← Int.mul_assoc,Int.mul_comm b f]
     rcases hL with h5|h5
     ·left; omega
     ·right; exact ⟨by omega,h5.2⟩)
    refine ⟨u.2,?_⟩; have h5:f*p≤f*y:=Int.mul_le_mul_of_nonneg_left u.2 m; omega
open Go.ChangeShapes Go.WideShapes Go.ChangeAt Go.RowKit
attribute [local go_sem ↓] ym_undef
def Btw (h1 o1:Bool) (t1:ByteArray) (h2 o2:Bool) (t2 tx:ByteArray) (k1 k2 kx:Option Nat):Prop:=
 OkE h1 t1 k1∧OkE h2 t2 k2∧∃ x y,RatV tx kx x y∧(∀ a b,h1=true→RatV t1 k1 a b→inL o1 a b x y)∧(∀ c d,h2=true→RatV t2 k2 c d→inH o2 c d x y)
def BtwP (e:Ending) (w w':World) (h1 o1:Bool) (t1:ByteArray) (h2 o2:Bool) (t2 tx:ByteArray) (k1 k2 kx:Option Nat):Prop:=∃ b:Bool,e=.returned (.bool b)∧(b=true↔Btw h1 o1 t1 h2 o2 t2 tx k1 k2 kx)∧Up w w'
theorem inL_ord (o1:Bool) (a b x y:Int):inL o1 a b x y↔(decide (ordI (x*b) (a*y)<0)||(decide (ordI (x*b) (a*y)=0)&&o1))=false:=by
 unfold inL ordI
 rcases Int.lt_trichotomy (x*b) (a*y) with h|h|h
 ·rw [if_pos h]; have i:¬ a*y<x*b:=by omega
  have j:a*y≠x*b:=by omega
  simp [i,j]
 ·rw [if_neg (by omega),if_neg (by omega)]
  cases o1<;>simp [h.symm]
 rw [if_neg (by omega),if_pos h]; simp [h]
theorem inH_ord (o2:Bool) (c d x y:Int):inH o2 c d x y↔(decide (0<ordI (x*d) (c*y))||(decide (ordI (x*d) (c*y)=0)&&o2))=false:=by
 unfold inH ordI
 rcases Int.lt_trichotomy (x*d) (c*y) with h|h|h
 ·rw [if_pos h]; simp [h]
 ·rw [if_neg (by omega),if_neg (by omega)]
  cases o2<;>simp [h]
 rw [if_neg (by omega),if_pos h]; have i:¬ x*d<c*y:=by omega
 have j:x*d≠c*y:=by omega
 simp [i,j]
theorem cmp_of {s t:ByteArray} {ks kt:Option Nat} {r x y a b:Int} (h:IsResC s t r) (cs:IsCut s ks) (ct:IsCut t kt) (hs:RatV s ks x y) (ht:RatV t kt a b):r=ordI (x*b) (a*y):=by
 obtain ⟨k,m,u,A,h⟩:=h; obtain rfl:=isCut_unique u cs; obtain rfl:=isCut_unique A ct
 rcases h with ⟨D,F,E,G,i,j,rfl⟩|⟨n,_⟩
 ·obtain ⟨rfl,rfl⟩:=ratV_one i hs; obtain ⟨rfl,rfl⟩:=ratV_one j ht; rfl
 exact absurd ⟨⟨_,_,hs⟩,_,_,ht⟩ n
theorem between_any (h1 o1:Bool) (t1:ByteArray) (h2 o2:Bool) (t2 tx:ByteArray) (c1_ c2_ cx_:Option Nat) (w:World) (ht1:t1.size≤maxLen) (ht2:t2.size≤maxLen) (htx:tx.size≤maxLen) (hk1:IsCut t1 c1_) (hk2:IsCut t2 c2_) (hkx:IsCut tx cx_) :
 Calls Tryz.prog 8 #[.agg #[.bool h1,.bool o1,.string t1],.agg #[.bool h2,.bool o2,.string t2],.string tx] w fun e w'=>BtwP e w w' h1 o1 t1 h2 o2 t2 tx c1_ c2_ cx_:=by
 have d8:=Hd hk1; have b3:=Hd hk2; have O:=Hd hkx; clear hk1 hk2 hkx; obtain ⟨I,a6⟩:=exW ((w.alloc (.cells #[.bool h1,.bool o1,.string t1] 24)).alloc (.cells #[.bool h2,.bool o2,.string t2] 24)); have e6:=Hd a6; have d6:Hid (Up w I):=by unfold Hid; rw [← a6]; exact below_al (below_alloc _ _) _
 have g0:Hid (I.heap.size=w.heap.size+2):=by show I.heap.size=_; rw [← a6]; simp
 have K:Bx I (w.heap.size) [.bool h1,.bool o1,.string t1]:=by
  rw [← a6]; exact (bx_new w _ _).alloc _
 have L:Bx I (w.heap.size+1) [.bool h2,.bool o2,.string t2]:=by
  rw [← a6]; have h:=bx_new (w.alloc (.cells #[.bool h1,.bool o1,.string t1] 24)) [.bool h2,.bool o2,.string t2] 24; rw [World.size_alloc] at h; exact h
 have J:Hid (∀ W,Up I W→Bx W (w.heap.size) [.bool h1,.bool o1,.string t1]∧Bx W (w.heap.size+1) [.bool h2,.bool o2,.string t2]):=fun W hW=>⟨K.below K.lt hW,L.below L.lt hW⟩; obtain ⟨k0,k1,k2⟩:=K.k3; obtain ⟨j0,j1,j2⟩:=L.k3; clear a6 K L
 go_enter Tryz.func8,Tryz.ntmps8
 go_upto_region 1 with fail
 rw [e6.o]
 go_cut [31,43,59] (fun q31 q43 q59 wx=>∃ bad,q31=.bool bad∧q43=undef∧q59=undef∧(bad=true→¬ (OkE h1 t1 c1_∧OkE h2 t2 c2_∧∃ x y,RatV tx cx_ x y))∧(bad=false→OkE h1 t1 c1_∧OkE h2 t2 c2_∧∃ x y,RatV tx cx_ x y)∧Up I wx)
 case first=>
  have TR:Hid (∀ (t:ByteArray) (k:Option Nat) (ht:t.size≤maxLen) (hk:IsCut t k) W,Calls Tryz.prog 15 #[.string t] W (fun e w'=>∃ b,e=.returned (.bool b)∧(b=true↔∃ x y,RatV t k x y)∧Up W w')):=fun t k ht hk W=>by
   refine (specIsRat_any t W ht).mono ?_; rintro e w' ⟨b,rfl,⟨k',e7,hi⟩,hb⟩; obtain rfl:=isCut_unique e7 hk; exact ⟨b,rfl,hi,hb⟩
  cases h1
  ·cases h2
   ·go_wp2_with fail
    refine (TR.o tx cx_ htx O.o _).mono ?_; rintro e wz ⟨b,rfl,hi,hb⟩; have G:=Hd hi; have E:Hid (Up I wz):=(Below.refl I.heap.size I).trans (hb.mono (Below.refl I.heap.size I).size); clear hi hb
    cases b
    ·go_wp2_with fail
     go_meet
     exact ⟨true,rfl,rfl,rfl,fun _ h=>(Bool.noConfusion (G.o.2 h.2.2):False),fun e=>(by cases e),E.o⟩
    ·go_wp2_with fail
     go_meet
     exact ⟨false,rfl,rfl,rfl,fun e=>(by cases e),fun _=>⟨fun e=>(by cases e),fun e=>(by cases e),G.o.1 (by first|rfl|trivial)⟩,E.o⟩
   ·go_wp2_with fail
    refine (TR.o t2 c2_ ht2 b3.o _).mono ?_; rintro e wy ⟨b,rfl,hi,hb⟩; have a9:=Hd hi; have V:Hid (Up I wy):=(Below.refl I.heap.size I).trans (hb.mono (Below.refl I.heap.size I).size); clear hi hb
    cases b
    ·go_wp2_with fail
     go_meet
     exact ⟨true,rfl,rfl,rfl,fun _ h=>(Bool.noConfusion (a9.o.2 (h.2.1 rfl)):False),fun e=>(by cases e),V.o⟩
    ·go_wp2_with fail
     refine (TR.o tx cx_ htx O.o _).mono ?_; rintro e wz ⟨b,rfl,hi,hb⟩; have G:=Hd hi; have E:Hid (Up I wz):=V.o.trans (hb.mono V.o.size); clear hi hb
     cases b
     ·go_wp2_with fail
      go_meet
      exact ⟨true,rfl,rfl,rfl,fun _ h=>(Bool.noConfusion (G.o.2 h.2.2):False),fun e=>(by cases e),E.o⟩
     ·go_wp2_with fail
      go_meet
      exact ⟨false,rfl,rfl,rfl,fun e=>(by cases e),fun _=>⟨fun e=>(by cases e),fun _=>a9.o.1 (by first|rfl|trivial),G.o.1 (by first|rfl|trivial)⟩,E.o⟩
  ·go_wp2_with fail
   refine (TR.o t1 c1_ ht1 d8.o _).mono ?_; rintro e wv ⟨b,rfl,hi,hb⟩; have d0:=Hd hi; have a8:=Hd hb; have j:=(J.o wv hb).2; obtain ⟨m0,m1,m2⟩:=j.k3; clear hi hb j
   cases b
   ·go_wp2_with fail
    go_meet
    exact ⟨true,rfl,rfl,rfl,fun _ h=>(Bool.noConfusion (d0.o.2 (h.1 rfl)):False),fun e=>(by cases e),a8.o⟩
   ·cases h2
    ·go_wp2_with fail
     refine (TR.o tx cx_ htx O.o _).mono ?_; rintro e wz ⟨b,rfl,hi,hb⟩; have G:=Hd hi; have E:Hid (Up I wz):=a8.o.trans (hb.mono a8.o.size); clear hi hb
     cases b
     ·go_wp2_with fail
      go_meet
      exact ⟨true,rfl,rfl,rfl,fun _ h=>(Bool.noConfusion (G.o.2 h.2.2):False),fun e=>(by cases e),E.o⟩
     ·go_wp2_with fail
      go_meet
      exact ⟨false,rfl,rfl,rfl,fun e=>(by cases e),fun _=>⟨fun _=>d0.o.1 (by first|rfl|trivial),fun e=>(by cases e),G.o.1 (by first|rfl|trivial)⟩,E.o⟩
    ·go_wp2_with fail
     refine (TR.o t2 c2_ ht2 b3.o _).mono ?_; rintro e wy ⟨b,rfl,hi,hb⟩; have a9:=Hd hi; have V:Hid (Up I wy):=a8.o.trans (hb.mono a8.o.size); clear hi hb
     cases b
     ·go_wp2_with fail
      go_meet
      exact ⟨true,rfl,rfl,rfl,fun _ h=>(Bool.noConfusion (a9.o.2 (h.2.1 rfl)):False),fun e=>(by cases e),V.o⟩
     ·go_wp2_with fail
      refine (TR.o tx cx_ htx O.o _).mono ?_; rintro e wz ⟨b,rfl,hi,hb⟩; have G:=Hd hi; have E:Hid (Up I wz):=V.o.trans (hb.mono V.o.size); clear hi hb
      cases b
      ·go_wp2_with fail
       go_meet
       exact ⟨true,rfl,rfl,rfl,fun _ h=>(Bool.noConfusion (G.o.2 h.2.2):False),fun e=>(by cases e),E.o⟩
      ·go_wp2_with fail
       go_meet
       exact ⟨false,rfl,rfl,rfl,fun e=>(by cases e),fun _=>⟨fun _=>d0.o.1 (by first|rfl|trivial),fun _=>a9.o.1 (by first|rfl|trivial),G.o.1 (by first|rfl|trivial)⟩,E.o⟩
 case rest=>
  obtain ⟨bad,rfl,rfl,rfl,c7,b4,d3⟩:=hcut; obtain ⟨wa,rfl⟩:∃ wa,wa=wc:=⟨_,rfl⟩; have a3:=Hd d3; have a5:Hid (Up w wa):=d6.o.trans (d3.mono d6.o.size); have d7:=Hd c7; have c9:=Hd b4; clear d3 c7 b4 k0 k1 k2 j0 j1 j2
  cases bad
  ·obtain ⟨e1,e2,x,y,hx⟩:=c9.o (by first|rfl|trivial); have u:Hid (OkE h1 t1 c1_∧OkE h2 t2 c2_):=⟨e1,e2⟩; have Y:=Hd hx; clear e1 e2 hx; have b5:=(J.o wa a3.o).1; obtain ⟨k0,k1,k2⟩:=b5.k3; clear b5
   cases e0:h1
   ·subst e0; have D:Hid (∀ a b,false=true→RatV t1 c1_ a b→inL o1 a b x y):=fun a b e=>(by cases e); have j:=(J.o wa a3.o).2; obtain ⟨j0,j1,j2⟩:=j.k3; clear j
    cases S:h2
    ·have a7:Hid (Btw false o1 t1 false o2 t2 tx c1_ c2_ cx_):=⟨u.o.1,fun e=>(by cases e),x,y,Y.o,fun a b e=>D.o a b (by first|exact e|rfl|trivial),fun c d e=>(by cases e)⟩; subst S
     go_wp2
     go_ret
     exact ⟨true,rfl,⟨fun _=>a7.o,fun _=>rfl⟩,a5.o⟩
    ·subst S; obtain ⟨c,d,Q⟩:=u.o.2 rfl; have F:=Hd Q; clear Q
     go_wp2_with fail
     refine (specRatCmp_any tx t2 _ htx ht2).mono ?_; rintro e wr ⟨r2,rfl,m,hb⟩; have H:=cmp_of m O.o b3.o Y.o F.o; have s:Hid (Up w wr):=a5.o.trans (hb.mono a5.o.size); have j:=(J.o wr (a3.o.trans (hb.mono a3.o.size))).2; have HO:Hid (inH o2 c d x y↔(decide (0<ordI (x*d) (c*y))||(decide (ordI (x*d) (c*y)=0)&&o2))=false):=inH_ord o2 c d x y; rw [← H] at HO; have h3:=ordI_three (x*d) (c*y); rw [← H] at h3; clear m hb H j0 j1 j2; obtain ⟨j0,j1,j2⟩:=j.k3; clear j; have i:Hid (∀ b:Bool,b=!(decide (0<r2)||(decide (r2=0)&&o2))→(b=true↔Btw false o1 t1 true o2 t2 tx c1_ c2_ cx_)):=fun b hb=>by
      have T:b=true↔inH o2 c d x y:=by
       rw [HO.o,hb]
       cases (decide (0<r2)||(decide (r2=0)&&o2))<;>simp
      rw [T]; constructor
      ·intro A; refine ⟨u.o.1,u.o.2,x,y,Y.o,fun a b e=>D.o a b (by first|exact e|rfl|trivial),fun c' d' _ hv=>?_⟩; obtain ⟨rfl,rfl⟩:=ratV_one hv F.o; exact A
      ·rintro ⟨_,_,x',y',hv,_,A⟩; obtain ⟨rfl,rfl⟩:=ratV_one hv Y.o; exact A c d rfl F.o
     rcases h3 with rfl|rfl|rfl
     ·go_wp2
      go_ret
      exact ⟨true,rfl,i.o true rfl,s.o⟩
     ·cases o2
      ·go_wp2
       go_ret
       exact ⟨true,rfl,i.o true rfl,s.o⟩
      ·go_wp2
       go_ret
       exact ⟨false,rfl,i.o false rfl,s.o⟩
     ·go_wp2
      go_ret
      exact ⟨false,rfl,i.o false rfl,s.o⟩
   ·subst e0; obtain ⟨a,b,d9⟩:=u.o.1 rfl; have c8:=Hd d9; clear d9
    go_wp2_with fail
    refine (specRatCmp_any tx t1 _ htx ht1).mono ?_; rintro e wp ⟨r1,rfl,m,hb⟩; have d4:=cmp_of m O.o d8.o Y.o c8.o; have U:Hid (Up I wp):=a3.o.trans (hb.mono a3.o.size); have M:Hid (Up w wp):=a5.o.trans (hb.mono a5.o.size); have b5:=(J.o wp U.o).1; have d1:Hid (inL o1 a b x y↔(decide (ordI (x*b) (a*y)<0)||(decide (ordI (x*b) (a*y)=0)&&o1))=false):=inL_ord o1 a b x y; rw [← d4] at d1; have h3:=ordI_three (x*b) (a*y); rw [← d4] at h3; clear m hb d4 k0 k1 k2; obtain ⟨k0,k1,k2⟩:=b5.k3; clear b5; have b9:Hid ((decide (r1<0)||(decide (r1=0)&&o1))=true→¬ Btw true o1 t1 h2 o2 t2 tx c1_ c2_ cx_):=fun hf=>by
     rintro ⟨_,_,x',y',hv,A,_⟩; obtain ⟨rfl,rfl⟩:=ratV_one hv Y.o; have:=d1.o.1 (A a b rfl c8.o); rw [hf] at this
     cases this
    have Z:Hid ((decide (r1<0)||(decide (r1=0)&&o1))=false→∀ a' b',true=true→RatV t1 c1_ a' b'→inL o1 a' b' x y):=fun hf a' b' _ hv=>by
     obtain ⟨rfl,rfl⟩:=ratV_one hv c8.o; exact d1.o.2 hf
    rcases h3 with rfl|rfl|rfl
    ·go_wp2
     go_ret
     exact ⟨false,rfl,⟨fun e=>(by cases e),fun e=>absurd e (b9.o rfl)⟩,M.o⟩
    ·cases o1
     ·have D:=Hd (Z.o rfl); clear Z b9; have j:=(J.o wp U.o).2; obtain ⟨j0,j1,j2⟩:=j.k3; clear j
      cases S:h2
      ·have a7:Hid (Btw true false t1 false o2 t2 tx c1_ c2_ cx_):=⟨u.o.1,fun e=>(by cases e),x,y,Y.o,fun a b e=>D.o a b (by first|exact e|rfl|trivial),fun c d e=>(by cases e)⟩; subst S
       go_wp2
       go_ret
       exact ⟨true,rfl,⟨fun _=>a7.o,fun _=>rfl⟩,M.o⟩
      ·subst S; obtain ⟨c,d,Q⟩:=u.o.2 rfl; have F:=Hd Q; clear Q
       go_wp2_with fail
       refine (specRatCmp_any tx t2 _ htx ht2).mono ?_; rintro e wr ⟨r2,rfl,m,hb⟩; have H:=cmp_of m O.o b3.o Y.o F.o; have s:Hid (Up w wr):=M.o.trans (hb.mono M.o.size); have j:=(J.o wr (U.o.trans (hb.mono U.o.size))).2; have HO:Hid (inH o2 c d x y↔(decide (0<ordI (x*d) (c*y))||(decide (ordI (x*d) (c*y)=0)&&o2))=false):=inH_ord o2 c d x y; rw [← H] at HO; have h3:=ordI_three (x*d) (c*y); rw [← H] at h3; clear m hb H j0 j1 j2; obtain ⟨j0,j1,j2⟩:=j.k3; clear j; have i:Hid (∀ b:Bool,b=!(decide (0<r2)||(decide (r2=0)&&o2))→(b=true↔Btw true false t1 true o2 t2 tx c1_ c2_ cx_)):=fun b hb=>by
        have T:b=true↔inH o2 c d x y:=by
         rw [HO.o,hb]
         cases (decide (0<r2)||(decide (r2=0)&&o2))<;>simp
        rw [T]; constructor
        ·intro A; refine ⟨u.o.1,u.o.2,x,y,Y.o,fun a b e=>D.o a b (by first|exact e|rfl|trivial),fun c' d' _ hv=>?_⟩; obtain ⟨rfl,rfl⟩:=ratV_one hv F.o; exact A
        ·rintro ⟨_,_,x',y',hv,_,A⟩; obtain ⟨rfl,rfl⟩:=ratV_one hv Y.o; exact A c d rfl F.o
       rcases h3 with rfl|rfl|rfl
       ·go_wp2
        go_ret
        exact ⟨true,rfl,i.o true rfl,s.o⟩
       ·cases o2
        ·go_wp2
         go_ret
         exact ⟨true,rfl,i.o true rfl,s.o⟩
        ·go_wp2
         go_ret
         exact ⟨false,rfl,i.o false rfl,s.o⟩
       ·go_wp2
        go_ret
        exact ⟨false,rfl,i.o false rfl,s.o⟩
     ·go_wp2
      go_ret
      exact ⟨false,rfl,⟨fun e=>(by cases e),fun e=>absurd e (b9.o rfl)⟩,M.o⟩
    ·have D:=Hd (Z.o rfl); clear Z b9; have j:=(J.o wp U.o).2; obtain ⟨j0,j1,j2⟩:=j.k3; clear j
     cases S:h2
     ·have a7:Hid (Btw true o1 t1 false o2 t2 tx c1_ c2_ cx_):=⟨u.o.1,fun e=>(by cases e),x,y,Y.o,fun a b e=>D.o a b (by first|exact e|rfl|trivial),fun c d e=>(by cases e)⟩; subst S
      go_wp2
      go_ret
      exact ⟨true,rfl,⟨fun _=>a7.o,fun _=>rfl⟩,M.o⟩
     ·subst S; obtain ⟨c,d,Q⟩:=u.o.2 rfl; have F:=Hd Q; clear Q
      go_wp2_with fail
      refine (specRatCmp_any tx t2 _ htx ht2).mono ?_; rintro e wr ⟨r2,rfl,m,hb⟩; have H:=cmp_of m O.o b3.o Y.o F.o; have s:Hid (Up w wr):=M.o.trans (hb.mono M.o.size); have j:=(J.o wr (U.o.trans (hb.mono U.o.size))).2; have HO:Hid (inH o2 c d x y↔(decide (0<ordI (x*d) (c*y))||(decide (ordI (x*d) (c*y)=0)&&o2))=false):=inH_ord o2 c d x y; rw [← H] at HO; have h3:=ordI_three (x*d) (c*y); rw [← H] at h3; clear m hb H j0 j1 j2; obtain ⟨j0,j1,j2⟩:=j.k3; clear j; have i:Hid (∀ b:Bool,b=!(decide (0<r2)||(decide (r2=0)&&o2))→(b=true↔Btw true o1 t1 true o2 t2 tx c1_ c2_ cx_)):=fun b hb=>by
       have T:b=true↔inH o2 c d x y:=by
        rw [HO.o,hb]
        cases (decide (0<r2)||(decide (r2=0)&&o2))<;>simp
       rw [T]; constructor
       ·intro A; refine ⟨u.o.1,u.o.2,x,y,Y.o,fun a b e=>D.o a b (by first|exact e|rfl|trivial),fun c' d' _ hv=>?_⟩; obtain ⟨rfl,rfl⟩:=ratV_one hv F.o; exact A
       ·rintro ⟨_,_,x',y',hv,_,A⟩; obtain ⟨rfl,rfl⟩:=ratV_one hv Y.o; exact A c d rfl F.o
      rcases h3 with rfl|rfl|rfl
      ·go_wp2
       go_ret
       exact ⟨true,rfl,i.o true rfl,s.o⟩
      ·cases o2
       ·go_wp2
        go_ret
        exact ⟨true,rfl,i.o true rfl,s.o⟩
       ·go_wp2
        go_ret
        exact ⟨false,rfl,i.o false rfl,s.o⟩
      ·go_wp2
       go_ret
       exact ⟨false,rfl,i.o false rfl,s.o⟩
  ·have HN:Hid (¬ Btw h1 o1 t1 h2 o2 t2 tx c1_ c2_ cx_):=fun hb=>d7.o (by first|rfl|trivial) ⟨hb.1,hb.2.1,by obtain ⟨_,_,x,y,hv,_⟩:=hb; exact ⟨x,y,hv⟩⟩
   go_wp2
   go_ret
   exact ⟨false,rfl,⟨fun e=>(by cases e),fun e=>absurd e HN.o⟩,a5.o⟩
attribute [local go_sem ↓] ym_undef
def Less (x y p q:Int):Prop:=y<q∨y=q∧(x.natAbs<p.natAbs∨x.natAbs=p.natAbs∧0<x∧p<0)
def SmpP (e:Ending) (w w':World) (tx ts:ByteArray) (kx ks:Option Nat):Prop:=∃ b:Bool,e=.returned (.bool b)∧(b=true→∃ x y p q,RatV tx kx x y∧RatV ts ks p q∧Less x y p q)∧Up w w'
theorem ord_eq {x y r:Int} (h:ordI x y=r):(r = -1→x<y)∧(r=0→x=y)∧(r=1→y<x):=by
 unfold ordI at h
 split at h
 ·exact ⟨fun _=>by assumption,fun e=>by omega,fun e=>by omega⟩
 split at h
 ·exact ⟨fun e=>by omega,fun e=>by omega,fun _=>by assumption⟩
 exact ⟨fun e=>by omega,fun _=>by omega,fun e=>by omega⟩
theorem IsN.ofZ {B:Nat} {w:World} {z:Value} {x:Int} {n:Nat} (h:NumZ B w z x n):IsN B w z x:=by
 obtain ⟨neg,t,j,i,_⟩:=h; exact ⟨neg,t,j,i⟩
theorem simpler_any (tx ts:ByteArray) (kx_ ks_:Option Nat) (w:World) (htx:tx.size≤maxLen) (hts:ts.size≤maxLen) (hkx:IsCut tx kx_) (hks:IsCut ts ks_) :
 Calls Tryz.prog 10 #[.string tx,.string ts] w fun e w'=>SmpP e w w' tx ts kx_ ks_:=by
 have m7:=Hd hkx; have m6:=Hd hks; clear hkx hks; have TR:Hid (∀ (t:ByteArray) (k:Option Nat) (ht:t.size≤maxLen) (hk:IsCut t k) W,Calls Tryz.prog 15 #[.string t] W (fun e w'=>∃ b,e=.returned (.bool b)∧(b=true↔∃ x y,RatV t k x y)∧Up W w')):=fun t k ht hk W=>by
  refine (specIsRat_any t W ht).mono ?_; rintro e w' ⟨b,rfl,⟨k',q9,hi⟩,i⟩; obtain rfl:=isCut_unique q9 hk; exact ⟨b,rfl,hi,i⟩
 go_enter Tryz.func10,Tryz.ntmps10
 go_wp2_with fail
 refine (TR.o tx kx_ htx m7.o _).mono ?_; rintro e wa ⟨b,rfl,hi,i⟩; have m5:=Hd hi; have i2:=Hd i; clear hi i
 cases b
 ·go_wp2
  go_ret
  exact ⟨false,rfl,fun e=>(by cases e),i2.o⟩
 go_wp2_with fail
 refine (TR.o ts ks_ hts m6.o _).mono ?_; rintro e wb ⟨b,rfl,hi,i⟩; have l9:=Hd hi; have i3:Hid (Up w wb):=i2.o.trans (i.mono i2.o.size); clear hi i
 cases b
 ·go_wp2
  go_ret
  exact ⟨false,rfl,fun e=>(by cases e),i3.o⟩
 obtain ⟨x,y,p0⟩:=m5.o.1 (by first|rfl|trivial); obtain ⟨p,q,o8⟩:=l9.o.1 (by first|rfl|trivial); have e8:=Hd p0; have e5:=Hd o8; clear p0 o8 m5 l9
 go_wp2_with fail
 refine (l2Read_any tx kx_ x y _ htx m7.o e8.o).mono ?_; rintro e w1 ⟨z,rfl,L,i⟩; have L:=qn_zero L; obtain ⟨a1,n1,d1,l1,c1,a2,n2,d2,l2,c2,rfl,d8,d9⟩:=L; have H1:=Hd d8; have H2:=Hd d9; have j8:Hid (Up w w1):=i3.o.trans (i.mono i3.o.size); clear d8 d9 i; obtain ⟨W1,b8⟩:=exW (w1.alloc (.cells #[.int .i64 a1,.bool n1,.slice d1 l1 c1,.int .i64 a2,.bool n2,.slice d2 l2 c2] 51)); have q1:=Hd b8; have j6:Hid (Up w1 W1):=by unfold Hid; rw [← b8]; exact below_alloc _ _
 have u5:Hid (W1.heap.size=w1.heap.size+1):=by show W1.heap.size=_; rw [← b8]; simp
 have K:Bx W1 (w1.heap.size) [.int .i64 a1,.bool n1,.slice d1 l1 c1,.int .i64 a2,.bool n2,.slice d2 l2 c2]:=by
  rw [← b8]; exact bx_new w1 _ _
 have i5:Hid (∀ W,Up W1 W→Bx W (w1.heap.size) [.int .i64 a1,.bool n1,.slice d1 l1 c1,.int .i64 a2,.bool n2,.slice d2 l2 c2]):=fun W hW=>K.below K.lt hW; clear b8 K
 go_upto_region 4 with fail
 rw [q1.o]
 go_wp2_with fail
 refine (l2Read_any ts ks_ p q _ hts m6.o e5.o).mono ?_; rintro e w2 ⟨z,rfl,L,i⟩; have L:=qn_zero L; obtain ⟨a3,n3,d3,l3,c3,a4,n4,d4,l4,c4,rfl,d8,d9⟩:=L; have H3:=Hd d8; have H4:=Hd d9; have j7:=Hd i; clear d8 d9 i; obtain ⟨W2,b9⟩:=exW (w2.alloc (.cells #[.int .i64 a3,.bool n3,.slice d3 l3 c3,.int .i64 a4,.bool n4,.slice d4 l4 c4] 51)); have q2:=Hd b9; have e0:Hid (Up w2 W2):=by unfold Hid; rw [← b9]; exact below_alloc _ _
 have u6:Hid (W2.heap.size=w2.heap.size+1):=by show W2.heap.size=_; rw [← b9]; simp
 have G:Bx W2 (w2.heap.size) [.int .i64 a3,.bool n3,.slice d3 l3 c3,.int .i64 a4,.bool n4,.slice d4 l4 c4]:=by
  rw [← b9]; exact bx_new w2 _ _
 have o3:Hid (∀ W,Up W2 W→Bx W (w2.heap.size) [.int .i64 a3,.bool n3,.slice d3 l3 c3,.int .i64 a4,.bool n4,.slice d4 l4 c4]):=fun W hW=>G.below G.lt hW; clear b9; have D:Hid (Up W1 W2):=j7.o.trans (e0.o.mono j7.o.size); have e2:Hid (Up w1 W2):=j6.o.trans (D.o.mono j6.o.size); have j9:Hid (Up w W2):=j8.o.trans (e2.o.mono j8.o.size); have j:=i5.o W2 D.o; obtain ⟨k0,k1,k2,k3,k4,k5⟩:=j.k6; obtain ⟨j0,j1,j2,j3,j4,j5⟩:=G.k6; clear j G
 go_upto_region 5 with fail
 rw [q2.o]
 go_wp2_with fail
 refine (l1CmpN_any 0 _ _ y q W2 (Nat.zero_le _) (IsN.ofZ (H2.o.below e2.o)) (IsN.ofZ (H4.o.below e0.o))).mono ?_; rintro e F ⟨rfl,i⟩; have V:=Hd i; have S:Hid (Up w F):=j9.o.trans (i.mono j9.o.size); have h3:=ordI_three y q; obtain ⟨r,hr⟩:=exW (ordI y q); have HR:=Hd (ord_eq hr); rw [hr] at h3 ⊢; clear i hr k0 j0 k1 j1 k2 j2 k3 j3 k4 j4 k5 j5
 rcases h3 with rfl|rfl|rfl
 ·go_wp2
  go_ret
  exact ⟨true,rfl,fun _=>⟨x,y,p,q,e8.o,e5.o,.inl (HR.o.1 (by first|rfl|trivial))⟩,S.o⟩
 ·have l0:Hid (Up w1 F):=e2.o.trans (V.o.mono e2.o.size); have l7:Hid (Up w2 F):=e0.o.trans (V.o.mono e0.o.size); have j:=i5.o F (D.o.trans (V.o.mono D.o.size)); obtain ⟨k0,k1,k2,k3,k4,k5⟩:=j.k6; clear j; obtain ⟨W3,c7⟩:=exW (F.alloc (.cells #[.int .i64 a1,.bool n1,.slice d1 l1 c1] 49)); have q3:=Hd c7; have e1:Hid (Up F W3):=by unfold Hid; rw [← c7]; exact below_alloc _ _
  have u7:Hid (W3.heap.size=F.heap.size+1):=by show W3.heap.size=_; rw [← c7]; simp
  have H:Bx W3 (F.heap.size) [.int .i64 a1,.bool n1,.slice d1 l1 c1]:=by
   rw [← c7]; exact bx_new F _ _
  have v0:Hid (∀ W,Up W3 W→Bx W (F.heap.size) [.int .i64 a1,.bool n1,.slice d1 l1 c1]):=fun W hW=>H.below H.lt hW; have i6:=Hd H; clear c7 H; have u2:Hid (Up w W3):=S.o.trans (e1.o.mono S.o.size); have n7:Hid (NumZ 0 W3 (.agg #[.int .i64 a1,.bool n1,.slice d1 l1 c1]) (x) 1000):=(H1.o.below l0.o).below e1.o
  go_upto_region 9 with fail
  rw [q3.o]; have s:=i6.o; obtain ⟨g0,g1,g2⟩:=s.k3; clear s k0 k1 k2 k3 k4 k5
  go_wp2_with fail
  refine (l1Sign_any 0 _ x 1000 W3 (Nat.zero_le _) n7.o).mono ?_; rintro e w4 ⟨rfl,i⟩; have h3:=ordI_three x 0; obtain ⟨r1,e9⟩:=exW (ordI x 0); have e6:=Hd (ord_eq e9); have m9:=Hd e9; rw [e9] at h3 ⊢; have E:=Hd (i6.o.below i6.o.lt i); have Z:=Hd (n7.o.below i); have e3:Hid (Up F w4):=e1.o.trans (i.mono e1.o.size); have v2:F.heap.size<w4.heap.size:=E.o.lt; clear e9 i g0 g1 g2
  go_upto_if 36 with fail
  go_cut [] (fun wx=>∃ (a5:Int) (n5:Bool) (d5:Option Addr) (l5 c5:Nat),Bx wx F.heap.size [.int .i64 a5,.bool n5,.slice d5 l5 c5]∧NumZ 0 wx (.agg #[.int .i64 a5,.bool n5,.slice d5 l5 c5]) ((x.natAbs:Int)) 1000∧Up F wx)
  case first=>
   rcases h3 with rfl|rfl|rfl
   ·have s:=E.o; obtain ⟨g0,g1,g2⟩:=s.k3; obtain ⟨b5,b6,b7⟩:=s.f3; clear s
    go_wp2_with fail
    refine (l1MinusN_any _ x 1000 w4 Z.o).mono ?_; rintro e w5 ⟨z,rfl,L,i⟩; obtain ⟨a5,n5,d5,l5,c5,rfl⟩:=L.shape'; have HZ:=Hd L; have p1:Hid (Up F w5):=e3.o.trans (i.mono e3.o.size); have g3:=Hd (E.o.below E.o.lt i); have s:=g3.o; clear L i g0 g1 g2 b5 b6 b7; obtain ⟨g0,g1,g2⟩:=s.k3; obtain ⟨b5,b6,b7⟩:=s.f3; clear s
    go_wp2_with fail
    go_meet
    have j:=g3.o; have c9:NoInt w5 F.heap.size:=noInt_of j (by simp); have d0:(x.natAbs:Int) = -x:=by have:=e6.o.1 (by first|rfl|trivial); omega
    exact ⟨_,_,_,_,_,(((j.set 0 (.int .i64 a5)).set 1 (.bool n5)).set 2 (.slice d5 l5 c5)),by rw [d0]; exact HZ.o.keeps c9 c9 (keepsC3 w5 F.heap.size (.int .i64 a5) (.bool n5) (.slice d5 l5 c5)),(((p1.o.setCell (p:=⟨F.heap.size,0,none⟩) leR (.int .i64 a5)).setCell (p:=⟨F.heap.size,1,none⟩) leR (.bool n5)).setCell (p:=⟨F.heap.size,2,none⟩) leR (.slice d5 l5 c5))⟩
   ·go_wp2_with fail
    go_meet
    have u:(x.natAbs:Int)=x:=by have:=e6.o.2.1 (by first|rfl|trivial); omega
    exact ⟨_,_,_,_,_,E.o,by rw [u]; exact Z.o,e3.o⟩
   ·go_wp2_with fail
    go_meet
    have u:(x.natAbs:Int)=x:=by have:=e6.o.2.2 (by first|rfl|trivial); omega
    exact ⟨_,_,_,_,_,E.o,by rw [u]; exact Z.o,e3.o⟩
  case rest=>
   obtain ⟨a5,n5,d5,l5,c5,T,d7,m⟩:=hcut; obtain ⟨w6,rfl⟩:∃ w6,w6=wc:=⟨_,rfl⟩; have Q:=Hd T; have f9:=Hd d7; have p2:=Hd m; have k7:Hid (Up w w6):=S.o.trans (m.mono S.o.size); have l8:Hid (Up w2 w6):=l7.o.trans (m.mono l7.o.size); have Y:Hid (Up W2 w6):=V.o.trans (m.mono V.o.size); clear T d7 m; have j:=o3.o w6 Y.o; obtain ⟨k0,k1,k2,k3,k4,k5⟩:=j.k6; clear j; obtain ⟨W6,c8⟩:=exW (w6.alloc (.cells #[.int .i64 a3,.bool n3,.slice d3 l3 c3] 49)); have q4:=Hd c8; have U:Hid (Up w6 W6):=by unfold Hid; rw [← c8]; exact below_alloc _ _
   have u9:Hid (W6.heap.size=w6.heap.size+1):=by show W6.heap.size=_; rw [← c8]; simp
   have I:Bx W6 (w6.heap.size) [.int .i64 a3,.bool n3,.slice d3 l3 c3]:=by
    rw [← c8]; exact bx_new w6 _ _
   have v1:Hid (∀ W,Up W6 W→Bx W (w6.heap.size) [.int .i64 a3,.bool n3,.slice d3 l3 c3]):=fun W hW=>I.below I.lt hW; have i7:=Hd I; clear c8 I; have n9:Hid (NumZ 0 W6 (.agg #[.int .i64 a3,.bool n3,.slice d3 l3 c3]) (p) 1000):=(H3.o.below l8.o).below U.o; have q5:=Hd (Q.o.below Q.o.lt U.o); have q0:=Hd (f9.o.below U.o)
   go_upto_region 12 with fail
   rw [q4.o]; have A:=i7.o; obtain ⟨g0,g1,g2⟩:=A.k3; clear A k0 k1 k2 k3 k4 k5
   go_wp2_with fail
   refine (l1Sign_any 0 _ p 1000 W6 (Nat.zero_le _) n9.o).mono ?_; rintro e w7 ⟨rfl,i⟩; have h4:=ordI_three p 0; obtain ⟨r2,f5⟩:=exW (ordI p 0); have e7:=Hd (ord_eq f5); have n0:=Hd f5; rw [f5] at h4 ⊢; have J:=Hd (i7.o.below i7.o.lt i); have a7:=Hd (n9.o.below i); have e4:Hid (Up w6 w7):=U.o.trans (i.mono U.o.size); clear f5 i g0 g1 g2
   go_upto_if 43 with fail
   go_cut [] (fun wx=>∃ (a6:Int) (n6:Bool) (d6:Option Addr) (l6 c6:Nat),Bx wx w6.heap.size [.int .i64 a6,.bool n6,.slice d6 l6 c6]∧NumZ 0 wx (.agg #[.int .i64 a6,.bool n6,.slice d6 l6 c6]) ((p.natAbs:Int)) 1000∧Up w6 wx)
   case first=>
    rcases h4 with rfl|rfl|rfl
    ·have A:=J.o; obtain ⟨g0,g1,g2⟩:=A.k3; obtain ⟨b5,b6,b7⟩:=A.f3; clear A
     go_wp2_with fail
     refine (l1MinusN_any _ p 1000 w7 a7.o).mono ?_; rintro e w8 ⟨z,rfl,L,i⟩; obtain ⟨a6,n6,d6,l6,c6,rfl⟩:=L.shape'; have HZ:=Hd L; have p3:Hid (Up w6 w8):=e4.o.trans (i.mono e4.o.size); have g4:=Hd (J.o.below J.o.lt i); have A:=g4.o; clear L i g0 g1 g2 b5 b6 b7; obtain ⟨g0,g1,g2⟩:=A.k3; obtain ⟨b5,b6,b7⟩:=A.f3; clear A
     go_wp2_with fail
     go_meet
     have j:=g4.o; have c9:NoInt w8 w6.heap.size:=noInt_of j (by simp); have d0:(p.natAbs:Int) = -p:=by have:=e7.o.1 (by first|rfl|trivial); omega
     exact ⟨_,_,_,_,_,(((j.set 0 (.int .i64 a6)).set 1 (.bool n6)).set 2 (.slice d6 l6 c6)),by rw [d0]; exact HZ.o.keeps c9 c9 (keepsC3 w8 w6.heap.size (.int .i64 a6) (.bool n6) (.slice d6 l6 c6)),(((p3.o.setCell (p:=⟨w6.heap.size,0,none⟩) leR (.int .i64 a6)).setCell (p:=⟨w6.heap.size,1,none⟩) leR (.bool n6)).setCell (p:=⟨w6.heap.size,2,none⟩) leR (.slice d6 l6 c6))⟩
    ·go_wp2_with fail
     go_meet
     have u:(p.natAbs:Int)=p:=by have:=e7.o.2.1 (by first|rfl|trivial); omega
     exact ⟨_,_,_,_,_,J.o,by rw [u]; exact a7.o,e4.o⟩
    ·go_wp2_with fail
     go_meet
     have u:(p.natAbs:Int)=p:=by have:=e7.o.2.2 (by first|rfl|trivial); omega
     exact ⟨_,_,_,_,_,J.o,by rw [u]; exact a7.o,e4.o⟩
   case rest=>
    obtain ⟨a6,n6,d6,l6,c6,T,d7,m⟩:=hcut; obtain ⟨w9,rfl⟩:∃ w9,w9=wc:=⟨_,rfl⟩; have t5:=Hd T; have o0:=Hd d7; have k9:Hid (Up w w9):=k7.o.trans (m.mono k7.o.size); have o4:=Hd (Q.o.below Q.o.lt m); have n8:=Hd (f9.o.below m); have o7:=Hd (o3.o w9 (Y.o.trans (m.mono Y.o.size))); have o5:=Hd (i5.o w9 (D.o.trans ((Y.o.trans (m.mono Y.o.size)).mono D.o.size))); have p4:Hid (NumZ 0 w9 (.agg #[.int .i64 a3,.bool n3,.slice d3 l3 c3]) (p) 1000):=(H3.o.below l8.o).below m; have p7:Hid (NumZ 0 w9 (.agg #[.int .i64 a1,.bool n1,.slice d1 l1 c1]) (x) 1000):=((H1.o.below l0.o).below p2.o).below m; have s:=o4.o; clear d7 m; obtain ⟨g0,g1,g2⟩:=s.k3; obtain ⟨s0,s1,s2⟩:=T.k3; clear s T
    go_wp2_with fail
    refine (l1CmpN_any 0 _ _ (x.natAbs:Int) (p.natAbs:Int) w9 (Nat.zero_le _) (IsN.ofZ n8.o) (IsN.ofZ o0.o)).mono ?_; rintro e wA ⟨rfl,i⟩; have h5:=ordI_three (x.natAbs:Int) (p.natAbs:Int); obtain ⟨r3,i8⟩:=exW (ordI (x.natAbs:Int) (p.natAbs:Int)); have m8:=Hd (ord_eq i8); rw [i8] at h5 ⊢; have M:Hid (Up w wA):=k9.o.trans (i.mono k9.o.size); have o6:=Hd (o5.o.below o5.o.lt i); have g6:=Hd (o7.o.below o7.o.lt i); have p5:=Hd (p4.o.below i); have p8:=Hd (p7.o.below i); clear i8 i g0 g1 g2 s0 s1 s2
    rcases h5 with rfl|rfl|rfl
    ·go_wp2
     go_ret
     exact ⟨true,rfl,fun _=>⟨x,y,p,q,e8.o,e5.o,.inr ⟨HR.o.2.1 (by first|rfl|trivial),.inl (by have:=m8.o.1 (by first|rfl|trivial); omega)⟩⟩,M.o⟩
    ·have j:=o6.o; obtain ⟨k0,k1,k2,k3,k4,k5⟩:=j.k6; clear j
     go_wp2_with fail
     refine (l1Sign_any 0 _ x 1000 wA (Nat.zero_le _) p8.o).mono ?_; rintro e wB ⟨rfl,i⟩; have O:Hid (Up w wB):=M.o.trans (i.mono M.o.size); have o9:=g6.o.below g6.o.lt i; have p6:=Hd (p5.o.below i); rw [m9.o]; clear i k0 k1 k2 k3 k4 k5; obtain ⟨k0,k1,k2,k3,k4,k5⟩:=o9.k6; clear o9
     rcases h3 with rfl|rfl|rfl
     ·go_wp2
      go_ret
      exact ⟨false,rfl,fun e=>(by cases e),O.o⟩
     ·go_wp2
      go_ret
      exact ⟨false,rfl,fun e=>(by cases e),O.o⟩
     ·go_wp2_with fail
      refine (l1Sign_any 0 _ p 1000 wB (Nat.zero_le _) p6.o).mono ?_; rintro e wD ⟨rfl,i⟩; have i4:Hid (Up w wD):=O.o.trans (i.mono O.o.size); rw [n0.o]; clear i
      rcases h4 with rfl|rfl|rfl
      ·go_wp2
       go_ret
       exact ⟨true,rfl,fun _=>⟨x,y,p,q,e8.o,e5.o,.inr ⟨HR.o.2.1 (by first|rfl|trivial),.inr ⟨by have:=m8.o.2.1 (by first|rfl|trivial); omega,e6.o.2.2 (by first|rfl|trivial),e7.o.1 (by first|rfl|trivial)⟩⟩⟩,i4.o⟩
      ·go_wp2
       go_ret
       exact ⟨false,rfl,fun e=>(by cases e),i4.o⟩
      ·go_wp2
       go_ret
       exact ⟨false,rfl,fun e=>(by cases e),i4.o⟩
    ·go_wp2
     go_ret
     exact ⟨false,rfl,fun e=>(by cases e),M.o⟩
 go_wp2
 go_ret
 exact ⟨false,rfl,fun e=>(by cases e),S.o⟩
theorem Sim.gcd {lo:Bool} {a b:Int} {has ho:Bool} {c d p q:Int} (h:Sim lo a b has ho c d p q):Int.gcd p q=1:=by
 induction h using Sim.ind with
 | found lo a b has ho c d h=>simp
 | step lo a b ho c d p q h hr ih=>
   have j:Int.gcd q p=1:=by rw [Int.gcd_comm]; exact ih
   have i:=gcd_part q p (-(a / b)) j; have h3:q - -(a / b)*p=a / b*p+q:=by rw [Int.neg_mul]; omega
   rw [h3] at i; rw [Int.gcd_comm]; exact i
theorem inH_neg {o:Bool} {c d x y:Int}:inH o c d x y↔inL o (-c) d (-x) y:=by
 unfold inH inL; rw [Int.neg_mul,Int.neg_mul]; constructor
 ·rintro (h|h)
  ·left; omega
  right; exact ⟨by omega,h.2⟩
 rintro (h|h)
 ·left; omega
 right; exact ⟨by omega,h.2⟩
theorem inL_neg {o:Bool} {a b x y:Int}:inL o a b x y↔inH o (-a) b (-x) y:=by
 rw [inH_neg,Int.neg_neg,Int.neg_neg]
theorem lowOut_false {h1 o1:Bool} {x1:Int} (h:¬ lowOut h1 o1 x1=true) (e:h1=true):x1<0∨x1=0∧o1=false:=by
 subst e; unfold lowOut at h
 rcases Int.lt_trichotomy x1 0 with i|i|i
 ·exact .inl i
 ·refine .inr ⟨i,?_⟩
  cases o1 with
  | false=>rfl
  | true=>exact absurd (by simp [i]) h
 exact absurd (by simp [i]) h
theorem Best.opt {h1 o1:Bool} {x1 y1:Int} {h2 o2:Bool} {x2 y2 p q:Int} (h:Best h1 o1 x1 y1 h2 o2 x2 y2 p q) (t:Two h1 o1 x1 y1 h2 o2 x2 y2) :
 0<q∧Int.gcd p q=1∧(h1=true→inL o1 x1 y1 p q)∧(h2=true→inH o2 x2 y2 p q) ∧
 ∀ x y,0<y→(h1=true→inL o1 x1 y1 x y)→(h2=true→inH o2 x2 y2 x y)→q≤y∧p.natAbs≤x.natAbs∧¬ (0<x∧p<0):=by
 unfold Best at h
 by_cases hl:lowOut h1 o1 x1=true
 ·rw [if_pos hl] at h; obtain ⟨D,j⟩:=t.low hl; have m:=h.bound j; obtain ⟨⟨u,s⟩,A⟩:=h.opt j; refine ⟨m.2.1,h.gcd,fun _=>u,s,fun x y hy hL hH=>?_⟩; have k:=A x y hy (hL D) hH; have F:=m.1; exact ⟨k.1,by omega,by omega⟩
 rw [if_neg hl] at h
 by_cases i:highOut h2 o2 x2=true
 ·rw [if_pos i] at h; obtain ⟨G,rfl,h⟩:=h; rw [high_low] at i; obtain ⟨E,j⟩:=t.mirror.low i; have m:=h.bound j; obtain ⟨⟨u,s⟩,A⟩:=h.opt j; refine ⟨m.2.1,by rw [Int.neg_gcd]; exact h.gcd,fun e=>?_,fun _=>?_,fun x y hy hL hH=>?_⟩
  ·rw [inL_neg,Int.neg_neg]; exact s e
  ·rw [inH_neg,Int.neg_neg]; exact u
  have k:=A (-x) y hy (inH_neg.1 (hH E)) (fun e=>inL_neg.1 (hL e)); have F:=m.1; refine ⟨k.1,by omega,by omega⟩
 rw [if_neg i] at h; obtain ⟨rfl,rfl⟩:=h; refine ⟨by decide,by simp,fun e=>?_,fun e=>?_,fun x y hy _ _=>⟨by omega,by simp,by omega⟩⟩
 ·have:=lowOut_false hl e; unfold inL; rw [Int.mul_one,Int.zero_mul]; exact this
 rw [high_low] at i; have:=lowOut_false i e; rw [inH_neg]; unfold inL; rw [Int.mul_one,Int.neg_zero,Int.zero_mul]; exact this
theorem none_of_between {h1 o1:Bool} {x1 y1:Int} {h2 o2:Bool} {x2 y2 x y:Int} (l:h1=true→0<y1) (r:h2=true→0<y2) (hy:0<y) (hL:h1=true→inL o1 x1 y1 x y) (hH:h2=true→inH o2 x2 y2 x y):NoneB h1 o1 x1 y1 h2 o2 x2 y2=false:=by
 unfold NoneB
 cases h1 with
 | false=>rfl
 | true=>
   cases h2 with
   | false=>rfl
   | true=>
     have j:=hL rfl; have i:=hH rfl; have b1:=l rfl; have b2:=r rfl; unfold inL at j; unfold inH at i
     -- x1 y y2≤x y1 y2≤x2 y y1
     have m1:x1*y*y2≤x*y1*y2:=Int.mul_le_mul_of_nonneg_right (by rcases j with h|h<;>omega) (Int.le_of_lt b2); have m2:x*y2*y1≤x2*y*y1:=Int.mul_le_mul_of_nonneg_right (by rcases i with h|h<;>omega) (Int.le_of_lt b1); have A:x*y1*y2=x*y2*y1:=Int.mul_right_comm ..; have D:x1*y*y2=x1*y2*y:=Int.mul_right_comm ..; have E:x2*y*y1=x2*y1*y:=Int.mul_right_comm ..; have m:x1*y2*y≤x2*y1*y:=by omega
     have s:x1*y2≤x2*y1:=Int.le_of_mul_le_mul_right m hy; have a1:¬ x2*y1<x1*y2:=by omega
     by_cases t:x1*y2=x2*y1
     ·have u:x1*y2*y=x2*y1*y:=by rw [t]
      have s1:o1=false:=by
       rcases j with h|h
       ·have:=Int.mul_lt_mul_of_pos_right h b2; omega
       ·exact h.2
      have s2:o2=false:=by
       rcases i with h|h
       ·have:=Int.mul_lt_mul_of_pos_right h b1; omega
       ·exact h.2
      subst s1 s2; simp [a1]
     ·simp [a1,t]
theorem textR_has {p q x y:Int} {u tx:ByteArray} {kx:Option Nat} (hu:TextR p q u) (hV:RatV tx kx x y) (h0:0<q) (hq:q≤y) (hp:p.natAbs≤x.natAbs):u≠strB []:=by
 have j:∃ v1 v2,IsText x v1∧v1≠strB []∧IsText y v2∧v2≠strB []:=by
  cases kx with
  | none=>exact ⟨tx,strB [49],by rw [hV.2.1]; exact text_back tx hV.1,text_ne tx hV.1,by rw [hV.2.2,← num_one]; exact text_back _ int_one,text_ne _ int_one⟩
  | some i=>exact ⟨_,_,by rw [hV.2.2.1]; exact text_back _ hV.1.1,text_ne _ hV.1.1,by rw [hV.2.2.2]; exact text_back _ hV.1.2,text_ne _ hV.1.2⟩
 obtain ⟨v1,v2,t1,m,t2,s⟩:=j; unfold TextR at hu
 split at hu
 ·exact text_le hu t1 m hp
 obtain ⟨a,b,t,A,rfl⟩:=hu; have D:=size_ne.1 (text_le t t1 m hp); have E:=size_ne.1 (text_le A t2 s (by omega)); rw [if_neg (by omega),size_ne,ByteArray.size_append,ByteArray.size_append]; omega
theorem simplest_law {h1 o1:Bool} {t1:ByteArray} {h2 o2:Bool} {t2 s:ByteArray} {k1 k2:Option Nat} (hs:ResS h1 o1 t1 h2 o2 t2 s) (c1:IsCut t1 k1) (c2:IsCut t2 k2) :
 (∀ ks,IsCut s ks→s≠strB []→Btw h1 o1 t1 h2 o2 t2 s k1 k2 ks) ∧
 ∀ tx kx,Btw h1 o1 t1 h2 o2 t2 tx k1 k2 kx→s≠strB []∧∀ ks x y p q,IsCut s ks→RatV tx kx x y→RatV s ks p q→¬ Less x y p q:=by
 obtain ⟨m1,m2,d1,d2,hs⟩:=hs; obtain rfl:=isCut_unique d1 c1; obtain rfl:=isCut_unique d2 c2; have i:∀ (h o:Bool),h=true→(h&&o)=o:=fun h o e=>by rw [e]; rfl
 rcases hs with ⟨M,Q,O,S,r1,r2,hs⟩|⟨D,rfl⟩
 ·have T:=r1.lt.2.2; have U:=r2.lt.2.2; have J:OkE h1 t1 m1:=fun e=>⟨M,Q,by unfold RdE at r1; rw [if_pos e] at r1; exact r1⟩; have K:OkE h2 t2 m2:=fun e=>⟨O,S,by unfold RdE at r2; rw [if_pos e] at r2; exact r2⟩; have v1:∀ a b,h1=true→RatV t1 m1 a b→a=M∧b=Q:=fun a b e hv=>by unfold RdE at r1; rw [if_pos e] at r1; exact ratV_one hv r1
  have v2:∀ a b,h2=true→RatV t2 m2 a b→a=O∧b=S:=fun a b e hv=>by unfold RdE at r2; rw [if_pos e] at r2; exact ratV_one hv r2
  have V:h1=true→RatV t1 m1 M Q:=fun e=>by unfold RdE at r1; rw [if_pos e] at r1; exact r1
  have W:h2=true→RatV t2 m2 O S:=fun e=>by unfold RdE at r2; rw [if_pos e] at r2; exact r2
  rcases hs with ⟨hn,p,q,hb,E⟩|⟨hn,rfl⟩
  ·obtain ⟨L,g,Z,Y,bO⟩:=hb.opt ⟨T,U,hn⟩; refine ⟨fun ks hks hne=>?_,fun tx kx hbt=>?_⟩
   ·obtain ⟨I,j,m⟩:=text_ratV E L g hne; obtain rfl:=isCut_unique hks j; refine ⟨J,K,p,q,m,fun a b e hv=>?_,fun a b e hv=>?_⟩
    ·obtain ⟨rfl,rfl⟩:=v1 a b e hv; rw [← i h1 o1 e]; exact Z e
    obtain ⟨rfl,rfl⟩:=v2 a b e hv; rw [← i h2 o2 e]; exact Y e
   obtain ⟨_,_,x,y,m,u,t⟩:=hbt; have F:=(ratV_lt m).2.2; have k:=bO x y F (fun e=>by rw [i h1 o1 e]; exact u _ _ e (V e)) (fun e=>by rw [i h2 o2 e]; exact t _ _ e (W e)); have hne:=textR_has E m L k.1 k.2.1; refine ⟨hne,fun ks x' y' p' q' hks hV' hS hless=>?_⟩; obtain ⟨rfl,rfl⟩:=ratV_one hV' m; obtain ⟨I,j,A⟩:=text_ratV E L g hne; obtain rfl:=isCut_unique hks j; obtain ⟨rfl,rfl⟩:=ratV_one hS A; unfold Less at hless; have k3:=k.2.2; omega
  refine ⟨fun _ _ h=>absurd rfl h,fun tx kx hbt=>?_⟩
  exfalso
  obtain ⟨_,_,x,y,m,u,t⟩:=hbt; have F:=(ratV_lt m).2.2; have:=none_of_between (o1:=h1&&o1) (o2:=h2&&o2) (fun e=>(T e).1) (fun e=>(U e).1) F (fun e=>by rw [i h1 o1 e]; exact u _ _ e (V e)) (fun e=>by rw [i h2 o2 e]; exact t _ _ e (W e)); rw [hn] at this
  cases this
 refine ⟨fun _ _ h=>absurd rfl h,fun tx kx hbt=>?_⟩
 exfalso
 obtain ⟨G,H,_⟩:=hbt; obtain ⟨_,_,a1,b1,_,_,r1,_⟩:=okE_ends G; obtain ⟨_,_,a2,b2,_,_,r2,_⟩:=okE_ends H; exact D ⟨_,_,_,_,r1,r2⟩
end Go.Proofs.YtnhbmpnhijgpmaaGreatDoor
