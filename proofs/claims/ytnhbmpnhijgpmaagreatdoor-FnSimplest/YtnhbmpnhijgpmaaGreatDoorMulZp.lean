import Derived.Test.YtnhbmpnhijgpmaaGreatDoorAddSGHp
set_option maxRecDepth 100000
set_option maxHeartbeats 1000000
namespace Go.Proofs.YtnhbmpnhijgpmaaGreatDoor
open Go.ChangeShapes Go.WideShapes Go.ChangeAt Go.RowKit
theorem isN_small (B:Nat) (w:World) (x:Int) (h1 : -1000000000000000000<x) (h2:x<1000000000000000000):IsN B w (.agg #[.int .i64 x,.bool false,.slice none 0 0]) x:=by
 have i:sg (decide (x<0)) (val (two x.natAbs))=x:=by
  rw [two_val]; unfold sg
  by_cases h:x<0<;>simp [h]<;>omega
 exact ⟨decide (x<0),two x.natAbs,⟨two_ok _ (by omega),two_trim _,.inr ⟨two_len _,by rw [i]⟩⟩,i⟩
theorem l1Abs64_any (x:Int) (w:World) (h1 : -1000000000000000000<x) (h2:x<1000000000000000000) :
 Calls Tryz.prog 89 #[.int .i64 x] w fun e w'=>e=.returned (.int .i64 (x.natAbs:Nat))∧w'=w:=by
 by_cases h:x<0
 ·have i:Hid ((x.natAbs:Int) = -x):=by unfold Hid; omega
  go_enter Tryz.func89,Tryz.ntmps89
  go_wp2
  go_ret
  exact ⟨ret_int i.o.symm,rfl⟩
 have i:Hid ((x.natAbs:Int)=x):=by unfold Hid; omega
 go_enter Tryz.func89,Tryz.ntmps89
 go_wp2
 go_ret
 exact ⟨ret_int i.o.symm,rfl⟩
theorem l1Mul_small (x y:Int) (w:World) (hx1 : -1000000000000000000<x) (hx2:x<1000000000000000000) (hy1 : -1000000000000000000<y) (hy2:y<1000000000000000000) (hs:x.natAbs=0∨x.natAbs≠0∧y.natAbs≤999999999999999999 / x.natAbs) :
 Calls Tryz.prog 67 #[.agg #[.int .i64 x,.bool false,.slice none 0 0],.agg #[.int .i64 y,.bool false,.slice none 0 0]] w fun e w'=>∃ z,e=.returned z∧IsN w.heap.size w' z (x*y)∧Up w w':=by
 have D:Hid (-1000000000000000000<x*y∧x*y<1000000000000000000):=by
  have h:(x*y).natAbs<1000000000000000000:=by
   rw [Int.natAbs_mul]
   rcases hs with O|⟨O,h⟩
   ·rw [O,Nat.zero_mul]; omega
   have h3:x.natAbs*y.natAbs≤x.natAbs*(999999999999999999 / x.natAbs):=Nat.mul_le_mul_left _ h; have h4:=Nat.mul_div_le 999999999999999999 x.natAbs; omega
  show -1000000000000000000<x*y∧x*y<1000000000000000000
  omega
 obtain ⟨p1,p2⟩:=D.o; have s:Hid (-1000000000000000000<x∧x<1000000000000000000):=⟨hx1,hx2⟩; have t:Hid (-1000000000000000000<y∧y<1000000000000000000):=⟨hy1,hy2⟩; have M:=boxes_first w x false none 0 0 y false none 0 0 49; obtain ⟨m,j⟩:=exW (((w.alloc (.cells #[.int .i64 x,.bool false,.slice none 0 0] 49)).alloc (.cells #[.int .i64 y,.bool false,.slice none 0 0] 49)).alloc (.cells #[.int .i64 0,.bool false,.slice none 0 0] 49)); have E:=Hd j; have A:Hid (Up w m):=by rw [← j]; exact below_al (below_al (below_alloc _ _) _) _
 have u:m.heap.size=w.heap.size+3:=by rw [← j]; simp
 have Q:w.heap.size<m.heap.size:=by omega
 have S:w.heap.size+1<m.heap.size:=by omega
 have T:w.heap.size+2<m.heap.size:=by omega
 rw [j] at M; have L:=Hd u; obtain ⟨a0,a1,a2,b0,b1,b2,r0,r1,r2,f0,f1,f2⟩:=M; obtain ⟨X,H⟩:∃ X:Int,(x.natAbs:Int)=X:=⟨_,rfl⟩; obtain ⟨Y,I⟩:∃ Y:Int,(y.natAbs:Int)=Y:=⟨_,rfl⟩; have F:=Hd H; have G:=Hd I; have K:X=0∨0<X∧Y≤999999999999999999 / X:=by
  rcases hs with h|⟨h,U⟩
  ·left; omega
  right
  refine ⟨by omega,?_⟩; rw [Int.le_ediv_iff_mul_le (by omega)]; have h3:=(Nat.le_div_iff_mul_le (by omega)).1 U; have h4:((y.natAbs*x.natAbs:Nat):Int)=Y*X:=by rw [Int.natCast_mul,H,I]
  omega
 have V:0≤X:=by omega
 have W:X<1000000000000000000:=by omega
 have Z:0≤Y:=by omega
 have a3:Y<1000000000000000000:=by omega
 clear j u hs H I hx1 hx2 hy1 hy2
 go_enter Tryz.func67,Tryz.ntmps67
 go_wp2_with fail
 rw [E.o]; refine (l1IsSmall_ex _ _ _ _ _ _).mono ?_; rintro e w' ⟨rfl,rfl⟩
 rcases K with hs|⟨hs,a5⟩
 case' _=>
  subst hs
 rotate_left
 case' _=>
  skip
 rotate_left
 all_goals
  go_wp2_with (first
   | (go_at_call 39; refine (l1IsSmall_ex _ _ _ _ _ _).mono ?_; rintro e w' ⟨rfl,rfl⟩)
   | (go_at_call_of 89 (Value.int IntKind.i64 x); refine (l1Abs64_any _ _ s.o.1 s.o.2).mono ?_; rintro e w' ⟨rfl,rfl⟩; rw [F.o])
   | (go_at_call_of 89 (Value.int IntKind.i64 y); refine (l1Abs64_any _ _ t.o.1 t.o.2).mono ?_; rintro e w' ⟨rfl,rfl⟩; rw [G.o]))
  have J:=((A.o.setCell (p:=⟨w.heap.size+1+1,0,none⟩) (by simp; omega) (.int .i64 (x*y))).setCell (p:=⟨w.heap.size+1+1,1,none⟩) (by simp; omega) (.bool false)).setCell (p:=⟨w.heap.size+1+1,2,none⟩) (by simp; omega) (.slice none 0 0); refine bodyPost_ret ?_ rfl ⟨_,rfl,isN_small _ _ (x*y) D.o.1 D.o.2,(J.alloc (by have:=L.o; simp; omega) _).alloc (by have:=L.o; simp; omega) _⟩; have e:∀ i o1 o2,(((((m.setCell ⟨w.heap.size+1+1,0,none⟩ (.int .i64 (x*y))).setCell ⟨w.heap.size+1+1,1,none⟩ (.bool false)).setCell ⟨w.heap.size+1+1,2,none⟩ (.slice none 0 0)).alloc o1).alloc o2).cell? ⟨w.heap.size+1+1,i,none⟩=(((m.setCell ⟨w.heap.size+1+1,0,none⟩ (.int .i64 (x*y))).setCell ⟨w.heap.size+1+1,1,none⟩ (.bool false)).setCell ⟨w.heap.size+1+1,2,none⟩ (.slice none 0 0)).cell? ⟨w.heap.size+1+1,i,none⟩:=fun i o1 o2=>by rw [World.cell?_alloc_past _ _ _ (by simp; omega),World.cell?_alloc_past _ _ _ (by simp; omega)]
  simp [results,Tryz.results67,go_sem,e,r0,r1,r2]
end Go.Proofs.YtnhbmpnhijgpmaaGreatDoor
