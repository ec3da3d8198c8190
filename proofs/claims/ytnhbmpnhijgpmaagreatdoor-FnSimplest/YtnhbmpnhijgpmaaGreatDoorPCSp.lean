import Derived.Test.YtnhbmpnhijgpmaaGreatDoorReadImplp
import Derived.Test.YtnhbmpnhijgpmaaGreatDoorM2p
import Derived.Test.YtnhbmpnhijgpmaaGreatDoorReadSpecp
import Derived.Deep.RegionWith
set_option maxRecDepth 100000
set_option maxHeartbeats 2000000
namespace Go.Proofs.YtnhbmpnhijgpmaaGreatDoor
open Go.ChangeShapes Go.WideShapes Go.ChangeAt Go.RowKit
def lim (s:ByteArray):List Nat:=trimL (chunks (dgs s).data.toList)
def sgn (s:ByteArray):Bool:=negOf (isNeg s) (lim s)
def ReadI (B:Nat) (w:World) (s:ByteArray) (n:Bool) (a:Option Addr) (l c:Nat):Prop:=
 isIntB s=true→n=sgn s∧IsL B w (.slice a l c) (lim s)
theorem readInteger_any (s:ByteArray) (w:World) (hs:s.size≤maxLen) :
 Calls Tryz.prog 72 #[.string s] w fun e w'=>∃ n a l c,e=.returned (.tuple #[.agg #[.bool n,.slice a l c],.bool (isIntB s)])∧ReadI w.heap.size w' s n a l c∧Up w w':=by
 cases hi:isIntB s
 ·refine (readInteger_no s w hs hi).mono ?_; rintro e w' ⟨rfl,i⟩; exact ⟨_,_,_,_,rfl,(fun h=>by rw [hi] at h; cases h),i⟩
 refine (readInteger_yes s w hs hi).mono ?_; rintro e w' ⟨v,rfl,j,i⟩; obtain ⟨a,cap,rfl,_⟩:=id j; exact ⟨_,_,_,_,rfl,fun _=>⟨rfl,j⟩,i⟩
theorem ReadI.below {B:Nat} {w w':World} {s:ByteArray} {n:Bool} {a:Option Addr} {l c:Nat} (h:ReadI B w s n a l c) (hb:Up w w'):ReadI B w' s n a l c:=
 fun hi=>⟨(h hi).1,(h hi).2.below hb⟩
theorem ReadI.mono {B B':Nat} {w:World} {s:ByteArray} {n:Bool} {a:Option Addr} {l c:Nat} (h:ReadI B w s n a l c) (hb:B'≤B):ReadI B' w s n a l c:=
 fun hi=>⟨(h hi).1,(h hi).2.mono hb⟩
theorem ReadI.setCell {B:Nat} {w:World} {s:ByteArray} {n:Bool} {a:Option Addr} {l c:Nat} (h:ReadI B w s n a l c) (p:Addr) (u:Value) (hp:p.block<B):ReadI B (w.setCell p u) s n a l c:=
 fun hi=>⟨(h hi).1,(h hi).2.setCell p u hp⟩
theorem readPair_any (s t:ByteArray) (w:World) (hs:s.size≤maxLen) (ht:t.size≤maxLen) :
 Calls Tryz.prog 73 #[.string s,.string t] w fun e w'=>∃ n a l c n' a' l' c',e=.returned (.tuple #[.agg #[.bool n,.slice a l c],.agg #[.bool n',.slice a' l' c'],.bool (isIntB s&&isIntB t)]) ∧
  ReadI w.heap.size w' s n a l c∧ReadI w.heap.size w' t n' a' l' c'∧Up w w':=by
 obtain ⟨E,H⟩:=exW ((w.alloc (.cells #[.bool false,.slice none 0 0] 55)).alloc (.cells #[.bool false,.slice none 0 0] 55)); have m:=Hd H; have b4:E.heap.size=w.heap.size+2:=by rw [← H]; simp
 have Y:Hid (Up w E):=by rw [← H]; exact ((Below.refl _ w).alloc leR _).alloc (by simp) _
 clear H
 go_enter Tryz.func73,Tryz.ntmps73
 go_wp2_with fail
 rw [m.o]; refine (readInteger_any s E hs).mono ?_; rintro e G ⟨n,a,l,c,rfl,S,I⟩; obtain ⟨u,D⟩:=exW (G.alloc (.cells #[.bool n,.slice a l c] 55)); have a7:=Hd D; have b9:u.heap.size=G.heap.size+1:=by rw [← D]; simp
 have b6:w.heap.size+2≤G.heap.size:=by have:=I.size; omega
 have j:Hid (Up E u):=by rw [← D]; exact I.alloc I.size _
 have a5:Hid (ReadI E.heap.size u s n a l c):=by rw [← D]; exact S.below (below_alloc _ _)
 have U:u.cell? ⟨G.heap.size,0,none⟩=some (.bool n):=by rw [← D,World.cell?_alloc_at _ _ _ _ rfl]; rfl
 have V:u.cell? ⟨G.heap.size,1,none⟩=some (.slice a l c):=by rw [← D,World.cell?_alloc_at _ _ _ _ rfl]; rfl
 have a9:=Hd U; have b3:=Hd V; clear D U V I S; obtain ⟨bs,K⟩:∃ x,isIntB s=x:=⟨_,rfl⟩; have Z:=Hd K; rw [K]; clear K
 go_wp2_with fail
 rw [a7.o]; refine (readInteger_any t u ht).mono ?_; rintro e W ⟨n',a',l',c',rfl,T,J⟩; have b7:G.heap.size+1≤W.heap.size:=by have:=J.size; omega
 obtain ⟨A,F⟩:=exW (W.alloc (.cells #[.bool n',.slice a' l' c'] 55)); have a8:=Hd F; have i:Hid (Up u A):=by rw [← F]; exact J.alloc J.size _
 have a6:Hid (ReadI u.heap.size A t n' a' l' c'):=by rw [← F]; exact T.below (below_alloc _ _)
 have y0:A.cell? ⟨G.heap.size,0,none⟩=some (.bool n):=by rw [i.o.cell (p:=⟨G.heap.size,0,none⟩) (by show G.heap.size<u.heap.size; omega)]; exact a9.o
 have y1:A.cell? ⟨G.heap.size,1,none⟩=some (.slice a l c):=by rw [i.o.cell (p:=⟨G.heap.size,1,none⟩) (by show G.heap.size<u.heap.size; omega)]; exact b3.o
 have v0:A.cell? ⟨W.heap.size,0,none⟩=some (.bool n'):=by rw [← F,World.cell?_alloc_at _ _ _ _ rfl]; rfl
 have v1:A.cell? ⟨W.heap.size,1,none⟩=some (.slice a' l' c'):=by rw [← F,World.cell?_alloc_at _ _ _ _ rfl]; rfl
 clear T J F; have p0:A.cell? ⟨w.heap.size,0,none⟩=some (.bool false):=by
  rw [i.o.cell (p:=⟨w.heap.size,0,none⟩) (by show w.heap.size<u.heap.size; omega),j.o.cell (p:=⟨w.heap.size,0,none⟩) (by show w.heap.size<E.heap.size; omega)]; rw [← m.o,World.cell?_alloc_past _ _ _ (by simp),World.cell?_alloc_at _ _ _ _ rfl]; rfl
 have c8:A.frozen? ⟨w.heap.size,0,none⟩=false:=by
  rw [i.o.frozen (p:=⟨w.heap.size,0,none⟩) (by show w.heap.size<u.heap.size; omega),j.o.frozen (p:=⟨w.heap.size,0,none⟩) (by show w.heap.size<E.heap.size; omega)]; rw [← m.o,(below_alloc (w.alloc (.cells #[.bool false,.slice none 0 0] 55)) _).frozen (p:=⟨w.heap.size,0,none⟩) (by simp),World.frozen?_alloc_at _ _ _ _ rfl]
 have p1:A.cell? ⟨w.heap.size,1,none⟩=some (.slice none 0 0):=by
  rw [i.o.cell (p:=⟨w.heap.size,1,none⟩) (by show w.heap.size<u.heap.size; omega),j.o.cell (p:=⟨w.heap.size,1,none⟩) (by show w.heap.size<E.heap.size; omega)]; rw [← m.o,World.cell?_alloc_past _ _ _ (by simp),World.cell?_alloc_at _ _ _ _ rfl]; rfl
 have c9:A.frozen? ⟨w.heap.size,1,none⟩=false:=by
  rw [i.o.frozen (p:=⟨w.heap.size,1,none⟩) (by show w.heap.size<u.heap.size; omega),j.o.frozen (p:=⟨w.heap.size,1,none⟩) (by show w.heap.size<E.heap.size; omega)]; rw [← m.o,(below_alloc (w.alloc (.cells #[.bool false,.slice none 0 0] 55)) _).frozen (p:=⟨w.heap.size,1,none⟩) (by simp),World.frozen?_alloc_at _ _ _ _ rfl]
 have q0:A.cell? ⟨w.heap.size+1,0,none⟩=some (.bool false):=by
  rw [i.o.cell (p:=⟨w.heap.size+1,0,none⟩) (by show w.heap.size+1<u.heap.size; omega),j.o.cell (p:=⟨w.heap.size+1,0,none⟩) (by show w.heap.size+1<E.heap.size; omega)]; rw [← m.o,World.cell?_alloc_at _ _ _ _ (by simp)]; rfl
 have d2:A.frozen? ⟨w.heap.size+1,0,none⟩=false:=by
  rw [i.o.frozen (p:=⟨w.heap.size+1,0,none⟩) (by show w.heap.size+1<u.heap.size; omega),j.o.frozen (p:=⟨w.heap.size+1,0,none⟩) (by show w.heap.size+1<E.heap.size; omega)]; rw [← m.o,World.frozen?_alloc_at _ _ _ _ (by simp)]
 have q1:A.cell? ⟨w.heap.size+1,1,none⟩=some (.slice none 0 0):=by
  rw [i.o.cell (p:=⟨w.heap.size+1,1,none⟩) (by show w.heap.size+1<u.heap.size; omega),j.o.cell (p:=⟨w.heap.size+1,1,none⟩) (by show w.heap.size+1<E.heap.size; omega)]; rw [← m.o,World.cell?_alloc_at _ _ _ _ (by simp)]; rfl
 have d3:A.frozen? ⟨w.heap.size+1,1,none⟩=false:=by
  rw [i.o.frozen (p:=⟨w.heap.size+1,1,none⟩) (by show w.heap.size+1<u.heap.size; omega),j.o.frozen (p:=⟨w.heap.size+1,1,none⟩) (by show w.heap.size+1<E.heap.size; omega)]; rw [← m.o,World.frozen?_alloc_at _ _ _ _ (by simp)]
 have M:Hid (Up w A):=Y.o.trans ((j.o.mono (by omega)).trans (i.o.mono (by omega))); have O:Hid (ReadI (w.heap.size+2) A s n a l c):=by
  have h0:=a5.o.below i.o; rw [b4] at h0; exact h0
 have Q:Hid (ReadI (w.heap.size+2) A t n' a' l' c'):=a6.o.mono (by omega); obtain ⟨bt,L⟩:∃ x,isIntB t=x:=⟨_,rfl⟩; have a3:=Hd L; rw [L]; clear L
 cases bs
 all_goals
  go_wp2
  rw [a8.o]
  go_region
  go_wp2
  refine bodyPost_ret (v:=.tuple #[.agg #[.bool n,.slice a l c],.agg #[.bool n',.slice a' l' c'],.bool (_&&bt)]) ?_ rfl ⟨n,a,l,c,n',a',l',c',by rw [Z.o,a3.o],?_,?_,?_⟩
  ·simp [results,Tryz.results73,go_sem,p0,p1,q0,q1]
  ·exact ((((O.o.setCell _ _ (by show w.heap.size<_; omega)).setCell _ _ (by show w.heap.size<_; omega)).setCell _ _ (by show w.heap.size+1<_; omega)).setCell _ _ (by show w.heap.size+1<_; omega)).mono (by omega)
  ·exact ((((Q.o.setCell _ _ (by show w.heap.size<_; omega)).setCell _ _ (by show w.heap.size<_; omega)).setCell _ _ (by show w.heap.size+1<_; omega)).setCell _ _ (by show w.heap.size+1<_; omega)).mono (by omega)
  exact ((((M.o.setCell leR _).setCell leR _).setCell (Nat.le_succ _) _).setCell (Nat.le_succ _) _).drew
def ngZ (z0:Int) (zn:Bool) (zl:Nat):Bool:=if 0<zl then zn else decide (z0<0)
theorem l1IsSmall_ex (z0:Int) (zn:Bool) (za:Option Addr) (zl zc:Nat) (w:World) :
 Calls Tryz.prog 39 #[.agg #[.int .i64 z0,.bool zn,.slice za zl zc]] w fun e w'=>e=.returned (.bool ((zl:Int)==0))∧w'=w.alloc (.cells #[.int .i64 z0,.bool zn,.slice za zl zc] 49):=by
 go_enter Tryz.func39,Tryz.ntmps39
 go_wp2
 go_ret
 exact ⟨rfl,rfl⟩
theorem l1Neg_ex (z0:Int) (zn:Bool) (za:Option Addr) (zl zc:Nat) (w:World) :
 Calls Tryz.prog 60 #[.agg #[.int .i64 z0,.bool zn,.slice za zl zc]] w fun e w'=>e=.returned (.bool (ngZ z0 zn zl))∧w'=w.alloc (.cells #[.int .i64 z0,.bool zn,.slice za zl zc] 49):=by
 by_cases h:0<zl
 ·have i:Hid (ngZ z0 zn zl=zn):=if_pos h
  go_enter Tryz.func60,Tryz.ntmps60
  go_wp2
  go_ret
  exact ⟨by rw [i.o]; rfl,rfl⟩
 have i:Hid (ngZ z0 zn zl=decide (z0<0)):=if_neg h
 go_enter Tryz.func60,Tryz.ntmps60
 go_wp2
 go_ret
 exact ⟨by rw [i.o]; rfl,rfl⟩
theorem l1Cmp_small (x y:Int) (w:World) :
 Calls Tryz.prog 30 #[.agg #[.int .i64 x,.bool false,.slice none 0 0],.agg #[.int .i64 y,.bool false,.slice none 0 0]] w fun e w'=>e=.returned (.int .i64 (ordI x y))∧Up w w':=by
 by_cases j:x<y
 ·have i:Hid (ordI x y = -1):=if_pos j
  go_enter Tryz.func30,Tryz.ntmps30
  go_wp2_with (go_at_call 39; refine (l1IsSmall_ex _ _ _ _ _ _).mono ?_; rintro e w' ⟨rfl,rfl⟩)
  go_ret
  exact ⟨ret_int i.o.symm,(((((Below.refl _ w).alloc leR _).alloc (by simp) _).alloc (by simp; omega) _).alloc (by simp; omega) _)⟩
 by_cases m:y<x
 case' pos=>
  have i:Hid (ordI x y=1):=(if_neg j).trans (if_pos m)
 case' neg=>
  have i:Hid (ordI x y=0):=(if_neg j).trans (if_neg m)
 all_goals
  go_enter Tryz.func30,Tryz.ntmps30
  go_wp2_with (go_at_call 39; refine (l1IsSmall_ex _ _ _ _ _ _).mono ?_; rintro e w' ⟨rfl,rfl⟩)
  go_ret
  exact ⟨ret_int i.o.symm,(((((Below.refl _ w).alloc leR _).alloc (by simp) _).alloc (by simp; omega) _).alloc (by simp; omega) _)⟩
theorem below_al {w W:World} (h:Up w W) (o:Obj):Up w (W.alloc o):=h.alloc h.size o
theorem cmpL_bd (a b:List Nat) : -1≤cmpL a b∧cmpL a b≤1:=by
 have h:∀ k,-1≤cmpTop a b k∧cmpTop a b k≤1:=fun k=>by
  induction k with
  | zero=>simp [cmpTop]
  | succ k ih=>simp only [cmpTop]; split<;>(try split)<;>omega
 have:=h a.length; unfold cmpL
 split<;>(try split)<;>omega
end Go.Proofs.YtnhbmpnhijgpmaaGreatDoor
