import Derived.Test.YtknfmkeipeikkaaGreatDoorReadImplp
import Derived.Test.YtknfmkeipeikkaaGreatDoorM2p
import Derived.Test.YtknfmkeipeikkaaGreatDoorReadSpecp
import Derived.Deep.RegionWith
set_option maxRecDepth 100000
set_option maxHeartbeats 1000000
namespace Go.Proofs.YtknfmkeipeikkaaGreatDoor
open Go.ChangeShapes Go.WideShapes Go.ChangeAt Go.RowKit
def lim (s:ByteArray):List Nat:=trimL (chunks (dgs s).data.toList)
def sgn (s:ByteArray):Bool:=negOf (isNeg s) (lim s)
def ReadI (B:Nat) (w:World) (s:ByteArray) (n:Bool) (a:Option Addr) (l c:Nat):Prop:=
 isIntB s=true→n=sgn s∧IsL B w (.slice a l c) (lim s)
theorem ReadI.below {B:Nat} {w w':World} {s:ByteArray} {n:Bool} {a:Option Addr} {l c:Nat} (h:ReadI B w s n a l c) (hb:Up w w'):ReadI B w' s n a l c:=
 fun hi=>⟨(h hi).1,(h hi).2.below hb⟩
theorem ReadI.mono {B B':Nat} {w:World} {s:ByteArray} {n:Bool} {a:Option Addr} {l c:Nat} (h:ReadI B w s n a l c) (hb:B'≤B):ReadI B' w s n a l c:=
 fun hi=>⟨(h hi).1,(h hi).2.mono hb⟩
theorem ReadI.setCell {B:Nat} {w:World} {s:ByteArray} {n:Bool} {a:Option Addr} {l c:Nat} (h:ReadI B w s n a l c) (p:Addr) (u:Value) (hp:p.block<B):ReadI B (w.setCell p u) s n a l c:=
 fun hi=>⟨(h hi).1,(h hi).2.setCell p u hp⟩
def ngZ (z0:Int) (zn:Bool) (zl:Nat):Bool:=if 0<zl then zn else decide (z0<0)
theorem l1IsSmall_ex (z0:Int) (zn:Bool) (za:Option Addr) (zl zc:Nat) (w:World) :
 Calls Tryz.prog 44 #[.agg #[.int .i64 z0,.bool zn,.slice za zl zc]] w fun e w'=>e=.returned (.bool ((zl:Int)==0))∧w'=w.alloc (.cells #[.int .i64 z0,.bool zn,.slice za zl zc] 53):=by
 go_enter Tryz.func44,Tryz.ntmps44
 go_wp2
 go_ret
 exact ⟨rfl,rfl⟩
theorem l1Neg_ex (z0:Int) (zn:Bool) (za:Option Addr) (zl zc:Nat) (w:World) :
 Calls Tryz.prog 73 #[.agg #[.int .i64 z0,.bool zn,.slice za zl zc]] w fun e w'=>e=.returned (.bool (ngZ z0 zn zl))∧w'=w.alloc (.cells #[.int .i64 z0,.bool zn,.slice za zl zc] 53):=by
 by_cases h:0<zl
 ·have j:Hid (ngZ z0 zn zl=zn):=if_pos h
  go_enter Tryz.func73,Tryz.ntmps73
  go_wp2
  go_ret
  exact ⟨by rw [j.o]; rfl,rfl⟩
 have j:Hid (ngZ z0 zn zl=decide (z0<0)):=if_neg h
 go_enter Tryz.func73,Tryz.ntmps73
 go_wp2
 go_ret
 exact ⟨by rw [j.o]; rfl,rfl⟩
theorem l1Cmp_small (x y:Int) (w:World) :
 Calls Tryz.prog 74 #[.agg #[.int .i64 x,.bool false,.slice none 0 0],.agg #[.int .i64 y,.bool false,.slice none 0 0]] w fun e w'=>e=.returned (.int .i64 (ordI x y))∧Up w w':=by
 by_cases j:x<y
 ·have h:Hid (ordI x y = -1):=if_pos j
  go_enter Tryz.func74,Tryz.ntmps74
  go_wp2_with (go_at_call 44; refine (l1IsSmall_ex _ _ _ _ _ _).mono ?_; rintro e w' ⟨rfl,rfl⟩)
  go_ret
  exact ⟨ret_int h.o.symm,(((((Below.refl _ w).alloc leR _).alloc (by simp) _).alloc (by simp; omega) _).alloc (by simp; omega) _)⟩
 by_cases h2:y<x
 case' pos=>
  have h:Hid (ordI x y=1):=(if_neg j).trans (if_pos h2)
 case' neg=>
  have h:Hid (ordI x y=0):=(if_neg j).trans (if_neg h2)
 all_goals
  go_enter Tryz.func74,Tryz.ntmps74
  go_wp2_with (go_at_call 44; refine (l1IsSmall_ex _ _ _ _ _ _).mono ?_; rintro e w' ⟨rfl,rfl⟩)
  go_ret
  exact ⟨ret_int h.o.symm,(((((Below.refl _ w).alloc leR _).alloc (by simp) _).alloc (by simp; omega) _).alloc (by simp; omega) _)⟩
theorem below_al {w W:World} (h:Up w W) (o:Obj):Up w (W.alloc o):=h.alloc h.size o
theorem cmpL_bd (a b:List Nat) : -1≤cmpL a b∧cmpL a b≤1:=by
 have h:∀ k,-1≤cmpTop a b k∧cmpTop a b k≤1:=fun k=>by
  induction k with
  | zero=>simp [cmpTop]
  | succ k ih=>simp only [cmpTop]; split<;>(try split)<;>omega
 have:=h a.length; unfold cmpL
 split<;>(try split)<;>omega
end Go.Proofs.YtknfmkeipeikkaaGreatDoor
