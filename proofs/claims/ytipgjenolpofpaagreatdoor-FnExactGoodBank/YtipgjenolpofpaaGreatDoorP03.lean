import Derived.Test.YtipgjenolpofpaaGreatDoorP02
import Derived.Deep.RegionWith
set_option maxRecDepth 100000
set_option maxHeartbeats 2000000
namespace Go.Proofs.YtipgjenolpofpaaGreatDoor.Q
open Go.ChangeShapes Go.WideShapes Go.ChangeAt Go.RowKit Go.Proofs.Tryz
def lim (s:ByteArray):List Nat:=Oe (Et (dgs s).data.toList)
def LX (s:ByteArray):Bool:=U0 (isNeg s) (lim s)
def Hn (B:Nat)(w:World)(s:ByteArray)(n:Bool)(a:Option Addr)(l c:Nat):Prop:=
 isIntB s=true->n=LX s/\U1 B w (.slice a l c) (lim s)
theorem readInteger_any (s:ByteArray)(w:World)(hs:s.size<=maxLen) :
 Calls prog 139 #[.string s] w fun e w'=>∃ n a l c,e=.returned (.tuple #[.agg #[.bool n,.slice a l c],.bool (isIntB s)])/\Hn w.heap.size w' s n a l c/\Up w w':=by
 cases d:isIntB s
 ·refine (Fg s w hs d).mono ?_;rintro e w' ⟨rfl,hb⟩;exact⟨_,_,_,_,rfl,(fun h=>by rw[d] at h;cases h),hb⟩
 refine (D8 s w hs d).mono ?_;rintro e w' ⟨v,rfl,j,hb⟩;obtain⟨a,cap,rfl,_⟩:=id j;exact⟨_,_,_,_,rfl,fun _=>⟨rfl,j⟩,hb⟩
theorem Hn.below {B:Nat}{w w':World}{s:ByteArray}{n:Bool}{a:Option Addr}{l c:Nat}(h:Hn B w s n a l c)(hb:Up w w'):Hn B w' s n a l c:=
 fun hi=>⟨(h hi).1,(h hi).2.below hb⟩
theorem Hn.mono {B B':Nat}{w:World}{s:ByteArray}{n:Bool}{a:Option Addr}{l c:Nat}(h:Hn B w s n a l c)(hb:B'<=B):Hn B' w s n a l c:=
 fun hi=>⟨(h hi).1,(h hi).2.mono hb⟩
theorem Hn.setCell {B:Nat}{w:World}{s:ByteArray}{n:Bool}{a:Option Addr}{l c:Nat}(h:Hn B w s n a l c)(p:Addr)(u:Value)(hp:p.block<B):Hn B (w.setCell p u) s n a l c:=
 fun hi=>⟨(h hi).1,(h hi).2.setCell p u hp⟩
theorem B0 (s t:ByteArray)(w:World)(hs:s.size<=maxLen)(ht:t.size<=maxLen) :
 Calls prog 160 #[.string s,.string t] w fun e w'=>∃ n a l c n' a' l' c',e=.returned (.tuple #[.agg #[.bool n,.slice a l c],.agg #[.bool n',.slice a' l' c'],.bool (isIntB s&&isIntB t)]) /\
  Hn w.heap.size w' s n a l c/\Hn w.heap.size w' t n' a' l' c'/\Up w w':=by
 obtain⟨I,M⟩:=O1 ((w.alloc (.cells #[.bool false,.slice none 0 0] 162)).alloc (.cells #[.bool false,.slice none 0 0] 162));have h:=Hd M;have d0:I.heap.size=w.heap.size+2:=by rw[<-M];simp
 have d4:Hid (Up w I):=by rw[<-M];exact ((Jh _ w).alloc Of _).alloc (by simp) _
 clear M
 go_enter func160,ntmps160
 go_wp2_with fail
 rw[h.o];refine (readInteger_any s I hs).mono ?_;rintro e K ⟨n,a,l,c,rfl,b6,U⟩;obtain⟨A,G⟩:=O1 (K.alloc (.cells #[.bool n,.slice a l c] 162));have c6:=Hd G;have e5:A.heap.size=K.heap.size+1:=by rw[<-G];simp
 have d6:w.heap.size+2<=K.heap.size:=by have:=U.size;omega
 have j:Hid (Up I A):=by rw[<-G];exact U.alloc U.size _
 have c8:Hid (Hn I.heap.size A s n a l c):=by rw[<-G];exact b6.below (Oy _ _)
 have b5:A.cell? ⟨K.heap.size,0,none⟩=some (.bool n):=by rw[<-G,Jp _ _ _ _ rfl];rfl
 have b4:A.cell? ⟨K.heap.size,1,none⟩=some (.slice a l c):=by rw[<-G,Jp _ _ _ _ rfl];rfl
 have d5:=Hd b5;have b9:=Hd b4;clear G b5 b4 U b6;obtain⟨bs,Y⟩:∃ x,isIntB s=x:=⟨_,rfl⟩;have d2:=Hd Y;rw[Y];clear Y
 go_wp2_with fail
 rw[c6.o];refine (readInteger_any t A ht).mono ?_;rintro e w2 ⟨n',a',l',c',rfl,Z,O⟩;have d8:K.heap.size+1<=w2.heap.size:=by have:=O.size;omega
 obtain⟨E,J⟩:=O1 (w2.alloc (.cells #[.bool n',.slice a' l' c'] 162));have d3:=Hd J;have d:Hid (Up A E):=by rw[<-J];exact O.alloc O.size _
 have b8:Hid (Hn A.heap.size E t n' a' l' c'):=by rw[<-J];exact Z.below (Oy _ _)
 have y0:E.cell? ⟨K.heap.size,0,none⟩=some (.bool n):=by rw[d.o.cell (p:=⟨K.heap.size,0,none⟩) (by show K.heap.size<A.heap.size;omega)];exact d5.o
 have y1:E.cell? ⟨K.heap.size,1,none⟩=some (.slice a l c):=by rw[d.o.cell (p:=⟨K.heap.size,1,none⟩) (by show K.heap.size<A.heap.size;omega)];exact b9.o
 have v0:E.cell? ⟨w2.heap.size,0,none⟩=some (.bool n'):=by rw[<-J,Jp _ _ _ _ rfl];rfl
 have v1:E.cell? ⟨w2.heap.size,1,none⟩=some (.slice a' l' c'):=by rw[<-J,Jp _ _ _ _ rfl];rfl
 clear Z O J;have p0:E.cell? ⟨w.heap.size,0,none⟩=some (.bool false):=by
  rw[d.o.cell (p:=⟨w.heap.size,0,none⟩) (by show w.heap.size<A.heap.size;omega),j.o.cell (p:=⟨w.heap.size,0,none⟩) (by show w.heap.size<I.heap.size;omega)];rw[<-h.o,Jt _ _ _ (by simp),Jp _ _ _ _ rfl];rfl
 have e3:E.frozen? ⟨w.heap.size,0,none⟩=false:=by
  rw[d.o.frozen (p:=⟨w.heap.size,0,none⟩) (by show w.heap.size<A.heap.size;omega),j.o.frozen (p:=⟨w.heap.size,0,none⟩) (by show w.heap.size<I.heap.size;omega)];rw[<-h.o,(Oy (w.alloc (.cells #[.bool false,.slice none 0 0] 162)) _).frozen (p:=⟨w.heap.size,0,none⟩) (by simp),J7 _ _ _ _ rfl]
 have p1:E.cell? ⟨w.heap.size,1,none⟩=some (.slice none 0 0):=by
  rw[d.o.cell (p:=⟨w.heap.size,1,none⟩) (by show w.heap.size<A.heap.size;omega),j.o.cell (p:=⟨w.heap.size,1,none⟩) (by show w.heap.size<I.heap.size;omega)];rw[<-h.o,Jt _ _ _ (by simp),Jp _ _ _ _ rfl];rfl
 have e8:E.frozen? ⟨w.heap.size,1,none⟩=false:=by
  rw[d.o.frozen (p:=⟨w.heap.size,1,none⟩) (by show w.heap.size<A.heap.size;omega),j.o.frozen (p:=⟨w.heap.size,1,none⟩) (by show w.heap.size<I.heap.size;omega)];rw[<-h.o,(Oy (w.alloc (.cells #[.bool false,.slice none 0 0] 162)) _).frozen (p:=⟨w.heap.size,1,none⟩) (by simp),J7 _ _ _ _ rfl]
 have q0:E.cell? ⟨w.heap.size+1,0,none⟩=some (.bool false):=by
  rw[d.o.cell (p:=⟨w.heap.size+1,0,none⟩) (by show w.heap.size+1<A.heap.size;omega),j.o.cell (p:=⟨w.heap.size+1,0,none⟩) (by show w.heap.size+1<I.heap.size;omega)];rw[<-h.o,Jp _ _ _ _ (by simp)];rfl
 have e7:E.frozen? ⟨w.heap.size+1,0,none⟩=false:=by
  rw[d.o.frozen (p:=⟨w.heap.size+1,0,none⟩) (by show w.heap.size+1<A.heap.size;omega),j.o.frozen (p:=⟨w.heap.size+1,0,none⟩) (by show w.heap.size+1<I.heap.size;omega)];rw[<-h.o,J7 _ _ _ _ (by simp)]
 have q1:E.cell? ⟨w.heap.size+1,1,none⟩=some (.slice none 0 0):=by
  rw[d.o.cell (p:=⟨w.heap.size+1,1,none⟩) (by show w.heap.size+1<A.heap.size;omega),j.o.cell (p:=⟨w.heap.size+1,1,none⟩) (by show w.heap.size+1<I.heap.size;omega)];rw[<-h.o,Jp _ _ _ _ (by simp)];rfl
 have e1:E.frozen? ⟨w.heap.size+1,1,none⟩=false:=by
  rw[d.o.frozen (p:=⟨w.heap.size+1,1,none⟩) (by show w.heap.size+1<A.heap.size;omega),j.o.frozen (p:=⟨w.heap.size+1,1,none⟩) (by show w.heap.size+1<I.heap.size;omega)];rw[<-h.o,J7 _ _ _ _ (by simp)]
 have b3:Hid (Up w E):=d4.o.trans ((j.o.mono (by omega)).trans (d.o.mono (by omega)));have a7:Hid (Hn (w.heap.size+2) E s n a l c):=by
  have h0:=c8.o.below d.o;rw[d0] at h0;exact h0
 have a8:Hid (Hn (w.heap.size+2) E t n' a' l' c'):=b8.o.mono (by omega);obtain⟨bt,V⟩:∃ x,isIntB t=x:=⟨_,rfl⟩;have d1:=Hd V;rw[V];clear V
 cases bs
 all_goals
  go_wp2
  rw[d3.o]
  go_region
  go_wp2
  refine Jj (v:=.tuple #[.agg #[.bool n,.slice a l c],.agg #[.bool n',.slice a' l' c'],.bool (_&&bt)]) ?_ rfl ⟨n,a,l,c,n',a',l',c',by rw[d2.o,d1.o],?_,?_,?_⟩
  ·simp[results,results160,go_sem,p0,p1,q0,q1]
  ·exact ((((a7.o.setCell _ _ (by show w.heap.size<_;omega)).setCell _ _ (by show w.heap.size<_;omega)).setCell _ _ (by show w.heap.size+1<_;omega)).setCell _ _ (by show w.heap.size+1<_;omega)).mono (by omega)
  ·exact ((((a8.o.setCell _ _ (by show w.heap.size<_;omega)).setCell _ _ (by show w.heap.size<_;omega)).setCell _ _ (by show w.heap.size+1<_;omega)).setCell _ _ (by show w.heap.size+1<_;omega)).mono (by omega)
  exact ((((b3.o.setCell Of _).setCell Of _).setCell (Y1 _) _).setCell (Y1 _) _).drew
def Tn (z0:Int)(zn:Bool)(zl:Nat):Bool:=if 0<zl then zn else decide (z0<0)
theorem U5 (z0:Int)(zn:Bool)(za:Option Addr)(zl zc:Nat)(w:World) :
 Calls prog 105 #[.agg #[.int .i64 z0,.bool zn,.slice za zl zc]] w fun e w'=>e=.returned (.bool ((zl:Int)==0))/\w'=w.alloc (.cells #[.int .i64 z0,.bool zn,.slice za zl zc] 123):=by
 go_enter func105,ntmps105
 go_wp2
 go_ret
 exact⟨rfl,rfl⟩
theorem Er (z0:Int)(zn:Bool)(za:Option Addr)(zl zc:Nat)(w:World) :
 Calls prog 124 #[.agg #[.int .i64 z0,.bool zn,.slice za zl zc]] w fun e w'=>e=.returned (.bool (Tn z0 zn zl))/\w'=w.alloc (.cells #[.int .i64 z0,.bool zn,.slice za zl zc] 123):=by
 by_cases h:0<zl
 ·have d:Hid (Tn z0 zn zl=zn):=if_pos h
  go_enter func124,ntmps124
  go_wp2
  go_ret
  exact⟨by rw[d.o];rfl,rfl⟩
 have d:Hid (Tn z0 zn zl=decide (z0<0)):=if_neg h
 go_enter func124,ntmps124
 go_wp2
 go_ret
 exact⟨by rw[d.o];rfl,rfl⟩
theorem Om {w W:World}(h:Up w W)(o:Obj):Up w (W.alloc o):=h.alloc h.size o
theorem Qb (a b:List Nat) : -1<=El a b/\El a b<=1:=by
 have h:∀ k,-1<=K7 a b k/\K7 a b k<=1:=fun k=>by
  induction k with
  | zero=>simp[K7]
  | succ k ih=>simp only[K7];split<;>(try split)<;>omega
 have:=h a.length;unfold El
 split<;>(try split)<;>omega
end Go.Proofs.YtipgjenolpofpaaGreatDoor.Q
