import Derived.Test.YtipgjenolpofpaaGreatDoorP02
import Derived.Deep.RegionWith
set_option maxRecDepth 100000
set_option maxHeartbeats 2000000
namespace Go.Proofs.YtipgjenolpofpaaGreatDoor.Q
open ChangeShapes WideShapes ChangeAt RowKit Proofs.Tryz
def lim (s:ByteArray):List Nat:=Oe (Et (dgs s).data.toList)
def LQ (s:ByteArray):Bool:=U0 (isNeg s) (lim s)
def Hn (B:Nat)(w:World)(s:ByteArray)(n:Bool)(a:Option Addr)(l c:Nat):Prop:=
 isIntB s=true->n=LQ s/\U1 B w (.slice a l c) (lim s)
theorem readInteger_any (s:ByteArray)(w:World)(hs:s.size<=maxLen) :
 Calls prog 139 #[.string s] w fun e w'=>∃ n a l c,e=.returned (.tuple #[.agg #[.bool n,.slice a l c],.bool (isIntB s)])/\Hn w.heap.size w' s n a l c/\Up w w':=by
 cases d:isIntB s
 ·refine (Fm s w hs d).mono ?_;rintro e w' ⟨rfl,hb⟩;exact⟨_,_,_,_,rfl,(fun h=>by rw[d] at h;cases h),hb⟩
 refine (D8 s w hs d).mono ?_;rintro e w' ⟨v,rfl,j,hb⟩;obtain⟨a,cap,rfl,_⟩:=id j;exact⟨_,_,_,_,rfl,fun _=>⟨rfl,j⟩,hb⟩
theorem Hn.bl {B:Nat}{w w':World}{s:ByteArray}{n:Bool}{a:Option Addr}{l c:Nat}(h:Hn B w s n a l c)(hb:Up w w'):Hn B w' s n a l c:=
 fun hi=>⟨(h hi).1,(h hi).2.bl hb⟩
theorem Hn.mono {B B':Nat}{w:World}{s:ByteArray}{n:Bool}{a:Option Addr}{l c:Nat}(h:Hn B w s n a l c)(hb:B'<=B):Hn B' w s n a l c:=
 fun hi=>⟨(h hi).1,(h hi).2.mono hb⟩
theorem Hn.setCell {B:Nat}{w:World}{s:ByteArray}{n:Bool}{a:Option Addr}{l c:Nat}(h:Hn B w s n a l c)(p:Addr)(u:Value)(hp:p.block<B):Hn B (w.setCell p u) s n a l c:=
 fun hi=>⟨(h hi).1,(h hi).2.setCell p u hp⟩
theorem Au (s t:ByteArray)(w:World)(hs:s.size<=maxLen)(ht:t.size<=maxLen) :
 Calls prog 160 #[.string s,.string t] w fun e w'=>∃ n a l c n' a' l' c',e=.returned (.tuple #[.agg #[.bool n,.slice a l c],.agg #[.bool n',.slice a' l' c'],.bool (isIntB s&&isIntB t)]) /\
  Hn w.heap.size w' s n a l c/\Hn w.heap.size w' t n' a' l' c'/\Up w w':=by
 obtain⟨I,M⟩:=O1 ((w.alloc (.cells #[.bool false,.slice none 0 0] 162)).alloc (.cells #[.bool false,.slice none 0 0] 162));have j:=Hd M;have d5:I.heap.size=w.heap.size+2:=by rw[<-M];simp
 have b8:Hid (Up w I):=by rw[<-M];exact ((Jh _ w).alloc Of _).alloc (by simp) _
 clear M
 go_in
 go_wp2_with fail
 rw[j.o];refine (readInteger_any s I hs).mono ?_;rintro e K ⟨n,a,l,c,rfl,b3,O⟩;obtain⟨A,G⟩:=O1 (K.alloc (.cells #[.bool n,.slice a l c] 162));have d1:=Hd G;have e0:A.heap.size=K.heap.size+1:=by rw[<-G];simp
 have d7:w.heap.size+2<=K.heap.size:=by have:=O.size;omega
 have h:Hid (Up I A):=by rw[<-G];exact O.alloc O.size _
 have c8:Hid (Hn I.heap.size A s n a l c):=by rw[<-G];exact b3.bl (Oy _ _)
 have b5:A.cell? ⟨K.heap.size,0,none⟩=some (.bool n):=by rw[<-G,Jp _ _ _ _ rfl];rfl
 have b6:A.cell? ⟨K.heap.size,1,none⟩=some (.slice a l c):=by rw[<-G,Jp _ _ _ _ rfl];rfl
 have d3:=Hd b5;have d4:=Hd b6;clear G b5 b6 O b3;obtain⟨bs,V⟩:∃ x,isIntB s=x:=⟨_,rfl⟩;have b9:=Hd V;rw[V];clear V
 go_wp2_with fail
 rw[d1.o];refine (readInteger_any t A ht).mono ?_;rintro e w2 ⟨n',a',l',c',rfl,b4,U⟩;have d8:K.heap.size+1<=w2.heap.size:=by have:=U.size;omega
 obtain⟨E,J⟩:=O1 (w2.alloc (.cells #[.bool n',.slice a' l' c'] 162));have d2:=Hd J;have d:Hid (Up A E):=by rw[<-J];exact U.alloc U.size _
 have d0:Hid (Hn A.heap.size E t n' a' l' c'):=by rw[<-J];exact b4.bl (Oy _ _)
 have y0:E.cell? ⟨K.heap.size,0,none⟩=some (.bool n):=by rw[d.o.cell (p:=⟨K.heap.size,0,none⟩) (by show K.heap.size<A.heap.size;omega)];exact d3.o
 have y1:E.cell? ⟨K.heap.size,1,none⟩=some (.slice a l c):=by rw[d.o.cell (p:=⟨K.heap.size,1,none⟩) (by show K.heap.size<A.heap.size;omega)];exact d4.o
 have v0:E.cell? ⟨w2.heap.size,0,none⟩=some (.bool n'):=by rw[<-J,Jp _ _ _ _ rfl];rfl
 have v1:E.cell? ⟨w2.heap.size,1,none⟩=some (.slice a' l' c'):=by rw[<-J,Jp _ _ _ _ rfl];rfl
 clear b4 U J;have p0:E.cell? ⟨w.heap.size,0,none⟩=some (.bool false):=by
  rw[d.o.cell (p:=⟨w.heap.size,0,none⟩) (by show w.heap.size<A.heap.size;omega),h.o.cell (p:=⟨w.heap.size,0,none⟩) (by show w.heap.size<I.heap.size;omega)];rw[<-j.o,Jt _ _ _ (by simp),Jp _ _ _ _ rfl];rfl
 have e3:E.frozen? ⟨w.heap.size,0,none⟩=false:=by
  rw[d.o.frozen (p:=⟨w.heap.size,0,none⟩) (by show w.heap.size<A.heap.size;omega),h.o.frozen (p:=⟨w.heap.size,0,none⟩) (by show w.heap.size<I.heap.size;omega)];rw[<-j.o,(Oy (w.alloc (.cells #[.bool false,.slice none 0 0] 162)) _).frozen (p:=⟨w.heap.size,0,none⟩) (by simp),J7 _ _ _ _ rfl]
 have p1:E.cell? ⟨w.heap.size,1,none⟩=some (.slice none 0 0):=by
  rw[d.o.cell (p:=⟨w.heap.size,1,none⟩) (by show w.heap.size<A.heap.size;omega),h.o.cell (p:=⟨w.heap.size,1,none⟩) (by show w.heap.size<I.heap.size;omega)];rw[<-j.o,Jt _ _ _ (by simp),Jp _ _ _ _ rfl];rfl
 have e4:E.frozen? ⟨w.heap.size,1,none⟩=false:=by
  rw[d.o.frozen (p:=⟨w.heap.size,1,none⟩) (by show w.heap.size<A.heap.size;omega),h.o.frozen (p:=⟨w.heap.size,1,none⟩) (by show w.heap.size<I.heap.size;omega)];rw[<-j.o,(Oy (w.alloc (.cells #[.bool false,.slice none 0 0] 162)) _).frozen (p:=⟨w.heap.size,1,none⟩) (by simp),J7 _ _ _ _ rfl]
 have q0:E.cell? ⟨w.heap.size+1,0,none⟩=some (.bool false):=by
  rw[d.o.cell (p:=⟨w.heap.size+1,0,none⟩) (by show w.heap.size+1<A.heap.size;omega),h.o.cell (p:=⟨w.heap.size+1,0,none⟩) (by show w.heap.size+1<I.heap.size;omega)];rw[<-j.o,Jp _ _ _ _ (by simp)];rfl
 have e7:E.frozen? ⟨w.heap.size+1,0,none⟩=false:=by
  rw[d.o.frozen (p:=⟨w.heap.size+1,0,none⟩) (by show w.heap.size+1<A.heap.size;omega),h.o.frozen (p:=⟨w.heap.size+1,0,none⟩) (by show w.heap.size+1<I.heap.size;omega)];rw[<-j.o,J7 _ _ _ _ (by simp)]
 have q1:E.cell? ⟨w.heap.size+1,1,none⟩=some (.slice none 0 0):=by
  rw[d.o.cell (p:=⟨w.heap.size+1,1,none⟩) (by show w.heap.size+1<A.heap.size;omega),h.o.cell (p:=⟨w.heap.size+1,1,none⟩) (by show w.heap.size+1<I.heap.size;omega)];rw[<-j.o,Jp _ _ _ _ (by simp)];rfl
 have e8:E.frozen? ⟨w.heap.size+1,1,none⟩=false:=by
  rw[d.o.frozen (p:=⟨w.heap.size+1,1,none⟩) (by show w.heap.size+1<A.heap.size;omega),h.o.frozen (p:=⟨w.heap.size+1,1,none⟩) (by show w.heap.size+1<I.heap.size;omega)];rw[<-j.o,J7 _ _ _ _ (by simp)]
 have Z:Hid (Up w E):=b8.o.trans ((h.o.mono (by omega)).trans (d.o.mono (by omega)));have a7:Hid (Hn (w.heap.size+2) E s n a l c):=by
  have h0:=c8.o.bl d.o;rw[d5] at h0;exact h0
 have a8:Hid (Hn (w.heap.size+2) E t n' a' l' c'):=d0.o.mono (by omega);obtain⟨bt,Y⟩:∃ x,isIntB t=x:=⟨_,rfl⟩;have c6:=Hd Y;rw[Y];clear Y
 cases bs
 all_goals
  go_wp2
  rw[d2.o]
  go_region
  go_wp2
  refine Jj (v:=.tuple #[.agg #[.bool n,.slice a l c],.agg #[.bool n',.slice a' l' c'],.bool (_&&bt)]) ?_ rfl ⟨n,a,l,c,n',a',l',c',by rw[b9.o,c6.o],?_,?_,?_⟩
  ·simp[results,results160,go_sem,p0,p1,q0,q1]
  ·exact ((((a7.o.setCell _ _ (by show w.heap.size<_;omega)).setCell _ _ (by show w.heap.size<_;omega)).setCell _ _ (by show w.heap.size+1<_;omega)).setCell _ _ (by show w.heap.size+1<_;omega)).mono (by omega)
  ·exact ((((a8.o.setCell _ _ (by show w.heap.size<_;omega)).setCell _ _ (by show w.heap.size<_;omega)).setCell _ _ (by show w.heap.size+1<_;omega)).setCell _ _ (by show w.heap.size+1<_;omega)).mono (by omega)
  exact ((((Z.o.setCell Of _).setCell Of _).setCell (Y2 _) _).setCell (Y2 _) _).drew
def Tp (z0:Int)(zn:Bool)(zl:Nat):Bool:=if 0<zl then zn else decide (z0<0)
theorem U6 (z0:Int)(zn:Bool)(za:Option Addr)(zl zc:Nat)(w:World) :
 Calls prog 105 #[.agg #[.int .i64 z0,.bool zn,.slice za zl zc]] w fun e w'=>e=.returned (.bool ((zl:Int)==0))/\w'=w.alloc (.cells #[.int .i64 z0,.bool zn,.slice za zl zc] 123):=by
 go_in
 go_wp2
 go_ret
 exact⟨rfl,rfl⟩
theorem Er (z0:Int)(zn:Bool)(za:Option Addr)(zl zc:Nat)(w:World) :
 Calls prog 124 #[.agg #[.int .i64 z0,.bool zn,.slice za zl zc]] w fun e w'=>e=.returned (.bool (Tp z0 zn zl))/\w'=w.alloc (.cells #[.int .i64 z0,.bool zn,.slice za zl zc] 123):=by
 by_cases h:0<zl
 ·have d:Hid (Tp z0 zn zl=zn):=if_pos h
  go_in
  go_wp2
  go_ret
  exact⟨by rw[d.o];rfl,rfl⟩
 have d:Hid (Tp z0 zn zl=decide (z0<0)):=if_neg h
 go_in
 go_wp2
 go_ret
 exact⟨by rw[d.o];rfl,rfl⟩
theorem Om {w W:World}(h:Up w W)(o:Obj):Up w (W.alloc o):=h.alloc h.size o
theorem Qe (a b:List Nat) : -1<=El a b/\El a b<=1:=by
 have h:∀ k,-1<=K7 a b k/\K7 a b k<=1:=fun k=>by
  induction k with
  | zero=>simp[K7]
  | succ k ih=>simp only[K7];split<;>(try split)<;>omega
 have:=h a.length;unfold El
 split<;>(try split)<;>omega
end Go.Proofs.YtipgjenolpofpaaGreatDoor.Q
