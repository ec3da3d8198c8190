import Derived.Test.YtdmdmgfjpomdbaaGreatDoorP02
import Derived.Deep.RegionWith
set_option maxRecDepth 100000
set_option maxHeartbeats 2000000
namespace Go.Proofs.YtdmdmgfjpomdbaaGreatDoor.Q
open ChangeShapes WideShapes ChangeAt RowKit Proofs.Tryz
variable {B c l:Nat}{a:Option Addr}{n:Bool}{s:ByteArray}{w:World}
def lim (s:ByteArray):List Nat:=Og (Nn (dgs s).data.toList)
def SZ (s:ByteArray):Bool:=Ky (isNeg s) (lim s)
def In (B:Nat)(w:World)(s:ByteArray)(n:Bool)(a:Option Addr)(l c:Nat):Prop:=
 isIntB s=true->n=SZ s/\Kz B w (.slice a l c) (lim s)
theorem readInteger_any (s:ByteArray)(w:World)(hs:s.size<=maxLen) :
 Calls prog 131 #[.string s] w fun e w'=>∃ n a l c,e=.returned (.tuple #[.agg #[.bool n,.slice a l c],.bool (isIntB s)])/\In w.heap.size w' s n a l c/\Up w w':=by
 cases d:isIntB s
 ·refine (Ms s w hs d).mono ?_;rintro e w' ⟨rfl,hb⟩;exact⟨_,_,_,_,rfl,(fun h=>by rw[d] at h;cases h),hb⟩
 refine (Fr s w hs d).mono ?_;rintro e w' ⟨v,rfl,j,hb⟩;obtain⟨a,cap,rfl,_⟩:=id j;exact⟨_,_,_,_,rfl,fun _=>⟨rfl,j⟩,hb⟩
theorem In.bl {w':World}(h:In B w s n a l c)(hb:Up w w'):In B w' s n a l c:=
 fun hi=>⟨(h hi).1,(h hi).2.bl hb⟩
theorem In.mono {B':Nat}(h:In B w s n a l c)(hb:B'<=B):In B' w s n a l c:=
 fun hi=>⟨(h hi).1,(h hi).2.mono hb⟩
theorem In.setCell (h:In B w s n a l c)(p:Addr)(u:Value)(hp:p.block<B):In B (w.setCell p u) s n a l c:=
 fun hi=>⟨(h hi).1,(h hi).2.setCell p u hp⟩
theorem Te (s t:ByteArray)(w:World)(hs:s.size<=maxLen)(ht:t.size<=maxLen) :
 Calls prog 151 #[.string s,.string t] w fun e w'=>∃ n a l c n' a' l' c',e=.returned (.tuple #[.agg #[.bool n,.slice a l c],.agg #[.bool n',.slice a' l' c'],.bool (isIntB s&&isIntB t)]) /\
  In w.heap.size w' s n a l c/\In w.heap.size w' t n' a' l' c'/\Up w w':=by
 obtain⟨I,M⟩:=Oa ((w.alloc (.cells #[.bool false,.slice none 0 0] 155)).alloc (.cells #[.bool false,.slice none 0 0] 155));have j:=Hd M;have d3:I.heap.size=w.heap.size+2:=by rw[<-M];simp
 have b6:Hid (Up w I):=by rw[<-M];exact ((Je _ w).alloc leR _).alloc (by simp) _
 clear M
 go_in
 go_wp2_with fail
 rw[j.o];refine (readInteger_any s I hs).mono ?_;rintro e K ⟨n,a,l,c,rfl,a8,O⟩;obtain⟨A,G⟩:=Oa (K.alloc (.cells #[.bool n,.slice a l c] 155));have c8:=Hd G;have d8:A.heap.size=K.heap.size+1:=by rw[<-G];simp
 have d5:w.heap.size+2<=K.heap.size:=by have:=O.size;omega
 have h:Hid (Up I A):=by rw[<-G];exact O.alloc O.size _
 have b9:Hid (In I.heap.size A s n a l c):=by rw[<-G];exact a8.bl (Oz _ _)
 have b4:A.cell? ⟨K.heap.size,0,none⟩=some (.bool n):=by rw[<-G,Jn _ _ _ _ rfl];rfl
 have b5:A.cell? ⟨K.heap.size,1,none⟩=some (.slice a l c):=by rw[<-G,Jn _ _ _ _ rfl];rfl
 have d1:=Hd b4;have d2:=Hd b5;clear G b4 b5 O a8;obtain⟨bs,U⟩:∃ x,isIntB s=x:=⟨_,rfl⟩;have b7:=Hd U;rw[U];clear U
 go_wp2_with fail
 rw[c8.o];refine (readInteger_any t A ht).mono ?_;rintro e w2 ⟨n',a',l',c',rfl,b3,hb2⟩;have d6:K.heap.size+1<=w2.heap.size:=by have:=hb2.size;omega
 obtain⟨E,J⟩:=Oa (w2.alloc (.cells #[.bool n',.slice a' l' c'] 155));have d0:=Hd J;have d:Hid (Up A E):=by rw[<-J];exact hb2.alloc hb2.size _
 have c6:Hid (In A.heap.size E t n' a' l' c'):=by rw[<-J];exact b3.bl (Oz _ _)
 have y0:E.cell? ⟨K.heap.size,0,none⟩=some (.bool n):=by rw[d.o.cell (p:=⟨K.heap.size,0,none⟩) (by show K.heap.size<A.heap.size;omega)];exact d1.o
 have y1:E.cell? ⟨K.heap.size,1,none⟩=some (.slice a l c):=by rw[d.o.cell (p:=⟨K.heap.size,1,none⟩) (by show K.heap.size<A.heap.size;omega)];exact d2.o
 have v0:E.cell? ⟨w2.heap.size,0,none⟩=some (.bool n'):=by rw[<-J,Jn _ _ _ _ rfl];rfl
 have v1:E.cell? ⟨w2.heap.size,1,none⟩=some (.slice a' l' c'):=by rw[<-J,Jn _ _ _ _ rfl];rfl
 clear b3 hb2 J;have p0:E.cell? ⟨w.heap.size,0,none⟩=some (.bool false):=by
  rw[d.o.cell (p:=⟨w.heap.size,0,none⟩) (by show w.heap.size<A.heap.size;omega),h.o.cell (p:=⟨w.heap.size,0,none⟩) (by show w.heap.size<I.heap.size;omega)];rw[<-j.o,Jy _ _ _ (by simp),Jn _ _ _ _ rfl];rfl
 have e1:E.frozen? ⟨w.heap.size,0,none⟩=false:=by
  rw[d.o.frozen (p:=⟨w.heap.size,0,none⟩) (by show w.heap.size<A.heap.size;omega),h.o.frozen (p:=⟨w.heap.size,0,none⟩) (by show w.heap.size<I.heap.size;omega)];rw[<-j.o,(Oz (w.alloc (.cells #[.bool false,.slice none 0 0] 155)) _).frozen (p:=⟨w.heap.size,0,none⟩) (by simp),Ya _ _ _ _ rfl]
 have p1:E.cell? ⟨w.heap.size,1,none⟩=some (.slice none 0 0):=by
  rw[d.o.cell (p:=⟨w.heap.size,1,none⟩) (by show w.heap.size<A.heap.size;omega),h.o.cell (p:=⟨w.heap.size,1,none⟩) (by show w.heap.size<I.heap.size;omega)];rw[<-j.o,Jy _ _ _ (by simp),Jn _ _ _ _ rfl];rfl
 have e3:E.frozen? ⟨w.heap.size,1,none⟩=false:=by
  rw[d.o.frozen (p:=⟨w.heap.size,1,none⟩) (by show w.heap.size<A.heap.size;omega),h.o.frozen (p:=⟨w.heap.size,1,none⟩) (by show w.heap.size<I.heap.size;omega)];rw[<-j.o,(Oz (w.alloc (.cells #[.bool false,.slice none 0 0] 155)) _).frozen (p:=⟨w.heap.size,1,none⟩) (by simp),Ya _ _ _ _ rfl]
 have q0:E.cell? ⟨w.heap.size+1,0,none⟩=some (.bool false):=by
  rw[d.o.cell (p:=⟨w.heap.size+1,0,none⟩) (by show w.heap.size+1<A.heap.size;omega),h.o.cell (p:=⟨w.heap.size+1,0,none⟩) (by show w.heap.size+1<I.heap.size;omega)];rw[<-j.o,Jn _ _ _ _ (by simp)];rfl
 have e6:E.frozen? ⟨w.heap.size+1,0,none⟩=false:=by
  rw[d.o.frozen (p:=⟨w.heap.size+1,0,none⟩) (by show w.heap.size+1<A.heap.size;omega),h.o.frozen (p:=⟨w.heap.size+1,0,none⟩) (by show w.heap.size+1<I.heap.size;omega)];rw[<-j.o,Ya _ _ _ _ (by simp)]
 have q1:E.cell? ⟨w.heap.size+1,1,none⟩=some (.slice none 0 0):=by
  rw[d.o.cell (p:=⟨w.heap.size+1,1,none⟩) (by show w.heap.size+1<A.heap.size;omega),h.o.cell (p:=⟨w.heap.size+1,1,none⟩) (by show w.heap.size+1<I.heap.size;omega)];rw[<-j.o,Jn _ _ _ _ (by simp)];rfl
 have e7:E.frozen? ⟨w.heap.size+1,1,none⟩=false:=by
  rw[d.o.frozen (p:=⟨w.heap.size+1,1,none⟩) (by show w.heap.size+1<A.heap.size;omega),h.o.frozen (p:=⟨w.heap.size+1,1,none⟩) (by show w.heap.size+1<I.heap.size;omega)];rw[<-j.o,Ya _ _ _ _ (by simp)]
 have Y:Hid (Up w E):=b6.o.trans ((h.o.mono (by omega)).trans (d.o.mono (by omega)));have Z:Hid (In (w.heap.size+2) E s n a l c):=by
  have h0:=b9.o.bl d.o;rw[d3] at h0;exact h0
 have a7:Hid (In (w.heap.size+2) E t n' a' l' c'):=c6.o.mono (by omega);obtain⟨bt,V⟩:∃ x,isIntB t=x:=⟨_,rfl⟩;have b8:=Hd V;rw[V];clear V
 cases bs
 all_goals
  go_wp2
  rw[d0.o]
  go_region
  go_wp2
  refine Jg (v:=.tuple #[.agg #[.bool n,.slice a l c],.agg #[.bool n',.slice a' l' c'],.bool (_&&bt)]) ?_ rfl ⟨n,a,l,c,n',a',l',c',by rw[b7.o,b8.o],?_,?_,?_⟩
  ·simp[results,results151,go_sem,p0,p1,q0,q1]
  ·exact ((((Z.o.setCell _ _ (by show w.heap.size<_;omega)).setCell _ _ (by show w.heap.size<_;omega)).setCell _ _ (by show w.heap.size+1<_;omega)).setCell _ _ (by show w.heap.size+1<_;omega)).mono (by omega)
  ·exact ((((a7.o.setCell _ _ (by show w.heap.size<_;omega)).setCell _ _ (by show w.heap.size<_;omega)).setCell _ _ (by show w.heap.size+1<_;omega)).setCell _ _ (by show w.heap.size+1<_;omega)).mono (by omega)
  exact ((((Y.o.setCell leR _).setCell leR _).setCell (Y4 _) _).setCell (Y4 _) _).drew
def YG (z0:Int)(zn:Bool)(zl:Nat):Bool:=if 0<zl then zn else decide (z0<0)
theorem Ki (z0:Int)(zn:Bool)(za:Option Addr)(zl zc:Nat)(w:World) :
 Calls prog 103 #[.agg #[.int .i64 z0,.bool zn,.slice za zl zc]] w fun e w'=>e=.returned (.bool ((zl:Int)==0))/\w'=w.alloc (.cells #[.int .i64 z0,.bool zn,.slice za zl zc] 119):=by
 go_in
 go_wp2
 go_ret
 exact⟨rfl,rfl⟩
theorem E0 (z0:Int)(zn:Bool)(za:Option Addr)(zl zc:Nat)(w:World) :
 Calls prog 124 #[.agg #[.int .i64 z0,.bool zn,.slice za zl zc]] w fun e w'=>e=.returned (.bool (YG z0 zn zl))/\w'=w.alloc (.cells #[.int .i64 z0,.bool zn,.slice za zl zc] 119):=by
 by_cases h:0<zl
 ·have d:Hid (YG z0 zn zl=zn):=if_pos h
  go_in
  go_wp2
  go_ret
  exact⟨by rw[d.o];rfl,rfl⟩
 have d:Hid (YG z0 zn zl=decide (z0<0)):=if_neg h
 go_in
 go_wp2
 go_ret
 exact⟨by rw[d.o];rfl,rfl⟩
theorem Ob {W:World}(h:Up w W)(o:Obj):Up w (W.alloc o):=h.alloc h.size o
theorem Rq (a b:List Nat) : -1<=Ny a b/\Ny a b<=1:=by
 have h:∀ k,-1<=Er a b k/\Er a b k<=1:=fun k=>by
  induction k with
  | zero=>simp[Er]
  | succ k ih=>simp only[Er];split<;>(try split)<;>omega
 have:=h a.length;unfold Ny
 split<;>(try split)<;>omega
end Go.Proofs.YtdmdmgfjpomdbaaGreatDoor.Q
