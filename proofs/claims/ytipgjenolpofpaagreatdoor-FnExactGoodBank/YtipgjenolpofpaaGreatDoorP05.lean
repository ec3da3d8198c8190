import Derived.Test.YtipgjenolpofpaaGreatDoorP04
set_option maxRecDepth 100000
set_option maxHeartbeats 4000000
namespace Go.Proofs.YtipgjenolpofpaaGreatDoor.Q
open Go.ChangeShapes Go.WideShapes Go.ChangeAt Go.RowKit Go.Proofs.Tryz
theorem Ec {p:Prop}(h:p):Hid p:=h
theorem OE (B:Nat)(x y:Int)(xn yn:Bool)(pa:Option Addr)(la ca:Nat)(pb:Option Addr)(lb cb:Nat)(na nb:Bool)(a b:List Nat)(w:World)(hBw:B<=w.heap.size)(hz:((la:Int)==0)=false∨((la:Int)==0)=true/\((lb:Int)==0)=false)
 (hza:Nu B w (.agg #[.int .i64 x,.bool xn,.slice pa la ca]) na a) (hzb:Nu B w (.agg #[.int .i64 y,.bool yn,.slice pb lb cb]) nb b) (s:Bool) (ha:Tn x xn la=s) (hb:Tn y yn lb=s) (hla:a.length<=1000000) (hlb:b.length<=1000000) :
 Calls prog 143 #[.agg #[.int .i64 x,.bool xn,.slice pa la ca],.agg #[.int .i64 y,.bool yn,.slice pb lb cb]] w fun e w'=>∃ z,e=.returned z/\N5 w.heap.size w' z (sg s (val a)+sg (s) (val b))/\Up w w':=by
 have d5:=Hd ha;have g0:=Hd hb;have c8:Hid (a.length<=1000000/\b.length<=1000000):=⟨hla,hlb⟩;have HX:=Hz w x xn pa la ca y yn pb lb cb 123;obtain⟨A,j⟩:=O1 (((w.alloc (.cells #[.int .i64 x,.bool xn,.slice pa la ca] 123)).alloc (.cells #[.int .i64 y,.bool yn,.slice pb lb cb] 123)).alloc (.cells #[.int .i64 0,.bool false,.slice none 0 0] 123));have e9:=Hd j;have G:Up w A:=by rw[<-j];exact Om (Om (Oy _ _) _) _
 have e7:=Hd G;have d3:A.heap.size=w.heap.size+3:=by rw[<-j];simp
 have b6:w.heap.size<A.heap.size:=by omega
 have b7:w.heap.size+1<A.heap.size:=by omega
 have d6:w.heap.size+2<A.heap.size:=by omega
 rw[j] at HX;have HS:=Hd d3;have a8:=Hd hBw;have J:Hid (∀ W,Up A W->Boxes w.heap.size W x xn pa la ca y yn pb lb cb):=fun W hW=>HX.below (by omega) hW;have e1:Hid (∀ W,Up A W->Nu B W (.agg #[.int .i64 x,.bool xn,.slice pa la ca]) na a):=fun W hW=>(hza.below G).below hW;have g1:Hid (∀ W,Up A W->Nu B W (.agg #[.int .i64 y,.bool yn,.slice pb lb cb]) nb b):=fun W hW=>(hzb.below G).below hW;obtain⟨a0,a1,a2,b0,b1,b2,r0,r1,r2,f0,f1,f2⟩:=HX;clear j d3 ha hb hza hzb G hBw hla hlb;have b4:Hid (∃ W1,Up A W1/\((((la:Int)==0)=false/\A.alloc (.cells #[.int .i64 x,.bool xn,.slice pa la ca] 123)=W1)∨(((la:Int)==0)=true/\((lb:Int)==0)=false/\(A.alloc (.cells #[.int .i64 x,.bool xn,.slice pa la ca] 123)).alloc (.cells #[.int .i64 y,.bool yn,.slice pb lb cb] 123)=W1))):=by
  rcases hz with h|⟨h,h'⟩
  ·exact⟨_,Oy _ _,.inl ⟨h,rfl⟩⟩
  exact⟨_,Om (Oy _ _) _,.inr ⟨h,h',rfl⟩⟩
 obtain⟨W1,K,e2⟩:=b4.o;have d:=Hd K;clear hz b4 K
 go_enter func143,ntmps143
 go_wp2_with fail
 rw[e9.o];refine (U5 _ _ _ _ _ _).mono ?_;rintro e w' ⟨rfl,rfl⟩
 rcases e2 with⟨hz,U⟩|⟨hz,h0,U⟩
 all_goals
  have d9:=Ec U;clear U
  go_wp2_with (go_at_call 105;refine (U5 _ _ _ _ _ _).mono ?_;rintro e w' ⟨rfl,rfl⟩)
  rw[d9.o];clear a0 a1 a2 b0 b1 b2 r0 r1 r2 f0 f1 f2;obtain⟨a0,a1,a2,b0,b1,b2,r0,r1,r2,f0,f1,f2⟩:=J.o W1 d.o;refine (Ev B _ na a _ (e1.o _ d.o) (by have:=d.o.size;have:=HS.o;have:=a8.o;omega)).mono ?_;rintro e wa ⟨va,rfl,b3,b9⟩;have f8:=Hd b3;have I:=d.up b9;clear a0 a1 a2 b0 b1 b2 r0 r1 r2 f0 f1 f2 b3 b9;obtain⟨a0,a1,a2,b0,b1,b2,r0,r1,r2,f0,f1,f2⟩:=J.o wa I.o
  go_wp2_with fail
  refine (Ev B _ nb b _ (g1.o _ I.o) (by have:=I.o.size;have:=HS.o;have:=a8.o;omega)).mono ?_;rintro e Z ⟨vb,rfl,a7,O⟩;have f9:=Hd a7;have d2:Hid (U1 B Z va a):=f8.o.below O;have E:=I.up O;have e6:w.heap.size<Z.heap.size:=by have:=E.o.size;omega
  have e0:w.heap.size+1<Z.heap.size:=by have:=E.o.size;omega
  have f5:w.heap.size+2<Z.heap.size:=by have:=E.o.size;omega
  clear a0 a1 a2 b0 b1 b2 r0 r1 r2 f0 f1 f2 a7 O b6 b7 d6;obtain⟨a0,a1,a2,b0,b1,b2,r0,r1,r2,f0,f1,f2⟩:=J.o Z E.o
  go_wp2_with fail
  go_region_with (first|(go_at_call_of 124 (Value.int IntKind.i64 x);refine (Er _ _ _ _ _ _).mono ?_;rintro e w' ⟨rfl,rfl⟩;rw[d5.o])|(go_at_call_of 124 (Value.int IntKind.i64 y);refine (Er _ _ _ _ _ _).mono ?_;rintro e w' ⟨rfl,rfl⟩;rw[g0.o]))
  all_goals
   simp only[Yz,Ys,Ym,Act.put,Ja,Jd,Je]
   go_wp2_with fail
   refine (Er _ _ _ _ _ _).mono ?_;rintro e wc ⟨rfl,c6⟩;rw[d5.o];have Y:Up Z wc:=by rw[c6];exact Om ((Om (Oy _ _) _).drew) _
   have d0:=Hd Y;have b5:=E.up Y;clear c6 Y a0 a1 a2 b0 b1 b2 r0 r1 r2 f0 f1 f2 e6 e0 f5
   go_wp2_with fail
   refine (ZK B va vb a b _ (d2.o.below d0.o) (f9.o.below d0.o) c8.o.1 c8.o.2).mono ?_;rintro e wd ⟨vd,L,rfl,hL,M,b8⟩;have HL:=Hd hL;have HV:=Hd M;have e5:=b5.up b8;clear hL M b8
   go_wp2_with fail
   refine (Nc _ s vd L _ HL.o).mono ?_;rintro e we ⟨z,rfl,d1,V⟩;have hN:N5 (w.heap.size+3) we z (sg s (val a)+sg s (val b)):=⟨s,Oe L,(((d1 _ _ HL.o).below V).mono (by have:=b5.o.size;have:=HS.o;omega)),by rw[O3,HV.o,CY]⟩;have HN:=Hd hN;have d4:=e5.up V;have e3:Hid (Up w we):=e7.o.trans (d4.o.mono (by have:=HS.o;omega));obtain⟨a0,a1,a2,b0,b1,b2,r0,r1,r2,f0,f1,f2⟩:=J.o we d4.o;obtain⟨z0,zn,za,zl,zc,e4⟩:=hN.shape;subst e4;clear d1 V hN
   go_wp2
   refine Jj ?_ rfl ⟨_,rfl,(((HN.o.setCell _ _ (by simp)).setCell _ _ (by simp)).setCell _ _ (by simp)).mono (by omega),((e3.o.setCell (by simp;omega) _).setCell (by simp;omega) _).setCell (by simp;omega) _⟩;simp[results,results143,go_sem,r0,r1,r2]
theorem RZ (B:Nat)(x y:Int)(xn yn:Bool)(pa:Option Addr)(la ca:Nat)(pb:Option Addr)(lb cb:Nat)(na nb:Bool)(a b:List Nat)(w:World)(hBw:B<=w.heap.size)(hz:((la:Int)==0)=false∨((la:Int)==0)=true/\((lb:Int)==0)=false)
 (hza:Nu B w (.agg #[.int .i64 x,.bool xn,.slice pa la ca]) na a) (hzb:Nu B w (.agg #[.int .i64 y,.bool yn,.slice pb lb cb]) nb b) (s:Bool) (ha:Tn x xn la=s) (hb:Tn y yn lb=!s) (hla:a.length<=1000000) (hlb:b.length<=1000000) (hcm:0<=El a b) :
 Calls prog 143 #[.agg #[.int .i64 x,.bool xn,.slice pa la ca],.agg #[.int .i64 y,.bool yn,.slice pb lb cb]] w fun e w'=>∃ z,e=.returned z/\N5 w.heap.size w' z (sg s (val a)+sg (!s) (val b))/\Up w w':=by
 have b5:=Hd ha;have e7:=Hd hb;have e6:Hid (a.length<=1000000/\b.length<=1000000):=⟨hla,hlb⟩;have d0:Hid (b.length<=a.length/\val b<=val a):=by
  have h:=Ga a b hza.1 hzb.1 hza.2.1 hzb.2.1;have h2:=hcm;rw[h] at h2;refine⟨?_,?_⟩
  ·unfold El at hcm
   by_cases h3:a.length<b.length
   ·simp[h3] at hcm<;>omega
   by_cases h4:b.length<a.length
   ·simp[h3,h4] at hcm<;>omega
   omega
  unfold Bd at h2
  split at h2<;>(try split at h2)<;>omega
 obtain⟨c,hc⟩:=O1 (El a b);have HC:=Hd hc;have e8 : -1<=c/\c<=1:=by rw[<-hc];exact Qb a b
 obtain⟨h9,j2⟩:=e8;rw[hc] at hcm;clear hc;have HX:=Hz w x xn pa la ca y yn pb lb cb 123;obtain⟨E,A⟩:=O1 (((w.alloc (.cells #[.int .i64 x,.bool xn,.slice pa la ca] 123)).alloc (.cells #[.int .i64 y,.bool yn,.slice pb lb cb] 123)).alloc (.cells #[.int .i64 0,.bool false,.slice none 0 0] 123));have g1:=Hd A;have M:Up w E:=by rw[<-A];exact Om (Om (Oy _ _) _) _
 have g8:=Hd M;have d4:E.heap.size=w.heap.size+3:=by rw[<-A];simp
 have d8:w.heap.size<E.heap.size:=by omega
 have d1:w.heap.size+1<E.heap.size:=by omega
 have b6:w.heap.size+2<E.heap.size:=by omega
 rw[A] at HX;have HS:=Hd d4;have b7:=Hd hBw;have G:Hid (∀ W,Up E W->Boxes w.heap.size W x xn pa la ca y yn pb lb cb):=fun W hW=>HX.below (by omega) hW;have g5:Hid (∀ W,Up E W->Nu B W (.agg #[.int .i64 x,.bool xn,.slice pa la ca]) na a):=fun W hW=>(hza.below M).below hW;have g3:Hid (∀ W,Up E W->Nu B W (.agg #[.int .i64 y,.bool yn,.slice pb lb cb]) nb b):=fun W hW=>(hzb.below M).below hW;obtain⟨a0,a1,a2,b0,b1,b2,r0,r1,r2,f0,f1,f2⟩:=HX;clear A d4 ha hb hza hzb M hBw hla hlb;have b9:Hid (∃ W1,Up E W1/\((((la:Int)==0)=false/\E.alloc (.cells #[.int .i64 x,.bool xn,.slice pa la ca] 123)=W1)∨(((la:Int)==0)=true/\((lb:Int)==0)=false/\(E.alloc (.cells #[.int .i64 x,.bool xn,.slice pa la ca] 123)).alloc (.cells #[.int .i64 y,.bool yn,.slice pb lb cb] 123)=W1))):=by
  rcases hz with h|⟨h,h'⟩
  ·exact⟨_,Oy _ _,.inl ⟨h,rfl⟩⟩
  exact⟨_,Om (Oy _ _) _,.inr ⟨h,h',rfl⟩⟩
 obtain⟨W1,O,f8⟩:=b9.o;have d:=Hd O;clear hz b9 O
 go_enter func143,ntmps143
 go_wp2_with fail
 rw[g1.o];refine (U5 _ _ _ _ _ _).mono ?_;rintro e w' ⟨rfl,rfl⟩
 rcases f8 with⟨hz,Y⟩|⟨hz,i6,Y⟩
 all_goals
  have g4:=Ec Y;clear Y
  go_wp2_with (go_at_call 105;refine (U5 _ _ _ _ _ _).mono ?_;rintro e w' ⟨rfl,rfl⟩)
  rw[g4.o];clear a0 a1 a2 b0 b1 b2 r0 r1 r2 f0 f1 f2;obtain⟨a0,a1,a2,b0,b1,b2,r0,r1,r2,f0,f1,f2⟩:=G.o W1 d.o;refine (Ev B _ na a _ (g5.o _ d.o) (by have:=d.o.size;have:=HS.o;have:=b7.o;omega)).mono ?_;rintro e wa ⟨va,rfl,b3,d3⟩;have g2:=Hd b3;have J:=d.up d3;clear a0 a1 a2 b0 b1 b2 r0 r1 r2 f0 f1 f2 b3 d3;obtain⟨a0,a1,a2,b0,b1,b2,r0,r1,r2,f0,f1,f2⟩:=G.o wa J.o
  go_wp2_with fail
  refine (Ev B _ nb b _ (g3.o _ J.o) (by have:=J.o.size;have:=HS.o;have:=b7.o;omega)).mono ?_;rintro e K ⟨vb,rfl,d7,a7⟩;have d6:=Hd d7;have U:Hid (U1 B K va a):=g2.o.below a7;have j:=J.up a7;have g7:w.heap.size<K.heap.size:=by have:=j.o.size;omega
  have f5:w.heap.size+1<K.heap.size:=by have:=j.o.size;omega
  have g9:w.heap.size+2<K.heap.size:=by have:=j.o.size;omega
  clear a0 a1 a2 b0 b1 b2 r0 r1 r2 f0 f1 f2 d7 a7 d8 d1 b6;obtain⟨a0,a1,a2,b0,b1,b2,r0,r1,r2,f0,f1,f2⟩:=G.o K j.o
  go_wp2_with fail
  go_region_with (first|(go_at_call_of 124 (Value.int IntKind.i64 x);refine (Er _ _ _ _ _ _).mono ?_;rintro e w' ⟨rfl,rfl⟩;rw[b5.o])|(go_at_call_of 124 (Value.int IntKind.i64 y);refine (Er _ _ _ _ _ _).mono ?_;rintro e w' ⟨rfl,rfl⟩;rw[e7.o]))
  all_goals
   simp only[Yz,Ys,Ym,Act.put,Ja,Jd,Je]
   go_wp2_with fail
   refine (Nf B va vb a b _ (U.o.below ?_) (d6.o.below ?_)).mono ?_
   ·exact (Om (Oy _ _) _).drew
   ·exact (Om (Oy _ _) _).drew
   rintro e wk ⟨rfl,b8⟩;rw[HC.o];have I:Up K wk:=((Om (Oy K (.cells #[.int .i64 x,.bool xn,.slice pa la ca] 123)) (.cells #[.int .i64 y,.bool yn,.slice pb lb cb] 123)).drew).trans (b8.mono (by show K.heap.size<=_;simp;omega));have d2:=Hd I;have e5:=j.up I;clear b8 I a0 a1 a2 b0 b1 b2 r0 r1 r2 f0 f1 f2 g7 f5 g9;obtain⟨a0,a1,a2,b0,b1,b2,r0,r1,r2,f0,f1,f2⟩:=G.o wk e5.o
   go_wp2_with fail
   refine (Er _ _ _ _ _ _).mono ?_;rintro e wc ⟨rfl,d9⟩;rw[b5.o];have Z:Up K wc:=by rw[d9];exact d2.o.alloc d2.o.size _
   have b4:=Hd Z;have c6:=j.up Z;clear d9 Z a0 a1 a2 b0 b1 b2 r0 r1 r2 f0 f1 f2
   go_wp2_with fail
   refine (Cc B va vb a b _ (U.o.below b4.o) (d6.o.below b4.o) e6.o.1 d0.o.1 d0.o.2).mono ?_;rintro e wd ⟨vd,L,rfl,hL,V,c8⟩;have HL:=Hd hL;have HV:=Hd V;have g6:=c6.up c8;clear hL V c8
   go_wp2_with fail
   refine (Nc _ s vd L _ HL.o).mono ?_;rintro e we ⟨z,rfl,e0,a8⟩;have hN:N5 (w.heap.size+3) we z (sg s (val a)+sg (!s) (val b)):=⟨s,Oe L,(((e0 _ _ HL.o).below a8).mono (by have:=c6.o.size;have:=HS.o;omega)),by rw[O3,QQ s _ _ _ HV.o]⟩;have HN:=Hd hN;have d5:=g6.up a8;have f9:Hid (Up w we):=g8.o.trans (d5.o.mono (by have:=HS.o;omega));obtain⟨a0,a1,a2,b0,b1,b2,r0,r1,r2,f0,f1,f2⟩:=G.o we d5.o;obtain⟨z0,zn,za,zl,zc,g0⟩:=hN.shape;subst g0;clear e0 a8 hN
   go_wp2
   refine Jj ?_ rfl ⟨_,rfl,(((HN.o.setCell _ _ (by simp)).setCell _ _ (by simp)).setCell _ _ (by simp)).mono (by omega),((f9.o.setCell (by simp;omega) _).setCell (by simp;omega) _).setCell (by simp;omega) _⟩;simp[results,results143,go_sem,r0,r1,r2]
end Go.Proofs.YtipgjenolpofpaaGreatDoor.Q
