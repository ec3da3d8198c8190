import Derived.Test.YtdmdmgfjpomdbaaGreatDoorP04
set_option maxRecDepth 100000
set_option maxHeartbeats 4000000
namespace Go.Proofs.YtdmdmgfjpomdbaaGreatDoor.Q
open ChangeShapes WideShapes ChangeAt RowKit Proofs.Tryz
theorem E8 {p:Prop}(h:p):Hid p:=h
theorem UQ (B:Nat)(x y:Int)(xn yn:Bool)(pa:Option Addr)(la ca:Nat)(pb:Option Addr)(lb cb:Nat)(na nb:Bool)(a b:List Nat)(w:World)(hBw:B<=w.heap.size)(hz:((la:Int)==0)=false∨((la:Int)==0)=true/\((lb:Int)==0)=false)
 (hza:Gy B w (.agg #[.int .i64 x,.bool xn,.slice pa la ca]) na a) (hzb:Gy B w (.agg #[.int .i64 y,.bool yn,.slice pb lb cb]) nb b) (s:Bool) (ha:YG x xn la=s) (hb:YG y yn lb=s) (hla:a.length<=1000000) (hlb:b.length<=1000000) :
 Calls prog 144 #[.agg #[.int .i64 x,.bool xn,.slice pa la ca],.agg #[.int .i64 y,.bool yn,.slice pb lb cb]] w fun e w'=>∃ z,e=.returned z/\G0 w.heap.size w' z (sg s (val a)+sg (s) (val b))/\Up w w':=by
 have b7:=Hd ha;have e1:=Hd hb;have b6:Hid (a.length<=1000000/\b.length<=1000000):=⟨hla,hlb⟩;have HX:=Iy w x xn pa la ca y yn pb lb cb 119;obtain⟨A,E⟩:=Oa (((w.alloc (.cells #[.int .i64 x,.bool xn,.slice pa la ca] 119)).alloc (.cells #[.int .i64 y,.bool yn,.slice pb lb cb] 119)).alloc (.cells #[.int .i64 0,.bool false,.slice none 0 0] 119));have e5:=Hd E;have J:Up w A:=by rw[<-E];exact Ob (Ob (Oz _ _) _) _
 have d8:=Hd J;have d3:A.heap.size=w.heap.size+3:=by rw[<-E];simp
 have c8:w.heap.size<A.heap.size:=by omega
 have d0:w.heap.size+1<A.heap.size:=by omega
 have d1:w.heap.size+2<A.heap.size:=by omega
 rw[E] at HX;have HS:=Hd d3;have a8:=Hd hBw;have I:Hid (∀ W,Up A W->Boxes w.heap.size W x xn pa la ca y yn pb lb cb):=fun W hW=>HX.bl (by omega) hW;have e8:Hid (∀ W,Up A W->Gy B W (.agg #[.int .i64 x,.bool xn,.slice pa la ca]) na a):=fun W hW=>(hza.bl J).bl hW;have e9:Hid (∀ W,Up A W->Gy B W (.agg #[.int .i64 y,.bool yn,.slice pb lb cb]) nb b):=fun W hW=>(hzb.bl J).bl hW;obtain⟨a0,a1,a2,b0,b1,b2,r0,r1,r2,f0,f1,f2⟩:=HX;clear E d3 ha hb hza hzb J hBw hla hlb;have b5:Hid (∃ W1,Up A W1/\((((la:Int)==0)=false/\A.alloc (.cells #[.int .i64 x,.bool xn,.slice pa la ca] 119)=W1)∨(((la:Int)==0)=true/\((lb:Int)==0)=false/\(A.alloc (.cells #[.int .i64 x,.bool xn,.slice pa la ca] 119)).alloc (.cells #[.int .i64 y,.bool yn,.slice pb lb cb] 119)=W1))):=by
  rcases hz with h|⟨h,h'⟩
  ·exact⟨_,Oz _ _,.inl ⟨h,rfl⟩⟩
  exact⟨_,Ob (Oz _ _) _,.inr ⟨h,h',rfl⟩⟩
 obtain⟨W1,K,g2⟩:=b5.o;have d:=Hd K;clear hz b5 K
 go_in
 go_wp2_with fail
 rw[e5.o];refine (Ki _ _ _ _ _ _).mono ?_;rintro e w' ⟨rfl,rfl⟩
 rcases g2 with⟨hz,O⟩|⟨hz,h0,O⟩
 all_goals
  have e6:=E8 O;clear O
  go_wp2_with (go_at_call 103;refine (Ki _ _ _ _ _ _).mono ?_;rintro e w' ⟨rfl,rfl⟩)
  rw[e6.o];clear a0 a1 a2 b0 b1 b2 r0 r1 r2 f0 f1 f2;obtain⟨a0,a1,a2,b0,b1,b2,r0,r1,r2,f0,f1,f2⟩:=I.o W1 d.o;refine (El B _ na a _ (e8.o _ d.o) (by have:=d.o.size;have:=HS.o;have:=a8.o;omega)).mono ?_;rintro e wa ⟨va,rfl,d4,b9⟩;have e3:=Hd d4;have G:=d.up b9;clear a0 a1 a2 b0 b1 b2 r0 r1 r2 f0 f1 f2 d4 b9;obtain⟨a0,a1,a2,b0,b1,b2,r0,r1,r2,f0,f1,f2⟩:=I.o wa G.o
  go_wp2_with fail
  refine (El B _ nb b _ (e9.o _ G.o) (by have:=G.o.size;have:=HS.o;have:=a8.o;omega)).mono ?_;rintro e Z ⟨vb,rfl,d5,U⟩;have e4:=Hd d5;have b8:Hid (Kz B Z va a):=e3.o.bl U;have j:=G.up U;have f9:w.heap.size<Z.heap.size:=by have:=j.o.size;omega
  have g0:w.heap.size+1<Z.heap.size:=by have:=j.o.size;omega
  have g1:w.heap.size+2<Z.heap.size:=by have:=j.o.size;omega
  clear a0 a1 a2 b0 b1 b2 r0 r1 r2 f0 f1 f2 d5 U c8 d0 d1;obtain⟨a0,a1,a2,b0,b1,b2,r0,r1,r2,f0,f1,f2⟩:=I.o Z j.o
  go_wp2
  go_region_with (first|(go_at_call_of 124 (Value.int IntKind.i64 x);refine (E0 _ _ _ _ _ _).mono ?_;rintro e w' ⟨rfl,rfl⟩;rw[b7.o])|(go_at_call_of 124 (Value.int IntKind.i64 y);refine (E0 _ _ _ _ _ _).mono ?_;rintro e w' ⟨rfl,rfl⟩;rw[e1.o]))
  all_goals
   simp only[Y3,Yv,Yp,Act.put,Jp,Jz,J0]
   go_wp2_with fail
   refine (E0 _ _ _ _ _ _).mono ?_;rintro e wc ⟨rfl,d6⟩;rw[b7.o];have V:Up Z wc:=by rw[d6];exact Ob ((Ob (Oz _ _) _).drew) _
   have a7:=Hd V;have b3:=j.up V;clear d6 V a0 a1 a2 b0 b1 b2 r0 r1 r2 f0 f1 f2 f9 g0 g1
   go_wp2_with fail
   refine (UX B va vb a b _ (b8.o.bl a7.o) (e4.o.bl a7.o) b6.o.1 b6.o.2).mono ?_;rintro e wd ⟨vd,L,rfl,hL,M,c6⟩;have HL:=Hd hL;have HV:=Hd M;have e0:=b3.up c6;clear hL M c6
   go_wp2_with fail
   refine (Gi _ s vd L _ HL.o).mono ?_;rintro e we ⟨z,rfl,d2,Y⟩;have hN:G0 (w.heap.size+3) we z (sg s (val a)+sg s (val b)):=⟨s,Og L,(((d2 _ _ HL.o).bl Y).mono (by have:=b3.o.size;have:=HS.o;omega)),by rw[O4,HV.o,MT]⟩;have HN:=Hd hN;have b4:=e0.up Y;have d9:Hid (Up w we):=d8.o.trans (b4.o.mono (by have:=HS.o;omega));obtain⟨a0,a1,a2,b0,b1,b2,r0,r1,r2,f0,f1,f2⟩:=I.o we b4.o;obtain⟨z0,zn,za,zl,zc,g3⟩:=hN.shape;subst g3;clear d2 Y hN
   go_wp2
   refine Jg ?_ rfl ⟨_,rfl,(((HN.o.setCell _ _ (by simp)).setCell _ _ (by simp)).setCell _ _ (by simp)).mono (by omega),((d9.o.setCell (by simp;omega) _).setCell (by simp;omega) _).setCell (by simp;omega) _⟩;simp[results,results144,go_sem,r0,r1,r2]
theorem PQ (B:Nat)(x y:Int)(xn yn:Bool)(pa:Option Addr)(la ca:Nat)(pb:Option Addr)(lb cb:Nat)(na nb:Bool)(a b:List Nat)(w:World)(hBw:B<=w.heap.size)(hz:((la:Int)==0)=false∨((la:Int)==0)=true/\((lb:Int)==0)=false)
 (hza:Gy B w (.agg #[.int .i64 x,.bool xn,.slice pa la ca]) na a) (hzb:Gy B w (.agg #[.int .i64 y,.bool yn,.slice pb lb cb]) nb b) (s:Bool) (ha:YG x xn la=s) (hb:YG y yn lb=!s) (hla:a.length<=1000000) (hlb:b.length<=1000000) (hcm:0<=Ny a b) :
 Calls prog 144 #[.agg #[.int .i64 x,.bool xn,.slice pa la ca],.agg #[.int .i64 y,.bool yn,.slice pb lb cb]] w fun e w'=>∃ z,e=.returned z/\G0 w.heap.size w' z (sg s (val a)+sg (!s) (val b))/\Up w w':=by
 have c6:=Hd ha;have e8:=Hd hb;have e7:Hid (a.length<=1000000/\b.length<=1000000):=⟨hla,hlb⟩;have b9:Hid (b.length<=a.length/\val b<=val a):=by
  have h:=Hn a b hza.1 hzb.1 hza.2.1 hzb.2.1;have h2:=hcm;rw[h] at h2;refine⟨?_,?_⟩
  ·unfold Ny at hcm
   by_cases h3:a.length<b.length
   ·simp[h3] at hcm<;>omega
   by_cases h4:b.length<a.length
   ·simp[h3,h4] at hcm<;>omega
   omega
  unfold Tv at h2
  split at h2<;>(try split at h2)<;>omega
 obtain⟨c,hc⟩:=Oa (Ny a b);have HC:=Hd hc;have g4 : -1<=c/\c<=1:=by rw[<-hc];exact Rq a b
 obtain⟨i8,j0⟩:=g4;rw[hc] at hcm;clear hc;have HX:=Iy w x xn pa la ca y yn pb lb cb 119;obtain⟨E,G⟩:=Oa (((w.alloc (.cells #[.int .i64 x,.bool xn,.slice pa la ca] 119)).alloc (.cells #[.int .i64 y,.bool yn,.slice pb lb cb] 119)).alloc (.cells #[.int .i64 0,.bool false,.slice none 0 0] 119));have f8:=Hd G;have K:Up w E:=by rw[<-G];exact Ob (Ob (Oz _ _) _) _
 have e3:=Hd K;have d7:E.heap.size=w.heap.size+3:=by rw[<-G];simp
 have d3:w.heap.size<E.heap.size:=by omega
 have d4:w.heap.size+1<E.heap.size:=by omega
 have d5:w.heap.size+2<E.heap.size:=by omega
 rw[G] at HX;have HS:=Hd d7;have b5:=Hd hBw;have A:Hid (∀ W,Up E W->Boxes w.heap.size W x xn pa la ca y yn pb lb cb):=fun W hW=>HX.bl (by omega) hW;have g1:Hid (∀ W,Up E W->Gy B W (.agg #[.int .i64 x,.bool xn,.slice pa la ca]) na a):=fun W hW=>(hza.bl K).bl hW;have g2:Hid (∀ W,Up E W->Gy B W (.agg #[.int .i64 y,.bool yn,.slice pb lb cb]) nb b):=fun W hW=>(hzb.bl K).bl hW;obtain⟨a0,a1,a2,b0,b1,b2,r0,r1,r2,f0,f1,f2⟩:=HX;clear G d7 ha hb hza hzb K hBw hla hlb;have b8:Hid (∃ W1,Up E W1/\((((la:Int)==0)=false/\E.alloc (.cells #[.int .i64 x,.bool xn,.slice pa la ca] 119)=W1)∨(((la:Int)==0)=true/\((lb:Int)==0)=false/\(E.alloc (.cells #[.int .i64 x,.bool xn,.slice pa la ca] 119)).alloc (.cells #[.int .i64 y,.bool yn,.slice pb lb cb] 119)=W1))):=by
  rcases hz with h|⟨h,h'⟩
  ·exact⟨_,Oz _ _,.inl ⟨h,rfl⟩⟩
  exact⟨_,Ob (Oz _ _) _,.inr ⟨h,h',rfl⟩⟩
 obtain⟨W1,U,g8⟩:=b8.o;have d:=Hd U;clear hz b8 U
 go_in
 go_wp2_with fail
 rw[f8.o];refine (Ki _ _ _ _ _ _).mono ?_;rintro e w' ⟨rfl,rfl⟩
 rcases g8 with⟨hz,Y⟩|⟨hz,j1,Y⟩
 all_goals
  have f9:=E8 Y;clear Y
  go_wp2_with (go_at_call 103;refine (Ki _ _ _ _ _ _).mono ?_;rintro e w' ⟨rfl,rfl⟩)
  rw[f9.o];clear a0 a1 a2 b0 b1 b2 r0 r1 r2 f0 f1 f2;obtain⟨a0,a1,a2,b0,b1,b2,r0,r1,r2,f0,f1,f2⟩:=A.o W1 d.o;refine (El B _ na a _ (g1.o _ d.o) (by have:=d.o.size;have:=HS.o;have:=b5.o;omega)).mono ?_;rintro e wa ⟨va,rfl,d8,d0⟩;have e9:=Hd d8;have J:=d.up d0;clear a0 a1 a2 b0 b1 b2 r0 r1 r2 f0 f1 f2 d8 d0;obtain⟨a0,a1,a2,b0,b1,b2,r0,r1,r2,f0,f1,f2⟩:=A.o wa J.o
  go_wp2_with fail
  refine (El B _ nb b _ (g2.o _ J.o) (by have:=J.o.size;have:=HS.o;have:=b5.o;omega)).mono ?_;rintro e M ⟨vb,rfl,d9,Z⟩;have c8:=Hd d9;have O:Hid (Kz B M va a):=e9.o.bl Z;have j:=J.up Z;have g5:w.heap.size<M.heap.size:=by have:=j.o.size;omega
  have g6:w.heap.size+1<M.heap.size:=by have:=j.o.size;omega
  have g7:w.heap.size+2<M.heap.size:=by have:=j.o.size;omega
  clear a0 a1 a2 b0 b1 b2 r0 r1 r2 f0 f1 f2 d9 Z d3 d4 d5;obtain⟨a0,a1,a2,b0,b1,b2,r0,r1,r2,f0,f1,f2⟩:=A.o M j.o
  go_wp2
  go_region_with (first|(go_at_call_of 124 (Value.int IntKind.i64 x);refine (E0 _ _ _ _ _ _).mono ?_;rintro e w' ⟨rfl,rfl⟩;rw[c6.o])|(go_at_call_of 124 (Value.int IntKind.i64 y);refine (E0 _ _ _ _ _ _).mono ?_;rintro e w' ⟨rfl,rfl⟩;rw[e8.o]))
  all_goals
   simp only[Y3,Yv,Yp,Act.put,Jp,Jz,J0]
   go_wp2_with fail
   refine (Gh B va vb a b _ (O.o.bl ?_) (c8.o.bl ?_)).mono ?_
   ·exact (Ob (Oz _ _) _).drew
   ·exact (Ob (Oz _ _) _).drew
   rintro e wk ⟨rfl,d2⟩;rw[HC.o];have I:Up M wk:=((Ob (Oz M (.cells #[.int .i64 x,.bool xn,.slice pa la ca] 119)) (.cells #[.int .i64 y,.bool yn,.slice pb lb cb] 119)).drew).trans (d2.mono (by show M.heap.size<=_;simp;omega));have b4:=Hd I;have e6:=j.up I;clear d2 I a0 a1 a2 b0 b1 b2 r0 r1 r2 f0 f1 f2 g5 g6 g7;obtain⟨a0,a1,a2,b0,b1,b2,r0,r1,r2,f0,f1,f2⟩:=A.o wk e6.o
   go_wp2_with fail
   refine (E0 _ _ _ _ _ _).mono ?_;rintro e wc ⟨rfl,e0⟩;rw[c6.o];have a7:Up M wc:=by rw[e0];exact b4.o.alloc b4.o.size _
   have b3:=Hd a7;have b6:=j.up a7;clear e0 a7 a0 a1 a2 b0 b1 b2 r0 r1 r2 f0 f1 f2
   go_wp2_with fail
   refine (Mz B va vb a b _ (O.o.bl b3.o) (c8.o.bl b3.o) e7.o.1 b9.o.1 b9.o.2).mono ?_;rintro e wd ⟨vd,L,rfl,hL,V,d1⟩;have HL:=Hd hL;have HV:=Hd V;have e5:=b6.up d1;clear hL V d1
   go_wp2_with fail
   refine (Gi _ s vd L _ HL.o).mono ?_;rintro e we ⟨z,rfl,d6,a8⟩;have hN:G0 (w.heap.size+3) we z (sg s (val a)+sg (!s) (val b)):=⟨s,Og L,(((d6 _ _ HL.o).bl a8).mono (by have:=b6.o.size;have:=HS.o;omega)),by rw[O4,DA s _ _ _ HV.o]⟩;have HN:=Hd hN;have b7:=e5.up a8;have e4:Hid (Up w we):=e3.o.trans (b7.o.mono (by have:=HS.o;omega));obtain⟨a0,a1,a2,b0,b1,b2,r0,r1,r2,f0,f1,f2⟩:=A.o we b7.o;obtain⟨z0,zn,za,zl,zc,g9⟩:=hN.shape;subst g9;clear d6 a8 hN
   go_wp2
   refine Jg ?_ rfl ⟨_,rfl,(((HN.o.setCell _ _ (by simp)).setCell _ _ (by simp)).setCell _ _ (by simp)).mono (by omega),((e4.o.setCell (by simp;omega) _).setCell (by simp;omega) _).setCell (by simp;omega) _⟩;simp[results,results144,go_sem,r0,r1,r2]
end Go.Proofs.YtdmdmgfjpomdbaaGreatDoor.Q
