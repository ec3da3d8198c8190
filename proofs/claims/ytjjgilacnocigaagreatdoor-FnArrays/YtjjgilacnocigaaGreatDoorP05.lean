import Derived.Test.YtjjgilacnocigaaGreatDoorP04
set_option maxRecDepth 100000
set_option maxHeartbeats 4000000
namespace Go.Proofs.YtjjgilacnocigaaGreatDoor.Q
open ChangeShapes WideShapes ChangeAt RowKit Proofs.Tryz
theorem CV (B:Nat)(x y:Int)(xn yn:Bool)(pa:Option Addr)(la ca:Nat)(pb:Option Addr)(lb cb:Nat)(na nb:Bool)(a b:List Nat)(w:World)(hBw:B<=w.heap.size)(hz:((la:Int)==0)=false∨((la:Int)==0)=true/\((lb:Int)==0)=false)
 (hza:Ej B w (.agg #[.int .i64 x,.bool xn,.slice pa la ca]) na a) (hzb:Ej B w (.agg #[.int .i64 y,.bool yn,.slice pb lb cb]) nb b) (s:Bool) (ha:Rg x xn la=s) (hb:Rg y yn lb=!s) (hla:a.length<=1000000) (hlb:b.length<=1000000) (hcm:0<=En a b) :
 Calls prog 153 #[.agg #[.int .i64 x,.bool xn,.slice pa la ca],.agg #[.int .i64 y,.bool yn,.slice pb lb cb]] w fun e w'=>∃ z,e=.returned z/\Nb w.heap.size w' z (sg s (val a)+sg (!s) (val b))/\Up w w':=by
 have b7:=Hd ha;have e5:=Hd hb;have e4:Hid (a.length<=1000000/\b.length<=1000000):=⟨hla,hlb⟩;have b6:Hid (b.length<=a.length/\val b<=val a):=by
  have h:=Gu a b hza.1 hzb.1 hza.2.1 hzb.2.1;have h2:=hcm;rw[h] at h2;refine⟨?_,?_⟩
  ·unfold En at hcm
   by_cases h3:a.length<b.length
   ·simp[h3] at hcm<;>omega
   by_cases h4:b.length<a.length
   ·simp[h3,h4] at hcm<;>omega
   omega
  unfold S3 at h2
  split at h2<;>(try split at h2)<;>omega
 obtain⟨c,hc⟩:=O2 (En a b);have HC:=Hd hc;have f9 : -1<=c/\c<=1:=by rw[<-hc];exact Hs a b
 obtain⟨h8,h9⟩:=f9;rw[hc] at hcm;clear hc;have HX:=Gv w x xn pa la ca y yn pb lb cb 72;obtain⟨E,F⟩:=O2 (((w.alloc (.cells #[.int .i64 x,.bool xn,.slice pa la ca] 72)).alloc (.cells #[.int .i64 y,.bool yn,.slice pb lb cb] 72)).alloc (.cells #[.int .i64 0,.bool false,.slice none 0 0] 72));have e7:=Hd F;have I:Up w E:=by rw[<-F];exact Ou (Ou (Oo _ _) _) _
 have e0:=Hd I;have d3:E.heap.size=w.heap.size+3:=by rw[<-F];simp
 have c8:w.heap.size<E.heap.size:=by omega
 have d0:w.heap.size+1<E.heap.size:=by omega
 have d1:w.heap.size+2<E.heap.size:=by omega
 rw[F] at HX;have HS:=Hd d3;have a8:=Hd hBw;have D:Hid (∀ W,Up E W->Boxes w.heap.size W x xn pa la ca y yn pb lb cb):=fun W hW=>HX.bl (by omega) hW;have f5:Hid (∀ W,Up E W->Ej B W (.agg #[.int .i64 x,.bool xn,.slice pa la ca]) na a):=fun W hW=>(hza.bl I).bl hW;have f7:Hid (∀ W,Up E W->Ej B W (.agg #[.int .i64 y,.bool yn,.slice pb lb cb]) nb b):=fun W hW=>(hzb.bl I).bl hW;obtain⟨a0,a1,a2,b0,b1,b2,r0,r1,r2,f0,f1,f2⟩:=HX;clear F d3 ha hb hza hzb I hBw hla hlb;have b5:Hid (∃ W1,Up E W1/\((((la:Int)==0)=false/\E.alloc (.cells #[.int .i64 x,.bool xn,.slice pa la ca] 72)=W1)∨(((la:Int)==0)=true/\((lb:Int)==0)=false/\(E.alloc (.cells #[.int .i64 x,.bool xn,.slice pa la ca] 72)).alloc (.cells #[.int .i64 y,.bool yn,.slice pb lb cb] 72)=W1))):=by
  rcases hz with h|⟨h,h'⟩
  ·exact⟨_,Oo _ _,.inl ⟨h,rfl⟩⟩
  exact⟨_,Ou (Oo _ _) _,.inr ⟨h,h',rfl⟩⟩
 obtain⟨W1,O,g3⟩:=b5.o;have d:=Hd O;clear hz b5 O
 go_in
 go_wp2_with fail
 rw[e7.o];refine (O0 _ _ _ _ _ _).mono ?_;rintro e w' ⟨rfl,rfl⟩
 rcases g3 with⟨hz,U⟩|⟨hz,i1,U⟩
 all_goals
  have e8:=Em U;clear U
  go_wp2_with (go_at_call 106;refine (O0 _ _ _ _ _ _).mono ?_;rintro e w' ⟨rfl,rfl⟩)
  rw[e8.o];clear a0 a1 a2 b0 b1 b2 r0 r1 r2 f0 f1 f2;obtain⟨a0,a1,a2,b0,b1,b2,r0,r1,r2,f0,f1,f2⟩:=D.o W1 d.o;refine (Kc B _ na a _ (f5.o _ d.o) (by have:=d.o.size;have:=HS.o;have:=a8.o;omega)).mono ?_;rintro e wa ⟨va,rfl,d4,b9⟩;have e6:=Hd d4;have H:=d.up b9;clear a0 a1 a2 b0 b1 b2 r0 r1 r2 f0 f1 f2 d4 b9;obtain⟨a0,a1,a2,b0,b1,b2,r0,r1,r2,f0,f1,f2⟩:=D.o wa H.o
  go_wp2_with fail
  refine (Kc B _ nb b _ (f7.o _ H.o) (by have:=H.o.size;have:=HS.o;have:=a8.o;omega)).mono ?_;rintro e J ⟨vb,rfl,d5,V⟩;have b8:=Hd d5;have K:Hid (Kn B J va a):=e6.o.bl V;have j:=H.up V;have g0:w.heap.size<J.heap.size:=by have:=j.o.size;omega
  have g1:w.heap.size+1<J.heap.size:=by have:=j.o.size;omega
  have g2:w.heap.size+2<J.heap.size:=by have:=j.o.size;omega
  clear a0 a1 a2 b0 b1 b2 r0 r1 r2 f0 f1 f2 d5 V c8 d0 d1;obtain⟨a0,a1,a2,b0,b1,b2,r0,r1,r2,f0,f1,f2⟩:=D.o J j.o
  go_wp2
  go_region_with (first|(go_at_call_of 74 (Value.int IntKind.i64 x);refine (Ku _ _ _ _ _ _).mono ?_;rintro e w' ⟨rfl,rfl⟩;rw[b7.o])|(go_at_call_of 74 (Value.int IntKind.i64 y);refine (Ku _ _ _ _ _ _).mono ?_;rintro e w' ⟨rfl,rfl⟩;rw[e5.o]))
  all_goals
   simp only[Yg,Yb,J0,Act.put,Ja,Jb,Jc]
   go_wp2_with fail
   refine (Et B va vb a b _ (K.o.bl ?_) (b8.o.bl ?_)).mono ?_
   ·exact (Ou (Oo _ _) _).drew
   ·exact (Ou (Oo _ _) _).drew
   rintro e wk ⟨rfl,c7⟩;rw[HC.o];have G:Up J wk:=((Ou (Oo J (.cells #[.int .i64 x,.bool xn,.slice pa la ca] 72)) (.cells #[.int .i64 y,.bool yn,.slice pb lb cb] 72)).drew).trans (c7.mono (by show J.heap.size<=_;simp;omega));have a7:=Hd G;have e3:=j.up G;clear c7 G a0 a1 a2 b0 b1 b2 r0 r1 r2 f0 f1 f2 g0 g1 g2;obtain⟨a0,a1,a2,b0,b1,b2,r0,r1,r2,f0,f1,f2⟩:=D.o wk e3.o
   go_wp2_with fail
   refine (Ku _ _ _ _ _ _).mono ?_;rintro e wc ⟨rfl,d6⟩;rw[b7.o];have Y:Up J wc:=by rw[d6];exact a7.o.alloc a7.o.size _
   have a6:=Hd Y;have b3:=j.up Y;clear d6 Y a0 a1 a2 b0 b1 b2 r0 r1 r2 f0 f1 f2
   go_wp2_with fail
   refine (Bq B va vb a b _ (K.o.bl a6.o) (b8.o.bl a6.o) e4.o.1 b6.o.1 b6.o.2).mono ?_;rintro e wd ⟨vd,L,rfl,hL,T,c6⟩;have HL:=Hd hL;have HV:=Hd T;have e2:=b3.up c6;clear hL T c6
   go_wp2_with fail
   refine (Nt _ s vd L _ HL.o).mono ?_;rintro e we ⟨z,rfl,d2,Z⟩;have hN:Nb (w.heap.size+3) we z (sg s (val a)+sg (!s) (val b)):=⟨s,Ov L,(((d2 _ _ HL.o).bl Z).mono (by have:=b3.o.size;have:=HS.o;omega)),by rw[O9,FM s _ _ _ HV.o]⟩;have HN:=Hd hN;have b4:=e2.up Z;have e1:Hid (Up w we):=e0.o.trans (b4.o.mono (by have:=HS.o;omega));obtain⟨a0,a1,a2,b0,b1,b2,r0,r1,r2,f0,f1,f2⟩:=D.o we b4.o;obtain⟨z0,zn,za,zl,zc,g4⟩:=hN.shape;subst g4;clear d2 Z hN
   go_wp2
   refine Jh ?_ rfl ⟨_,rfl,(((HN.o.setCell _ _ (by simp)).setCell _ _ (by simp)).setCell _ _ (by simp)).mono (by omega),((e1.o.setCell (by simp;omega) _).setCell (by simp;omega) _).setCell (by simp;omega) _⟩;simp[results,results153,go_sem,r0,r1,r2]
theorem CU (B:Nat)(x y:Int)(xn yn:Bool)(pa:Option Addr)(la ca:Nat)(pb:Option Addr)(lb cb:Nat)(na nb:Bool)(a b:List Nat)(w:World)(hBw:B<=w.heap.size)(hz:((la:Int)==0)=false∨((la:Int)==0)=true/\((lb:Int)==0)=false)
 (hza:Ej B w (.agg #[.int .i64 x,.bool xn,.slice pa la ca]) na a) (hzb:Ej B w (.agg #[.int .i64 y,.bool yn,.slice pb lb cb]) nb b) (s:Bool) (ha:Rg x xn la=s) (hb:Rg y yn lb=!s) (hla:a.length<=1000000) (hlb:b.length<=1000000) (hcm:En a b<0) :
 Calls prog 153 #[.agg #[.int .i64 x,.bool xn,.slice pa la ca],.agg #[.int .i64 y,.bool yn,.slice pb lb cb]] w fun e w'=>∃ z,e=.returned z/\Nb w.heap.size w' z (sg s (val a)+sg (!s) (val b))/\Up w w':=by
 have e5:=Hd ha;have b7:=Hd hb;have e4:Hid (a.length<=1000000/\b.length<=1000000):=⟨hla,hlb⟩;have b6:Hid (a.length<=b.length/\val a<=val b):=by
  have h:=Gu a b hza.1 hzb.1 hza.2.1 hzb.2.1;have h2:=hcm;rw[h] at h2;refine⟨?_,?_⟩
  ·unfold En at hcm
   by_cases h3:a.length<b.length
   ·simp[h3] at hcm<;>omega
   by_cases h4:b.length<a.length
   ·simp[h3,h4] at hcm<;>omega
   omega
  unfold S3 at h2
  split at h2<;>(try split at h2)<;>omega
 obtain⟨c,hc⟩:=O2 (En a b);have HC:=Hd hc;have f9 : -1<=c/\c<=1:=by rw[<-hc];exact Hs a b
 obtain⟨h8,h9⟩:=f9;rw[hc] at hcm;clear hc;have HX:=Gv w x xn pa la ca y yn pb lb cb 72;obtain⟨E,F⟩:=O2 (((w.alloc (.cells #[.int .i64 x,.bool xn,.slice pa la ca] 72)).alloc (.cells #[.int .i64 y,.bool yn,.slice pb lb cb] 72)).alloc (.cells #[.int .i64 0,.bool false,.slice none 0 0] 72));have e7:=Hd F;have I:Up w E:=by rw[<-F];exact Ou (Ou (Oo _ _) _) _
 have e0:=Hd I;have d3:E.heap.size=w.heap.size+3:=by rw[<-F];simp
 have c8:w.heap.size<E.heap.size:=by omega
 have d0:w.heap.size+1<E.heap.size:=by omega
 have d1:w.heap.size+2<E.heap.size:=by omega
 rw[F] at HX;have HS:=Hd d3;have a8:=Hd hBw;have D:Hid (∀ W,Up E W->Boxes w.heap.size W x xn pa la ca y yn pb lb cb):=fun W hW=>HX.bl (by omega) hW;have f5:Hid (∀ W,Up E W->Ej B W (.agg #[.int .i64 x,.bool xn,.slice pa la ca]) na a):=fun W hW=>(hza.bl I).bl hW;have f7:Hid (∀ W,Up E W->Ej B W (.agg #[.int .i64 y,.bool yn,.slice pb lb cb]) nb b):=fun W hW=>(hzb.bl I).bl hW;obtain⟨a0,a1,a2,b0,b1,b2,r0,r1,r2,f0,f1,f2⟩:=HX;clear F d3 ha hb hza hzb I hBw hla hlb;have b5:Hid (∃ W1,Up E W1/\((((la:Int)==0)=false/\E.alloc (.cells #[.int .i64 x,.bool xn,.slice pa la ca] 72)=W1)∨(((la:Int)==0)=true/\((lb:Int)==0)=false/\(E.alloc (.cells #[.int .i64 x,.bool xn,.slice pa la ca] 72)).alloc (.cells #[.int .i64 y,.bool yn,.slice pb lb cb] 72)=W1))):=by
  rcases hz with h|⟨h,h'⟩
  ·exact⟨_,Oo _ _,.inl ⟨h,rfl⟩⟩
  exact⟨_,Ou (Oo _ _) _,.inr ⟨h,h',rfl⟩⟩
 obtain⟨W1,O,g3⟩:=b5.o;have d:=Hd O;clear hz b5 O
 go_in
 go_wp2_with fail
 rw[e7.o];refine (O0 _ _ _ _ _ _).mono ?_;rintro e w' ⟨rfl,rfl⟩
 rcases g3 with⟨hz,U⟩|⟨hz,i1,U⟩
 all_goals
  have e8:=Em U;clear U
  go_wp2_with (go_at_call 106;refine (O0 _ _ _ _ _ _).mono ?_;rintro e w' ⟨rfl,rfl⟩)
  rw[e8.o];clear a0 a1 a2 b0 b1 b2 r0 r1 r2 f0 f1 f2;obtain⟨a0,a1,a2,b0,b1,b2,r0,r1,r2,f0,f1,f2⟩:=D.o W1 d.o;refine (Kc B _ na a _ (f5.o _ d.o) (by have:=d.o.size;have:=HS.o;have:=a8.o;omega)).mono ?_;rintro e wa ⟨va,rfl,d4,b9⟩;have e6:=Hd d4;have H:=d.up b9;clear a0 a1 a2 b0 b1 b2 r0 r1 r2 f0 f1 f2 d4 b9;obtain⟨a0,a1,a2,b0,b1,b2,r0,r1,r2,f0,f1,f2⟩:=D.o wa H.o
  go_wp2_with fail
  refine (Kc B _ nb b _ (f7.o _ H.o) (by have:=H.o.size;have:=HS.o;have:=a8.o;omega)).mono ?_;rintro e J ⟨vb,rfl,d5,V⟩;have b8:=Hd d5;have K:Hid (Kn B J va a):=e6.o.bl V;have j:=H.up V;have g0:w.heap.size<J.heap.size:=by have:=j.o.size;omega
  have g1:w.heap.size+1<J.heap.size:=by have:=j.o.size;omega
  have g2:w.heap.size+2<J.heap.size:=by have:=j.o.size;omega
  clear a0 a1 a2 b0 b1 b2 r0 r1 r2 f0 f1 f2 d5 V c8 d0 d1;obtain⟨a0,a1,a2,b0,b1,b2,r0,r1,r2,f0,f1,f2⟩:=D.o J j.o
  go_wp2
  go_region_with (first|(go_at_call_of 74 (Value.int IntKind.i64 x);refine (Ku _ _ _ _ _ _).mono ?_;rintro e w' ⟨rfl,rfl⟩;rw[e5.o])|(go_at_call_of 74 (Value.int IntKind.i64 y);refine (Ku _ _ _ _ _ _).mono ?_;rintro e w' ⟨rfl,rfl⟩;rw[b7.o]))
  all_goals
   simp only[Yg,Yb,J0,Act.put,Ja,Jb,Jc]
   go_wp2_with fail
   refine (Et B va vb a b _ (K.o.bl ?_) (b8.o.bl ?_)).mono ?_
   ·exact (Ou (Oo _ _) _).drew
   ·exact (Ou (Oo _ _) _).drew
   rintro e wk ⟨rfl,c7⟩;rw[HC.o];have G:Up J wk:=((Ou (Oo J (.cells #[.int .i64 x,.bool xn,.slice pa la ca] 72)) (.cells #[.int .i64 y,.bool yn,.slice pb lb cb] 72)).drew).trans (c7.mono (by show J.heap.size<=_;simp;omega));have a7:=Hd G;have e3:=j.up G;clear c7 G a0 a1 a2 b0 b1 b2 r0 r1 r2 f0 f1 f2 g0 g1 g2;obtain⟨a0,a1,a2,b0,b1,b2,r0,r1,r2,f0,f1,f2⟩:=D.o wk e3.o
   go_wp2_with fail
   refine (Ku _ _ _ _ _ _).mono ?_;rintro e wc ⟨rfl,d6⟩;rw[b7.o];have Y:Up J wc:=by rw[d6];exact a7.o.alloc a7.o.size _
   have a6:=Hd Y;have b3:=j.up Y;clear d6 Y a0 a1 a2 b0 b1 b2 r0 r1 r2 f0 f1 f2
   go_wp2_with fail
   refine (Bq B vb va b a _ (b8.o.bl a6.o) (K.o.bl a6.o) e4.o.2 b6.o.1 b6.o.2).mono ?_;rintro e wd ⟨vd,L,rfl,hL,T,c6⟩;have HL:=Hd hL;have HV:=Hd T;have e2:=b3.up c6;clear hL T c6
   go_wp2_with fail
   refine (Nt _ (!s) vd L _ HL.o).mono ?_;rintro e we ⟨z,rfl,d2,Z⟩;have hN:Nb (w.heap.size+3) we z (sg s (val a)+sg (!s) (val b)):=⟨(!s),Ov L,(((d2 _ _ HL.o).bl Z).mono (by have:=b3.o.size;have:=HS.o;omega)),by rw[O9,FM (!s) _ _ _ HV.o,Bool.not_not,Int.add_comm]⟩;have HN:=Hd hN;have b4:=e2.up Z;have e1:Hid (Up w we):=e0.o.trans (b4.o.mono (by have:=HS.o;omega));obtain⟨a0,a1,a2,b0,b1,b2,r0,r1,r2,f0,f1,f2⟩:=D.o we b4.o;obtain⟨z0,zn,za,zl,zc,g4⟩:=hN.shape;subst g4;clear d2 Z hN
   go_wp2
   refine Jh ?_ rfl ⟨_,rfl,(((HN.o.setCell _ _ (by simp)).setCell _ _ (by simp)).setCell _ _ (by simp)).mono (by omega),((e1.o.setCell (by simp;omega) _).setCell (by simp;omega) _).setCell (by simp;omega) _⟩;simp[results,results153,go_sem,r0,r1,r2]
end Go.Proofs.YtjjgilacnocigaaGreatDoor.Q
