import Derived.Test.YtipgjenolpofpaaGreatDoorP42
set_option maxRecDepth 100000
set_option maxHeartbeats 4000000
namespace Go.Proofs.YtipgjenolpofpaaGreatDoor
open Go.ChangeShapes Go.WideShapes Go.ChangeAt Go.RowKit Go.Proofs.Tryz
def FU (T:List Tm):Prop:=∀ t∈T,(Lit.int .i64 t.op).wf=true/\(Lit.int .i64 t.a).wf=true/\(Lit.int .i64 t.b).wf=true
theorem SmallB.z {S:List (List UInt8)}{F:List Fn}{T:List Tm}(h:SmallB S F T)(hw:FU T):BankZ S F T:=
 ⟨h.s.1,h.f.1,h.t.1,h.s.2,fun f hf=>⟨(h.f.2 f hf).1,(h.f.2 f hf).2.1.2,(h.f.2 f hf).2.2⟩,fun t ht=>⟨(h.t.2 t ht).1,(h.t.2 t ht).2.1,(h.t.2 t ht).2.2,hw t ht⟩⟩
theorem A0 {vs vf vt:Value}{S:List (List UInt8)}{F:List Fn}{T:List Tm}(w:World)(h:ArgBank w vs vf vt S F T)(hw:FU T)(hv:Vars w) :
 Calls prog 3 #[.agg #[vs,vf,vt]] w fun e w'=>e=.returned (.bool true)/\Up w w':=by
 obtain⟨a1,c1,e1,-,-,-,-⟩:=h.s;obtain⟨a2,c2,e2,-,-,-,-⟩:=h.f;obtain⟨a3,c3,e3,-,-,-,-⟩:=h.t;have HA:=Hd h;have HW:=Hd hw;have HV:=Hd hv;subst e1 e2 e3;clear h hw hv
 go_enter func3,ntmps3
 go_wp2_with fail
 have a8:Hid (Up w (w.alloc (.cells #[.slice a1 S.length c1,.slice a2 F.length c2,.slice a3 T.length c3] 26))):=Oy _ _;have d0:Hid (Bx (w.alloc (.cells #[.slice a1 S.length c1,.slice a2 F.length c2,.slice a3 T.length c3] 26)) w.heap.size [.slice a1 S.length c1,.slice a2 F.length c2,.slice a3 T.length c3]):=Ox w _ _;refine (VY 1048576 _ (HA.o.below a8.o) Of).mono ?_;rintro e w2 ⟨(rfl|⟨z2,j2,rfl,b5⟩),j⟩
 ·have K:=a8.up j;clear j
  go_wp2_with fail
  go_ret
  exact⟨rfl,K.o⟩
 have K:=a8.up j;have b3:=Hd (d0.o.below d0.o.lt j);have HS:=Hd b5;have HZ:=Hd (b5.z HW.o);have y2:decide ((z2:Int)<0)=false:=dF (by omega)
 obtain⟨b0,b1,b2⟩:=b3.o.c3;clear j b5
 go_wp2_with fail
 refine (Ry w2 (HA.o.below K.o) HS.o).mono ?_;rintro e w3 ⟨us,uf,ut,rfl,d,e5,Y⟩;have HU:=Hd d;have g9:=Hd e5;have g7:=K.up Y;have e4:=Hd (b3.o.below b3.o.lt Y);obtain⟨u1,d1,e1,-,-,-⟩:=d.s;obtain⟨u2,d2,e2,-,-,-⟩:=d.f;obtain⟨u3,d3,e3,-,-,-⟩:=d.t;subst e1 e2 e3;clear d e5 Y b0 b1 b2
 go_wp2_with fail
 refine (Fb HU.o HZ.o g9.o).mono ?_;rintro e w4 ⟨rfl,O⟩;have e7:=g7.up O;have V:=Hd (e4.o.below e4.o.lt O);obtain⟨b0,b1,b2⟩:=V.o.c3;clear O
 go_wp2_with fail
 refine (Ry w4 (HA.o.below e7.o) HS.o).mono ?_;rintro e E ⟨ws,wf,wt,rfl,d,-,a7⟩;have h1:=Hd d;have g5:=e7.up a7;have d4:=Hd (V.o.below V.o.lt a7);obtain⟨s1,t1,e1,-,-,-⟩:=d.s;obtain⟨s2,t2,e2,-,-,-⟩:=d.f;obtain⟨s3,t3,e3,-,-,-⟩:=d.t;subst e1 e2 e3;clear d a7 b0 b1 b2
 go_wp2_with fail
 obtain⟨W6,G⟩:=O1 (E.alloc (.cells #[.slice s1 S.length t1,.slice s2 F.length t2,.slice s3 T.length t3] 32));have J:Up E W6:=by rw[<-G];exact Oy _ _
 have d7:Bx W6 E.heap.size [.slice s1 S.length t1,.slice s2 F.length t2,.slice s3 T.length t3]:=by rw[<-G];exact Ox E _ _
 have e0:=g5.up J;have b9:=Hd (d4.o.below d4.o.lt J);have b7:=Hd d7;have d9:=Hd (h1.o.below J);rw[G];clear G J d7;have I:=Hd (Ld d9.o HZ.o (HV.o.below e0.o));rw[OO] at I;generalize Hh S Gr F T=B at I ⊢;refine I.o.mono ?_;rintro e w7 ⟨rfl,A⟩;have U:=e0.up A;have b6:=Hd (b9.o.below b9.o.lt A);have Z:=Hd (b7.o.below b7.o.lt A);have g6:=Hd (d9.o.below A);obtain⟨b0,b1,b2⟩:=b6.o.c3;obtain⟨g0,g1,g2⟩:=Z.o.c3;clear A I
 go_wp2_with fail
 clear b0 b1 b2 g0 g1 g2;have HC:Hid (∀ W,Up w7 W->W.cell? ⟨w.heap.size,0,none⟩=some (.slice a1 S.length c1)/\W.cell? ⟨w.heap.size,1,none⟩=some (.slice a2 F.length c2)/\W.cell? ⟨w.heap.size,2,none⟩=some (.slice a3 T.length c3)/\W.cell? ⟨E.heap.size,0,none⟩=some (.slice s1 S.length t1)/\W.cell? ⟨E.heap.size,1,none⟩=some (.slice s2 F.length t2)/\W.cell? ⟨E.heap.size,2,none⟩=some (.slice s3 T.length t3)):=fun W h=>by
  obtain⟨b0,b1,b2⟩:=(b6.o.below b6.o.lt h).c3;obtain⟨g0,g1,g2⟩:=(Z.o.below Z.o.lt h).c3;exact⟨b0,b1,b2,g0,g1,g2⟩
 have e6:Hid (Up w7 w7.drew):=(Jh _ _).drew;have g8:=Hd (HA.o.below U.o.drew)
 go_region_held3 (fun W=>W.cell? ⟨w.heap.size,0,none⟩=some (.slice a1 S.length c1)/\W.cell? ⟨w.heap.size,1,none⟩=some (.slice a2 F.length c2)/\W.cell? ⟨w.heap.size,2,none⟩=some (.slice a3 T.length c3)/\W.cell? ⟨E.heap.size,0,none⟩=some (.slice s1 S.length t1)/\W.cell? ⟨E.heap.size,1,none⟩=some (.slice s2 F.length t2)/\W.cell? ⟨E.heap.size,2,none⟩=some (.slice s3 T.length t3))
  (first
    | exact HC.o _ e6.o
    | exact HC.o _ c6.o
    | exact HC.o _ b4.o)
  (first
    | (go_at_call 10;refine (Ry w7.drew g8.o HS.o).mono ?_;rintro e w8 ⟨xs,xf,xt,rfl,M,-,b8⟩;have h8:=Hd M;have b4:=e6.up b8;clear M b8)
    | (go_at_call 12;refine (St w8 (g6.o.below b4.o) h8.o).mono ?_;rintro e w9 ⟨rfl,d8⟩;have c6:=b4.up d8;clear d8))
 all_goals
  have h6:Hid (Up w w9):=U.o.trans (c6.o.mono U.o.size)
  go_wp2_with fail
  go_ret
  exact⟨rfl,h6.o⟩
end Go.Proofs.YtipgjenolpofpaaGreatDoor
