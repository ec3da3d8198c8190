import Derived.Test.YtphhhciffpkojaaGreatDoorP00
import Derived.Test.YtphhhciffpkojaaGreatDoorP39
import Derived.Test.YtphhhciffpkojaaGreatDoorP35
set_option linter.all false
set_option maxRecDepth 100000
set_option maxHeartbeats 4000000
namespace Go.Proofs.YtphhhciffpkojaaGreatDoor
open ChangeShapes WideShapes ChangeAt RowKit Proofs.Tryz
variable {F:List Fn}{S:List (List UInt8)}{T:List Tm}{vf vs vt:Value}
theorem SB (w:World)(h:ArgBank w vs vf vt S F T)(hs:SmallB S F T) :
 Calls prog 11 #[.agg #[vs,vf,vt]] w fun e w'=>∃ us uf ut,e=.returned (.agg #[us,uf,ut])/\BankAt w' us uf ut S F T/\(∃ ad n c,us=.slice (some ad) n c)/\Up w w':=
 (Dd w h hs).mono fun _ _ ⟨_,_,_,_,_,_,e,hn,_,hb⟩=>⟨_,_,_,e,hn.at,⟨_,_,_,rfl⟩,hb⟩
theorem SM {w:World}(h:BankAt w vs vf vt S F T)(hz:BankZ S F T)(hv:Vars w) :
 Calls prog 12 #[.agg #[vs,vf,vt]] w fun e w'=>e=.returned (.bool (Hf S Gt F T))/\Up w w':=by
 obtain⟨Z,c1,J,-,-,-⟩:=h.s;obtain⟨p2,c2,K,-,-,-⟩:=h.f;obtain⟨p3,c3,M,-,-,-⟩:=h.t;have d:Hid (Up w (w.alloc (.cells #[vs,vf,vt] 32))):=Oz _ _;have I:=Hd (DK (h.bl d.o) hz (hv.bl d.o));subst J K M;clear h hz hv
 go_in
 go_wp2_with fail
 refine I.o.mono ?_;rintro e O (⟨A,rfl,hb⟩|⟨A,Y,sb,U,tb,V,n,vS,vF,vT,bF,rfl,-,j⟩)
 ·have G:=Hd A;have E:=d.up hb;clear A hb I
  go_wp2
  go_ret
  exact⟨Oy G.o.symm,E.o⟩
 have G:=Hd A;have E:Hid (Up w O):=d.o.trans (j.low.mono d.o.size);clear A j I
 go_wp2
 go_ret
 exact⟨Oy G.o.symm,E.o⟩
theorem SA (w:World)(h:ArgBank w vs vf vt S F T)(hw:BD T)(hv:Vars w) :
 Calls prog 3 #[.agg #[vs,vf,vt]] w fun e w'=>e=.returned (.bool true)/\Up w w':=by
 obtain⟨a1,c1,e1,-,-,-,-⟩:=h.s;obtain⟨a2,c2,e2,-,-,-,-⟩:=h.f;obtain⟨a3,c3,e3,-,-,-,-⟩:=h.t;have HA:=Hd h;have HW:=Hd hw;have HV:=Hd hv;subst e1 e2 e3;clear h hw hv
 go_in
 go_wp2_with fail
 have O:Hid (Up w (w.alloc (.cells #[.slice a1 S.length c1,.slice a2 F.length c2,.slice a3 T.length c3] 26))):=Oz _ _;have d0:Hid (Bx (w.alloc (.cells #[.slice a1 S.length c1,.slice a2 F.length c2,.slice a3 T.length c3] 26)) w.heap.size [.slice a1 S.length c1,.slice a2 F.length c2,.slice a3 T.length c3]):=Oi w _ _;refine (EN 1048576 _ (HA.o.bl O.o) leR).mono ?_;rintro e w2 ⟨(rfl|⟨z2,i8,rfl,b6⟩),j⟩
 ·have G:=O.up j;clear j
  go_wp2
  go_ret
  exact⟨rfl,G.o⟩
 have G:=O.up j;have Y:=Hd (d0.o.bl d0.o.lt j);have HS:=Hd b6;have HZ:=Hd (b6.z HW.o);have y2:decide ((z2:Int)<0)=false:=dF (by omega)
 obtain⟨b0,b1,b2⟩:=Y.o.c3;clear j b6
 go_wp2_with fail
 refine (SB w2 (HA.o.bl G.o) HS.o).mono ?_;rintro e w3 ⟨us,uf,ut,rfl,d,e6,b3⟩;have HU:=Hd d;have h2:=Hd e6;have g4:=G.up b3;have d4:=Hd (Y.o.bl Y.o.lt b3);obtain⟨u1,d1,e1,-,-,-⟩:=d.s;obtain⟨u2,d2,e2,-,-,-⟩:=d.f;obtain⟨u3,d3,e3,-,-,-⟩:=d.t;subst e1 e2 e3;clear d e6 b3 b0 b1 b2
 go_wp2_with fail
 refine (Lh HU.o HZ.o h2.o).mono ?_;rintro e w4 ⟨rfl,b4⟩;have b7:=g4.up b4;have Z:=Hd (d4.o.bl d4.o.lt b4);obtain⟨b0,b1,b2⟩:=Z.o.c3;clear b4
 go_wp2_with fail
 refine (SB w4 (HA.o.bl b7.o) HS.o).mono ?_;rintro e E ⟨ws,wf,wt,rfl,d,-,b5⟩;have g9:=Hd d;have g5:=b7.up b5;have d5:=Hd (Z.o.bl Z.o.lt b5);obtain⟨s1,t1,e1,-,-,-⟩:=d.s;obtain⟨s2,t2,e2,-,-,-⟩:=d.f;obtain⟨s3,t3,e3,-,-,-⟩:=d.t;subst e1 e2 e3;clear d b5 b0 b1 b2
 go_wp2_with fail
 obtain⟨W6,K⟩:=Oa (E.alloc (.cells #[.slice s1 S.length t1,.slice s2 F.length t2,.slice s3 T.length t3] 32));have J:Up E W6:=by rw[<-K];exact Oz _ _
 have e7:Bx W6 E.heap.size [.slice s1 S.length t1,.slice s2 F.length t2,.slice s3 T.length t3]:=by rw[<-K];exact Oi E _ _
 have b8:=g5.up J;have d6:=Hd (d5.o.bl d5.o.lt J);have d7:=Hd e7;have c8:=Hd (g9.o.bl J);rw[K];clear K J e7;have I:=Hd (SM c8.o HZ.o (HV.o.bl b8.o));rw[Li] at I;generalize Gn S Gt F T=B at I ⊢;refine I.o.mono ?_;rintro e w7 ⟨rfl,A⟩;have U:=b8.up A;have a7:=Hd (d6.o.bl d6.o.lt A);have a8:=Hd (d7.o.bl d7.o.lt A);have h0:=Hd (c8.o.bl A);obtain⟨b0,b1,b2⟩:=a7.o.c3;obtain⟨g0,g1,g2⟩:=a8.o.c3;clear A I
 go_wp2_with fail
 clear b0 b1 b2 g0 g1 g2;have HC:Hid (∀ W,Up w7 W->W.cell? ⟨w.heap.size,0,none⟩=some (.slice a1 S.length c1)/\W.cell? ⟨w.heap.size,1,none⟩=some (.slice a2 F.length c2)/\W.cell? ⟨w.heap.size,2,none⟩=some (.slice a3 T.length c3)/\W.cell? ⟨E.heap.size,0,none⟩=some (.slice s1 S.length t1)/\W.cell? ⟨E.heap.size,1,none⟩=some (.slice s2 F.length t2)/\W.cell? ⟨E.heap.size,2,none⟩=some (.slice s3 T.length t3)):=fun W h=>by
  obtain⟨b0,b1,b2⟩:=(a7.o.bl a7.o.lt h).c3;obtain⟨g0,g1,g2⟩:=(a8.o.bl a8.o.lt h).c3;exact⟨b0,b1,b2,g0,g1,g2⟩
 have c6:Hid (Up w7 w7.drew):=(Je _ _).drew;have g3:=Hd (HA.o.bl U.o.drew)
 go_region_held3 (fun W=>W.cell? ⟨w.heap.size,0,none⟩=some (.slice a1 S.length c1)/\W.cell? ⟨w.heap.size,1,none⟩=some (.slice a2 F.length c2)/\W.cell? ⟨w.heap.size,2,none⟩=some (.slice a3 T.length c3)/\W.cell? ⟨E.heap.size,0,none⟩=some (.slice s1 S.length t1)/\W.cell? ⟨E.heap.size,1,none⟩=some (.slice s2 F.length t2)/\W.cell? ⟨E.heap.size,2,none⟩=some (.slice s3 T.length t3))
  (first
    | exact HC.o _ c6.o
    | exact HC.o _ b9.o
    | exact HC.o _ V.o)
  (first
    | (go_at_call 11;refine (SB w7.drew g3.o HS.o).mono ?_;rintro e w8 ⟨xs,xf,xt,rfl,M,-,e4⟩;have h1:=Hd M;have V:=c6.up e4;clear M e4)
    | (go_at_call 13;refine (Cj w8 (h0.o.bl V.o) h1.o).mono ?_;rintro e w9 ⟨rfl,e5⟩;have b9:=V.up e5;clear e5))
 all_goals
  have g6:Hid (Up w w9):=U.o.trans (b9.o.mono U.o.size)
  go_wp2
  go_ret
  exact⟨rfl,g6.o⟩
end Go.Proofs.YtphhhciffpkojaaGreatDoor
