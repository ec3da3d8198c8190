import Derived.Test.YtipgjenolpofpaaGreatDoorP00
import Derived.Test.YtipgjenolpofpaaGreatDoorR1
set_option maxRecDepth 100000
set_option maxHeartbeats 4000000
namespace Go.Proofs.YtipgjenolpofpaaGreatDoor
open ChangeShapes WideShapes ChangeAt RowKit Proofs.Tryz
theorem Xt (v1 v2:Value)(L:List (List UInt8))(w:World)(h1:O8 w v1 L)(h2:O8 w v2 L) :
 Calls prog 47 #[v1,v2] w fun e w'=>e=.returned (.bool true)/\Up w w':=by
 obtain⟨U,c1,rfl,Z,m1,r1⟩:=h1;obtain⟨V,c2,rfl,l2,m2,r2⟩:=h2;unfold maxLen at m1 m2;have M:=Hd r1;have O:=Hd r2;clear r1 r2
 go_in
 go_wp2
 go_loopw [5] (fun iv wr=>∃ i:Nat,i<=L.length/\iv=.int .i64 (i:Nat)/\Up w wr) (fun iv _=>L.length - (intOf iv).toNat)
 case atStart=>exact⟨0,Jy _,rfl,Jh _ _⟩
 obtain⟨i,Y,rfl,j⟩:=hrel;have J:=Hd j
 by_cases d:i<L.length
 ·obtain⟨b1,rfl,I,A⟩:∃ b,U=some ⟨b,0,none⟩/\b<w.heap.size/\∀ i (h:i<L.length),w.cell? ⟨b,i,none⟩=some (.string (Oo L[i])):=by
   rcases M.o with h|h
   ·rw[h] at d;exact absurd d (J2 _)
   exact h
  obtain⟨b2,rfl,hb2,E⟩:∃ b,V=some ⟨b,0,none⟩/\b<w.heap.size/\∀ i (h:i<L.length),w.cell? ⟨b,i,none⟩=some (.string (Oo L[i])):=by
   rcases O.o with h|h
   ·rw[h] at d;exact absurd d (J2 _)
   exact h
  have K:=A i d;have m0:=E i d;rw[<-j.cell (p:=⟨b1,i,none⟩) I] at K;rw[<-j.cell (p:=⟨b2,i,none⟩) hb2] at m0;generalize Oo L[i]=s at K m0;clear j A E
  go_wp2
  go_region
  all_goals
   have G:=Hd J.o.drew
   go_wp2
   go_roundw
   case rel=>exact⟨i+1,by omega,by go_num,G.o⟩
   simp[intOf];omega
 clear j
 go_wp2
 go_ret
 exact⟨rfl,J.o⟩
theorem Sm (v1 v2:Value)(L:List Int)(w:World)(h1:U5 w v1 L)(h2:U5 w v2 L) :
 Calls prog 34 #[v1,v2] w fun e w'=>e=.returned (.bool true)/\Up w w':=by
 obtain⟨U,c1,rfl,Z,m1,r1⟩:=h1;obtain⟨V,c2,rfl,l2,m2,r2⟩:=h2;unfold maxLen at m1 m2;have M:=Hd r1;have O:=Hd r2;clear r1 r2
 go_in
 go_wp2
 go_loopw [5] (fun iv wr=>∃ i:Nat,i<=L.length/\iv=.int .i64 (i:Nat)/\Up w wr) (fun iv _=>L.length - (intOf iv).toNat)
 case atStart=>exact⟨0,Jy _,rfl,Jh _ _⟩
 obtain⟨i,Y,rfl,j⟩:=hrel;have J:=Hd j
 by_cases d:i<L.length
 ·obtain⟨b1,rfl,I,A⟩:∃ b,U=some ⟨b,0,none⟩/\b<w.heap.size/\∀ i (h:i<L.length),w.cell? ⟨b,i,none⟩=some (.int .i64 L[i]):=by
   rcases M.o with h|h
   ·rw[h] at d;exact absurd d (J2 _)
   exact h
  obtain⟨b2,rfl,hb2,E⟩:∃ b,V=some ⟨b,0,none⟩/\b<w.heap.size/\∀ i (h:i<L.length),w.cell? ⟨b,i,none⟩=some (.int .i64 L[i]):=by
   rcases O.o with h|h
   ·rw[h] at d;exact absurd d (J2 _)
   exact h
  have K:=A i d;have m0:=E i d;rw[<-j.cell (p:=⟨b1,i,none⟩) I] at K;rw[<-j.cell (p:=⟨b2,i,none⟩) hb2] at m0;generalize L[i]=s at K m0;clear j A E
  go_wp2
  go_region
  all_goals
   have G:=Hd J.o.drew
   go_wp2
   go_roundw
   case rel=>exact⟨i+1,by omega,by go_num,G.o⟩
   simp[intOf];omega
 clear j
 go_wp2
 go_ret
 exact⟨rfl,J.o⟩
theorem OV (f:Fn)(va vb:Value)(w:World)(h1:O8 w va f.args)(h2:O8 w vb f.args) :
 Calls prog 23 #[.agg #[.string (Oo f.name),va,.string (Oo f.sort)],.agg #[.string (Oo f.name),vb,.string (Oo f.sort)]] w fun e w'=>e=.returned (.bool true)/\Up w w':=by
 have M:=Hd h1;have O:=Hd h2;obtain⟨V,c1,rfl,-,-,-⟩:=h1;obtain⟨Y,c2,rfl,-,-,-⟩:=h2;generalize Oo f.name=I;generalize Oo f.sort=J
 go_in
 go_wp2_with fail
 obtain⟨U,E,hb2,x1,K,-⟩:=RB w [.string I,.slice V f.args.length c1,.string J] [.string I,.slice Y f.args.length c2,.string J] 47 47;have h:=Hd hb2;have j:=Hd x1;have A:=Hd K;rw[E];clear E hb2 x1 K;refine (Xt _ _ f.args U (M.o.bl h.o) (O.o.bl h.o)).mono ?_;rintro e w3 ⟨rfl,d⟩;have G:=h.up d;obtain⟨b0,b1,b2⟩:=(j.o.bl j.o.lt d).c3;obtain⟨Z,d1,d2⟩:=(A.o.bl A.o.lt d).c3;clear d
 go_wp2
 go_ret
 exact⟨rfl,G.o⟩
theorem Sl (v1 v2:Value)(L:List Fn)(w:World)(h1:Eh w v1 L)(h2:Eh w v2 L) :
 Calls prog 48 #[v1,v2] w fun e w'=>e=.returned (.bool true)/\Up w w':=by
 obtain⟨p1,c1,rfl,l1,m1,r1⟩:=h1;obtain⟨p2,c2,rfl,l2,m2,r2⟩:=h2;unfold maxLen at m1 m2;have H1:=Hd r1;have H2:=Hd r2;clear r1 r2
 go_in
 go_wp2
 go_loopw [5] (fun iv wr=>∃ i:Nat,i<=L.length/\iv=.int .i64 (i:Nat)/\Up w wr) (fun iv _=>L.length - (intOf iv).toNat)
 case atStart=>exact⟨0,Jy _,rfl,Jh _ _⟩
 obtain⟨i,hi,rfl,O⟩:=hrel;have j:=Hd O
 by_cases d:i<L.length
 ·obtain⟨b1,rfl,E,K⟩:∃ b,p1=some ⟨b,0,none⟩/\b<w.heap.size/\∀ i (h:i<L.length),w.cell? ⟨b,i*3,none⟩=some (.string (Oo L[i].name))/\(∃ va,w.cell? ⟨b,i*3+1,none⟩=some va/\O8 w va L[i].args)/\w.cell? ⟨b,i*3+2,none⟩=some (.string (Oo L[i].sort)):=by
   rcases H1.o with h|h
   ·rw[h] at d;exact absurd d (J2 _)
   exact h
  obtain⟨b2,rfl,hb2,M⟩:∃ b,p2=some ⟨b,0,none⟩/\b<w.heap.size/\∀ i (h:i<L.length),w.cell? ⟨b,i*3,none⟩=some (.string (Oo L[i].name))/\(∃ va,w.cell? ⟨b,i*3+1,none⟩=some va/\O8 w va L[i].args)/\w.cell? ⟨b,i*3+2,none⟩=some (.string (Oo L[i].sort)):=by
   rcases H2.o with h|h
   ·rw[h] at d;exact absurd d (J2 _)
   exact h
  obtain⟨k0,⟨va,k1,I⟩,k2⟩:=K i d;obtain⟨m0,⟨vb,m1,J⟩,m2⟩:=M i d;obtain⟨f,hx⟩:=O1 (L[i]);rw[hx] at k0 k2 m0 m2 I J;have V:=Hd I;have Y:=Hd J;obtain⟨pa,ca,rfl,-,-,-⟩:=I;obtain⟨pb,cb,rfl,-,-,-⟩:=J;have A:Hid (∀ W,Up w W->W.cell? ⟨b1,i*3,none⟩=some (.string (Oo f.name))/\W.cell? ⟨b1,i*3+1,none⟩=some (.slice pa f.args.length ca)/\W.cell? ⟨b1,i*3+2,none⟩=some (.string (Oo f.sort))/\W.cell? ⟨b2,i*3,none⟩=some (.string (Oo f.name))/\W.cell? ⟨b2,i*3+1,none⟩=some (.slice pb f.args.length cb)/\W.cell? ⟨b2,i*3+2,none⟩=some (.string (Oo f.sort))):=fun W h=>⟨(h.cell (p:=⟨b1,i*3,none⟩) E).trans k0,(h.cell (p:=⟨b1,i*3+1,none⟩) E).trans k1,(h.cell (p:=⟨b1,i*3+2,none⟩) E).trans k2,(h.cell (p:=⟨b2,i*3,none⟩) hb2).trans m0,(h.cell (p:=⟨b2,i*3+1,none⟩) hb2).trans m1,(h.cell (p:=⟨b2,i*3+2,none⟩) hb2).trans m2⟩;have Z:=A.o wr O;clear O K M hx k0 k1 k2 m0 m1 m2 Z;have i1:(i:Int)<(L.length:Int):=by omega
  go_wp2
  go_region_held3 (fun W=>W.cell? ⟨b1,i*3,none⟩=some (.string (Oo f.name))/\W.cell? ⟨b1,i*3+1,none⟩=some (.slice pa f.args.length ca)/\W.cell? ⟨b1,i*3+2,none⟩=some (.string (Oo f.sort))/\W.cell? ⟨b2,i*3,none⟩=some (.string (Oo f.name))/\W.cell? ⟨b2,i*3+1,none⟩=some (.slice pb f.args.length cb)/\W.cell? ⟨b2,i*3+2,none⟩=some (.string (Oo f.sort)))
   (first
     | exact A.o _ j.o.drew
     | exact A.o _ (j.o.drew.trans (G.mono j.o.size)))
   ((go_at_call 23;refine (OV f _ _ _ (V.o.bl j.o.drew) (Y.o.bl j.o.drew)).mono ?_;rintro e w2 ⟨rfl,G⟩))
  all_goals
   have U:Hid (Up w w2):=j.o.drew.trans (G.mono j.o.size);clear G
   go_wp2
   go_roundw
   case rel=>exact⟨i+1,by omega,by go_num,U.o⟩
   simp[intOf];omega
 clear O
 go_wp2
 go_ret
 exact⟨rfl,j.o⟩
theorem Sb (t:Tm)(va vb:Value)(w:World)(h1:U5 w va t.kids)(h2:U5 w vb t.kids) :
 Calls prog 29 #[.agg #[.int .i64 t.op,.string (Oo t.sort),.string (Oo t.text),.int .i64 t.a,.int .i64 t.b,va],.agg #[.int .i64 t.op,.string (Oo t.sort),.string (Oo t.text),.int .i64 t.a,.int .i64 t.b,vb]] w fun e w'=>e=.returned (.bool true)/\Up w w':=by
 have J:=Hd h1;have K:=Hd h2;obtain⟨V,c1,rfl,-,-,-⟩:=h1;obtain⟨Y,c2,rfl,-,-,-⟩:=h2;generalize Oo t.sort=E;generalize Oo t.text=G
 go_in
 go_wp2_with fail
 obtain⟨U,h,hb2,x1,I,-⟩:=RB w [.int .i64 t.op,.string E,.string G,.int .i64 t.a,.int .i64 t.b,.slice V t.kids.length c1] [.int .i64 t.op,.string E,.string G,.int .i64 t.a,.int .i64 t.b,.slice Y t.kids.length c2] 57 57;have d:=Hd hb2;have M:=Hd x1;have O:=Hd I;rw[h];clear h hb2 x1 I;refine (Sm _ _ t.kids U (J.o.bl d.o) (K.o.bl d.o)).mono ?_;rintro e Z ⟨rfl,j⟩;have A:=d.up j;clear j
 go_wp2
 go_ret
 exact⟨rfl,A.o⟩
theorem Bf (v1 v2:Value)(L:List Tm)(w:World)(h1:Km w v1 L)(h2:Km w v2 L) :
 Calls prog 49 #[v1,v2] w fun e w'=>e=.returned (.bool true)/\Up w w':=by
 obtain⟨p1,c1,rfl,l1,m1,r1⟩:=h1;obtain⟨p2,c2,rfl,l2,m2,r2⟩:=h2;unfold maxLen at m1 m2;have H1:=Hd r1;have H2:=Hd r2;clear r1 r2
 go_in
 go_wp2
 go_loopw [5] (fun iv wr=>∃ i:Nat,i<=L.length/\iv=.int .i64 (i:Nat)/\Up w wr) (fun iv _=>L.length - (intOf iv).toNat)
 case atStart=>exact⟨0,Jy _,rfl,Jh _ _⟩
 obtain⟨i,hi,rfl,O⟩:=hrel;have A:=Hd O
 by_cases j:i<L.length
 ·obtain⟨b1,rfl,d,K⟩:∃ b,p1=some ⟨b,0,none⟩/\b<w.heap.size/\∀ i (h:i<L.length),w.cell? ⟨b,i*6,none⟩=some (.int .i64 L[i].op)/\w.cell? ⟨b,i*6+1,none⟩=some (.string (Oo L[i].sort))/\w.cell? ⟨b,i*6+2,none⟩=some (.string (Oo L[i].text))/\w.cell? ⟨b,i*6+3,none⟩=some (.int .i64 L[i].a)/\w.cell? ⟨b,i*6+4,none⟩=some (.int .i64 L[i].b)/\∃ va,w.cell? ⟨b,i*6+5,none⟩=some va/\U5 w va L[i].kids:=by
   rcases H1.o with h|h
   ·rw[h] at j;exact absurd j (J2 _)
   exact h
  obtain⟨b2,rfl,hb2,M⟩:∃ b,p2=some ⟨b,0,none⟩/\b<w.heap.size/\∀ i (h:i<L.length),w.cell? ⟨b,i*6,none⟩=some (.int .i64 L[i].op)/\w.cell? ⟨b,i*6+1,none⟩=some (.string (Oo L[i].sort))/\w.cell? ⟨b,i*6+2,none⟩=some (.string (Oo L[i].text))/\w.cell? ⟨b,i*6+3,none⟩=some (.int .i64 L[i].a)/\w.cell? ⟨b,i*6+4,none⟩=some (.int .i64 L[i].b)/\∃ va,w.cell? ⟨b,i*6+5,none⟩=some va/\U5 w va L[i].kids:=by
   rcases H2.o with h|h
   ·rw[h] at j;exact absurd j (J2 _)
   exact h
  obtain⟨k0,k1,k2,k3,k4,va,k5,I⟩:=K i j;obtain⟨m0,m1,m2,m3,m4,vb,m5,J⟩:=M i j;obtain⟨t,hx⟩:=O1 (L[i]);rw[hx] at k0 k1 k2 k3 k4 m0 m1 m2 m3 m4 I J;have V:=Hd I;have Y:=Hd J;obtain⟨pa,ca,rfl,-,-,-⟩:=I;obtain⟨pb,cb,rfl,-,-,-⟩:=J;have E:Hid (∀ W,Up w W->W.cell? ⟨b1,i*6,none⟩=some (.int .i64 t.op)/\W.cell? ⟨b1,i*6+1,none⟩=some (.string (Oo t.sort))/\W.cell? ⟨b1,i*6+2,none⟩=some (.string (Oo t.text))/\W.cell? ⟨b1,i*6+3,none⟩=some (.int .i64 t.a)/\W.cell? ⟨b1,i*6+4,none⟩=some (.int .i64 t.b)/\W.cell? ⟨b1,i*6+5,none⟩=some (.slice pa t.kids.length ca)/\W.cell? ⟨b2,i*6,none⟩=some (.int .i64 t.op)/\W.cell? ⟨b2,i*6+1,none⟩=some (.string (Oo t.sort))/\W.cell? ⟨b2,i*6+2,none⟩=some (.string (Oo t.text))/\W.cell? ⟨b2,i*6+3,none⟩=some (.int .i64 t.a)/\W.cell? ⟨b2,i*6+4,none⟩=some (.int .i64 t.b)/\W.cell? ⟨b2,i*6+5,none⟩=some (.slice pb t.kids.length cb)):=fun W h=>⟨(h.cell (p:=⟨b1,i*6,none⟩) d).trans k0,(h.cell (p:=⟨b1,i*6+1,none⟩) d).trans k1,(h.cell (p:=⟨b1,i*6+2,none⟩) d).trans k2,(h.cell (p:=⟨b1,i*6+3,none⟩) d).trans k3,(h.cell (p:=⟨b1,i*6+4,none⟩) d).trans k4,(h.cell (p:=⟨b1,i*6+5,none⟩) d).trans k5,(h.cell (p:=⟨b2,i*6,none⟩) hb2).trans m0,(h.cell (p:=⟨b2,i*6+1,none⟩) hb2).trans m1,(h.cell (p:=⟨b2,i*6+2,none⟩) hb2).trans m2,(h.cell (p:=⟨b2,i*6+3,none⟩) hb2).trans m3,(h.cell (p:=⟨b2,i*6+4,none⟩) hb2).trans m4,(h.cell (p:=⟨b2,i*6+5,none⟩) hb2).trans m5⟩;have Z:=E.o wr O;clear O K M hx k0 k1 k2 k3 k4 k5 m0 m1 m2 m3 m4 m5 Z;have i1:(i:Int)<(L.length:Int):=by omega
  go_wp2
  go_region_held3 (fun W=>W.cell? ⟨b1,i*6,none⟩=some (.int .i64 t.op)/\W.cell? ⟨b1,i*6+1,none⟩=some (.string (Oo t.sort))/\W.cell? ⟨b1,i*6+2,none⟩=some (.string (Oo t.text))/\W.cell? ⟨b1,i*6+3,none⟩=some (.int .i64 t.a)/\W.cell? ⟨b1,i*6+4,none⟩=some (.int .i64 t.b)/\W.cell? ⟨b1,i*6+5,none⟩=some (.slice pa t.kids.length ca)/\W.cell? ⟨b2,i*6,none⟩=some (.int .i64 t.op)/\W.cell? ⟨b2,i*6+1,none⟩=some (.string (Oo t.sort))/\W.cell? ⟨b2,i*6+2,none⟩=some (.string (Oo t.text))/\W.cell? ⟨b2,i*6+3,none⟩=some (.int .i64 t.a)/\W.cell? ⟨b2,i*6+4,none⟩=some (.int .i64 t.b)/\W.cell? ⟨b2,i*6+5,none⟩=some (.slice pb t.kids.length cb))
   (first
     | exact E.o _ A.o.drew
     | exact E.o _ (A.o.drew.trans (G.mono A.o.size)))
   ((go_at_call 29;refine (Sb t _ _ _ (V.o.bl A.o.drew) (Y.o.bl A.o.drew)).mono ?_;rintro e w2 ⟨rfl,G⟩))
  all_goals
   have U:Hid (Up w w2):=A.o.drew.trans (G.mono A.o.size);clear G
   go_wp2
   go_roundw
   case rel=>exact⟨i+1,by omega,by go_num,U.o⟩
   simp[intOf];omega
 clear O
 go_wp2
 go_ret
 exact⟨rfl,A.o⟩
theorem Sf {us uf ut vs vf vt:Value}{S:List (List UInt8)}{F:List Fn}{T:List Tm}(w:World)(h1:BankAt w us uf ut S F T)(h2:BankAt w vs vf vt S F T) :
 Calls prog 12 #[.agg #[us,uf,ut],.agg #[vs,vf,vt]] w fun e w'=>e=.returned (.bool true)/\Up w w':=by
 obtain⟨p1,c1,e1,-,-,-⟩:=h1.s;obtain⟨p2,c2,e2,-,-,-⟩:=h1.f;obtain⟨p3,c3,e3,-,-,-⟩:=h1.t;obtain⟨q1,d1,e4,-,-,-⟩:=h2.s;obtain⟨q2,d2,e5,-,-,-⟩:=h2.f;obtain⟨q3,d3,e6,-,-,-⟩:=h2.t;have U:=Hd h1;have V:=Hd h2;subst e1 e2 e3 e4 e5 e6;clear h1 h2
 go_in
 go_wp2_with fail
 obtain⟨W2,M,hb2,x1,x2,-⟩:=RB w [.slice p1 S.length c1,.slice p2 F.length c2,.slice p3 T.length c3] [.slice q1 S.length d1,.slice q2 F.length d2,.slice q3 T.length d3] 32 32;have j:=Hd hb2;have J:=Hd x1;have K:=Hd x2;rw[M];clear M hb2 x1 x2;refine (Xt _ _ S W2 (U.o.s.bl j.o) (V.o.s.bl j.o)).mono ?_;rintro e w3 ⟨rfl,d⟩;have A:=j.up d;have G:=Hd (J.o.bl J.o.lt d);have I:=Hd (K.o.bl K.o.lt d);clear d;obtain⟨b0,b1,b2⟩:=G.o.c3;obtain⟨g0,g1,g2⟩:=I.o.c3
 go_wp2_with fail
 refine (Sl _ _ F w3 (U.o.f.bl A.o) (V.o.f.bl A.o)).mono ?_;rintro e w4 ⟨rfl,h⟩;have E:=A.up h;have Z:=Hd (G.o.bl G.o.lt h);have a7:=Hd (I.o.bl I.o.lt h);clear h b0 b1 b2 g0 g1 g2;obtain⟨b0,b1,b2⟩:=Z.o.c3;obtain⟨g0,g1,g2⟩:=a7.o.c3
 go_wp2_with fail
 refine (Bf _ _ T w4 (U.o.t.bl E.o) (V.o.t.bl E.o)).mono ?_;rintro e w5 ⟨rfl,O⟩;have Y:=E.up O;clear O
 go_wp2
 go_ret
 exact⟨rfl,Y.o⟩
end Go.Proofs.YtipgjenolpofpaaGreatDoor
