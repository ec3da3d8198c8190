import Derived.Test.YtipgjenolpofpaaGreatDoorP41
set_option maxRecDepth 100000
set_option maxHeartbeats 4000000
namespace Go.Proofs.YtipgjenolpofpaaGreatDoor
open Go.ChangeShapes Go.WideShapes Go.ChangeAt Go.RowKit Go.Proofs.Tryz
theorem Qz (v1 v2:Value)(L:List (List UInt8))(w:World)(h1:O8 w v1 L)(h2:O8 w v2 L) :
 Calls prog 47 #[v1,v2] w fun e w'=>e=.returned (.bool true)/\Up w w':=by
 obtain⟨V,c1,rfl,Z,m1,r1⟩:=h1;obtain⟨U,c2,rfl,l2,m2,r2⟩:=h2;unfold maxLen at m1 m2;have O:=Hd r1;have Y:=Hd r2;clear r1 r2
 go_enter func47,ntmps47
 go_wp2_with fail
 go_loopw [5] (fun iv wr=>∃ i:Nat,i<=L.length/\iv=.int .i64 (i:Nat)/\Up w wr) (fun iv _=>L.length - (intOf iv).toNat)
 case atStart=>exact⟨0,Jy _,rfl,Jh _ _⟩
 case round=>
  obtain⟨i,hi,rfl,A⟩:=hrel;have K:=Hd A
  by_cases d:i<L.length
  ·obtain⟨b1,rfl,I,j⟩:∃ b,V=some ⟨b,0,none⟩/\b<w.heap.size/\∀ i (h:i<L.length),w.cell? ⟨b,i,none⟩=some (.string (Oo L[i])):=by
    rcases O.o with h|h
    ·rw[h] at d;exact absurd d (J1 _)
    ·exact h
   obtain⟨b2,rfl,G,E⟩:∃ b,U=some ⟨b,0,none⟩/\b<w.heap.size/\∀ i (h:i<L.length),w.cell? ⟨b,i,none⟩=some (.string (Oo L[i])):=by
    rcases Y.o with h|h
    ·rw[h] at d;exact absurd d (J1 _)
    ·exact h
   have M:=j i d;have m0:=E i d;rw[<-A.cell (p:=⟨b1,i,none⟩) I] at M;rw[<-A.cell (p:=⟨b2,i,none⟩) G] at m0;generalize Oo L[i]=s at M m0;clear A j E
   go_wp2_with fail
   go_region
   all_goals
    have J:=Hd K.o.drew
    go_wp2_with fail
    go_roundw
    case rel=>exact⟨i+1,by omega,by go_num,J.o⟩
    case measure=>simp[intOf];omega
  ·clear A
   go_wp2_with fail
   go_ret
   exact⟨rfl,K.o⟩
theorem Tk (v1 v2:Value)(L:List Int)(w:World)(h1:U6 w v1 L)(h2:U6 w v2 L) :
 Calls prog 34 #[v1,v2] w fun e w'=>e=.returned (.bool true)/\Up w w':=by
 obtain⟨V,c1,rfl,Z,m1,r1⟩:=h1;obtain⟨U,c2,rfl,l2,m2,r2⟩:=h2;unfold maxLen at m1 m2;have O:=Hd r1;have Y:=Hd r2;clear r1 r2
 go_enter func34,ntmps34
 go_wp2_with fail
 go_loopw [5] (fun iv wr=>∃ i:Nat,i<=L.length/\iv=.int .i64 (i:Nat)/\Up w wr) (fun iv _=>L.length - (intOf iv).toNat)
 case atStart=>exact⟨0,Jy _,rfl,Jh _ _⟩
 case round=>
  obtain⟨i,hi,rfl,A⟩:=hrel;have K:=Hd A
  by_cases d:i<L.length
  ·obtain⟨b1,rfl,I,j⟩:∃ b,V=some ⟨b,0,none⟩/\b<w.heap.size/\∀ i (h:i<L.length),w.cell? ⟨b,i,none⟩=some (.int .i64 L[i]):=by
    rcases O.o with h|h
    ·rw[h] at d;exact absurd d (J1 _)
    ·exact h
   obtain⟨b2,rfl,G,E⟩:∃ b,U=some ⟨b,0,none⟩/\b<w.heap.size/\∀ i (h:i<L.length),w.cell? ⟨b,i,none⟩=some (.int .i64 L[i]):=by
    rcases Y.o with h|h
    ·rw[h] at d;exact absurd d (J1 _)
    ·exact h
   have M:=j i d;have m0:=E i d;rw[<-A.cell (p:=⟨b1,i,none⟩) I] at M;rw[<-A.cell (p:=⟨b2,i,none⟩) G] at m0;generalize L[i]=s at M m0;clear A j E
   go_wp2_with fail
   go_region
   all_goals
    have J:=Hd K.o.drew
    go_wp2_with fail
    go_roundw
    case rel=>exact⟨i+1,by omega,by go_num,J.o⟩
    case measure=>simp[intOf];omega
  ·clear A
   go_wp2_with fail
   go_ret
   exact⟨rfl,K.o⟩
theorem YY (f:Fn)(va vb:Value)(w:World)(h1:O8 w va f.args)(h2:O8 w vb f.args) :
 Calls prog 23 #[.agg #[.string (Oo f.name),va,.string (Oo f.sort)],.agg #[.string (Oo f.name),vb,.string (Oo f.sort)]] w fun e w'=>e=.returned (.bool true)/\Up w w':=by
 have Z:=Hd h1;have Y:=Hd h2;obtain⟨V,c1,rfl,-,-,-⟩:=h1;obtain⟨U,c2,rfl,-,-,-⟩:=h2;generalize Oo f.name=M;generalize Oo f.sort=K
 go_enter func23,ntmps23
 go_wp2_with fail
 obtain⟨W2,G,E,O,J,-⟩:=DG w [.string M,.slice V f.args.length c1,.string K] [.string M,.slice U f.args.length c2,.string K] 47 47;have h:=Hd E;have j:=Hd O;have A:=Hd J;rw[G];clear G E O J;refine (Qz _ _ f.args W2 (Z.o.below h.o) (Y.o.below h.o)).mono ?_;rintro e w3 ⟨rfl,d⟩;have I:=h.up d;obtain⟨b0,b1,b2⟩:=(j.o.below j.o.lt d).c3;obtain⟨d0,d1,d2⟩:=(A.o.below A.o.lt d).c3;clear d
 go_wp2_with fail
 go_ret
 exact⟨rfl,I.o⟩
theorem So (v1 v2:Value)(L:List Fn)(w:World)(h1:Ex w v1 L)(h2:Ex w v2 L) :
 Calls prog 48 #[v1,v2] w fun e w'=>e=.returned (.bool true)/\Up w w':=by
 obtain⟨p1,c1,rfl,l1,m1,r1⟩:=h1;obtain⟨p2,c2,rfl,l2,m2,r2⟩:=h2;unfold maxLen at m1 m2;have H1:=Hd r1;have H2:=Hd r2;clear r1 r2
 go_enter func48,ntmps48
 go_wp2_with fail
 go_loopw [5] (fun iv wr=>∃ i:Nat,i<=L.length/\iv=.int .i64 (i:Nat)/\Up w wr) (fun iv _=>L.length - (intOf iv).toNat)
 case atStart=>exact⟨0,Jy _,rfl,Jh _ _⟩
 case round=>
  obtain⟨i,hi,rfl,U⟩:=hrel;have j:=Hd U
  by_cases d:i<L.length
  ·obtain⟨b1,rfl,K,M⟩:∃ b,p1=some ⟨b,0,none⟩/\b<w.heap.size/\∀ i (h:i<L.length),w.cell? ⟨b,i*3,none⟩=some (.string (Oo L[i].name))/\(∃ va,w.cell? ⟨b,i*3+1,none⟩=some va/\O8 w va L[i].args)/\w.cell? ⟨b,i*3+2,none⟩=some (.string (Oo L[i].sort)):=by
    rcases H1.o with h|h
    ·rw[h] at d;exact absurd d (J1 _)
    ·exact h
   obtain⟨b2,rfl,I,O⟩:∃ b,p2=some ⟨b,0,none⟩/\b<w.heap.size/\∀ i (h:i<L.length),w.cell? ⟨b,i*3,none⟩=some (.string (Oo L[i].name))/\(∃ va,w.cell? ⟨b,i*3+1,none⟩=some va/\O8 w va L[i].args)/\w.cell? ⟨b,i*3+2,none⟩=some (.string (Oo L[i].sort)):=by
    rcases H2.o with h|h
    ·rw[h] at d;exact absurd d (J1 _)
    ·exact h
   obtain⟨Z,⟨va,k1,E⟩,k2⟩:=M i d;obtain⟨m0,⟨vb,m1,A⟩,m2⟩:=O i d;obtain⟨f,hx⟩:=O1 (L[i]);rw[hx] at Z k2 m0 m2 E A;have a7:=Hd E;have a8:=Hd A;obtain⟨pa,ca,rfl,-,-,-⟩:=E;obtain⟨pb,cb,rfl,-,-,-⟩:=A;have G:Hid (∀ W,Up w W->W.cell? ⟨b1,i*3,none⟩=some (.string (Oo f.name))/\W.cell? ⟨b1,i*3+1,none⟩=some (.slice pa f.args.length ca)/\W.cell? ⟨b1,i*3+2,none⟩=some (.string (Oo f.sort))/\W.cell? ⟨b2,i*3,none⟩=some (.string (Oo f.name))/\W.cell? ⟨b2,i*3+1,none⟩=some (.slice pb f.args.length cb)/\W.cell? ⟨b2,i*3+2,none⟩=some (.string (Oo f.sort))):=fun W h=>⟨(h.cell (p:=⟨b1,i*3,none⟩) K).trans Z,(h.cell (p:=⟨b1,i*3+1,none⟩) K).trans k1,(h.cell (p:=⟨b1,i*3+2,none⟩) K).trans k2,(h.cell (p:=⟨b2,i*3,none⟩) I).trans m0,(h.cell (p:=⟨b2,i*3+1,none⟩) I).trans m1,(h.cell (p:=⟨b2,i*3+2,none⟩) I).trans m2⟩;have V:=G.o wr U;clear U M O hx Z k1 k2 m0 m1 m2 V;have i1:(i:Int)<(L.length:Int):=by omega
   go_wp2_with fail
   go_region_held3 (fun W=>W.cell? ⟨b1,i*3,none⟩=some (.string (Oo f.name))/\W.cell? ⟨b1,i*3+1,none⟩=some (.slice pa f.args.length ca)/\W.cell? ⟨b1,i*3+2,none⟩=some (.string (Oo f.sort))/\W.cell? ⟨b2,i*3,none⟩=some (.string (Oo f.name))/\W.cell? ⟨b2,i*3+1,none⟩=some (.slice pb f.args.length cb)/\W.cell? ⟨b2,i*3+2,none⟩=some (.string (Oo f.sort)))
    (first
      | exact G.o _ j.o.drew
      | exact G.o _ (j.o.drew.trans (J.mono j.o.size)))
    ((go_at_call 23;refine (YY f _ _ _ (a7.o.below j.o.drew) (a8.o.below j.o.drew)).mono ?_;rintro e w2 ⟨rfl,J⟩))
   all_goals
    have Y:Hid (Up w w2):=j.o.drew.trans (J.mono j.o.size);clear J
    go_wp2_with fail
    go_roundw
    case rel=>exact⟨i+1,by omega,by go_num,Y.o⟩
    case measure=>simp[intOf];omega
  ·clear U
   go_wp2_with fail
   go_ret
   exact⟨rfl,j.o⟩
theorem A3 (t:Tm)(va vb:Value)(w:World)(h1:U6 w va t.kids)(h2:U6 w vb t.kids) :
 Calls prog 29 #[.agg #[.int .i64 t.op,.string (Oo t.sort),.string (Oo t.text),.int .i64 t.a,.int .i64 t.b,va],.agg #[.int .i64 t.op,.string (Oo t.sort),.string (Oo t.text),.int .i64 t.a,.int .i64 t.b,vb]] w fun e w'=>e=.returned (.bool true)/\Up w w':=by
 have O:=Hd h1;have Z:=Hd h2;obtain⟨Y,c1,rfl,-,-,-⟩:=h1;obtain⟨M,c2,rfl,-,-,-⟩:=h2;generalize Oo t.sort=G;generalize Oo t.text=J
 go_enter func29,ntmps29
 go_wp2_with fail
 obtain⟨U,A,h,K,I,-⟩:=DG w [.int .i64 t.op,.string G,.string J,.int .i64 t.a,.int .i64 t.b,.slice Y t.kids.length c1] [.int .i64 t.op,.string G,.string J,.int .i64 t.a,.int .i64 t.b,.slice M t.kids.length c2] 57 57;have d:=Hd h;have V:=Hd K;have a7:=Hd I;rw[A];clear A h K I;refine (Tk _ _ t.kids U (O.o.below d.o) (Z.o.below d.o)).mono ?_;rintro e w3 ⟨rfl,j⟩;have E:=d.up j;clear j
 go_wp2_with fail
 go_ret
 exact⟨rfl,E.o⟩
theorem B1 (v1 v2:Value)(L:List Tm)(w:World)(h1:Kb w v1 L)(h2:Kb w v2 L) :
 Calls prog 49 #[v1,v2] w fun e w'=>e=.returned (.bool true)/\Up w w':=by
 obtain⟨p1,c1,rfl,l1,m1,r1⟩:=h1;obtain⟨p2,c2,rfl,l2,m2,r2⟩:=h2;unfold maxLen at m1 m2;have H1:=Hd r1;have H2:=Hd r2;clear r1 r2
 go_enter func49,ntmps49
 go_wp2_with fail
 go_loopw [5] (fun iv wr=>∃ i:Nat,i<=L.length/\iv=.int .i64 (i:Nat)/\Up w wr) (fun iv _=>L.length - (intOf iv).toNat)
 case atStart=>exact⟨0,Jy _,rfl,Jh _ _⟩
 case round=>
  obtain⟨i,hi,rfl,U⟩:=hrel;have E:=Hd U
  by_cases d:i<L.length
  ·obtain⟨b1,rfl,A,M⟩:∃ b,p1=some ⟨b,0,none⟩/\b<w.heap.size/\∀ i (h:i<L.length),w.cell? ⟨b,i*6,none⟩=some (.int .i64 L[i].op)/\w.cell? ⟨b,i*6+1,none⟩=some (.string (Oo L[i].sort))/\w.cell? ⟨b,i*6+2,none⟩=some (.string (Oo L[i].text))/\w.cell? ⟨b,i*6+3,none⟩=some (.int .i64 L[i].a)/\w.cell? ⟨b,i*6+4,none⟩=some (.int .i64 L[i].b)/\∃ va,w.cell? ⟨b,i*6+5,none⟩=some va/\U6 w va L[i].kids:=by
    rcases H1.o with h|h
    ·rw[h] at d;exact absurd d (J1 _)
    ·exact h
   obtain⟨b2,rfl,j,O⟩:∃ b,p2=some ⟨b,0,none⟩/\b<w.heap.size/\∀ i (h:i<L.length),w.cell? ⟨b,i*6,none⟩=some (.int .i64 L[i].op)/\w.cell? ⟨b,i*6+1,none⟩=some (.string (Oo L[i].sort))/\w.cell? ⟨b,i*6+2,none⟩=some (.string (Oo L[i].text))/\w.cell? ⟨b,i*6+3,none⟩=some (.int .i64 L[i].a)/\w.cell? ⟨b,i*6+4,none⟩=some (.int .i64 L[i].b)/\∃ va,w.cell? ⟨b,i*6+5,none⟩=some va/\U6 w va L[i].kids:=by
    rcases H2.o with h|h
    ·rw[h] at d;exact absurd d (J1 _)
    ·exact h
   obtain⟨Z,k1,k2,k3,k4,va,k5,I⟩:=M i d;obtain⟨m0,m1,m2,m3,m4,vb,m5,G⟩:=O i d;obtain⟨t,hx⟩:=O1 (L[i]);rw[hx] at Z k1 k2 k3 k4 m0 m1 m2 m3 m4 I G;have a8:=Hd I;have b3:=Hd G;obtain⟨pa,ca,rfl,-,-,-⟩:=I;obtain⟨pb,cb,rfl,-,-,-⟩:=G;have J:Hid (∀ W,Up w W->W.cell? ⟨b1,i*6,none⟩=some (.int .i64 t.op)/\W.cell? ⟨b1,i*6+1,none⟩=some (.string (Oo t.sort))/\W.cell? ⟨b1,i*6+2,none⟩=some (.string (Oo t.text))/\W.cell? ⟨b1,i*6+3,none⟩=some (.int .i64 t.a)/\W.cell? ⟨b1,i*6+4,none⟩=some (.int .i64 t.b)/\W.cell? ⟨b1,i*6+5,none⟩=some (.slice pa t.kids.length ca)/\W.cell? ⟨b2,i*6,none⟩=some (.int .i64 t.op)/\W.cell? ⟨b2,i*6+1,none⟩=some (.string (Oo t.sort))/\W.cell? ⟨b2,i*6+2,none⟩=some (.string (Oo t.text))/\W.cell? ⟨b2,i*6+3,none⟩=some (.int .i64 t.a)/\W.cell? ⟨b2,i*6+4,none⟩=some (.int .i64 t.b)/\W.cell? ⟨b2,i*6+5,none⟩=some (.slice pb t.kids.length cb)):=fun W h=>⟨(h.cell (p:=⟨b1,i*6,none⟩) A).trans Z,(h.cell (p:=⟨b1,i*6+1,none⟩) A).trans k1,(h.cell (p:=⟨b1,i*6+2,none⟩) A).trans k2,(h.cell (p:=⟨b1,i*6+3,none⟩) A).trans k3,(h.cell (p:=⟨b1,i*6+4,none⟩) A).trans k4,(h.cell (p:=⟨b1,i*6+5,none⟩) A).trans k5,(h.cell (p:=⟨b2,i*6,none⟩) j).trans m0,(h.cell (p:=⟨b2,i*6+1,none⟩) j).trans m1,(h.cell (p:=⟨b2,i*6+2,none⟩) j).trans m2,(h.cell (p:=⟨b2,i*6+3,none⟩) j).trans m3,(h.cell (p:=⟨b2,i*6+4,none⟩) j).trans m4,(h.cell (p:=⟨b2,i*6+5,none⟩) j).trans m5⟩;have V:=J.o wr U;clear U M O hx Z k1 k2 k3 k4 k5 m0 m1 m2 m3 m4 m5 V;have i1:(i:Int)<(L.length:Int):=by omega
   go_wp2_with fail
   go_region_held3 (fun W=>W.cell? ⟨b1,i*6,none⟩=some (.int .i64 t.op)/\W.cell? ⟨b1,i*6+1,none⟩=some (.string (Oo t.sort))/\W.cell? ⟨b1,i*6+2,none⟩=some (.string (Oo t.text))/\W.cell? ⟨b1,i*6+3,none⟩=some (.int .i64 t.a)/\W.cell? ⟨b1,i*6+4,none⟩=some (.int .i64 t.b)/\W.cell? ⟨b1,i*6+5,none⟩=some (.slice pa t.kids.length ca)/\W.cell? ⟨b2,i*6,none⟩=some (.int .i64 t.op)/\W.cell? ⟨b2,i*6+1,none⟩=some (.string (Oo t.sort))/\W.cell? ⟨b2,i*6+2,none⟩=some (.string (Oo t.text))/\W.cell? ⟨b2,i*6+3,none⟩=some (.int .i64 t.a)/\W.cell? ⟨b2,i*6+4,none⟩=some (.int .i64 t.b)/\W.cell? ⟨b2,i*6+5,none⟩=some (.slice pb t.kids.length cb))
    (first
      | exact J.o _ E.o.drew
      | exact J.o _ (E.o.drew.trans (K.mono E.o.size)))
    ((go_at_call 29;refine (A3 t _ _ _ (a8.o.below E.o.drew) (b3.o.below E.o.drew)).mono ?_;rintro e w2 ⟨rfl,K⟩))
   all_goals
    have Y:Hid (Up w w2):=E.o.drew.trans (K.mono E.o.size);clear K
    go_wp2_with fail
    go_roundw
    case rel=>exact⟨i+1,by omega,by go_num,Y.o⟩
    case measure=>simp[intOf];omega
  ·clear U
   go_wp2_with fail
   go_ret
   exact⟨rfl,E.o⟩
theorem St {us uf ut vs vf vt:Value}{S:List (List UInt8)}{F:List Fn}{T:List Tm}(w:World)(h1:BankAt w us uf ut S F T)(h2:BankAt w vs vf vt S F T) :
 Calls prog 12 #[.agg #[us,uf,ut],.agg #[vs,vf,vt]] w fun e w'=>e=.returned (.bool true)/\Up w w':=by
 obtain⟨p1,c1,e1,-,-,-⟩:=h1.s;obtain⟨p2,c2,e2,-,-,-⟩:=h1.f;obtain⟨p3,c3,e3,-,-,-⟩:=h1.t;obtain⟨q1,d1,e4,-,-,-⟩:=h2.s;obtain⟨q2,d2,e5,-,-,-⟩:=h2.f;obtain⟨q3,d3,e6,-,-,-⟩:=h2.t;have H1:=Hd h1;have Y:=Hd h2;subst e1 e2 e3 e4 e5 e6;clear h1 h2
 go_enter func12,ntmps12
 go_wp2_with fail
 obtain⟨W2,U,O,x1,x2,-⟩:=DG w [.slice p1 S.length c1,.slice p2 F.length c2,.slice p3 T.length c3] [.slice q1 S.length d1,.slice q2 F.length d2,.slice q3 T.length d3] 32 32;have E:=Hd O;have J:=Hd x1;have K:=Hd x2;rw[U];clear U O x1 x2;refine (Qz _ _ S W2 (H1.o.s.below E.o) (Y.o.s.below E.o)).mono ?_;rintro e w3 ⟨rfl,d⟩;have G:=E.up d;have A:=Hd (J.o.below J.o.lt d);have j:=Hd (K.o.below K.o.lt d);clear d;obtain⟨b0,b1,b2⟩:=A.o.c3;obtain⟨g0,g1,g2⟩:=j.o.c3
 go_wp2_with fail
 refine (So _ _ F w3 (H1.o.f.below G.o) (Y.o.f.below G.o)).mono ?_;rintro e w4 ⟨rfl,h⟩;have I:=G.up h;have a8:=Hd (A.o.below A.o.lt h);have Z:=Hd (j.o.below j.o.lt h);clear h b0 b1 b2 g0 g1 g2;obtain⟨b0,b1,b2⟩:=a8.o.c3;obtain⟨g0,g1,g2⟩:=Z.o.c3
 go_wp2_with fail
 refine (B1 _ _ T w4 (H1.o.t.below I.o) (Y.o.t.below I.o)).mono ?_;rintro e w5 ⟨rfl,M⟩;have V:=I.up M;clear M
 go_wp2_with fail
 go_ret
 exact⟨rfl,V.o⟩
end Go.Proofs.YtipgjenolpofpaaGreatDoor
