import Derived.Test.YtfkagjelljnpdaaGreatDoorP40
set_option linter.all false
namespace Go.Proofs.YtfkagjelljnpdaaGreatDoor
open ChangeShapes WideShapes ChangeAt RowKit
variable {B M N c g i k m mb q:Nat}{F:List Fn}{S:List (List UInt8)}{T:List Tm}{W W' w:World}{uf us ut:Value}
structure BkP(w:World)(us uf ut:Value)(S:List (List UInt8))(F:List Fn)(T:List Tm):Prop where
 at':BankAt w us uf ut S F T
 z:BankZ S F T
 ns:G4 T
 sh:Ac us S.length
def LR(g N:Nat)(w:World)(e:Ending)(w':World)(K:Nat):Prop:=∃(us uf ut:Value) (S:List (List UInt8)) (F:List Fn) (T:List Tm) (k':Nat),e=.returned (.agg #[us,uf,ut])/\k'<=K/\BkP w' us uf ut S F T/\Q.Ux g N w' k'/\Q.Bar g w w'
structure SpA(B:Nat)(W:World)(us uf ut:Value)(S:List (List UInt8))(F:List Fn)(T:List Tm):Prop where
 s:W.ownsRow B 9 1 us S.length (strsC S)
 f:∃X:List (Fn×Value),X.map Prod.fst=F/\W.ownsRow B 75 3 uf F.length (X.flatMap funC)/\∀x∈X,W.ownsRow B 9 1 x.2 x.1.args.length (strsC x.1.args)
 t:∃X:List (Tm×Value),X.map Prod.fst=T/\W.ownsRow B 38 6 ut T.length (X.flatMap O5)/\∀x∈X,W.ownsRow B 3 1 x.2 x.1.kids.length (Uq x.1.kids)
theorem SpA.keep(h:SpA B W us uf ut S F T)(hk:∀b,B<=b->b<W.heap.size->W'.heap[b]? = W.heap[b]?):SpA B W' us uf ut S F T:=by
 have j:∀ {n sz:Nat} {e:TypeId} {v:Value} {xs:List Value},W.ownsRow B e sz v n xs->W'.ownsRow B e sz v n xs:=fun h=>own_other' h fun q hq=>hk q (Oe h q hq) (h.lt q hq).2;obtain⟨O,⟨X,E,G,J⟩,⟨Y,K,f2,f3⟩⟩:=h;exact⟨j O,⟨X,E,j G,fun x hx=>j (J x hx)⟩,⟨Y,K,j f2,fun x hx=>j (f3 x hx)⟩⟩
theorem SpA.bank(h:SpA B W us uf ut S F T):BankAt W us uf ut S F T:=by
 obtain⟨V,⟨X,rfl,O,R⟩,⟨Y,rfl,f2,f3⟩⟩:=h;refine⟨Rl V,?_,?_⟩
 ·obtain⟨p,c,rfl,J,K,E⟩:=Kp O;refine⟨p,c,rfl,J,K,?_⟩
  rcases E with E|⟨q,rfl,hq⟩
  ·exact .inl (Jt E)
  refine .inr ⟨q,rfl,hq,fun i hi=>?_⟩;have j:i<X.length:=by simpa using hi
  obtain⟨t0,t1,t2⟩:=Xq O j;rw[Yh];exact⟨t0,⟨_,t1,Rl (R _ (Jj j))⟩,t2⟩
 obtain⟨p,c,rfl,J,K,E⟩:=Kp f2;refine⟨p,c,rfl,J,K,?_⟩
 rcases E with E|⟨q,rfl,hq⟩
 ·exact .inl (Jt E)
 refine .inr ⟨q,rfl,hq,fun i hi=>?_⟩;have j:i<Y.length:=by simpa using hi
 have G:∀d (u:Value),d<6->(O5 Y[i])[d]? = some u->W.cell? ⟨q,i*6+d,none⟩=some u:=fun d u hd hu=>Ey f2 (by rw[Ng (k:=6) (fun _=>rfl) Y i d j hd];exact hu);rw[Yh];exact⟨G 0 _ (by decide) rfl,G 1 _ (by decide) rfl,G 2 _ (by decide) rfl,G 3 _ (by decide) rfl,G 4 _ (by decide) rfl,_,G 5 _ (by decide) rfl,ints_at (f3 _ (Jj j))⟩
structure SpI(g N B M mb k:Nat)(W:World)(us uf ut:Value)(S:List (List UInt8))(F:List Fn)(T:List Tm):Prop where
 cur:Q.Ux g N W k
 lo:N<=B/\B<=mb/\B<=M
 box:Tb W mb 27 [us,uf,ut]
 s:W.ownsRow B 9 1 us S.length (strsC S)
 sm:∀b,us.ownBlock=some b->b<M
 f:K4 W M uf F
 t:Kz W B ut T
theorem SpI.a(h:SpI g N B M mb k W us uf ut S F T):SpA B W us uf ut S F T:=by
 obtain⟨X,j,q,E,-⟩:=h.f;obtain⟨Y,G,f2,f3,-⟩:=h.t;exact⟨h.s,⟨X,j,own_lower q h.lo.2.2,fun x hx=>own_lower (E x hx) h.lo.2.2⟩,⟨Y,G,f2,f3⟩⟩
theorem SpI.bar{k':Nat}(h:SpI g N B M mb k W us uf ut S F T)(hb:Q.Bar g W W')(hc:Q.Ux g N W' k'):SpI g N B M mb k' W' us uf ut S F T:=by
 have hl:=h.lo;have E:=h.cur.1;have j:∀q,B<=q->q<W.heap.size->W'.heap[q]? = W.heap[q]? := fun q h1 h2=>hb.block q h2 (by omega);exact⟨hc,hl,(j mb hl.2.1 h.box.bx.lt).trans h.box,own_other' h.s fun q hq=>j q (Oe h.s q hq) (h.s.lt q hq).2,h.sm,h.f.keep fun q cs fz hq hM=>j q (by omega) (by rcases hq with hq|hq<;>exact(Jo.1 hq).1),h.t.keep fun q cs fz hq hM=>j q hM (by rcases hq with hq|hq<;>exact(Jo.1 hq).1)⟩
structure SpR(g N B mb k:Nat)(W:World)(us uf ut:Value)(S:List (List UInt8))(F:List Fn)(T:List Tm)(W1:World):Prop where
 a:SpA B W1 us uf ut S F T
 box:Tb W1 mb 27 [us,uf,ut]
 low:Below B W W1
 cur:Q.Ux g N W1 k
theorem Xn{W1:World}(h:Q.Bar g w W)(hb:Below B W W1)(hB:w.heap.size<=B):Q.Bar g w W1:=⟨hb.os.trans h.os,hb.tape.trans h.tape,hb.output.trans h.output,Jm h.size hb.size,fun k hk hg=>(hb.block k (by omega)).trans (h.block k hk hg)⟩
theorem SpI.r(h:SpI g N B M mb k W us uf ut S F T):SpR g N B mb k W us uf ut S F T W:=⟨h.a,h.box,Ji _ _,h.cur⟩
theorem Ag{n sz:Nat}{e:TypeId}{o:Obj}{v u:Value}{xs l:List Value}(hv:W.ownsRow B e sz v n xs)(hg:(W.alloc o).grownBy W' v.ownBlock)(hb:Tb W mb 27 l)(he:e≠27)(hB:B<=mb) :
 Below B W (W'.setCell ⟨mb,i,none⟩ u)/\(∀b,b<W.heap.size->b≠mb->v.ownBlock≠some b->(W'.setCell ⟨mb,i,none⟩ u).heap[b]? = W.heap[b]?)/\Tb W' mb 27 l/\Tb (W'.setCell ⟨mb,i,none⟩ u) mb 27 (l.set i u):=by
 have hm:=hb.bx.lt;have ha:=Oy W o;have q:∀b,b<W.heap.size->v.ownBlock≠some b->W'.heap[b]? = W.heap[b]? := fun b h1 h2=>(hg.block b (by have:=ha.size;omega) (fun e=>h2 e.symm)).trans (ha.block b h1);have j:Tb W' mb 27 l:=(q mb hm (fun e1=>by
  obtain⟨c,fz,h2⟩:=Ob hv mb e1;have h3:=hb.ty;rw[U7 h2]at h3;exact he (Option.some.inj h3))).trans hb
 have h:∀b,b<W.heap.size->b≠mb->v.ownBlock≠some b->(W'.setCell ⟨mb,i,none⟩ u).heap[b]? = W.heap[b]? := fun b h1 h2 h3=>(Jh _ _ _ _ h2).trans (q b h1 h3);refine⟨⟨hg.os,hg.tape,hg.output,?_,fun b h1=>h b (by omega) (by omega) (fun e=>by have:=Oe hv b e;omega)⟩,h,j,j.set i u⟩;have:=hg.size;simp[World.setCell]at this ⊢;omega
theorem SpI.putS(h:SpI g N B M mb k W us uf ut S F T){o:Obj}{u:List UInt8}(ho:W'.ownsRow B 9 1 (.slice (some ⟨q,0,none⟩) (S.length+1) c) (S.length+1) (strsC S++[.string (Oo u)]))(hg:(W.alloc o).grownBy W' us.ownBlock) :
 Tb W' mb 27 [us,uf,ut]/\SpR g N B mb k W (.slice (some ⟨q,0,none⟩) (S.length+1) c) uf ut (S++[u]) F T (W'.setCell ⟨mb,0,none⟩ (.slice (some ⟨q,0,none⟩) (S.length+1) c)):=by
 have hl:=h.lo;obtain⟨s1,G,J,Z⟩:=Ag (i:=0) (u:=.slice (some ⟨q,0,none⟩) (S.length+1) c) h.s hg h.box (by decide) hl.2.1;have j:∀b t cs fz,W.heap[b]? = some (.cells cs t fz)->t≠27->b≠mb:=fun b t cs fz hb ht e=>by
  subst e;have E:=h.box.ty;rw[U7 hb]at E;exact ht (Option.some.inj E)
 obtain⟨X,K,O,R,-⟩:=h.f.keep (w':=W'.setCell ⟨mb,0,none⟩ (.slice (some ⟨q,0,none⟩) (S.length+1) c)) fun b cs fz hb hM=>G b (by rcases hb with hb|hb<;>exact(Jo.1 hb).1) (by rcases hb with hb|hb<;>exact j b _ cs fz hb (by decide)) (fun e=>by have:=h.sm b e;omega);obtain⟨Y,V,f2,f3,-⟩:=h.t.keep (w':=W'.setCell ⟨mb,0,none⟩ (.slice (some ⟨q,0,none⟩) (S.length+1) c)) fun b cs fz hb _=>G b (by rcases hb with hb|hb<;>exact(Jo.1 hb).1) (by rcases hb with hb|hb<;>exact j b _ cs fz hb (by decide)) (by rcases hb with hb|hb<;>exact own_type h.s hb (by decide));refine⟨J,⟨⟨?_,⟨X,K,own_lower O hl.2.2,fun x hx=>own_lower (R x hx) hl.2.2⟩,⟨Y,V,f2,f3⟩⟩,Z,s1,h.cur.bl (s1.mono hl.1)⟩⟩;have:=Uf (i:=0) (u:=.slice (some ⟨q,0,none⟩) (S.length+1) c) ho (by rw[J.ty];decide:Ix W' mb≠some 9);rw[Jq,Ze]
 simpa[strsC]using this
theorem SpI.putF(h:SpI g N B M mb k W us uf ut S F T){o:Obj}{f:Fn}{X:List (Fn×Value)}(hX:X.map Prod.fst=F/\W.ownsRow B 75 3 uf F.length (X.flatMap funC)/\∀x∈X,W.ownsRow B 9 1 x.2 x.1.args.length (strsC x.1.args))(hf:f.args=[])(ho:W'.ownsRow B 75 3 (.slice (some ⟨q,0,none⟩) (F.length+1) c) (F.length+1) (X.flatMap funC++funC (f,.slice none 0 0)))(hg:(W.alloc o).grownBy W' uf.ownBlock) :
 Tb W' mb 27 [us,uf,ut]/\SpR g N B mb k W us (.slice (some ⟨q,0,none⟩) (F.length+1) c) ut S (F++[f]) T (W'.setCell ⟨mb,1,none⟩ (.slice (some ⟨q,0,none⟩) (F.length+1) c)):=by
 obtain⟨O,E,R⟩:=hX;have hl:=h.lo;obtain⟨s1,Z,K,s4⟩:=Ag (i:=1) (u:=.slice (some ⟨q,0,none⟩) (F.length+1) c) E hg h.box (by decide) hl.2.1;have j:∀ {n sz:Nat} {e:TypeId} {v:Value} {xs:List Value},W.ownsRow B e sz v n xs->e≠27->e≠75->(W'.setCell ⟨mb,1,none⟩ (.slice (some ⟨q,0,none⟩) (F.length+1) c)).ownsRow B e sz v n xs:=fun hr h1 h2=>own_other' hr fun b hb=>by
  obtain⟨cs,fz,G⟩:=Ob hr b hb;refine Z b (hr.lt b hb).2 (fun e=>?_) (own_type E G (Ne.symm h2));subst e;have J:=h.box.ty;rw[U7 G]at J;exact h1 (Option.some.inj J)
 obtain⟨Y,V,f2,f3⟩:=h.a.t;refine⟨K,⟨⟨j h.s (by decide) (by decide),⟨X++[(f,.slice none 0 0)],by rw[Yk,O];rfl,?_,fun x hx=>?_⟩,⟨Y,V,j f2 (by decide) (by decide),fun x hx=>j (f3 x hx) (by decide) (by decide)⟩⟩,s4,s1,h.cur.bl (s1.mono hl.1)⟩⟩
 ·have:=Uf (i:=1) (u:=.slice (some ⟨q,0,none⟩) (F.length+1) c) ho (by rw[K.ty];decide:Ix W' mb≠some 75);rw[Jq,Ze,Yx]
  simpa using this
 rcases Yc.1 hx with hx|hx
 ·exact j (R x hx) (by decide) (by decide)
 rw[J5.1 hx];simp only[hf];exact K5 _ _ _ _
theorem SpI.putT(h:SpI g N B M mb k W us uf ut S F T){o:Obj}{X:List (Tm×Value)}(hX:X.map Prod.fst=T/\W.ownsRow B 38 6 ut T.length (X.flatMap O5)/\∀x∈X,W.ownsRow B 3 1 x.2 x.1.kids.length (Uq x.1.kids))(hi:i<X.length)(hi2:i<T.length)(ho:W'.ownsRow B 38 6 (.slice (some ⟨q,0,none⟩) (T.length+1) c) (T.length+1) (X.flatMap O5++O5 X[i]))(hg:(W.alloc o).grownBy W' ut.ownBlock) :
 Tb W' mb 27 [us,uf,ut]/\SpR g N B mb k W us uf (.slice (some ⟨q,0,none⟩) (T.length+1) c) S F (T++[T[i]]) (W'.setCell ⟨mb,2,none⟩ (.slice (some ⟨q,0,none⟩) (T.length+1) c)):=by
 obtain⟨E,G,J⟩:=hX;have hl:=h.lo;obtain⟨s1,s2,R,s4⟩:=Ag (i:=2) (u:=.slice (some ⟨q,0,none⟩) (T.length+1) c) G hg h.box (by decide) hl.2.1;have j:∀ {n sz:Nat} {e:TypeId} {v:Value} {xs:List Value},W.ownsRow B e sz v n xs->e≠27->e≠38->(W'.setCell ⟨mb,2,none⟩ (.slice (some ⟨q,0,none⟩) (T.length+1) c)).ownsRow B e sz v n xs:=fun hr h1 h2=>own_other' hr fun b hb=>by
  obtain⟨cs,fz,K⟩:=Ob hr b hb;refine s2 b (hr.lt b hb).2 (fun e=>?_) (own_type G K (Ne.symm h2));subst e;have O:=h.box.ty;rw[U7 K]at O;exact h1 (Option.some.inj O)
 obtain⟨Y,Z,f2,f3⟩:=h.a.f;have V:T[i]=X[i].1:=by subst E;rw[Yh]
 refine⟨R,⟨⟨j h.s (by decide) (by decide),⟨Y,Z,j f2 (by decide) (by decide),fun x hx=>j (f3 x hx) (by decide) (by decide)⟩,⟨X++[X[i]],by rw[Yk,E,V];rfl,?_,fun x hx=>?_⟩⟩,s4,s1,h.cur.bl (s1.mono hl.1)⟩⟩
 ·have:=Uf (i:=2) (u:=.slice (some ⟨q,0,none⟩) (T.length+1) c) ho (by rw[R.ty];decide:Ix W' mb≠some 38);rw[Jq,Ze,Yx]
  simpa using this
 rcases Yc.1 hx with hx|hx
 ·exact j (J x hx) (by decide) (by decide)
 rw[J5.1 hx];exact j (J _ (Jj hi)) (by decide) (by decide)
theorem L8:∀(X:List (Fn×Value)) (i:Nat) (h:i<X.length) (so:List UInt8),(X.flatMap funC).set (i*3+2) (.string (Oo so))=(X.set i (⟨X[i].1.name,X[i].1.args,so⟩,X[i].2)).flatMap funC
 | x::X,0,_,so=>by simp[funC]
 | x::X,i+1,h,so=>by
   have:=L8 X i (by simpa using h) so
   rw[Zs,Z5 _ _ (by simp[funC];omega),show(i+1)*3+2 - (funC x).length=i*3+2 by simp[funC];omega,this]
   simp
theorem L9:∀(X:List (Tm×Value)) (i:Nat) (h:i<X.length) (t:Tm) (v:Value),((((((X.flatMap O5).set (i*6) (.int .i64 t.op)).set (i*6+1) (.string (Oo t.sort))).set (i*6+2) (.string (Oo t.text))).set (i*6+3) (.int .i64 t.a)).set (i*6+4) (.int .i64 t.b)).set (i*6+5) v=(X.set i (t,v)).flatMap O5
 | x::X,0,_,t,v=>by simp[O5]
 | x::X,i+1,h,t,v=>by
   have E:=L9 X i (by simpa using h) t v
   have j:∀(Y:List Value) (d:Nat) (u:Value),(O5 x++Y).set ((i+1)*6+d) u=O5 x++Y.set (i*6+d) u:=fun Y d u=>by
    rw[Z5 _ _ (by simp[O5];omega),show(i+1)*6+d - (O5 x).length=i*6+d by simp[O5];omega]
   have q:=j (X.flatMap O5) 0 (.int .i64 t.op)
   simp only[Nat.add_zero]at q
   rw[Zs,q,j,j,j,j,j,E]
   simp
theorem SpI.setF{bf:Nat}(h:SpI g N B M mb k W us (.slice (some ⟨bf,0,none⟩) F.length c) ut S F T)(hi:i<F.length)(so:List UInt8) :
 (W.cell? ⟨bf,i*3+2,none⟩=some (.string (Oo F[i].sort))/\W.frozen? ⟨bf,i*3+2,none⟩=false)/\SpR g N B mb k W us (.slice (some ⟨bf,0,none⟩) F.length c) ut S (F.set i ⟨F[i].name,F[i].args,so⟩) T (W.setCell ⟨bf,i*3+2,none⟩ (.string (Oo so))):=by
 have hl:=h.lo;obtain⟨X,K,J,O⟩:=h.a.f;obtain⟨Y,Z,f2,f3⟩:=h.a.t;have q:i<X.length:=by rw[<-K]at hi;simpa using hi
 have R:F[i]=X[i].1:=by subst K;rw[Yh]
 have E:=ZG J;have G:∀ {n sz:Nat} {e:TypeId} {v:Value} {xs:List Value},W.ownsRow B e sz v n xs->e≠75->(W.setCell ⟨bf,i*3+2,none⟩ (.string (Oo so))).ownsRow B e sz v n xs:=fun hr h1=>Uf hr (by rw[E.1];exact fun e=>h1 (Option.some.inj e).symm);have hm:mb≠bf:=fun e=>by
  have V:=h.box.ty;rw[e,E.1]at V;exact absurd (Option.some.inj V) (by decide)
 have j:Below B W (W.setCell ⟨bf,i*3+2,none⟩ (.string (Oo so))):=⟨rfl,rfl,rfl,by simp[World.setCell],fun b hb=>Jh _ _ _ _ (by have:=E.2;show b≠bf;omega)⟩;refine⟨⟨?_,J.frozenAt _⟩,⟨G h.s (by decide),⟨X.set i (⟨X[i].1.name,X[i].1.args,so⟩,X[i].2),?_,?_,fun x hx=>?_⟩,⟨Y,Z,G f2 (by decide),fun x hx=>G (f3 x hx) (by decide)⟩⟩,(Jh _ _ _ _ hm).trans h.box,j,h.cur.bl (j.mono hl.1)⟩
 ·rw[R];exact(Xq J q).2.2
 ·rw[List.map_set,K,R]
 ·have:=(J.stored (i*3+2) (.string (Oo so))).1;rw[L8 X i q so]at this
  simpa using this
 rcases Zv hx with hx|rfl
 ·exact G (O x hx) (by decide)
 exact G (O X[i] (Jj q)) (by decide)
def P2(W:World)(bt i:Nat)(t:Tm)(va:Value):World:=
 let W1:=W.setCell ⟨bt,i*6,none⟩ (.int .i64 t.op)
 let W2:=W1.setCell ⟨bt,i*6+1,none⟩ (.string (Oo t.sort))
 let W3:=W2.setCell ⟨bt,i*6+2,none⟩ (.string (Oo t.text))
 let W4:=W3.setCell ⟨bt,i*6+3,none⟩ (.int .i64 t.a)
 let W5:=W4.setCell ⟨bt,i*6+4,none⟩ (.int .i64 t.b)
 W5.setCell ⟨bt,i*6+5,none⟩ va
theorem SpI.setT{va:Value}{bt:Nat}(h:SpI g N B M mb k W us uf (.slice (some ⟨bt,0,none⟩) T.length c) S F T)(hi:i<T.length)(t:Tm)(hv:W.ownsRow B 3 1 va t.kids.length (Uq t.kids)) :
 (∀d,d<6->(∃u,W.cell? ⟨bt,i*6+d,none⟩=some u)/\W.frozen? ⟨bt,i*6+d,none⟩=false)/\SpR g N B mb k W us uf (.slice (some ⟨bt,0,none⟩) T.length c) S F (T.set i t) (P2 W bt i t va):=by
 have hl:=h.lo;obtain⟨X,Z,e2,e3⟩:=h.a.f;obtain⟨Y,O,f2,f3⟩:=h.a.t;have K:i<Y.length:=by rw[<-O]at hi;simpa using hi
 have j:=ZG f2;have hh:∀b,b≠bt->(P2 W bt i t va).heap[b]? = W.heap[b]? := fun b hb=>by
  unfold P2;rw[Jh _ ⟨bt,i*6+5,none⟩ _ _ hb,Jh _ ⟨bt,i*6+4,none⟩ _ _ hb,Jh _ ⟨bt,i*6+3,none⟩ _ _ hb,Jh _ ⟨bt,i*6+2,none⟩ _ _ hb,Jh _ ⟨bt,i*6+1,none⟩ _ _ hb,Jh _ ⟨bt,i*6,none⟩ _ _ hb]
 have G:(P2 W bt i t va).ownsRow B 38 6 (.slice (some ⟨bt,0,none⟩) T.length c) T.length _:=(((((((f2.stored (i*6) (.int .i64 t.op)).1.stored (i*6+1) (.string (Oo t.sort))).1.stored (i*6+2) (.string (Oo t.text))).1.stored (i*6+3) (.int .i64 t.a)).1.stored (i*6+4) (.int .i64 t.b)).1.stored (i*6+5) va).1);rw[L9 Y i K t va]at G;have q:Below B W (P2 W bt i t va):=((((((Ji B W).setCell (p:=⟨bt,i*6,none⟩) j.2 _).setCell (p:=⟨bt,i*6+1,none⟩) j.2 _).setCell (p:=⟨bt,i*6+2,none⟩) j.2 _).setCell (p:=⟨bt,i*6+3,none⟩) j.2 _).setCell (p:=⟨bt,i*6+4,none⟩) j.2 _).setCell (p:=⟨bt,i*6+5,none⟩) j.2 _;generalize (P2 W bt i t va)=V at *;have E:∀ {n sz:Nat} {e:TypeId} {v:Value} {xs:List Value},W.ownsRow B e sz v n xs->e≠38->V.ownsRow B e sz v n xs:=fun hr h1=>own_other' hr fun b hb=>hh b (fun e=>by
  obtain⟨cs,fz,J⟩:=Ob hr b hb;have R:=j.1;rw[<-e,U7 J]at R;exact h1 (Option.some.inj R))
 have hm:mb≠bt:=fun e=>by
  have J:=h.box.ty;rw[e,j.1]at J;exact absurd (Option.some.inj J) (by decide)
 refine⟨fun d hd=>⟨?_,f2.frozenAt _⟩,⟨E h.s (by decide),⟨X,Z,E e2 (by decide),fun x hx=>E (e3 x hx) (by decide)⟩,⟨Y.set i (t,va),by rw[List.map_set,O],by simpa using G,fun x hx=>?_⟩⟩,(hh mb hm).trans h.box,q,h.cur.bl (q.mono hl.1)⟩
 ·rw[f2.cellAt _ (by omega)];have:i*6+d<(Y.flatMap O5).length:=by rw[f2.1];omega
  exact⟨_,Jg this⟩
 rcases Zv hx with hx|rfl
 ·exact E (f3 x hx) (by decide)
 exact E hv (by decide)
theorem SpR.fin{W1:World}(h:SpR g N B mb k W us uf ut S F T W1)(hb:Q.Bar g w W)(hN:N<=w.heap.size)(hwq:w.heap.size<=q)(hq:q<B)(hz:BankZ S F T)(hn:G4 T){K:Nat}(hk:k<=K) :
 LR g N w (.returned (.agg #[us,uf,ut])) (((W1.setCell ⟨q,0,none⟩ us).setCell ⟨q,1,none⟩ uf).setCell ⟨q,2,none⟩ ut) K:=by
 have hh:∀b,b≠q->(((W1.setCell ⟨q,0,none⟩ us).setCell ⟨q,1,none⟩ uf).setCell ⟨q,2,none⟩ ut).heap[b]? = W1.heap[b]? := fun b hb=>by rw[Jh _ ⟨q,2,none⟩ _ _ hb,Jh _ ⟨q,1,none⟩ _ _ hb,Jh _ ⟨q,0,none⟩ _ _ hb]
 have j:Below w.heap.size W1 (((W1.setCell ⟨q,0,none⟩ us).setCell ⟨q,1,none⟩ uf).setCell ⟨q,2,none⟩ ut):=⟨rfl,rfl,rfl,by simp[World.setCell],fun b hb=>hh b (by omega)⟩;refine⟨us,uf,ut,S,F,T,k,rfl,hk,⟨(h.a.keep fun b h1 _=>hh b (by omega)).bank,hz,hn,Ay (h.a.keep fun b h1 _=>hh b (by omega)).s⟩,h.cur.bl (j.mono hN),Xn (Xn hb h.low (by omega)) j leR⟩
def LG(t:Tm):Prop:=t.sort.length<=20000/\t.text.length<=20000/\t.kids.length<=50/\(-10<=t.op/\t.op<=100)/\(-10<=t.a/\t.a<=100)/\(-10<=t.b/\t.b<=100)/\Er t.text
def BG(f:Fn):Prop:=f.name.length<=20000/\(∀a∈f.args,a.length<=20000)/\f.sort.length<=20000
theorem TmD.s{t:Tm}(h:TmD t):LG t:=⟨h.so.1,h.tx.1,h.kn,⟨by have:=h.op;omega,h.op.2⟩,h.a,h.b,h.tx.2⟩
theorem FnD.s{f:Fn}(h:FnD f):BG f:=⟨h.nm.1,fun a ha=>(h.ar a ha).1,h.so.1⟩
theorem PG{x:Int}(h : -10<=x/\x<=100):(Lit.int .i64 x).wf=true:=by
 have j:IntKind.i64.min = -9223372036854775808:=rfl;have q:IntKind.i64.max=9223372036854775807:=rfl;simp only[Lit.wf,j,q,Jw,J1];omega
theorem Fb(h1:S.length<=1000)(h2:∀s∈S,s.length<=20000)(h3:F.length<=1000)(h4:∀f∈F,BG f)(h5:T.length<=70000)(h6:∀t∈T,LG t):BankZ S F T/\G4 T:=by
 refine⟨⟨by omega,by omega,by omega,fun s hs=>by have:=h2 s hs;omega,fun f hf=>?_,fun t ht=>?_⟩,fun t ht=>(h6 t ht).2.2.2.2.2.2⟩
 ·obtain⟨a,b,c⟩:=h4 f hf;exact⟨by omega,fun x hx=>by have:=b x hx;omega,by omega⟩
 obtain⟨a,b,c,d,e,f,-⟩:=h6 t ht;exact⟨by omega,by omega,by omega,PG d,PG e,PG f⟩
theorem BU(h:DBk S F T m)(hm:m<=60000):BankZ S F T/\G4 T:=
 Fb (by have:=h.ls;omega) (fun s hs=>h.s s hs) (by have:=h.lf;omega) (fun f hf=>(h.f f hf).s) (by have:=h.lt;omega) (fun t ht=>(h.t t ht).s)
theorem BS(h:DBk S F T m)(hm:m<=60000){u:List UInt8}(hu:u.length<=100):BankZ (S++[u]) F T/\G4 T:=
 Fb (by have:=h.ls;simp;omega) (fun s hs=>(Yc.1 hs).elim (h.s s) (fun e=>by rw[J5.1 e];omega)) (by have:=h.lf;omega) (fun f hf=>(h.f f hf).s) (by have:=h.lt;omega) (fun t ht=>(h.t t ht).s)
theorem BB(h:DBk S F T m)(hm:m<=60000){nm so:List UInt8}(h1:nm.length<=100)(h2:so.length<=100):BankZ S (F++[⟨nm,[],so⟩]) T/\G4 T:=
 Fb (by have:=h.ls;omega) (fun s hs=>h.s s hs) (by have:=h.lf;simp;omega) (fun f hf=>(Yc.1 hf).elim (fun e=>(h.f f e).s) (fun e=>by rw[J5.1 e];exact⟨by simp only;omega,by simp,by simp only;omega⟩)) (by have:=h.lt;omega) (fun t ht=>(h.t t ht).s)
theorem BA(h:DBk S F T m)(hm:m<=60000){so:List UInt8}(hi:i<F.length)(h2:so.length<=100):BankZ S (F.set i ⟨F[i].name,F[i].args,so⟩) T/\G4 T:=
 Fb (by have:=h.ls;omega) (fun s hs=>h.s s hs) (by have:=h.lf;simp;omega) (fun f hf=>(Zv hf).elim (fun e=>(h.f f e).s) (fun e=>by
  have j:=(h.f _ (Jj hi)).s
  rw[e]
  exact⟨j.1,j.2.1,by simp only;omega⟩)) (by have:=h.lt;omega) (fun t ht=>(h.t t ht).s)
theorem BT(h:DBk S F T m)(hm:m<=60000)(hi:i<T.length):BankZ S F (T++[T[i]])/\G4 (T++[T[i]]):=
 Fb (by have:=h.ls;omega) (fun s hs=>h.s s hs) (by have:=h.lf;omega) (fun f hf=>(h.f f hf).s) (by have:=h.lt;simp;omega) (fun t ht=>(Yc.1 ht).elim (fun e=>(h.t t e).s) (fun e=>by rw[J5.1 e];exact(h.t _ (Jj hi)).s))
theorem BW(h:DBk S F T m)(hm:m<=60000){t:Tm}(ht:LG t):BankZ S F (T.set i t)/\G4 (T.set i t):=
 Fb (by have:=h.ls;omega) (fun s hs=>h.s s hs) (by have:=h.lf;omega) (fun f hf=>(h.f f hf).s) (by have:=h.lt;simp;omega) (fun u hu=>(Zv hu).elim (fun e=>(h.t u e).s) (fun e=>by rw[e];exact ht))
def spoN:List (List UInt8):=[[112],[120],[],[98,118,120],[124],[85],[115,101,108,101,99,116],[46,48],[97,32,98],[73,110,116],[110,101,119]]
def spoS:List (List UInt8):=[[66,111,111,108],[73,110,116],[82,101,97,108],[85],[40,95,32,66,105,116,86,101,99,32,51,41],[40,65,114,114,97,121,32,73,110,116,32,73,110,116,41],[40,95,32,66,105,116,86,101,99,32,54,53,41],[40,65,114,114,97,121,32,85,32,66,111,111,108,41],[],[86],[40,65,114,114,97,121,32,40,65,114,114,97,121,32,85,32,85,41,32,85,41]]
theorem CG:∀x∈spoN,x.length<=100/\Er x:=by
 intro x hx;unfold spoN at hx;simp only[Ym,Yi,or_false]at hx
 rcases hx with rfl|rfl|rfl|rfl|rfl|rfl|rfl|rfl|rfl|rfl|rfl<;>simp[Er]
theorem CH:∀x∈spoS,x.length<=100:=by
 intro x hx;unfold spoS at hx;simp only[Ym,Yi,or_false]at hx
 rcases hx with rfl|rfl|rfl|rfl|rfl|rfl|rfl|rfl|rfl|rfl|rfl<;>simp
theorem M9{L:List (List UInt8)}(h:Tb w q 9 (strsC L)){r:Nat}(hr:r<L.length):w.cell? ⟨q,r,none⟩=some (.string (Oo L[r])):=by
 rw[h.bx.cell];unfold strsC;rw[Yt,Jg hr];rfl
end Go.Proofs.YtfkagjelljnpdaaGreatDoor
