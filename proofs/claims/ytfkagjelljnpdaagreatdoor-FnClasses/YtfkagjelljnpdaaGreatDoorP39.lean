import Derived.Test.YtfkagjelljnpdaaGreatDoorP38
set_option linter.all false
set_option maxRecDepth 100000
set_option maxHeartbeats 16000000
namespace Go.Proofs.YtfkagjelljnpdaaGreatDoor
open ChangeShapes WideShapes ChangeAt RowKit Proofs.Tryz
variable {B N g k m mb n:Nat}{F:List Fn}{S:List (List UInt8)}{T:List Tm}{vf vs vt:Value}{w w0:World}
theorem F3{q:Nat}{a b:Int}(h:Tb w q 3 [.int .i64 a,.int .i64 b])(hg:q≠g):∀W,N9 g B w W->Q4 W (.slice (some ⟨q,0,none⟩) 2 2) [a,b]:=fun W hW=>by
 have hx:=(hW.bx h hg (by decide)).bx
 refine⟨⟨_,_,rfl,by simp,by unfold maxLen;decide,.inr ⟨q,rfl,hx.lt,fun i hi=>?_⟩⟩,.inr ⟨q,2,rfl⟩⟩
 rw[hx.cell]
 have:i=0∨i=1:=by simp at hi;omega
 rcases this with rfl|rfl<;>rfl
theorem NU(a b:Int)(w:World):Calls prog 77 #[.int .i64 a,.int .i64 b] w fun e w'=>∃q,e=.returned (.slice (some ⟨q,0,none⟩) 2 2)/\w.heap.size<=q/\Tb w' q 3 [.int .i64 a,.int .i64 b]/\Up w w':=by
 have j:Hid (Tb (w.alloc (.cells #[.int .i64 a,.int .i64 b] 3)) w.heap.size 3 [.int .i64 a,.int .i64 b]):=Js;have h:=Hd (Oy w (.cells #[.int .i64 a,.int .i64 b] 3))
 go_in
 go_wp2
 go_ret
 exact⟨_,rfl,leR,j.o,h.o⟩
def LD(g N B mb:Nat)(w0 w:World)(vs vf:Value)(S:List (List UInt8))(F:List Fn)(n K m:Nat)(e:Ending)(w':World):Prop:=∃(q:Nat) (a b:Int) (k':Nat) (vt':Value) (T':List Tm),e=.returned (.slice (some ⟨q,0,none⟩) 2 2)/\((-1<=a/\a<(T'.length:Int))/\(-1<=b/\b<(T'.length:Int))/\n<=T'.length/\k'<=K)/\LBk g N B mb w0 w' vs vf vt' S F T' k' m/\G3 g B w w'/\w.heap.size<=q/\Tb w' q 3 [.int .i64 a,.int .i64 b]
theorem LO(so:List UInt8)(h:LBk g N B mb w0 w vs vf vt S F T k m)(hso:so.length<=20000/\so≠Nk)(hm:m<=60000)(hk:k<=80000000) :
 Calls prog 50 #[.pointer (some ⟨mb,0,none⟩),.string (Oo so)] w (LD g N B mb w0 w vs vf S F T.length (k+16000) (m+2)):=by
 have HA:=Hd (Dq so h hso (by omega) (by omega));have Y:=Hd hso;clear h hso
 go_in
 go_wp2_with fail
 refine HA.o.mono ?_;rintro e w1 ⟨a,k1,d0,T1,rfl,⟨a1,a2,a3,a4⟩,E,J⟩;have b6:=Hd E;have R:=Hd J;have HB:=Hd (Dq so E Y.o (by omega) (by omega));clear E J
 go_wp2_with fail
 refine HB.o.mono ?_;rintro e w2 ⟨b,k2,Z,T2,rfl,⟨b1,b2,b3,b4⟩,O,K⟩;have V:=Hd O;have G:Hid (G3 g B w w2):=R.o.trans K;clear O K
 go_wp2_with fail
 refine(NU a b w2).mono ?_;rintro e w3 ⟨q,rfl,hq,ht,j⟩;have HR:Hid (LD g N B mb w0 w vs vf S F T.length (k+16000) (m+2) (.returned (.slice (some ⟨q,0,none⟩) 2 2)) w3):=⟨q,a,b,k2,Z,T2,rfl,⟨⟨a1,by omega⟩,⟨b1,b2⟩,by omega,by omega⟩,V.o.next j,G.o.trans (.up j),Jm G.o.size hq,ht⟩;clear hq ht j
 go_wp2
 go_ret
 exact HR.o
theorem Mq(v:Value)(L:List Int)(w:World)(h:IntsAt w v L)(hl:L.length<=1000):Calls prog 51 #[v] w fun e w'=>(∃b,e=.returned (.bool b))/\w'=w:=by
 have E:=Hd h;obtain⟨p,c,rfl,-,-,-⟩:=h
 go_in
 go_wp2
 go_loopw [4,7] (fun _ iv wr=>∃i:Nat,i<=L.length/\iv=.int .i64 (i:Nat)/\wr=w) (fun _ iv _=>L.length - (intOf iv).toNat)
 case atStart=>exact⟨0,Jp _,rfl,rfl⟩
 obtain⟨i,V,rfl,rfl⟩:=hrel
 by_cases j:i<L.length
 ·have K:decide ((i:Int)<(L.length:Int))=true:=Jb (by omega);have z2:decide (i<L.length)=true:=Jb j;have Y:(i:Int)<(L.length:Int):=by omega
  obtain⟨b,rfl,R⟩:∃b,p=some ⟨b,0,none⟩/\wr.cell? ⟨b,i,none⟩=some (.int .i64 L[i]):=by
   obtain⟨Z,O,e,-,-,q⟩:=E.o;simp only[Value.slice.injEq,true_and]at e;obtain⟨rfl,rfl⟩:=e
   rcases q with q|⟨b,e,-,G⟩
   ·subst q;exact absurd j (Jz _)
   exact⟨b,e,G i j⟩
  generalize L[i]=x at *
  by_cases hx:x<0
  ·have J:decide (x<0)=true:=Jb hx
   go_wp2
   go_ret
   exact⟨⟨_,rfl⟩,rfl⟩
  have J:decide (x<0)=false:=Jd hx
  go_wp2
  go_roundw
  case rel=>exact⟨i+1,j,by go_num,by first|trivial|rfl⟩
  simp[intOf];omega
 have K:decide ((i:Int)<(L.length:Int))=false:=Jd (by omega);have z2:decide (i<L.length)=false:=Jd j
 go_wp2
 go_ret
 exact⟨⟨_,rfl⟩,rfl⟩
theorem CN(h:LBk g N B mb w0 w vs vf vt S F T k m)(hT:0<T.length)(hm:m<=60000)(hk:k<=80000000) :
 Calls prog 49 #[.pointer (some ⟨mb,0,none⟩)] w fun e w'=>∃(so:List UInt8) (k':Nat),e=.returned (.string (Oo so))/\(so.length<=20000/\so≠Nk)/\k'<=k+12/\LBk g N B mb w0 w' vs vf vt S F T k' m/\Q.Bar g w w':=by
 have HL:=Hd h;have b0:=Hd h.db.lt;have a7:=Hd h.db.t;obtain⟨pt,ct,rfl,-,-,-⟩:=h.terms;obtain⟨Y,b9,e,c6,-,-⟩:=Fj h.terms hT;simp only[Value.slice.injEq,true_and]at e;obtain⟨rfl,rfl⟩:=e;clear h
 go_in
 go_wp2
 go_loopw [3,4] (fun iv _ wr=>∃i k5:Nat,i<=6/\iv=.int .i64 (i:Nat)/\k5<=k+2*i/\LBk g N B mb w0 wr vs vf (.slice (some ⟨Y,0,none⟩) T.length ct) S F T k5 m/\Q.Bar g w wr) (fun iv _ _=>6 - (intOf iv).toNat)
 case atStart=>exact⟨0,k,Jp _,rfl,leR,HL.o,Q.Bar.refl _ _⟩
 rename World=>wr
 obtain⟨i,k5,hi,rfl,c8,hl,hb⟩:=hrel;have G:=Hd hl;have R:=Hd hb;clear hl hb
 by_cases d1:i<6
 ·have z1:decide ((i:Int)<6)=true:=Jb (by omega);obtain⟨c0,c1,c2,c3⟩:=G.o.cells;have HC:Hid (∀W k',LBk g N B mb w0 W vs vf (.slice (some ⟨Y,0,none⟩) T.length ct) S F T k' m->∀j (h:j<T.length),W.cell? ⟨Y,j*6+1,none⟩=some (.string (Oo T[j].sort))):=fun W k' hW j hj=>by
   obtain⟨b',c',e,-,-,t1⟩:=Fj hW.terms hj;simp only[Value.slice.injEq,Option.some.injEq,Addr.mk.injEq]at e;rw[e.1.1];exact t1
  go_wp2_with fail
  refine Ph 20 rfl (S:=fun W=>W.cell? ⟨mb,0,none⟩=some (.pointer (some ⟨g,0,none⟩))/\W.cell? ⟨mb,3,none⟩=some (.slice (some ⟨Y,0,none⟩) T.length ct)/\∀j (h:j<T.length),W.cell? ⟨Y,j*6+1,none⟩=some (.string (Oo T[j].sort))) (by kernel_rfl) (⟨c0,c3,fun j hj=>HC.o wr k5 G.o j hj⟩) (fun hHeld=>?_)
  iterate 15 (refine tkf 19 28 (v:=?_) rfl rfl (by kernel_rfl) (fun _ _ _ h=>h) (.inl ⟨by rfl,?_⟩) (by assumption) ?_;rotate_left;(intro w J;(try dsimp only at J);go_simp;(try with_reducible rfl));try simp only[Act.put,Ja,Je,Jf])
  have a1:Hid (Q.Ux g N wr.drew k5):=G.o.cur.bl (Ji _ _).drew;have b5:T.length<=60000:=Jm b0.o hm;refine wpAnyH_ready (rs:=[15]) (by kernel_rfl) (by simp) ?_;refine AllReadyH.cons rfl (fun K hK=>?_) AllReadyH.nil
  go_simp
  go_at_call 19
  refine(Q.Oj g N k5 T.length _ a1.o (by omega) (by omega) (by omega)).mono ?_;rintro e w3 ⟨r,k6,rfl,hr,d0,Z,E⟩;have O:Hid (Q.Bar g wr w3):=⟨E.os,E.tape,E.output,E.size,E.block⟩;have q:=Hd (G.o.up O.o Z);have d2:(r:Int)<(T.length:Int):=by omega
  clear Z E
  go_wp2_with fail
  refine hK.out _ _ (⟨q.o.cells.1,q.o.cells.2.2.2,fun j hj=>HC.o w3 k6 q.o j hj⟩) (fun hHeld15=>?_);clear hK K
  try simp only[Act.put,Ja,Je,Jf]
  iterate 3 (refine tkf 19 28 (v:=?_) rfl rfl (by kernel_rfl) (fun _ _ _ h=>h) (.inl ⟨by rfl,?_⟩) (by assumption) ?_;rotate_left;(intro w J;have hq:=J.2.2 r hr;go_simp;(try with_reducible rfl));try simp only[Act.put,Ja,Je,Jf])
  refine tk 19 4 (v:=?_) rfl rfl (by kernel_rfl) (fun _ _ _ h=>h) (.inl ⟨by rfl,?_⟩) (by assumption) ?_;rotate_left;(intro w J;(try dsimp only at J);go_simp;(try with_reducible rfl));try simp only[Act.put,Ja,Je,Jf];refine wpAnyH_done (by kernel_rfl) ?_ _;clear hHeld hHeld15;obtain⟨c0,c1,c2,c3⟩:=q.o.cells;have a8:=Hd (a7.o T[r] (Jj hr)).so;generalize T[r].sort=so at *;have V:Hid (Q.Bar g w w3):=R.o.trans O.o
  by_cases hs:so=Ok
  ·have y1:=H6 (s:=Oo so) (l:=[66,111,111,108]) (by rw[Ov];exact hs);have y2:((Oo so).toList != [66,111,111,108])=false:=by simp[bne,y1]
   clear hs c0 c1 c2 c3
   go_wp2
   go_roundw
   case rel=>exact⟨i+1,k6,by omega,by go_num,by omega,q.o,V.o⟩
   simp[intOf];omega
  have y1:=Nh (s:=Oo so) (l:=[66,111,111,108]) (by rw[Ov];exact hs);have y2:((Oo so).toList != [66,111,111,108])=true:=by simp[bne,y1]
  clear c0 c1 c2 c3
  go_wp2
  go_ret
  exact⟨so,k6,rfl,a8.o,by omega,q.o,V.o⟩
 have z1:decide ((i:Int)<6)=false:=Jd (by omega);have HR:Hid (Ok.length<=20000/\Ok≠Nk):=⟨by simp[Ok],by simp[Ok,Nk]⟩
 go_wp2
 go_ret
 exact⟨Ok,k5,rfl,HR.o,by omega,G.o,R.o⟩
theorem LBk.setN(h:LBk g N B mb w0 w vs vf vt S F T k m){q i:Nat}{v:Value}(hq:w0.heap.size<=q)(hqm:q≠mb)(hf:vf.ownBlock≠some q)(ht:vt.ownBlock≠some q):LBk g N B mb w0 (w.setCell ⟨q,i,none⟩ v) vs vf vt S F T k m:=by
 obtain⟨X,j,E,G⟩:=h.f;obtain⟨Y,J,f2,f3⟩:=h.t;have hl:=h.lo;exact⟨h.d.far hq,h.cur.bl ⟨rfl,rfl,rfl,by simp[World.setCell],fun p hp=>Jh _ _ _ _ (by show p≠q;omega)⟩,(Jh _ _ _ _ (Ne.symm hqm)).trans h.box,hl,h.s,⟨X,j,own_other' E (fun p hp=>Jh _ _ _ _ (fun e=>hf (by rw[hp,e]))),G⟩,⟨Y,J,own_other' f2 (fun p hp=>Jh _ _ _ _ (fun e=>ht (by rw[hp,e]))),f3⟩,h.db⟩
theorem LBk.grown{w':World}(h:LBk g N B mb w0 w vs vf vt S F T k m){Z:Nat}{v:Value}{xs:List Value}(ho:w.ownsRow Z 3 1 v n xs)(hZ:w0.heap.size<=Z)(hg:w.grownBy w' v.ownBlock):LBk g N B mb w0 w' vs vf vt S F T k m:=by
 obtain⟨X,J,G,K⟩:=h.f;obtain⟨Y,O,f2,f3⟩:=h.t;have hl:=h.lo;have j:∀b t,Ix w b=some t->t≠3->v.ownBlock≠some b:=fun b t hb ht e=>by
  obtain⟨c,fz,q⟩:=Ob ho b e;rw[U7 q]at hb;exact ht (Option.some.inj hb).symm
 have E:∀b,v.ownBlock=some b->w0.heap.size<=b:=fun b e=>Jm hZ (Oe ho b e);refine⟨h.d.late hg E,h.cur.bl ⟨hg.os,hg.tape,hg.output,hg.size,fun p hp=>hg.block p (by have:=h.cur.2.1;omega) (fun e=>by have:=E p e.symm;omega)⟩,(hg.block mb h.box.bx.lt (Ne.symm (j mb _ h.box.ty (by decide)))).trans h.box,hl,h.s,⟨X,J,own_other' G (fun p hp=>hg.block p (G.lt p hp).2 (fun e=>?_)),K⟩,⟨Y,O,own_other' f2 (fun p hp=>hg.block p (f2.lt p hp).2 (fun e=>?_)),f3⟩,h.db⟩
 ·obtain⟨c,fz,q⟩:=Ob G p hp;exact j p _ (U7 q) (by decide) e.symm
 obtain⟨c,fz,q⟩:=Ob f2 p hp;exact j p _ (U7 q) (by decide) e.symm
theorem Ew.now{w':World}{K:Nat}{e:Ending}(h:Ew g N B mb w0 w vs vf S F n K m e w'):Ew g N B mb w' w vs vf S F n K m e w':=by
 obtain⟨i,J,j,q,rfl,E,G,h6⟩:=h;exact⟨i,J,j,q,rfl,E,G.now,h6⟩
theorem La{ops:Array Oper}{rest:List Oper}{o:Oper}{a:Act}{Q:Exit->Act->World->Prop}{W:World}{y:Int}{base n:Nat}{p:Option Addr}{c:Nat}{L:List Int}(hgd:o.guard=none)(s x:Operand)
 (ho:o.op=.call { callee:=.builtin .append,args:=#[s,x],argTypes:=#[31,31] }) (hs:a.eval s=.slice p n c) (hown:W.ownsRow base 3 1 (.slice p n c) n (Uq L))
 (H:Nat) (hx:a.eval x=.slice (some ⟨H,0,none⟩) 1 1) (hH:W.heap.size=H) (hn:n<=1000000000) (hbase:base<=W.heap.size)
 (h:∀q cap W',W'.ownsRow base 3 1 (.slice (some ⟨q,0,none⟩) (n+1) cap) (n+1) (Uq (L++[y]))->(W.alloc (.cells #[.int .i64 y] 3)).grownBy W' (Value.slice p n c).ownBlock->wpList prog ops Q rest (a.put o.dst (.slice (some ⟨q,0,none⟩) (n+1) cap)) W') :
 wpList prog ops Q (o::rest) a (W.alloc (.cells #[.int .i64 y] 3)):=by
 subst hH;obtain⟨i0,j,E,G,J⟩:=Iv;refine wpList_append_lies _ hgd s x 31 ho base 3 i0 (.int .i64 0) 1 8 underlying31 j E G J rfl (by decide) _ n (Uq L) hs (hown.alloc _) ⟨W.heap.size,0,none⟩ 1 1 [.int .i64 y] hx rfl
  (World.news_of_block (cs:=#[.int .i64 y]) (t:=3) (fr:=(0,0)) Js) (by simp[Value.oneCell']) (by decide) (by unfold maxLen;omega) (by omega) (by simp;omega) _ rfl ?_
 intro q cap W' K O _ _;exact h q cap W' (by rw[show Uq (L++[y])=Uq L++[.int .i64 y]by simp[Uq]];exact K) O
theorem Xq{base bf c:Nat}{X:List (Fn×Value)}(h:w.ownsRow base 75 3 (.slice (some ⟨bf,0,none⟩) n c) n (X.flatMap funC)){i:Nat}(hi:i<X.length):w.cell? ⟨bf,i*3,none⟩=some (.string (Oo X[i].1.name))/\w.cell? ⟨bf,i*3+1,none⟩=some X[i].2/\w.cell? ⟨bf,i*3+2,none⟩=some (.string (Oo X[i].1.sort)):=by
 have j:∀d (u:Value),d<3->(funC X[i])[d]? = some u->w.cell? ⟨bf,i*3+d,none⟩=some u:=fun d u hd hu=>Ey h (by rw[Ng (k:=3) (fun _=>rfl) X i d hi hd];exact hu);exact⟨j 0 _ (by decide) rfl,j 1 _ (by decide) rfl,j 2 _ (by decide) rfl⟩
theorem IS(h:LBk g N B mb w w vs vf vt S F T k m)(hm:m<=50000)(hk:k<=70000000) :
 Calls prog 48 #[.pointer (some ⟨mb,0,none⟩),.bool false] w fun e w'=>Ew g N B mb w' w vs vf S F T.length (k+50000) (m+6) e w':=by
 have HL:=Hd h;have HF:=Hd h.db.lf;have g4:=Hd h.db.f;have n4:g<w.heap.size:=Jn h.cur.1 h.cur.2.1;have e0:=Hd n4;obtain⟨X,e1,e2,e3⟩:=h.f;have n0:X.length=F.length:=by rw[<-e1];simp
 have h0:=Hd n0;have l8:=Hd e2;have c6:=Hd e3;have g9:Hid (∀i (h:i<X.length),X[i].1∈F):=fun i hi=>by rw[<-e1];exact List.mem_map_of_mem (Jj hi)
 obtain⟨pf,cf,rfl,-,-,n5⟩:=Kp e2;have l6:=Hd n5;clear h e1 e2 e3 n4 n5 n0
 go_in
 obtain⟨c0,c1,c2,c3⟩:=HL.o.cells
 go_wp2_with fail
 clear c0 c1 c2 c3
 go_loopw [5,6,17] (fun v _ iv wr=>∃(i:Nat) (M:List Nat),i<=F.length/\iv=.int .i64 (i:Nat)/\M.length<=i/\(∀x∈M,x<F.length)/\wr.ownsRow w.heap.size 3 1 v M.length (labV M)/\Up w wr) (fun _ _ iv _=>F.length - (intOf iv).toNat)
 case atStart=>exact⟨0,[],Jp _,rfl,leR,fun x hx=>absurd hx Yi,K5 _ _ _ _,Ji _ _⟩
 rename World=>wr
 obtain⟨i,M,hi,rfl,hM,m8,ho,hb⟩:=hrel;obtain⟨pm,cm,rfl⟩:=V6 ho;have HO:=Hd ho;have HB:=Hd hb;have e5:=Hd m8;have G:=Hd (HL.o.next hb);have h8:F.length<=100:=HF.o;have c8:=Hd (own_other' l8.o (fun q hq=>hb.block q (l8.o.lt q hq).2));clear ho hb m8
 by_cases b7:i<F.length
 ·have z1:decide ((i:Int)<(F.length:Int))=true:=Jb (by omega);have z2:decide (i<F.length)=true:=Jb b7;have i1:(i:Int)<(F.length:Int):=by omega
  obtain⟨bf,rfl⟩:∃b,pf=some ⟨b,0,none⟩:=by
   rcases l6.o with h|⟨b,h,-⟩
   ·omega
   exact⟨b,h⟩
  have i6:i<X.length:=by rw[h0.o];exact b7
  obtain⟨t0,t1,t2⟩:=Xq c8.o i6;obtain⟨pa,ca,ea,-,-,-⟩:=(c6.o _ (Jj i6) wr (DrX.up HB.o)).1;have b0:=Hd (g4.o _ (g9.o i i6));rw[ea]at t1;have p6:X[i].1.args.length<=5:=b0.o.an;obtain⟨c0,c1,c2,c3⟩:=G.o.cells;clear ea;generalize X[i].1=f at *;have k1:Hid (∀(W:World),W=wr->∃(j:Nat) (M':List Nat),j<=F.length/\Value.int .i64 ((i:Int)+1)=.int .i64 (j:Nat)/\M'.length<=j/\(∀x∈M',x<F.length)/\W.ownsRow w.heap.size 3 1 (.slice pm M.length cm) M'.length (labV M')/\Up w W):=fun W hW=>by subst hW;exact⟨i+1,M,b7,by push_cast;rfl,by omega,e5.o,HO.o,HB.o⟩
  by_cases ha:f.args.length=0
  ·have y1:decide ((0:Int)<(f.args.length:Int))=false:=Jd (by omega);have y2:decide (0<f.args.length)=false:=Jd (by omega);clear ha p6
   go_wp2
   go_roundw
   case rel=>exact k1.o _ rfl
   simp[intOf];omega
  have y1:decide ((0:Int)<(f.args.length:Int))=true:=Jb (by omega);have y2:decide (0<f.args.length)=true:=Jb (by omega);clear ha
  by_cases hs:f.sort=Ok
  ·have y3:=H6 (s:=Oo f.sort) (l:=[66,111,111,108]) (by rw[Ov];exact hs);clear hs
   go_wp2
   go_roundw
   case rel=>exact k1.o _ rfl
   simp[intOf];omega
  have y3:=Nh (s:=Oo f.sort) (l:=[66,111,111,108]) (by rw[Ov];exact hs);clear hs
  go_wp2_with (refine Ke (y:=i) (base:=w.heap.size) (N:=M) rfl _ _ rfl rfl HO.o _ rfl rfl (by omega) HB.o.size ?_)
  intro v' W' b8 n1;obtain⟨pn,cn,rfl⟩:=V6 b8;have HR:Hid (Up w W'):=HB.o.trans ((Oy _ _).mono HB.o.size |>.trans n1);have o5:=Hd b8;clear b8 n1 c0 c1 c2 c3 t0 t1 t2
  go_wp2
  go_roundw
  case rel=>exact⟨i+1,M++[i],b7,by go_num,by simp;omega,fun x hx=>(Yc.1 hx).elim (e5.o x) (fun h=>by rw[J5.1 h];exact b7),by rw[Jq];exact o5.o,HR.o⟩
  simp[intOf];omega
 have z1:decide ((i:Int)<(F.length:Int))=false:=Jd (by omega);have z2:decide (i<F.length)=false:=Jd b7;have HD:Hid (G3 g B w wr):=DrX.up HB.o;obtain⟨c0,c1,c2,c3⟩:=G.o.cells
 by_cases m7:M.length=0
 ·have HR:Hid (Ew g N B mb wr w vs (.slice pf F.length cf) S F T.length (k+50000) (m+6) (.returned (.int .i64 (-1))) wr):=⟨-1,k,vt,T,rfl,⟨by omega,by omega,leR,by omega⟩,(G.o.more (by omega)).now,HD.o⟩;rw[m7];clear c0 c1 c2 c3
  go_wp2
  go_ret
  exact HR.o
 have y1:((M.length:Int)==0)=false:=by rw[Jc];omega
 obtain⟨bq,rfl⟩:∃b,pm=some ⟨b,0,none⟩:=by
  obtain⟨p,c,e,-,-,h⟩:=Kp HO.o;simp only[Value.slice.injEq,true_and]at e;obtain⟨rfl,rfl⟩:=e
  rcases h with h|⟨b,rfl,-⟩
  ·exact absurd h m7
  exact⟨b,rfl⟩
 obtain⟨bf,rfl⟩:∃b,pf=some ⟨b,0,none⟩:=by
  rcases l6.o with h|⟨b,h,-⟩
  ·omega
  exact⟨b,h⟩
 have b1:Hid (∀W:World,(∀q,q<wr.heap.size->q≠g->W.heap[q]? = wr.heap[q]?)->(∀j,j<M.length->W.cell? ⟨bq,j,none⟩=some (.int .i64 ((labA M j:Nat):Int)))/\∀j (h:j<X.length),W.cell? ⟨bf,j*3,none⟩=some (.string (Oo X[j].1.name))/\W.cell? ⟨bf,j*3+1,none⟩=some X[j].2/\W.cell? ⟨bf,j*3+2,none⟩=some (.string (Oo X[j].1.sort))):=fun W hW=>by
  have h1:W.ownsRow w.heap.size 3 1 (.slice (some ⟨bq,0,none⟩) M.length cm) M.length (labV M):=own_other' HO.o fun q hq=>hW q (HO.o.lt q hq).2 (by have:=Oe HO.o q hq;have:=e0.o;omega);have h2:=own_other' (W':=W) c8.o fun q hq=>hW q (c8.o.lt q hq).2 (by have:=Oe c8.o q hq;have:=G.o.gB;omega);exact⟨fun j hj=>(Nz h1 hj).1,fun j hj=>Xq h2 hj⟩
 have n9:Hid (Q.Ux g N wr.drew k):=G.o.cur.bl (Ji _ _).drew;have s5:M.length<=100:=by have:=HF.o;omega
 have h8:F.length<=100:=HF.o
 go_wp2_with fail
 refine Ph 19 rfl (S:=fun W=>W.cell? ⟨mb,0,none⟩=some (.pointer (some ⟨g,0,none⟩))/\W.cell? ⟨mb,2,none⟩=some (.slice (some ⟨bf,0,none⟩) F.length cf)/\(∀j,j<M.length->W.cell? ⟨bq,j,none⟩=some (.int .i64 ((labA M j:Nat):Int)))/\∀j (h:j<X.length),W.cell? ⟨bf,j*3,none⟩=some (.string (Oo X[j].1.name))/\W.cell? ⟨bf,j*3+1,none⟩=some X[j].2/\W.cell? ⟨bf,j*3+2,none⟩=some (.string (Oo X[j].1.sort))) (by kernel_rfl) (⟨c0,c2,b1.o wr (fun _ _ _=>rfl)⟩) (fun hHeld=>?_)
 iterate 12 (refine tkf 18 71 (v:=?_) rfl rfl (by kernel_rfl) (fun _ _ _ h=>h) (.inl ⟨by rfl,?_⟩) (by assumption) ?_;rotate_left;(intro w b2;(try dsimp only at b2);go_simp;(try with_reducible rfl));try simp only[Act.put,Ja,Je,Jf])
 refine wpAnyH_ready (rs:=[12,17]) (by kernel_rfl) (by simp) ?_;refine AllReadyH.cons rfl (fun K hK=>?_) (AllReadyH.cons rfl (fun K hK=>?_) AllReadyH.nil)
 focus
  go_simp
  go_at_call 19
  refine(Q.Oj g N k M.length _ n9.o (by omega) (by omega) (by omega)).mono ?_;rintro e w3 ⟨r,k6,rfl,hr,p8,d3,R⟩;have E:Hid (Q.Bar g wr w3):=⟨R.os,R.tape,R.output,R.size,R.block⟩;have a1:=Hd (G.o.up E.o d3);have q1:(r:Int)<(M.length:Int):=by omega
  have h9:labA M r<F.length:=by rw[O1 hr];exact e5.o _ (Jj hr)
  have n2:((labA M r:Nat):Int)<(F.length:Int):=by omega
  have Z:labA M r<X.length:=by rw[h0.o];exact h9
  clear d3 R
  go_wp2_with fail
  refine hK.out _ _ ⟨a1.o.cells.1,a1.o.cells.2.2.1,b1.o w3 (fun q hq hg=>E.o.block q hq hg)⟩ (fun hHeld12=>?_);clear hK K
  try simp only[Act.put,Ja,Je,Jf]
  obtain⟨pa,ca,ea,-,-,-⟩:=(c6.o _ (Jj Z) wr (DrX.up HB.o)).1
  iterate 4 (refine tkf 18 71 (v:=?_) rfl rfl (by kernel_rfl) (fun _ _ _ h=>h) (.inl ⟨by rfl,?_⟩) (by assumption) ?_;rotate_left;(intro w b2;have hq:=b2.2.2.1 r hr;obtain⟨p9,j0,q0⟩:=b2.2.2.2 (labA M r) Z;rw[ea]at j0;go_simp;(try with_reducible rfl));try simp only[Act.put,Ja,Je,Jf])
  have b5:Hid (Up w3 (w3.alloc (.cells #[.string ⟨#[]⟩,.slice none 0 0,.string ⟨#[]⟩] 75))):=Oy _ _;have b6:=Hd (a1.o.next b5.o);refine wpAnyH_ready (rs:=[17]) (by kernel_rfl) (by simp) ?_;refine AllReadyH.cons rfl (fun K hK=>?_) AllReadyH.nil
  go_simp
  refine hK.out _ _ (⟨b6.o.cells.1,b6.o.cells.2.2.1,b1.o _ (fun q hq hg=>(b5.o.block q (Jn hq E.o.size)).trans (E.o.block q hq hg))⟩) (fun hHeld17=>?_);clear hK K
  try simp only[Act.put,Ja,Je,Jf]
  refine wpAnyH_ready (rs:=[18]) (by kernel_rfl) (by simp) ?_;refine AllReadyH.cons rfl (fun K hK=>?_) AllReadyH.nil
  go_simp
  obtain⟨W8,J⟩:∃W,w3.alloc (.cells #[.string (Oo X[labA M r].1.name),.slice pa X[labA M r].1.args.length ca,.string (Oo X[labA M r].1.sort)] 75)=W:=⟨_,rfl⟩;have e7:Up w3 W8:=by rw[<-J];exact Oy _ _
  have d5:Tb W8 w3.heap.size 75 [.string (Oo X[labA M r].1.name),.slice pa X[labA M r].1.args.length ca,.string (Oo X[labA M r].1.sort)]:=by rw[<-J];exact Js
  have V:=a1.o.next e7;have b9:G3 g B w W8:=(HD.o.trans (.bar E.o)).trans (.up e7);have j5:w.heap.size<=w3.heap.size:=Jm HB.o.size E.o.size;rw[J];refine hK.out _ _ ⟨V.cells.1,V.cells.2.2.1,b1.o _ (fun q hq hg=>(e7.block q (Jn hq E.o.size)).trans (E.o.block q hq hg))⟩ (fun hHeld18=>?_);clear hK K J e7;refine wpAnyH_done (by kernel_rfl) ?_ _;have l1:=Hd V;have g0:Hid (G3 g B w W8):=b9;have a7:=Hd d5;have k8:Hid (∀W,N9 g B w W->O4 W (.slice pa X[labA M r].1.args.length ca) X[labA M r].1.args):=fun W hW=>by rw[<-ea];exact(c6.o _ (Jj Z) W hW).1
  have b0:=Hd (g4.o _ (g9.o (labA M r) Z));have g3:k6<=k+2:=by omega
  clear V b9 d5 ea;generalize X[labA M r].1=f at *
 rotate_left
 focus
  go_simp
  have b5:Hid (Up wr (wr.alloc (.cells #[.string ⟨#[]⟩,.slice none 0 0,.string ⟨#[]⟩] 75)).drew):=(Oy _ _).drew;have p0:Hid (Tb (wr.alloc (.cells #[.string ⟨#[]⟩,.slice none 0 0,.string ⟨#[]⟩] 75)).drew wr.heap.size 75 [.string ⟨#[]⟩,.slice none 0 0,.string ⟨#[]⟩]):=Js;generalize (wr.alloc (.cells #[.string ⟨#[]⟩,.slice none 0 0,.string ⟨#[]⟩] 75)).drew=W7 at *;have b6:=Hd (G.o.next b5.o);refine hK.out _ _ ⟨b6.o.cells.1,b6.o.cells.2.2.1,b1.o _ (fun q hq hg=>b5.o.block q hq)⟩ (fun hHeld17=>?_);clear hK K
  try simp only[Act.put,Ja,Je,Jf]
  refine wpAnyH_ready (rs:=[12]) (by kernel_rfl) (by simp) ?_;refine AllReadyH.cons rfl (fun K hK=>?_) AllReadyH.nil
  go_simp
  go_at_call 19
  refine(Q.Oj g N k M.length _ b6.o.cur (by omega) (by omega) (by omega)).mono ?_;rintro e w3 ⟨r,k6,rfl,hr,p8,d3,R⟩;have E:Hid (Q.Bar g wr w3):=(Q.Bar.of b5.o).trans R;have a1:=Hd (G.o.up E.o d3);have q1:(r:Int)<(M.length:Int):=by omega
  have h9:labA M r<F.length:=by rw[O1 hr];exact e5.o _ (Jj hr)
  have n2:((labA M r:Nat):Int)<(F.length:Int):=by omega
  have Z:labA M r<X.length:=by rw[h0.o];exact h9
  have g8:=Hd (N8 p0.o R (by have:=G.o.cur.1;have:=G.o.cur.2.1;omega));clear d3 R
  go_wp2_with fail
  refine hK.out _ _ ⟨a1.o.cells.1,a1.o.cells.2.2.1,b1.o w3 (fun q hq hg=>E.o.block q hq hg)⟩ (fun hHeld12=>?_);clear hK K
  try simp only[Act.put,Ja,Je,Jf]
  obtain⟨pa,ca,ea,-,-,-⟩:=(c6.o _ (Jj Z) wr (DrX.up HB.o)).1
  iterate 4 (refine tkf 17 70 (v:=?_) rfl rfl (by kernel_rfl) (fun _ _ _ h=>h) (.inl ⟨by rfl,?_⟩) (by assumption) ?_;rotate_left;(intro w b2;have hq:=b2.2.2.1 r hr;obtain⟨p9,j0,q0⟩:=b2.2.2.2 (labA M r) Z;rw[ea]at j0;go_simp;(try with_reducible rfl));try simp only[Act.put,Ja,Je,Jf])
  obtain⟨d0,d1,d2⟩:=g8.o.bx.c3;obtain⟨f0,f1,f2⟩:=g8.o.bx.f3;refine wpAnyH_ready (rs:=[18]) (by kernel_rfl) (by simp) ?_;refine AllReadyH.cons rfl (fun K hK=>?_) AllReadyH.nil
  go_simp
  obtain⟨W8,J⟩:∃W,((w3.setCell ⟨wr.heap.size,0,none⟩ (.string (Oo X[labA M r].1.name))).setCell ⟨wr.heap.size,1,none⟩ (.slice pa X[labA M r].1.args.length ca)).setCell ⟨wr.heap.size,2,none⟩ (.string (Oo X[labA M r].1.sort))=W:=⟨_,rfl⟩;have a8:w.heap.size<=wr.heap.size:=HB.o.size;have f5:wr.heap.size≠mb:=by have:=G.o.box.bx.lt;omega
  have e9:(Value.slice (some ⟨bf,0,none⟩) F.length cf).ownBlock≠some wr.heap.size:=fun e=>by have:=(c8.o.lt _ e).2;omega
  have f8:vt.ownBlock≠some wr.heap.size:=fun e=>by
   obtain⟨Y,y1,y2,y3⟩:=G.o.t;have:=(y2.lt _ e).2;omega
  have d5:Tb W8 wr.heap.size 75 [.string (Oo X[labA M r].1.name),.slice pa X[labA M r].1.args.length ca,.string (Oo X[labA M r].1.sort)]:=by rw[<-J];exact((g8.o.set 0 _).set 1 _).set 2 _
  have V:LBk g N B mb w W8 vs (.slice (some ⟨bf,0,none⟩) F.length cf) vt S F T k6 m:=by rw[<-J];exact((a1.o.setN a8 f5 e9 f8).setN a8 f5 e9 f8).setN a8 f5 e9 f8
  have b9:G3 g B w W8:=by rw[<-J];exact(((HD.o.trans (.bar E.o)).far a8).far a8).far a8
  have j5:w.heap.size<=wr.heap.size:=a8;have g2:∀q,q<wr.heap.size->W8.heap[q]? = w3.heap[q]? := fun q hq=>by
   rw[<-J];exact(Jh _ _ _ _ (by show q≠wr.heap.size;omega)).trans ((Jh _ _ _ _ (by show q≠wr.heap.size;omega)).trans (Jh _ _ _ _ (by show q≠wr.heap.size;omega)))
  rw[J];refine hK.out _ _ ⟨V.cells.1,V.cells.2.2.1,b1.o _ (fun q hq hg=>(g2 q hq).trans (E.o.block q hq hg))⟩ (fun hHeld18=>?_);clear hK K J g2 a8 f5 e9 f8 d0 d1 d2 f0 f1 f2;refine wpAnyH_done (by kernel_rfl) ?_ _;have l1:=Hd V;have g0:Hid (G3 g B w W8):=b9;have a7:=Hd d5;have k8:Hid (∀W,N9 g B w W->O4 W (.slice pa X[labA M r].1.args.length ca) X[labA M r].1.args):=fun W hW=>by rw[<-ea];exact(c6.o _ (Jj Z) W hW).1
  have b0:=Hd (g4.o _ (g9.o (labA M r) Z));have g3:k6<=k+2:=by omega
  clear V b9 d5 ea;generalize X[labA M r].1=f at *;generalize wr.heap.size=q7 at j5 a7 ⊢
 rotate_left
 focus
  generalize w3.heap.size=q7 at j5 a7 ⊢
 all_goals
  obtain⟨d0,d1,d2⟩:=a7.o.bx.c3;have s7:f.args.length<=5:=b0.o.an
  go_wp2_with fail
  clear d0 d1 d2
  go_loopw [8,10,73] (fun v _ iv wz=>∃(j k5:Nat) (vt5:Value) (T5:List Tm) (L:List Int),j<=f.args.length/\iv=.int .i64 (j:Nat)/\L.length=j/\(∀x∈L,-10<=x/\x<=2000000)/\T.length<=T5.length/\k5<=k+2+8000*j/\wz.ownsRow w.heap.size 3 1 v L.length (Uq L)/\LBk g N B mb w wz vs (.slice (some ⟨bf,0,none⟩) F.length cf) vt5 S F T5 k5 (m+j)/\G3 g B w wz/\Tb wz q7 75 [.string (Oo f.name),.slice pa f.args.length ca,.string (Oo f.sort)]) (fun _ _ iv _=>f.args.length - (intOf iv).toNat)
  case atStart=>exact⟨0,k6,vt,T,[],Jp _,rfl,rfl,fun x hx=>absurd hx Yi,leR,g3,K5 _ _ _ _,l1.o,g0.o,a7.o⟩
  rename World=>wz
  obtain⟨j,k5,vt5,T5,L,hj,rfl,hL,m6,m9,s8,ho,hl,hd,hx⟩:=hrel;obtain⟨pn,cn,rfl⟩:=V6 ho;have e4:=Hd hl;have g5:=Hd hd;have l9:=Hd hx;have g6:=Hd ho;have l3:=Hd m6;clear ho hl hd hx m6
  by_cases O:j<f.args.length
  ·have z3:decide ((j:Int)<(f.args.length:Int))=true:=Jb (by omega);have z4:decide (j<f.args.length)=true:=Jb O;have i3:(j:Int)<(f.args.length:Int):=by omega
   obtain⟨ba,rfl,p7⟩:∃b,pa=some ⟨b,0,none⟩/\wz.cell? ⟨b,j,none⟩=some (.string (Oo f.args[j])):=by
    obtain⟨p',c',e,-,-,h3⟩:=k8.o wz e4.o.d;simp only[Value.slice.injEq,true_and]at e;obtain⟨rfl,rfl⟩:=e
    rcases h3 with h3|⟨b,e,-,h4⟩
    ·rw[h3]at O;exact absurd O (Jz _)
    exact⟨b,e,h4 j O⟩
   have l7:=Hd (Dq f.args[j] e4.o (b0.o.ar _ (Jj O)) (by omega) (by omega));generalize f.args[j]=sa at *
   go_wp2_with fail
   refine l7.o.mono ?_;rintro e w4 ⟨y,k7,q4,T7,rfl,⟨j1,j2,j3,j4⟩,i7,e8⟩;have o3:=Hd i7;have k9:Hid (G3 g B w w4):=g5.o.trans e8;have o8:=Hd (e8.bx l9.o (by have:=e0.o;omega) (by decide));have l5:=Hd (e8.own g6.o e0.o (by decide));have s6:T7.length<=60000:=Jm i7.db.lt (by omega);have o7:Hid (w.heap.size<=w4.heap.size):=k9.o.size;clear i7 e8 p7 l7
   go_wp2_with (refine La (y:=y) (base:=w.heap.size) (L:=L) rfl _ _ rfl rfl (by rw[<-hL];exact l5.o) _ rfl rfl (by omega) o7.o ?_)
   intro q r9 W' b8 d4;have b4:=l5.o.alloc (.cells #[.int .i64 y] 3);have e6:=Oy w4 (.cells #[.int .i64 y] 3);rw[<-hL]at d4;have o4:=Hd ((o3.o.next e6).grown b4 leR d4);have o1:Hid (G3 g B w W'):=(k9.o.trans (.up e6)).late d4 (fun b e=>Oe b4 b e);have o9:Hid (Tb W' q7 75 [.string (Oo f.name),.slice (some ⟨ba,0,none⟩) f.args.length ca,.string (Oo f.sort)]):=by
    have h1:=VI o8.o e6;exact(d4.block q7 h1.bx.lt (fun e=>by
     obtain⟨c,fz,h2⟩:=Ob b4 q7 e.symm;have:=U7 h2;rw[h1.ty]at this;exact absurd this (by decide))).trans h1
   have o6:=Hd b8;have l4:Hid (∀x∈L++[y],-10<=x/\x<=2000000):=fun x hx=>(Yc.1 hx).elim (l3.o x) (fun h=>by rw[J5.1 h];omega);clear b4 e6 d4 b8
   go_wp2
   go_roundw
   case rel=>exact⟨j+1,k7,q4,T7,L++[y],O,by go_num,by simp[hL],l4.o,by omega,by omega,by rw[Jq,hL];exact o6.o,o4.o,o1.o,o9.o⟩
   simp[intOf];omega
  have z3:decide ((j:Int)<(f.args.length:Int))=false:=Jd (by omega);have z4:decide (j<f.args.length)=false:=Jd O;have l0:Hid (∀W,N9 g B wz W->Q4 W (.slice pn L.length cn) L):=fun W hW=>⟨ints_at (hW.own g6.o e0.o (by decide)),Ay g6.o⟩;have l2:=Hd (Mq _ L wz (l0.o wz (DrX.refl _ _ _)).1 (by omega));have f9:Hid (Calls prog 46 #[.pointer (some ⟨mb,0,none⟩),.agg #[.int .i64 11,.string (Oo f.sort),.string (Oo f.name),.int .i64 0,.int .i64 0,.slice pn L.length cn]] wz (Ew g N B mb wz wz vs (.slice (some ⟨bf,0,none⟩) F.length cf) S F T5.length k5 (m+j+1))):=
   Dp ⟨11,f.sort,f.name,0,0,L⟩ (.slice pn L.length cn) e4.o.now l0.o ⟨by simp,by simp,by simp,b0.o.so,b0.o.nm,by simp only;omega,l3.o⟩ (by omega)
  obtain⟨d0,d1,d2⟩:=l9.o.bx.c3;rw[hL]at l2 f9
  go_wp2_with fail
  refine l2.o.mono ?_;rintro e w4 ⟨⟨b,rfl⟩,rfl⟩
  cases b with
  | true=>
    have HR:Hid (Ew g N B mb w4 w vs (.slice (some ⟨bf,0,none⟩) F.length cf) S F T.length (k+50000) (m+6) (.returned (.int .i64 (-1))) w4):=⟨-1,k5,vt5,T5,rfl,⟨by omega,by omega,m9,by omega⟩,(e4.o.more (by omega)).now,g5.o⟩;clear d0 d1 d2
    go_wp2
    go_ret
    exact HR.o
  | false=>
    go_wp2_with fail
    refine f9.o.mono ?_;rintro e w5 h5;have h6:=(h5.from g5.o (n':=T.length) (K':=k+50000) (m':=m+6) m9 (by omega) (by omega)).now;obtain⟨y,k',q3,T',rfl,h7⟩:=h6;have HR:Hid (Ew g N B mb w5 w vs (.slice (some ⟨bf,0,none⟩) F.length cf) S F T.length (k+50000) (m+6) (.returned (.int .i64 y)) w5):=⟨y,k',q3,T',rfl,h7⟩;clear h5 h7 d0 d1 d2
    go_wp2
    go_ret
    exact HR.o
theorem DW(g N k:Nat)(w:World)(h:Q.Ux g N w k)(hk:k<=1000000000):Calls prog 53 #[.pointer (some ⟨g,0,none⟩)] w fun e w'=>∃(b:Bool) (k':Nat),e=.returned (.bool b)/\k'<=k+2/\Q.Ux g N w' k'/\Q.Bar g w w':=by
 go_in
 go_wp2_with fail
 refine(Q.Oj g N k 2 _ h (by omega) (by decide) (by decide)).mono ?_;rintro e w1 ⟨r,K,rfl,O,E,q,j⟩;have J:=Hd q;have G:=Hd j;clear q j h
 go_wp2
 go_ret
 exact⟨_,K,rfl,E,J.o,G.o⟩
def LK(g N B mb:Nat)(w:World)(vs vf:Value)(S:List (List UInt8))(F:List Fn)(n K m:Nat)(w':World):Prop:=∃(k':Nat) (vt':Value) (T':List Tm),n<=T'.length/\k'<=K/\LBk g N B mb w' w' vs vf vt' S F T' k' m/\G3 g B w w'
theorem Bp(n:Nat)(h:LBk g N B mb w w vs vf vt S F T k m)(hT:0<T.length)(hm:m<=1000)(hk:k<=1000000)(hn:n<=40) :
 Calls prog 21 #[.pointer (some ⟨mb,0,none⟩),.int .i64 (n:Nat)] w fun e w'=>e=.returned (.tuple #[])/\LK g N B mb w vs vf S F T.length (k+100000*n) (m+12*n) w':=by
 have HL:=Hd h;have e1:Hid (g<w.heap.size):=Jn h.cur.1 h.cur.2.1;clear h
 go_in
 go_wp2
 go_loopw [4,5,6,7,8] (fun iv _ _ _ _ wr=>∃(i:Nat),i<=n/\iv=.int .i64 (i:Nat)/\LK g N B mb w vs vf S F T.length (k+100000*i) (m+12*i) wr) (fun iv _ _ _ _ _=>n - (intOf iv).toNat)
 case atStart=>exact⟨0,Jp _,rfl,k,vt,T,leR,by omega,HL.o,DrX.refl _ _ _⟩
 rename World=>wr
 obtain⟨i,hi,rfl,hE⟩:=hrel
 by_cases a7:i<n
 ·have z1:decide ((i:Int)<(n:Int))=true:=Jb (by omega);have z2:decide (i<n)=true:=Jb a7;obtain⟨k5,r7,T5,p8,q0,hl,hd⟩:=hE;have g5:=Hd hl;have l2:=Hd hd;have p3:Hid (g<wr.heap.size):=Jn hl.cur.1 hl.cur.2.1;obtain⟨c0,c1,c2,c3⟩:=hl.cells;clear hl hd
  go_wp2_with fail
  refine(Q.Oj g N k5 3 _ g5.o.cur (by omega) (by decide) (by decide)).mono ?_;rintro e w6 ⟨r6,k6,rfl,q5,q1,j2,e2⟩;have g6:=Hd (g5.o.up e2 j2).now;have f5:Hid (G3 g B w w6):=l2.o.trans (.bar e2);clear j2 e2 c0 c1 c2 c3
  by_cases h6:r6=0
  case' pos=>
   have y1:((r6:Int)==0)=true:=by rw[J2];omega
   have e8:=Hd (IS g6.o (by omega) (by omega))
   go_wp2_with fail
   refine e8.o.mono ?_;rintro e w7 ⟨j,k7,r8,T7,rfl,⟨-,-,l9,m5⟩,j8,j3⟩;have g7:=Hd j8;have f8:Hid (G3 g B w w7):=f5.o.trans j3;have j7:k7<=k5+50002:=by omega
   clear j8 j3 e8 m5
   go_wp2_with fail
  case' neg=>
   have y1:((r6:Int)==0)=false:=by rw[Jc];omega
   have g7:=Hd (g6.o.more (Vs _ 6));have f8:=f5;have j7:k6<=k5+50002:=by omega
   have l9:T5.length<=T5.length:=leR
   go_wp2_with fail
  all_goals
   refine(CN g7.o (by omega) (by omega) (by omega)).mono ?_;rintro e w8 ⟨so,k8,rfl,e5,q2,e3,j1⟩;have p5:=Hd e3.now;have f9:Hid (G3 g B w w8):=f8.o.trans (.bar j1);have h2:=Hd e5;have h3:=Hd (LO so e3.now e5 (by omega) (by omega));clear e3 j1 e5
   go_wp2_with fail
   refine h3.o.mono ?_;rintro e w9 ⟨q,a,b,k9,m9,T9,rfl,⟨ha,hb,p9,q3⟩,e4,j4,q4,e6⟩;have g8:=Hd e4.now;have g0:Hid (G3 g B w w9):=f9.o.trans j4;have l3:=Hd e6;have a8:q≠g:=by have:=f9.o.size;have:=e1.o;omega
   have g1:=Hd (F3 (B:=B) e6 a8);have g9:=Hd (Mq _ [a,b] w9 (g1.o w9 (DrX.refl _ _ _)).1 (by simp));have o1:T9.length<=60000:=Jm e4.db.lt (by omega);clear e4 j4 e6 h3
   go_wp2_with fail
   refine g9.o.mono ?_;rintro e w10 ⟨⟨bb,rfl⟩,rfl⟩
   cases bb with
   | true=>
     have E:Hid (LK g N B mb w vs vf S F T.length (k+100000*(i+1)) (m+12*(i+1)) w10):=⟨k9,m9,T9,by omega,by omega,g8.o.more (by omega),g0.o⟩
     go_wp2
     go_roundw
     case rel=>exact⟨i+1,a7,by go_num,E.o⟩
     simp[intOf];omega
   | false=>
     have b4:Hid (Calls prog 52 #[.pointer (some ⟨mb,0,none⟩),.int .i64 9,.string ⟨#[66,111,111,108]⟩,.slice (some ⟨q,0,none⟩) 2 2] w10 (Ew g N B mb w10 w10 vs vf S F T9.length k9 (m+12*i+6+2+1))):=UR 9 Ok [a,b] _ g8.o g1.o (Ih (by decide) [a,b] (by simp) (fun x hx=>by simp at hx;omega)) (by omega)
     go_wp2_with fail
     refine b4.o.mono ?_;rintro e e7 ⟨q8,j9,e0,i7,rfl,⟨-,-,n7,o2⟩,b9,b6⟩;have b3:=Hd b9.now;have c8:Hid (G3 g B w e7):=g0.o.trans b6;have h7:=Hd (b6.bx l3.o a8 (by decide));obtain⟨c0,c1,c2,c3⟩:=b9.cells;have y4:=Nh (s:=Oo so) (l:=[82,101,97,108]) (by rw[Ov];exact h2.o.2);clear b9 b6 b4 g9
     by_cases hs:so=Uu
     ·have y3:=H6 (s:=Oo so) (l:=[73,110,116]) (by rw[Ov];exact hs);clear hs
      go_wp2_with fail
      refine(DW g N j9 e7 b3.o.cur (by omega)).mono ?_;rintro e l0 ⟨b2,k0,rfl,o3,d4,O⟩;have G:=Hd (b3.o.up O d4).now;have d0:Hid (G3 g B w l0):=c8.o.trans (.bar O);have h8:=Hd (N8 h7.o O a8);clear d4 O c0 c1 c2 c3;obtain⟨c0,c1,c2,c3⟩:=G.o.cells
      cases b2 with
      | false=>
        have E:Hid (LK g N B mb w vs vf S F T.length (k+100000*(i+1)) (m+12*(i+1)) l0):=⟨k0,e0,i7,by omega,by omega,G.o.more (by omega),d0.o⟩;clear c0 c1 c2 c3
        go_wp2
        go_roundw
        case rel=>exact⟨i+1,a7,by go_num,E.o⟩
        simp[intOf];omega
      | true=>
        go_wp2_with fail
        refine(Q.Oj g N k0 4 _ G.o.cur (by omega) (by decide) (by decide)).mono ?_;rintro e n0 ⟨r13,r4,rfl,o8,o4,d5,R⟩;have g2:=Hd (G.o.up R d5).now;have e9:Hid (G3 g B w n0):=d0.o.trans (.bar R);have h9:=Hd (N8 h8.o R a8);have h1:=Hd (Dq so g2.o h2.o (by omega) (by omega));clear d5 R c0 c1 c2 c3
        go_wp2_with fail
        refine h1.o.mono ?_;rintro e b0 ⟨z,m6,p0,i8,rfl,⟨q6,q7,n8,o5⟩,Y,b7⟩;have n5:=Hd Y.now;have d1:Hid (G3 g B w b0):=e9.o.trans b7;have d3:=Hd (b7.bx h9.o a8 (by decide));have l7:i8.length<=60000:=Jm Y.db.lt (by omega);obtain⟨x0,x1⟩:=d3.o.bx.c2;obtain⟨Z,J⟩:∃W,b0.alloc (.cells #[.int .i64 a,.int .i64 z] 3)=W:=⟨_,rfl⟩;have V:Up b0 Z:=by rw[<-J];exact Oy _ _
        have d8:Tb Z b0.heap.size 3 [.int .i64 a,.int .i64 z]:=by rw[<-J];exact Js
        have g3:=Hd (Y.now.next V).now;have f0:Hid (G3 g B w Z):=d1.o.trans (.up V);have i1:=Hd (VI d3.o V);have j5:b0.heap.size≠g:=by have:=d1.o.size;have:=e1.o;omega
        have b4:Hid (Calls prog 52 #[.pointer (some ⟨mb,0,none⟩),.int .i64 (17+(r13:Nat)),.string ⟨#[66,111,111,108]⟩,.slice (some ⟨b0.heap.size,0,none⟩) 2 2] Z (Ew g N B mb Z Z vs vf S F i8.length m6 (m+12*i+6+2+1+1+1))):=UR (17+(r13:Nat)) Ok [a,z] _ g3.o (F3 d8 j5) (Ih (by omega) [a,z] (by simp) (fun x hx=>by simp at hx;omega)) (by omega);have h4:=Hd J;clear Y b7 V d8 J h1
        go_wp2_with (rw[h4.o])
        refine b4.o.mono ?_;rintro e b1 ⟨q9,m7,p1,j0,rfl,⟨-,-,n9,o6⟩,c6,b8⟩;have d2:Hid (G3 g B w b1):=f0.o.trans b8;have i6:=Hd (b8.bx i1.o a8 (by decide));have l8:j0.length<=60000:=Jm c6.db.lt (by omega);clear x0 x1;obtain⟨x0,x1⟩:=i6.o.bx.c2;obtain⟨a1,K⟩:∃W,b1.alloc (.cells #[.int .i64 b,.int .i64 z] 3)=W:=⟨_,rfl⟩;have b5:Up b1 a1:=by rw[<-K];exact Oy _ _
        have d9:Tb a1 b1.heap.size 3 [.int .i64 b,.int .i64 z]:=by rw[<-K];exact Js
        have g4:=Hd (c6.now.next b5).now;have f1:Hid (G3 g B w a1):=d2.o.trans (.up b5);have j6:b1.heap.size≠g:=by have:=d2.o.size;have:=e1.o;omega
        have h0:Hid (Calls prog 52 #[.pointer (some ⟨mb,0,none⟩),.int .i64 (17+(r13:Nat)),.string ⟨#[66,111,111,108]⟩,.slice (some ⟨b1.heap.size,0,none⟩) 2 2] a1 (Ew g N B mb a1 a1 vs vf S F j0.length m7 (m+12*i+6+2+1+1+1+1))):=UR (17+(r13:Nat)) Ok [b,z] _ g4.o (F3 d9 j6) (Ih (by omega) [b,z] (by simp) (fun x hx=>by simp at hx;omega)) (by omega);have h5:=Hd K;clear c6 b8 b5 d9 K b4
        go_wp2_with (rw[h5.o])
        refine h0.o.mono ?_;rintro e n1 ⟨r3,m8,k1,l4,rfl,⟨-,-,o0,o7⟩,d7,d6⟩;have E:Hid (LK g N B mb w vs vf S F T.length (k+100000*(i+1)) (m+12*(i+1)) n1):=⟨m8,k1,l4,by omega,by omega,d7.now.more (by omega),f1.o.trans d6⟩;clear d7 d6 h0 x0 x1
        go_wp2
        go_roundw
        case rel=>exact⟨i+1,a7,by go_num,E.o⟩
        simp[intOf];omega
     have y3:=Nh (s:=Oo so) (l:=[73,110,116]) (by rw[Ov];exact hs);have E:Hid (LK g N B mb w vs vf S F T.length (k+100000*(i+1)) (m+12*(i+1)) e7):=⟨j9,e0,i7,by omega,by omega,b3.o.more (by omega),c8.o⟩;clear hs c0 c1 c2 c3
     go_wp2
     go_roundw
     case rel=>exact⟨i+1,a7,by go_num,E.o⟩
     simp[intOf];omega
 have z1:decide ((i:Int)<(n:Int))=false:=Jd (by omega);have z2:decide (i<n)=false:=Jd a7;have m0:i=n:=by omega
 subst m0;have HE:=Hd hE;clear hE
 go_wp2_with fail
 go_end0
 exact⟨rfl,HE.o⟩
theorem LBk.putF{w1:World}(h:LBk g N B mb w0 w vs vf vt S F T k m){va:Value}{f:Fn}{gt ct:Nat}{X:List (Fn×Value)}(hX:X.map Prod.fst=F/\w.ownsRow B 75 3 vf F.length (X.flatMap funC)/\∀x∈X,∀W,N9 g B w0 W->Px W x.2 x.1.args)(hk:∀W,N9 g B w0 W->Px W va f.args)(ht:FnD f)(hF:F.length<100)(ho:w1.ownsRow B 75 3 (.slice (some ⟨gt,0,none⟩) (F.length+1) ct) (F.length+1) (X.flatMap funC++funC (f,va)))(hg:w.grownBy w1 vf.ownBlock) :
 LBk g N B mb w0 (w1.setCell ⟨mb,2,none⟩ (.slice (some ⟨gt,0,none⟩) (F.length+1) ct)) vs (.slice (some ⟨gt,0,none⟩) (F.length+1) ct) vt S (F++[f]) T k m/\N9 g B w (w1.setCell ⟨mb,2,none⟩ (.slice (some ⟨gt,0,none⟩) (F.length+1) ct)):=by
 obtain⟨V,G,Z⟩:=hX;have a7:=h.gB;have K:N9 g B w w1:=.grown hg G leR (by decide);have own:∀b,Ix w b≠some 75->vf.ownBlock≠some b:=fun b hb e=>by
  obtain⟨c,fz,J⟩:=Ob G b e;exact hb (U7 J)
 have R:w1.heap[mb]? = w.heap[mb]? := hg.block mb h.box.bx.lt (Ne.symm (own mb (by rw[h.box.ty];decide)));have j:Tb w1 mb 71 [.pointer (some ⟨g,0,none⟩),vs,vf,vt]:=R.trans h.box;have O:N9 g B w1 (w1.setCell ⟨mb,2,none⟩ (.slice (some ⟨gt,0,none⟩) (F.length+1) ct)):=.set h.lo.2.1 (by rw[j.ty];decide);have hd:=K.trans O;obtain⟨Y,f1,f2,f3⟩:=h.t;have E:Q.Ux g N w1 k:=by
  refine h.cur.bl ?_;have:=h.cur.2.1;exact⟨hg.os,hg.tape,hg.output,hg.size,fun q hq=>hg.block q (by omega) (fun e=>by have:=Oe G q e.symm;have:=h.lo.1;omega)⟩
 refine⟨⟨h.d.trans hd,E.bl ⟨rfl,rfl,rfl,by simp[World.setCell],fun q hq=>Jh _ _ _ _ (by have:=h.lo;show q≠mb;omega)⟩,j.set 2 _,h.lo,h.s,⟨X++[(f,va)],by rw[Yk,V];rfl,?_,fun x hx W hW=>?_⟩,⟨Y,f1,?_,f3⟩,⟨h.db.ls,h.db.s,by simp;omega,fun u hu=>?_,h.db.lt,h.db.t⟩⟩,hd⟩
 ·rw[Jq,Ze,Yx];have:=Uf (i:=2) (u:=.slice (some ⟨gt,0,none⟩) (F.length+1) ct) ho (by rw[j.ty];decide:Ix w1 mb≠some 75)
  simpa using this
 ·rcases Yc.1 hx with hx|hx
  ·exact Z x hx W hW
  rw[J5.1 hx];exact hk W hW
 ·exact Uf (own_other' f2 fun q hq=>hg.block q (f2.lt q hq).2 (fun e=>by
   obtain⟨c,fz,J⟩:=Ob f2 q hq;exact own q (by rw[U7 J];decide) e.symm)) (by rw[j.ty];decide)
 rcases Yc.1 hu with hu|hu
 ·exact h.db.f u hu
 rw[J5.1 hu];exact ht
theorem K8(f:Fn)(va:Value)(h:LBk g N B mb w0 w vs vf vt S F T k m)(hk:∀W,N9 g B w0 W->Px W va f.args)(ht:FnD f)(hF:F.length<100) :
 Calls prog 44 #[.pointer (some ⟨mb,0,none⟩),.string (Oo f.name),va,.string (Oo f.sort)] w fun e w'=>e=.returned (.tuple #[])/\∃vf',LBk g N B mb w0 w' vs vf' vt S (F++[f]) T k m/\N9 g B w w':=by
 obtain⟨V,O,rfl,-,-,-⟩:=(hk w h.d).1;obtain⟨c0,c1,c2,c3⟩:=h.cells;obtain⟨X,q⟩:=h.f;obtain⟨pf,cf,rfl,-,-,-⟩:=Kp q.2.1;have E:Up w (w.alloc (.cells (funC (f,.slice V f.args.length O)).toArray 75)):=Oy _ _;have h1:=h.next E;have R:X.map Prod.fst=F/\(w.alloc (.cells (funC (f,.slice V f.args.length O)).toArray 75)).ownsRow B 75 3 (.slice pf F.length cf) F.length (X.flatMap funC)/\∀x∈X,∀W,N9 g B w0 W->Px W x.2 x.1.args:=⟨q.1,q.2.1.alloc _,q.2.2⟩;have j:=Hd h1;have a7:=Hd R;have HX:=Hd q;have HK:=Hd hk;have HT:=Hd ht;have Z:Hid (B<=w.heap.size):=Jm h.lo.2.2 h.d.size;have b6:Hid (mb<w.heap.size):=h.box.bx.lt;have K:Hid ((Value.slice pf F.length cf).ownBlock≠some mb):=fun e=>by
  obtain⟨c,fz,h2⟩:=Ob q.2.1 mb e;have:=U7 h2;rw[h.box.ty]at this;exact absurd this (by decide)
 have a1:Hid (N9 g B w (w.alloc (.cells (funC (f,.slice V f.args.length O)).toArray 75))):=DrX.up E;clear h hk ht q E h1 R
 go_in
 go_wp2_with (at_builtin;refine wpList_appF (x:=(f,.slice V f.args.length O)) (n:=F.length) (base:=B) (xs:=X.flatMap funC) rfl _ _ rfl rfl HX.o.2.1 rfl _ rfl rfl (by omega) Z.o ?_)
 intro gt cn W' ho Y a8;have G:mb<(w.alloc (.cells (funC (f,.slice V f.args.length O)).toArray 75)).heap.size:=j.o.box.bx.lt;have d3:=(Y.cell_far ⟨mb,2,none⟩ G (Ne.symm K.o)).trans j.o.cells.2.2.1;have d4:=(Y.frozen_far ⟨mb,2,none⟩ G (Ne.symm K.o)).trans (j.o.box.bx.fz 2);have J:=j.o.putF a7.o HK.o HT.o hF ho Y;have HR:Hid (∃vf',LBk g N B mb w0 (W'.setCell ⟨mb,2,none⟩ (.slice (some ⟨gt,0,none⟩) (F.length+1) cn)) vs vf' vt S (F++[f]) T k m/\N9 g B w (W'.setCell ⟨mb,2,none⟩ (.slice (some ⟨gt,0,none⟩) (F.length+1) cn))):=⟨_,J.1,a1.o.trans J.2⟩;clear ho Y a8 J G
 go_wp2_with fail
 go_end0
 exact⟨rfl,HR.o⟩
theorem NZ(x:Int)(w:World)(h1:0<=x)(h2:x<1000):Calls prog 45 #[.int .i64 x] w fun e w'=>∃so:List UInt8,e=.returned (.string (Oo so))/\(so.length<=20000/\so≠Nk)/\Up w w':=by
 go_in
 go_wp2_with fail
 refine(Q.Xc x w (by omega) (by omega)).mono ?_;rintro e w1 ⟨z,rfl,⟨E,t,K,_,R⟩,j⟩;have O:=Hd K;have h:=Hd j;clear K j
 go_wp2_with fail
 refine(Q.Is w.heap.size z E t w1 O.o h.o.size (by omega)).mono ?_;rintro e V ⟨rfl,hb2⟩;have q:=h.up hb2;have J:=Q.Bd (Q.Um E t) t (by omega);obtain⟨U,G⟩:∃T,Q.Nc (Q.Um E t) t=T:=⟨_,rfl⟩;rw[G]at J ⊢;clear hb2 G
 go_wp2
 go_ret
 refine⟨[40,95,32,66,105,116,86,101,99,32]++U.data.toList++[41],?_,⟨?_,fun e=>by have:=congrArg List.head? e;simp[Nk]at this⟩,q.o⟩
 ·congr 2
 have:U.data.toList.length<=6000:=by rw[Array.length_toList];exact J
 simp only[Jq,Yo,Zp];omega
def R0:List Value:=O5 (⟨1,Ok,[],0,0,[]⟩,.slice none 0 0)++O5 (⟨2,Ok,[],0,0,[]⟩,.slice none 0 0)
theorem ZZ(w:World):Calls prog 43 #[] w fun e w'=>∃q,e=.returned (.agg #[.slice none 0 0,.slice none 0 0,.slice (some ⟨q,0,none⟩) 2 2])/\w.heap.size<=q/\Tb w' q 38 R0/\Up w w':=by
 go_in
 go_wp2_with fail
 obtain⟨J,h⟩:∃W,w.alloc (.cells #[.slice none 0 0,.slice none 0 0,.slice (some ⟨w.heap.size+1,0,none⟩) 2 2] 27)=W:=⟨_,rfl⟩;have V:J.heap.size=w.heap.size+1:=by rw[<-h];simp
 have E:Up w J:=by rw[<-h];exact Oy _ _
 have G:Bx J w.heap.size [.slice none 0 0,.slice none 0 0,.slice (some ⟨w.heap.size+1,0,none⟩) 2 2]:=by rw[<-h];exact Oq _ _ _
 rw[h];obtain⟨O,j⟩:∃W,J.alloc (.cells R0.toArray 38)=W:=⟨_,rfl⟩;have hb2:Up J O:=by rw[<-j];exact Oy _ _
 have K:Tb O (w.heap.size+1) 38 R0:=by rw[<-j,<-V];exact Js
 obtain⟨Y,Z,e2⟩:=(G.bl G.lt hb2).c3;have R:Hid (Tb O (w.heap.size+1) 38 R0/\Up w O):=⟨K,E.trans (hb2.mono E.size)⟩
 show bodyPost _ _ _ _ _ (J.alloc (.cells R0.toArray 38))
 rw[j];clear E hb2 G K h j V;refine Jl (v:=.agg #[.slice none 0 0,.slice none 0 0,.slice (some ⟨w.heap.size+1,0,none⟩) 2 2]) ?_ rfl ⟨_,rfl,Y8 _,R.o.1,R.o.2⟩;simp[results,results43,go_sem,Y,Z,e2]
end Go.Proofs.YtfkagjelljnpdaaGreatDoor
