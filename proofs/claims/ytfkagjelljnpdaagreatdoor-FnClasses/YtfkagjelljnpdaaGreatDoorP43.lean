import Derived.Test.YtfkagjelljnpdaaGreatDoorP41
import Derived.Test.YtfkagjelljnpdaaGreatDoorP42
set_option linter.all false
set_option maxRecDepth 100000
set_option maxHeartbeats 16000000
namespace Go.Proofs.YtfkagjelljnpdaaGreatDoor
open ChangeShapes WideShapes ChangeAt RowKit Proofs.Tryz
variable {i:Nat}
def VW(g N B tb K:Nat)(w wx:World):Prop:=∃(t:Tm) (va:Value) (k:Nat),LG t/\k<=K/\Tb wx tb 38 (O5 (t,va))/\wx.ownsRow B 3 1 va t.kids.length (Uq t.kids)/\Q.Ux g N wx k/\Q.Bar g w wx
theorem VW.st{g N B tb K k:Nat}{w W:World}{t t':Tm}{va va' u:Value}(hx:Tb W tb 38 (O5 (t,va)))(hb:Q.Bar g w W)(hc:Q.Ux g N W k)(hk:k<=K)(htb:w.heap.size<=tb)(hN:N<=tb)(ho:W.ownsRow B 3 1 va' t'.kids.length (Uq t'.kids))(hs:LG t')(e:(O5 (t,va)).set i u=O5 (t',va')):VW g N B tb K w (W.setCell ⟨tb,i,none⟩ u):=by
 have h:=hx.set i u;rw[e]at h;refine⟨t',va',k,hs,hk,h,Uf ho (by rw[hx.ty];decide),hc.bl ((Ji _ _).setCell (p:=⟨tb,i,none⟩) hN _),Xn (B:=tb) hb ((Ji _ _).sc) htb⟩
def BX(W:World)(bt i:Nat)(t:Tm)(va:Value):Prop:=W.cell? ⟨bt,i*6,none⟩=some (.int .i64 t.op)/\W.cell? ⟨bt,i*6+1,none⟩=some (.string (Oo t.sort))/\W.cell? ⟨bt,i*6+2,none⟩=some (.string (Oo t.text))/\W.cell? ⟨bt,i*6+3,none⟩=some (.int .i64 t.a)/\W.cell? ⟨bt,i*6+4,none⟩=some (.int .i64 t.b)/\W.cell? ⟨bt,i*6+5,none⟩=some va
theorem PZ{w:World}{base bt c n:Nat}{X:List (Tm×Value)}(h:w.ownsRow base 38 6 (.slice (some ⟨bt,0,none⟩) n c) n (X.flatMap O5))(hi:i<X.length):BX w bt i X[i].1 X[i].2:=by
 have j:∀d (u:Value),d<6->(O5 X[i])[d]? = some u->w.cell? ⟨bt,i*6+d,none⟩=some u:=fun d u hd hu=>Ey h (by rw[Ng (k:=6) (fun _=>rfl) X i d hi hd];exact hu);exact⟨j 0 _ (by decide) rfl,j 1 _ (by decide) rfl,j 2 _ (by decide) rfl,j 3 _ (by decide) rfl,j 4 _ (by decide) rfl,j 5 _ (by decide) rfl⟩
theorem SpI.term{g N B M mb k:Nat}{W:World}{us uf:Value}{S:List (List UInt8)}{F:List Fn}{T:List Tm}{p:Option Addr}{c:Nat}(h:SpI g N B M mb k W us uf (.slice p T.length c) S F T)(hi:i<T.length):∃(bt:Nat) (X:List (Tm×Value)) (q:Option Addr) (d:Nat) (hX:i<X.length),p=some ⟨bt,0,none⟩/\bt<W.heap.size/\(X.map Prod.fst=T/\W.ownsRow B 38 6 (.slice p T.length c) T.length (X.flatMap O5)/\∀x∈X,W.ownsRow B 3 1 x.2 x.1.kids.length (Uq x.1.kids))/\X[i]=(T[i],.slice q T[i].kids.length d)/\BX W bt i T[i] (.slice q T[i].kids.length d):=by
 obtain⟨X,j,K,O⟩:=h.a.t;have hX:i<X.length:=by have:=congrArg List.length j;simp at this;omega
 have G:X[i].1=T[i]:=by subst j;rw[Yh]
 obtain⟨bt,Y,Z,n,d,R,J,-⟩:=Fa h.a.bank.t hi;simp only[Value.slice.injEq]at R;obtain⟨rfl,-,rfl⟩:=R;obtain⟨q,d,E⟩:=V6 (O _ (Jj hX));rw[G]at E;have V:=PZ K hX;rw[G,E]at V;exact⟨bt,X,q,d,hX,rfl,J,⟨j,K,O⟩,Prod.ext G E,V⟩
theorem RX(g N k:Nat)(vs vf vt:Value)(S:List (List UInt8))(F:List Fn)(T:List Tm)(m:Nat)(w:World)(hC:Q.Ux g N w k)(hk:k<=100000000)(hA:BankAt w vs vf vt S F T)(db:DBk S F T m)(hm:m<=60000)(hT:0<T.length)(hvs:Ac vs S.length)
 (hfa:∀g c,vf=.slice (some ⟨g,0,none⟩) F.length c->∀i (h:i<F.length) va,w.cell? ⟨g,i*3+1,none⟩=some va->Ac va F[i].args.length)
 (hta:∀g c,vt=.slice (some ⟨g,0,none⟩) T.length c->∀i (h:i<T.length) va,w.cell? ⟨g,i*6+5,none⟩=some va->Ac va T[i].kids.length) :
 Calls prog 23 #[.pointer (some ⟨g,0,none⟩),.agg #[vs,vf,vt]] w fun e w'=>LR g N w e w' (k+40):=by
 obtain⟨W0,g9⟩:∃W,(w.alloc (.cells #[vs,vf,vt] 27)).alloc (.cells #[.slice none 0 0,.slice none 0 0,.slice none 0 0] 27)=W:=⟨_,rfl⟩;have e3:Up w W0:=by rw[<-g9];exact(Oy _ _).trans ((Oy _ _).mono (by simp))
 have z7:Bx W0 w.heap.size [vs,vf,vt]:=by rw[<-g9];exact(Oq _ _ _).alloc _
 have L3:=Hd hC.2.1;have g7:Hid (Bx W0 (w.heap.size+1) [.slice none 0 0,.slice none 0 0,.slice none 0 0]):=by
  rw[<-g9];have:=Oq (w.alloc (.cells #[vs,vf,vt] 27)) [.slice none 0 0,.slice none 0 0,.slice none 0 0] 27
  rwa [Ju]at this
 have L1:Hid (g<w.heap.size):=Jn hC.1 hC.2.1;have j1:=Hd (hC.bl (e3.mono hC.2.1));have m5:Hid (Q.Bar g w W0):=.of e3;have b3:=Hd db;have s9:Hid (T.length<=60000):=Jm db.lt hm;have o8:∀p,p.block<w.heap.size->W0.cell? p=w.cell? p:=fun p hp=>e3.cell hp;have q9:=Hd (YM (hA.bl e3) hvs (fun g' c e i hi va hva=>by
  obtain⟨bf,e2,-,⟨Z2,q1,-⟩,-⟩:=Ro (by rw[e]at hA;exact hA.f) hi;obtain rfl:g'=bf:=by simpa using e2
  refine hfa g' c e i hi va ?_;rw[<-hva];exact(e3.cell (J3 _ _ q1)).symm) (fun g' c e i hi va hva=>by
  obtain⟨bt,ct,p,n,d,e2,o0,-⟩:=Fa hA.t hi;rw[e]at e2;simp only[Value.slice.injEq,Option.some.injEq,Addr.mk.injEq]at e2;obtain⟨⟨rfl,-,-⟩,-,-⟩:=e2;refine hta g' c e i hi va ?_;rw[<-hva];exact(e3.cell (p:=⟨g',i*6+5,none⟩) o0).symm) (by have:=db.ls;omega) (by have:=db.lf;omega) (by have:=db.lt;omega) (fun f hf=>by have:=(db.f f hf).an;omega) (fun t ht=>by have:=(db.t t ht).kn;omega))
 obtain⟨ps,cs,rfl,-,-,-⟩:=hA.s;obtain⟨pf,cf,rfl,-,-,-⟩:=hA.f;obtain⟨pt,ct,rfl,-,-,-⟩:=hA.t;obtain⟨c0,c1,c2⟩:=z7.c3;have M6:=Hd g9;clear hC hA db hvs hfa hta g9 e3 z7 o8
 go_in
 go_upto_region 1 with fail
 rw[M6.o]
 go_wp2_with fail
 refine q9.o.mono ?_;rintro e w1 ⟨us,uf,ut,rfl,a8,l2,o5,b8,NN,U1,l8,x9⟩;obtain⟨W2,b7⟩:∃W,w1.alloc (.cells #[us,uf,ut] 27)=W:=⟨_,rfl⟩;obtain⟨p1,d1,rfl⟩:=V6 a8;obtain⟨p2,d2,rfl,-,-,-⟩:=l2.at;obtain⟨p3,d3,rfl,-,-,-⟩:=o5.at;have hb2:Up w1 W2:=by rw[<-b7];exact Oy _ _
 have z8:Tb W2 w1.heap.size 27 [.slice p1 S.length d1,.slice p2 F.length d2,.slice p3 T.length d3]:=by rw[<-b7];exact Js
 have g8:=Hd b7;have hww:w.heap.size<=w1.heap.size:=Jm m5.o.size b8.size;clear b7 c0 c1 c2 q9
 go_upto_region 2 with fail
 rw[g8.o]
 go_upto_region 4 with fail
 generalize k0:World.alloc (World.alloc W2 _) _=W4;have n7:Up W2 W4:=by rw[<-k0];exact(Oy _ _).trans ((Oy _ _).mono (by simp))
 have y7:Tb W4 W2.heap.size 9 (strsC spoN):=by
  rw[<-k0];exact((Oy _ _).block _ (by simp)).trans Js
 have y9:Tb W4 (W2.heap.size+1) 9 (strsC spoS):=by
  rw[<-k0];have h:=Js (xs:=(W2.alloc (.cells (strsC spoN).toArray 9)).heap) (x:=.cells (strsC spoS).toArray 9 (0,0));have e:(W2.alloc (.cells (strsC spoN).toArray 9)).heap.size=W2.heap.size+1:=by simp
  rw[e]at h;exact h
 have b2:Up w1 W4:=hb2.trans (n7.mono hb2.size);have s6:Hid (Bx W4 (w.heap.size+1) [.slice none 0 0,.slice none 0 0,.slice none 0 0]):=(g7.o.bl g7.o.lt b8).bl (Jn g7.o.lt b8.size) b2;have hI:SpI g N W0.heap.size NN w1.heap.size k W4 (.slice p1 S.length d1) (.slice p2 F.length d2) (.slice p3 T.length d3) S F T:=
  ⟨j1.o.bl ((b8.trans (b2.mono b8.size)).mono j1.o.2.1),⟨j1.o.2.1,b8.size,U1⟩,VI z8 n7,Km a8 b2,l8,x9.keep fun q cs fz hq _=>b2.block q (by rcases hq with hq|hq<;>exact(Jo.1 hq).1),o5.keep fun q cs fz hq _=>b2.block q (by rcases hq with hq|hq<;>exact(Jo.1 hq).1)⟩
 have HI:=Hd hI;have HN:=Hd y7;have HS:=Hd y9;have q6:Hid (Q.Bar g w W4):=(m5.o.trans (.of b8)).trans (.of b2);have j6:Hid (w.heap.size+1<W0.heap.size/\W0.heap.size<=w1.heap.size/\w1.heap.size<W4.heap.size/\w1.heap.size<=W2.heap.size):=⟨g7.o.lt,b8.size,hI.box.bx.lt,hb2.size⟩;clear hI y7 y9 b2 n7 hb2 z8 a8 l2 o5 x9 l8 b8 k0 j1 g7 m5;have M1:Hid (NN=NN/\W2.heap.size+1<W4.heap.size/\g<W0.heap.size):=⟨rfl,HS.o.bx.lt,by have:=HI.o.cur.1;have:=HI.o.lo.1;omega⟩
 go_wp2_with fail
 refine(Q.Oj g N k 11 _ HI.o.cur (by omega) (by decide) (by decide)).mono ?_;rintro e w5 ⟨r5,k5,rfl,l3,U2,u9,g1⟩;have m7:=Hd (HI.o.bar g1 u9);have p8:Hid (Q.Bar g w w5):=q6.o.trans g1;have h4:W2.heap.size≠g/\W2.heap.size+1≠g/\w.heap.size+1≠g:=by have:=j6.o;have:=M1.o;have:=L1.o;omega
 have d9:=Hd h4;have W3:=M9 (N8 HN.o g1 h4.1) (show r5<spoN.length from l3);have s7:=Hd (N8 HS.o g1 h4.2.1);have s3:=Hd (Nw s6.o g1 h4.2.2);have j5:=Hd (CG _ (Jj (show r5<spoN.length from l3)));generalize spoN[r5]'l3=nm at *;clear u9 g1 HI s6 HS HN q6 h4
 go_upto_region 5 with fail
 clear W3
 go_wp2_with fail
 refine(Q.Oj g N k5 11 _ m7.o.cur (by omega) (by decide) (by decide)).mono ?_;rintro e w6 ⟨r6,k6,rfl,l4,V1,v8,h1⟩;have m8:=Hd (m7.o.bar h1 v8);have p9:Hid (Q.Bar g w w6):=p8.o.trans h1;have W5:=M9 (N8 s7.o h1 d9.o.2.1) (show r6<spoS.length from l4);have s4:=Hd (Nw s3.o h1 d9.o.2.2);have n1:=Hd (CH _ (Jj (show r6<spoS.length from l4)));generalize spoS[r6]'l4=so at *;clear v8 h1 m7 s3 s7 p8
 go_upto_region 6 with fail
 clear W5
 go_wp2_with fail
 refine(Q.Oj g N k6 7 _ m8.o.cur (by omega) (by decide) (by decide)).mono ?_;rintro e w7 ⟨r7,k7,rfl,h9,V2,w2,k9⟩;have V:=Hd (m8.o.bar k9 w2);have b9:Hid (Q.Bar g w w7):=p9.o.trans k9;have c6:=Hd (Nw s4.o k9 d9.o.2.2);have hk7':k7<=k+6:=by omega
 clear w2 k9 m8 s4 p9 U2 V1 V2 l3 l4;have q5:Hid (W0.heap.size<=w7.heap.size):=by have:=V.o.box.bx.lt;have:=j6.o;unfold Hid;omega
 have r4:Hid (S.length<=1000000000/\F.length<=1000000000/\T.length<=1000000000):=by have:=b3.o.ls;have:=b3.o.lf;have:=s9.o;unfold Hid;omega
 obtain⟨c0,c1,c2⟩:=V.o.box.bx.c3
 by_cases q0:r7=0
 focus
  have y0:((r7:Int)==0)=true:=by rw[J2];omega
  clear h9 q0
  go_wp2_with (at_builtin;refine Nt (t:=Oo nm) (base:=W0.heap.size) (n:=S.length) (xs:=strsC S) rfl _ _ rfl rfl V.o.s _ rfl rfl r4.o.1 q5.o ?_)
  intro gs ds Ws a8 h7 _;have E:=V.o.putS (u:=nm) a8 h7;obtain⟨d0,n4,n5⟩:=E.1.bx.c3;have d4:=E.1.bx.fz 0;obtain⟨W8,O⟩:∃W,Ws.setCell ⟨w1.heap.size,0,none⟩ (.slice (some ⟨gs,0,none⟩) (S.length+1) ds)=W:=⟨_,rfl⟩;have HF:=Hd E.2;rw[O]at HF;have e7:=b9;have f9:=c6;have HZ:=Hd (BS b3.o hm j5.o.1);have g3:k7<=k+40:=by omega
  have b6:=Hd O;clear a8 h7 E O c0 c1 c2
  go_upto_region 34 with fail
  rw[b6.o];clear d0 n4 n5 d4
 rotate_left
 have y0:((r7:Int)==0)=false:=by rw[Jc];omega
 by_cases q1:r7=1
 focus
  have y1:((r7:Int)==1)=true:=by rw[J2];omega
  clear h9 q0 q1;obtain⟨X,hX⟩:=V.o.a.f;have HX:=Hd hX;clear hX
  go_wp2_with (at_builtin;refine wpList_appF (x:=(⟨nm,[],so⟩,.slice none 0 0)) (n:=F.length) (base:=W0.heap.size) (xs:=X.flatMap funC) rfl _ _ rfl rfl HX.o.2.1 rfl _ rfl rfl r4.o.2.1 q5.o ?_)
  intro gs ds Ws a8 h7 _;have E:=V.o.putF HX.o rfl a8 h7;obtain⟨d0,n4,n5⟩:=E.1.bx.c3;have d4:=E.1.bx.fz 1;obtain⟨W8,O⟩:∃W,Ws.setCell ⟨w1.heap.size,1,none⟩ (.slice (some ⟨gs,0,none⟩) (F.length+1) ds)=W:=⟨_,rfl⟩;have HF:=Hd E.2;rw[O]at HF;have e7:=b9;have f9:=c6;have HZ:=Hd (BB b3.o hm j5.o.1 n1.o);have g3:k7<=k+40:=by omega
  have b6:=Hd O;clear a8 h7 E O c0 c1 c2
  go_upto_region 34 with fail
  rw[b6.o];clear d0 n4 n5 d4
 rotate_left
 have y1:((r7:Int)==1)=false:=by rw[Jc];omega
 by_cases q2:r7=2
 focus
  have y2:((r7:Int)==2)=true:=by rw[J2];omega
  clear h9 q0 q1 q2
  by_cases j9:0<F.length
  focus
   have z1:decide ((0:Int)<(F.length:Int))=true:=Jb (by omega);have z2:decide (0<F.length)=true:=Jb j9;have hF1:F.length<=100:=b3.o.lf;obtain⟨bf,rfl,-⟩:=Ro V.o.a.bank.f j9;have m6:Hid (Q.Ux g N w7.drew k7):=V.o.cur.bl (Ji _ _).drew
   go_wp2_with fail
   refine Ph 11 rfl (S:=fun W=>W.cell? ⟨w1.heap.size,1,none⟩=some (.slice (some ⟨bf,0,none⟩) F.length d2)) (by kernel_rfl) (c1) (fun hHeld=>?_)
   iterate 6 (refine tkf 10 127 (v:=?_) rfl rfl (by kernel_rfl) (fun _ _ _ h=>h) (.inl ⟨by rfl,?_⟩) (by assumption) ?_;rotate_left;(intro w a7;(try dsimp only at a7);go_simp;(try with_reducible rfl));try simp only[Act.put,Ja,Je,Jf])
   refine tk 7 124 (v:=?_) rfl rfl (by kernel_rfl) (fun _ _ _ h=>h) (.inl ⟨by rfl,?_⟩) (by assumption) ?_;rotate_left;(intro w a7;(try dsimp only at a7);go_simp;(try with_reducible rfl));try simp only[Act.put,Ja,Je,Jf];refine wpAnyH_ready (rs:=[6]) (by kernel_rfl) (by simp) ?_;refine AllReadyH.cons rfl (fun K hK=>?_) AllReadyH.nil
   go_simp
   go_at_call 19
   refine(Q.Oj g N k7 F.length _ m6.o (by omega) j9 (by omega)).mono ?_;rintro e w8 ⟨r8,k8,rfl,b4,y4,d5,Y⟩;have d7:Hid (Q.Bar g w7 w8):=⟨Y.os,Y.tape,Y.output,Y.size,Y.block⟩;have j:=Hd (V.o.bar d7.o d5);have y8:(r8:Int)<(F.length:Int):=by omega
   clear d5 Y
   go_wp2_with fail
   refine hK.out _ _ (j.o.box.bx.c3.2.1) (fun hHeld6=>?_);clear hK K
   try simp only[Act.put,Ja,Je,Jf]
   refine tk 8 125 (v:=?_) rfl rfl (by kernel_rfl) (fun _ _ _ h=>h) (.inl ⟨by rfl,?_⟩) (by assumption) ?_;rotate_left;(intro w a7;skip;go_simp;(try with_reducible rfl));try simp only[Act.put,Ja,Je,Jf];refine tk 9 126 (v:=?_) rfl rfl (by kernel_rfl) (fun _ _ _ h=>h) (.inl ⟨by rfl,?_⟩) (by assumption) ?_;rotate_left;(intro w a7;(try dsimp only at a7);go_simp;(try with_reducible rfl));try simp only[Act.put,Ja,Je,Jf];obtain⟨⟨s0,s1⟩,E⟩:=j.o.setF b4 so;obtain⟨W8,O⟩:∃W,w8.setCell ⟨bf,r8*3+2,none⟩ (.string (Oo so))=W:=⟨_,rfl⟩;have HF:=Hd E;rw[O]at HF;have e7:Hid (Q.Bar g w w8):=b9.o.trans d7.o;have f9:=Hd (Nw c6.o d7.o d9.o.2.2);have HZ:=Hd (BA b3.o hm b4 n1.o);have g3:k8<=k+40:=by omega
   have b6:=Hd O;clear E O;refine wpAnyH_ready (rs:=[10]) (by kernel_rfl) (by simp) ?_;refine AllReadyH.cons rfl (fun K hK=>?_) AllReadyH.nil
   go_simp
   rw[b6.o];refine hK.out _ _ (HF.o.box.bx.c3.2.1) (fun hHeld10=>?_);clear hK K
   try simp only[Act.put,Ja,Je,Jf]
   refine wpAnyH_done (by kernel_rfl) ?_ _;clear hHeld hHeld6 hHeld10 c0 c1 c2 s0 s1
   go_upto_region 34 with fail
  rotate_left
  have z1:decide ((0:Int)<(F.length:Int))=false:=Jd (by omega);have z2:decide (0<F.length)=false:=Jd j9;have HF:=Hd V.o.r;have e7:=b9;have f9:=c6;have HZ:=Hd (BU b3.o hm);have g3:k7<=k+40:=by omega
  go_upto_region 34 with fail
  clear c0 c1 c2
 rotate_left
 rotate_left
 focus
  have y2:((r7:Int)==2)=false:=by rw[Jc];omega
  have hTl:T.length<=60000:=s9.o
  by_cases q3:r7=3
  focus
   have y3:((r7:Int)==3)=true:=by rw[J2];omega
   clear h9 q0 q1 q2 q3
   go_wp2_with fail
   refine(Q.Oj g N k7 T.length _ V.o.cur (by omega) hT (by omega)).mono ?_;rintro e w8 ⟨r8,k8,rfl,b4,y4,d5,Y⟩;have j:=Hd (V.o.bar Y d5);have d7:Hid (Q.Bar g w w8):=b9.o.trans Y;have n0:=Hd (Nw c6.o Y d9.o.2.2);clear d5 Y c0 c1 c2 V b9 c6;have y8:(r8:Int)<(T.length:Int):=by omega
   obtain⟨bt,X,q,d,n6,rfl,o0,hX,g0,a0,a1,a2,a3,a4,a5⟩:=j.o.term b4;obtain⟨W2,b7⟩:∃W,(w8.alloc (.cells #[.int .i64 T[r8].op,.string (Oo T[r8].sort),.string (Oo T[r8].text),.int .i64 T[r8].a,.int .i64 T[r8].b,.slice q T[r8].kids.length d] 38)).drew=W:=⟨_,rfl⟩;have s2:Hid (W2.heap[w8.heap.size]? = some (.cells (O5 (T[r8],.slice q T[r8].kids.length d)).toArray 38 (0,0))):=by
    unfold Hid;rw[<-b7];exact Js
   have hb2:Up w8 W2:=by rw[<-b7];exact(Oy w8 _).drew
   have M8:=Hd (own_other' hX.2.1 (fun q hq=>hb2.block q (hX.2.1.lt q hq).2));have N0:=Hd hX;have N1:=Hd g0;have s8:Hid (T.length<=1000000000/\W0.heap.size<=W2.heap.size):=⟨by omega,Jm (Zj (by have:=j.o.lo;have:=j.o.box.bx.lt;omega:W0.heap.size<w8.heap.size)) hb2.size⟩;have o1:=VI j.o.box hb2;obtain⟨c0,c1,c2⟩:=j.o.box.bx.c3;obtain⟨e0,e1,e2⟩:=o1.bx.c3;have j2:=Hd o1;have g8:=Hd b7;have r9:Hid ((.slice (some ⟨bt,0,none⟩) T.length d3:Value).ownBlock≠some w1.heap.size):=own_type hX.2.1 j.o.box (by decide);clear hX g0 b7 hb2 o1;rw[<-g8.o]at e0 e1 e2
   go_wp2
   go_region_law ((rw[g8.o];refine M5 (x:=(T[r8],.slice q T[r8].kids.length d)) (n:=T.length) (base:=W0.heap.size) (xs:=X.flatMap O5) (by rfl) _ _ (by rfl) (by rfl) M8.o (by rfl) (by rfl) s2.o s8.o.1 s8.o.2 ?_;intro gt cn wa h8 Z u6;have T5:=(Z.cell_far ⟨w1.heap.size,2,none⟩ j2.o.bx.lt (Ne.symm r9.o)).trans j2.o.bx.c3.2.2;have d4:=(Z.frozen_far ⟨w1.heap.size,2,none⟩ j2.o.bx.lt (Ne.symm r9.o)).trans (j2.o.bx.fz 2)))
   all_goals
    have h5:(w8.alloc (.cells #[.int .i64 T[r8].op,.string (Oo T[r8].sort),.string (Oo T[r8].text),.int .i64 T[r8].a,.int .i64 T[r8].b,.slice q T[r8].kids.length d] 38)).grownBy wa (Value.slice (some ⟨bt,0,none⟩) T.length d3).ownBlock:=by
     rw[<-g8.o]at Z;exact⟨Z.os,Z.tape,Z.output,Z.size,Z.block⟩
    have E:=j.o.putT N0.o n6 b4 (by rw[N1.o];exact h8) h5;obtain⟨W8,O⟩:∃W,wa.setCell ⟨w1.heap.size,2,none⟩ (.slice (some ⟨gt,0,none⟩) (T.length+1) cn)=W:=⟨_,rfl⟩;have HF:=Hd E.2;rw[O]at HF;have e7:=d7;have f9:=n0;have HZ:=Hd (BT b3.o hm b4);have g3:k8<=k+40:=by omega
    have b6:=Hd O;clear E O Z h5 h8 u6 c0 c1 c2 e0 e1 e2 a0 a1 a2 a3 a4 a5
    go_upto_region 34 with fail
    rw[b6.o];clear T5 d4
  rotate_right
  focus
   have y3:((r7:Int)==3)=false:=by rw[Jc];omega
   clear h9 q0 q1 q2 q3
   go_wp2_with fail
   refine(Q.Oj g N k7 T.length _ V.o.cur (by omega) hT (by omega)).mono ?_;rintro e w8 ⟨r8,k8,rfl,b4,y4,d5,Y⟩;have j:=Hd (V.o.bar Y d5);have d7:Hid (Q.Bar g w w8):=b9.o.trans Y;have n0:=Hd (Nw c6.o Y d9.o.2.2);clear d5 Y c0 c1 c2 V b9 c6;have y8:(r8:Int)<(T.length:Int):=by omega
   obtain⟨bt,X,q,d,n6,rfl,o0,hX,g0,a0,a1,a2,a3,a4,a5⟩:=j.o.term b4;obtain⟨c0,c1,c2⟩:=j.o.box.bx.c3;obtain⟨t,ht⟩:=O2 (T[r8]);have J:Hid (LG t):=by rw[<-ht];exact(b3.o.t _ (Jj b4)).s
   rw[ht]at a0 a1 a2 a3 a4 a5 g0;have j3:Hid (w8.ownsRow W0.heap.size 3 1 (.slice q t.kids.length d) t.kids.length (Uq t.kids)):=by
    have:=hX.2.2 _ (Jj n6);rw[g0]at this;exact this
   clear hX g0 ht
   go_upto_region 9 with fail
   obtain⟨W9,k1⟩:∃W,w8.alloc (.cells #[.int .i64 t.op,.string (Oo t.sort),.string (Oo t.text),.int .i64 t.a,.int .i64 t.b,.slice q t.kids.length d] 38)=W:=⟨_,rfl⟩;have n8:Up w8 W9:=by rw[<-k1];exact Oy w8 _
   have A1:Tb W9 w8.heap.size 38 (O5 (t,.slice q t.kids.length d)):=by rw[<-k1];exact Js
   rw[k1];have q8:=Hd (j.o.cur.bl (n8.mono j.o.cur.2.1));have t6:=Hd A1;have q4:=Hd n8;clear k1 n8 A1 a0 a1 a2 a3 a4 a5 c0 c1 c2
   go_wp2_with fail
   refine(Q.Oj g N k8 5 _ q8.o (by omega) (by decide) (by decide)).mono ?_;rintro e wa ⟨r9',ka,rfl,i1,hka,w9,n9⟩;have d6:w8.heap.size≠g:=by have:=j.o.cur.1;have:=j.o.cur.2.1;omega
   have G:=Hd (N8 t6.o n9 d6);have b5:=Hd w9;have d8:Hid (Q.Bar g w8 wa):=(Q.Bar.of q4.o).trans n9;have b1:Hid (wa.ownsRow W0.heap.size 3 1 (.slice q t.kids.length d) t.kids.length (Uq t.kids)):=own_other' j3.o fun b hb=>d8.o.block b (j3.o.lt b hb).2 (by have:=Oe j3.o b hb;have:=j.o.cur.1;have:=j.o.lo.1;omega);have f5:Hid (N<=w8.heap.size):=j.o.cur.2.1;have e9:Hid (ka<=k+30):=by unfold Hid;omega
   have hka':ka<=200000000:=by omega
   have j4:Hid (w1.heap.size≠g):=by have:=j.o.cur.1;have:=j.o.lo;unfold Hid;omega
   clear w9 n9 t6 q8 q4 j3
   go_upto_block 1 with fail
   go_cut [] (fun wx=>VW g N W0.heap.size w8.heap.size (k+35) w8 wx)
   case first=>
    obtain⟨x0,x1,x2,x3,x4,x5⟩:wa.cell? ⟨w8.heap.size,0,none⟩=some (.int .i64 t.op)/\wa.cell? ⟨w8.heap.size,1,none⟩=some (.string (Oo t.sort))/\wa.cell? ⟨w8.heap.size,2,none⟩=some (.string (Oo t.text))/\wa.cell? ⟨w8.heap.size,3,none⟩=some (.int .i64 t.a)/\wa.cell? ⟨w8.heap.size,4,none⟩=some (.int .i64 t.b)/\wa.cell? ⟨w8.heap.size,5,none⟩=some (.slice q t.kids.length d):=⟨G.o.bx.cell 0,G.o.bx.cell 1,G.o.bx.cell 2,G.o.bx.cell 3,G.o.bx.cell 4,G.o.bx.cell 5⟩;obtain⟨z0,z1,z2,z3,z5⟩:wa.frozen? ⟨w8.heap.size,0,none⟩=false/\wa.frozen? ⟨w8.heap.size,1,none⟩=false/\wa.frozen? ⟨w8.heap.size,2,none⟩=false/\wa.frozen? ⟨w8.heap.size,3,none⟩=false/\wa.frozen? ⟨w8.heap.size,5,none⟩=false:=⟨G.o.bx.fz 0,G.o.bx.fz 1,G.o.bx.fz 2,G.o.bx.fz 3,G.o.bx.fz 5⟩
    by_cases q0:r9'=0
    ·have v0:((r9':Int)==0)=true:=by rw[J2];omega
     clear i1 q0
     go_wp2_with fail
     refine(Q.Oj g N ka 49 _ b5.o (by omega) (by decide) (by decide)).mono ?_;rintro e wb ⟨rb,kb,rfl,W7,W1,h2,R⟩;have HE:Hid (VW g N W0.heap.size w8.heap.size (k+35) w8 (wb.setCell ⟨w8.heap.size,0,none⟩ (.int .i64 (rb:Nat)))):=VW.st (t':={ t with op:=rb }) (N8 G.o R d6) (d8.o.trans R) h2 (by have:=e9.o;omega) leR f5.o (own_other' b1.o fun b hb=>R.block b (b1.o.lt b hb).2 (by have:=Oe b1.o b hb;have:=j.o.cur.1;have:=j.o.lo.1;omega)) ⟨J.o.1,J.o.2.1,J.o.2.2.1,⟨by simp only;omega,by simp only;omega⟩,J.o.2.2.2.2.1,J.o.2.2.2.2.2⟩ rfl;have u0:=(N8 G.o R d6).bx.cell 0;have u1:=(N8 G.o R d6).bx.fz 0;simp only[O5,Jr]at u0;clear R h2 x0 x1 x2 x3 x4 x5 z0 z1 z2 z3 z5
     go_wp2
     go_meet
     exact HE.o
    have v0:((r9':Int)==0)=false:=by rw[Jc];omega
    by_cases q1:r9'=1
    ·have v1:((r9':Int)==1)=true:=by rw[J2];omega
     clear i1 q0 q1;have HE:Hid (VW g N W0.heap.size w8.heap.size (k+35) w8 (wa.setCell ⟨w8.heap.size,1,none⟩ (.string (Oo so)))):=VW.st (t':={ t with sort:=so }) G.o d8.o b5.o (by have:=e9.o;omega) leR f5.o b1.o ⟨by have:=n1.o;simp only;omega,J.o.2⟩ rfl
     go_wp2
     go_meet
     exact HE.o
    have v1:((r9':Int)==1)=false:=by rw[Jc];omega
    by_cases q2:r9'=2
    ·have v2:((r9':Int)==2)=true:=by rw[J2];omega
     clear i1 q0 q1 q2;have HE:Hid (VW g N W0.heap.size w8.heap.size (k+35) w8 (wa.setCell ⟨w8.heap.size,2,none⟩ (.string (Oo nm)))):=VW.st (t':={ t with text:=nm }) G.o d8.o b5.o (by have:=e9.o;omega) leR f5.o b1.o ⟨J.o.1,by have:=j5.o.1;simp only;omega,J.o.2.2.1,J.o.2.2.2.1,J.o.2.2.2.2.1,J.o.2.2.2.2.2.1,j5.o.2⟩ rfl
     go_wp2
     go_meet
     exact HE.o
    have v2:((r9':Int)==2)=false:=by rw[Jc];omega
    by_cases q3:r9'=3
    ·have v3:((r9':Int)==3)=true:=by rw[J2];omega
     clear i1 q0 q1 q2 q3
     go_wp2_with fail
     refine(Q.Oj g N ka 4 _ b5.o (by omega) (by decide) (by decide)).mono ?_;rintro e wb ⟨rb,kb,rfl,W7,W1,h2,R⟩;have HE:Hid (VW g N W0.heap.size w8.heap.size (k+35) w8 (wb.setCell ⟨w8.heap.size,3,none⟩ (.int .i64 ((rb:Nat) - 1)))):=VW.st (t':={ t with a:=(rb:Int) - 1 }) (N8 G.o R d6) (d8.o.trans R) h2 (by have:=e9.o;omega) leR f5.o (own_other' b1.o fun b hb=>R.block b (b1.o.lt b hb).2 (by have:=Oe b1.o b hb;have:=j.o.cur.1;have:=j.o.lo.1;omega)) ⟨J.o.1,J.o.2.1,J.o.2.2.1,J.o.2.2.2.1,⟨by simp only;omega,by simp only;omega⟩,J.o.2.2.2.2.2⟩ rfl;have u0:=(N8 G.o R d6).bx.cell 3;have u1:=(N8 G.o R d6).bx.fz 3;simp only[O5,Jy,Jr]at u0;clear R h2 x0 x1 x2 x3 x4 x5 z0 z1 z2 z3 z5
     go_wp2
     go_meet
     exact HE.o
    have v3:((r9':Int)==3)=false:=by rw[Jc];omega
    clear i1 q0 q1 q2 q3
    by_cases o3:0<t.kids.length
    ·have y5:decide ((0:Int)<(t.kids.length:Int))=true:=Jb (by omega);have y6:decide (0<t.kids.length)=true:=Jb o3;have hkl:t.kids.length<=50:=J.o.2.2.1;have L2:=Hd (Ay b1.o);clear x0 x1 x2 x3 x4 z0 z1 z2 z3
     go_wp2_with (at_builtin;refine Rw (L:=t.kids) rfl _ _ rfl rfl rfl (ints_at b1.o) L2.o (by omega) ?_)
     intro v' wb a8 pb cb l2 R;subst l2;obtain⟨bb,rfl,-⟩:∃b,pb=some ⟨b,0,none⟩/\True:=by
      obtain⟨p',c',e,-,-,h3⟩:=Kp a8;simp only[Value.slice.injEq]at e;obtain⟨rfl,-,rfl⟩:=e
      rcases h3 with h3|⟨b,rfl,-⟩
      ·omega
      exact⟨b,rfl,trivial⟩
     have f8:=Hd a8;have P1:=Hd (VI G.o R);have g4:Hid (Q.Bar g w8 wb):=d8.o.trans (.of R);have m6:Hid (Q.Ux g N wb.drew ka):=b5.o.bl (R.mono b5.o.2.1).drew;have e8:Hid (g<wa.heap.size/\W0.heap.size<=wa.heap.size/\w8.heap.size<wa.heap.size):=⟨Jn b5.o.1 b5.o.2.1,by have:=G.o.bx.lt;have:=j.o.lo;have:=j.o.box.bx.lt;omega,G.o.bx.lt⟩;clear a8 R x5 z5
     go_wp2_with fail
     refine Ph 14 rfl (S:=fun W=>W.cell? ⟨w1.heap.size,2,none⟩=some (.slice (some ⟨bt,0,none⟩) T.length d3)) (by kernel_rfl) ((j.o.box.bx.c3.2.2:_) |> fun h=>(g4.o.cell (p:=⟨w1.heap.size,2,none⟩) j.o.box.bx.lt j4.o).trans h) (fun hHeld=>?_)
     iterate 4 (refine tkf 13 67 (v:=?_) rfl rfl (by kernel_rfl) (fun _ _ _ h=>h) (.inl ⟨by rfl,?_⟩) (by assumption) ?_;rotate_left;(intro w a7;(try dsimp only at a7);go_simp;(try with_reducible rfl));try simp only[Act.put,Ja,Je,Jf])
     iterate 5 (refine tkf 14 68 (v:=?_) rfl rfl (by kernel_rfl) (fun _ _ _ h=>h) (.inl ⟨by rfl,?_⟩) (by assumption) ?_;rotate_left;(intro w a7;(try dsimp only at a7);go_simp;(try with_reducible rfl));try simp only[Act.put,Ja,Je,Jf])
     refine wpAnyH_ready (rs:=[4]) (by kernel_rfl) (by simp) ?_;refine AllReadyH.cons rfl (fun K hK=>?_) AllReadyH.nil
     go_simp
     go_at_call 19
     refine(Q.Oj g N ka t.kids.length _ m6.o (by omega) o3 (by omega)).mono ?_;rintro e wc ⟨rc,kc,rfl,hrc,hkc,x6,g2⟩;have q7:Hid (Q.Bar g wb wc):=⟨g2.os,g2.tape,g2.output,g2.size,g2.block⟩;have K0:=Hd x6;have hrc':(rc:Int)<(t.kids.length:Int):=by omega
     clear x6 g2
     go_wp2_with fail
     refine hK.out _ _ (((g4.o.trans q7.o).cell (p:=⟨w1.heap.size,2,none⟩) j.o.box.bx.lt j4.o).trans j.o.box.bx.c3.2.2) (fun hHeld4=>?_);clear hK K
     try simp only[Act.put,Ja,Je,Jf]
     refine wpAnyH_ready (rs:=[10]) (by kernel_rfl) (by simp) ?_;refine AllReadyH.cons rfl (fun K hK=>?_) AllReadyH.nil
     go_simp
     go_at_call 19
     rw[VA (by omega) (by omega),show(T.length:Int)+2=((T.length+2:Nat):Int)by push_cast;rfl];refine(Q.Oj g N kc (T.length+2) _ K0.o (by omega) (by omega) (by omega)).mono ?_;rintro e wd ⟨rd,kd,rfl,hrd,hkd,x7,u8⟩;have g5:Hid (Q.Bar g wb wd):=q7.o.trans u8;have K6:=Hd x7;have hrd':rd<=60002:=by omega
     clear x7 u8
     go_wp2_with fail
     refine hK.out _ _ (((g4.o.trans g5.o).cell (p:=⟨w1.heap.size,2,none⟩) j.o.box.bx.lt j4.o).trans j.o.box.bx.c3.2.2) (fun hHeld10=>?_);clear hK K
     try simp only[Act.put,Ja,Je,Jf]
     refine tk 11 65 (v:=?_) rfl rfl (by kernel_rfl) (fun _ _ _ h=>h) (.inl ⟨by rfl,?_⟩) (by assumption) ?_;rotate_left;(intro w a7;(try dsimp only at a7);go_simp;(try with_reducible rfl));(try simp only[Act.put,Ja,Je,Jf]);rw[VA (x:=(rd:Int) - 1) (by omega) (by omega)];refine tk 12 66 (v:=?_) rfl rfl (by kernel_rfl) (fun _ _ _ h=>h) (.inl ⟨by rfl,?_⟩) (by assumption) ?_;rotate_left;(intro w a7;skip;go_simp;(try with_reducible rfl));(try simp only[Act.put,Ja,Je,Jf]);have m9:=Hd (own_other' f8.o fun b hb=>g5.o.block b (f8.o.lt b hb).2 (by have:=Oe f8.o b hb;have:=e8.o;omega));obtain⟨us0,s0⟩:∃u,wd.cell? ⟨bb,rc,none⟩=some u:=by
      rw[m9.o.cellAt rc (by omega)];exact⟨_,Jg (by simp[Uq];omega)⟩
     have s1:=m9.o.frozenAt rc;refine wpAnyH_ready (rs:=[13]) (by kernel_rfl) (by simp) ?_;refine AllReadyH.cons rfl (fun K hK=>?_) AllReadyH.nil
     go_simp
     refine hK.out _ _ ((Zc (a:=⟨w1.heap.size,2,none⟩) (Jh _ ⟨bb,rc,none⟩ _ _ (by have:=f8.o.lt bb rfl;have:=Oe f8.o bb rfl;have:=e8.o;have:=j.o.box.bx.lt;show w1.heap.size≠bb;omega))).trans (((g4.o.trans g5.o).cell (p:=⟨w1.heap.size,2,none⟩) j.o.box.bx.lt j4.o).trans j.o.box.bx.c3.2.2)) (fun hHeld13=>?_);clear hK K
     try simp only[Act.put,Ja,Je,Jf]
     refine wpAnyH_done (by kernel_rfl) ?_ _;obtain⟨we,l5⟩:∃W,wd.setCell ⟨bb,rc,none⟩ (.int .i64 ((rd:Int) - 1))=W:=⟨_,rfl⟩;have l0:Below wa.heap.size wd we:=by rw[<-l5];exact(Ji _ _).setCell (p:=⟨bb,rc,none⟩) (Oe f8.o bb rfl) _
     have M2:Hid (we.ownsRow W0.heap.size 3 1 (.slice (some ⟨bb,0,none⟩) t.kids.length cb) (t.kids.set rc ((rd:Int) - 1)).length (Uq (t.kids.set rc ((rd:Int) - 1)))):=by
      have h:=(m9.o.stored rc (.int .i64 ((rd:Int) - 1))).1;rw[l5]at h;unfold Hid;rw[Zh];unfold Uq at h ⊢;rw[List.map_set];exact own_lower h e8.o.2.1
     have j7:Tb we w8.heap.size 38 (O5 (t,.slice q t.kids.length d)):=(l0.block _ e8.o.2.2).trans (N8 P1.o g5.o d6);have HE:Hid (VW g N W0.heap.size w8.heap.size (k+35) w8 (we.setCell ⟨w8.heap.size,5,none⟩ (.slice (some ⟨bb,0,none⟩) t.kids.length cb))):=VW.st (t':={ t with kids:=t.kids.set rc ((rd:Int) - 1) }) j7 (Xn (g4.o.trans g5.o) l0 (Zj e8.o.2.2)) (K6.o.bl (l0.mono (by have:=f5.o;have:=e8.o;omega))) (by have:=e9.o;omega) leR f5.o M2.o ⟨J.o.1,J.o.2.1,by simp only[Zh];exact J.o.2.2.1,J.o.2.2.2⟩ rfl;have u0:=j7.bx.cell 5;have u1:=j7.bx.fz 5;simp only[O5,Jy,Jr]at u0;clear l0 j7 s0 s1 hHeld hHeld4 hHeld10 hHeld13;rw[l5];clear l5
     go_wp2
     go_meet
     exact HE.o
    have y5:decide ((0:Int)<(t.kids.length:Int))=false:=Jd (by omega);have y6:decide (0<t.kids.length)=false:=Jd o3;have HE:Hid (VW g N W0.heap.size w8.heap.size (k+35) w8 wa):=⟨t,_,ka,J.o,by have:=e9.o;omega,G.o,b1.o,b5.o,d8.o⟩;clear x0 x1 x2 x3 x4 z0 z1 z2 z3 z5
    go_wp2
    go_meet
    exact HE.o
   case' rest=>
    rename World=>wx
    obtain⟨t',Z2,kx,z6,hkx,e5,o4,x8,l1⟩:=hcut;obtain⟨p',c',rfl⟩:=V6 o4;have o2:=j.o.bar l1 x8;obtain⟨e4,E⟩:=o2.setT b4 t' o4;obtain⟨x0,x1,x2,x3,x4,x5⟩:wx.cell? ⟨w8.heap.size,0,none⟩=some (.int .i64 t'.op)/\wx.cell? ⟨w8.heap.size,1,none⟩=some (.string (Oo t'.sort))/\wx.cell? ⟨w8.heap.size,2,none⟩=some (.string (Oo t'.text))/\wx.cell? ⟨w8.heap.size,3,none⟩=some (.int .i64 t'.a)/\wx.cell? ⟨w8.heap.size,4,none⟩=some (.int .i64 t'.b)/\wx.cell? ⟨w8.heap.size,5,none⟩=some (.slice p' t'.kids.length c'):=⟨e5.bx.cell 0,e5.bx.cell 1,e5.bx.cell 2,e5.bx.cell 3,e5.bx.cell 4,e5.bx.cell 5⟩;obtain⟨c0,c1,c2⟩:=o2.box.bx.c3;have l7:=e4 0 (by decide);rw[Nat.add_zero]at l7;obtain⟨⟨u0,y0'⟩,z0⟩:=l7;obtain⟨⟨u1,y1'⟩,z1⟩:=e4 1 (by decide);obtain⟨⟨u2,y2'⟩,z2⟩:=e4 2 (by decide);obtain⟨⟨u3,y3'⟩,z3⟩:=e4 3 (by decide);obtain⟨⟨u4,y4'⟩,z4⟩:=e4 4 (by decide);obtain⟨⟨u5,y5'⟩,z5⟩:=e4 5 (by decide);obtain⟨W8,O⟩:∃W,P2 wx bt r8 t' (.slice p' t'.kids.length c')=W:=⟨_,rfl⟩;have HF:=Hd E;rw[O]at HF;have e7:Hid (Q.Bar g w wx):=d7.o.trans l1;have f9:=Hd (Nw n0.o l1 d9.o.2.2);have HZ:=Hd (BW (i:=r8) b3.o hm z6);have g3:kx<=k+40:=by omega
    unfold P2 at O;simp only at O;have b6:=Hd O;clear e5 o4 x8 l1 o2 e4 E O z6
    go_upto_region 34 with fail
    rw[b6.o];clear x0 x1 x2 x3 x4 x5 c0 c1 c2 u0 u1 u2 u3 u4 u5 y0' y1' y2' y3' y4' y5' z0 z1 z2 z3 z4 z5
 all_goals
  obtain⟨f0,f1,f2⟩:=HF.o.box.bx.c3;have s5:=Hd (f9.o.bl j6.o.1 HF.o.low);obtain⟨e0,e1,e2⟩:=s5.o.c3;obtain⟨z0,z1,z2⟩:=s5.o.f3
  go_wp2_with fail
  refine Jl ?_ rfl (HF.o.fin e7.o L3.o (Y8 _) j6.o.1 HZ.o.1 HZ.o.2 g3);simp[results,results23,go_sem,e0,e1,e2]
end Go.Proofs.YtfkagjelljnpdaaGreatDoor
