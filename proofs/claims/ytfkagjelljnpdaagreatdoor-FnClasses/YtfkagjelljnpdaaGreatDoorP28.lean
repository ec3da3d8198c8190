import Derived.Test.YtfkagjelljnpdaaGreatDoorP27
set_option linter.all false
set_option maxRecDepth 100000
set_option maxHeartbeats 8000000
namespace Go.Proofs.YtfkagjelljnpdaaGreatDoor
open ChangeShapes WideShapes ChangeAt RowKit Proofs.Tryz
variable {A L M:List Nat}{T:List Tm}{n:Nat}{w:World}
theorem EB:(prog.info? 63).map (fun i=>(i.zero,i.size,i.bytes))=some (some (.int .u64 0),1,8):=by kernel_rfl
theorem B9{base g:Nat}{e:TypeId}{xs:List Value}(h:w.ownsRow base e 1 (.slice (some ⟨g,0,none⟩) n n) n xs):Bx w g xs:=by
 rcases h.2 with⟨E,_⟩|⟨K,q,cur,J,_,j,_,_,O,G⟩
 ·cases E
 cases J;refine⟨e,?_⟩;rw[j];have:cur.toList=xs:=by rw[<-G,Yf (by simp;omega)]
 rw[<-this]
structure TmK(T:List Tm):Prop where
 kids:∀i,i<T.length->∀x∈(tmAt T (i:Nat)).kids,0<=x/\x.toNat<T.length
 few:∀i,i<T.length->(tmAt T (i:Nat)).kids.length<=50
 txt:∀i,i<T.length->(tmAt T (i:Nat)).text.length<=1048576
 op:∀i,i<T.length->0<=(tmAt T (i:Nat)).op/\(tmAt T (i:Nat)).op<=100
theorem Uo{v:Value}(h:TermsAt w v T){i:Nat}(hi:i<T.length):∃bt c pk ck,v=.slice (some ⟨bt,0,none⟩) T.length c/\bt<w.heap.size/\w.cell? ⟨bt,i*6,none⟩=some (.int .i64 (tmAt T i).op)/\w.cell? ⟨bt,i*6+1,none⟩=some (.string (Oo (tmAt T i).sort))/\w.cell? ⟨bt,i*6+2,none⟩=some (.string (Oo (tmAt T i).text))/\w.cell? ⟨bt,i*6+3,none⟩=some (.int .i64 (tmAt T i).a)/\w.cell? ⟨bt,i*6+4,none⟩=some (.int .i64 (tmAt T i).b)/\w.cell? ⟨bt,i*6+5,none⟩=some (.slice pk (tmAt T i).kids.length ck)/\IntsAt w (.slice pk (tmAt T i).kids.length ck) (tmAt T i).kids:=by
 have e:tmAt T i=T[i]:=by unfold tmAt;rw[Y7,Jg hi];rfl
 rw[e];obtain⟨p,c,rfl,-,-,j⟩:=h
 rcases j with j|⟨bt,rfl,hb,E⟩
 ·rw[j]at hi;exact absurd hi (Jz _)
 obtain⟨G,J,k2,k3,k4,K,k5,k6⟩:=E i hi;obtain⟨pk,ck,rfl,q⟩:=id k6;exact⟨bt,c,pk,ck,rfl,hb,G,J,k2,k3,k4,k5,k6⟩
def Mn(T:List Tm)(L M:List Nat):List Int:=M.map (fun x=>Re L (tmAt T (x:Nat)))
theorem S7{i:Nat}(h:i<M.length):Nq (Mn T L M) i=Re L (tmAt T (labA M i:Nat)):=by
 rw[O1 h];simp[Nq,Mn,List.getD,h]
def plA(M A:List Nat)(j:Nat):Nat:=labA M (labA A j)
def Lo(T:List Tm)(L M A:List Nat)(K:List Int)(n m:Nat):Prop:=∀i,m<=i->i<n->Nq K (labA A i)=Nq K (labA A n)->Kg L (tmAt T (plA M A n:Nat)) (tmAt T (plA M A i:Nat))->labA L (plA M A n)=labA L (plA M A i)
def P6(T:List Tm)(L M A:List Nat)(K:List Int)(n:Nat):Prop:=∀j,j<n->Lo T L M A K j 0
theorem P6.next{K:List Int}(h:P6 T L M A K n)(h2:Lo T L M A K n 0):P6 T L M A K (n+1):=fun j hj=>by
 by_cases e:j=n
 ·subst e;exact h2
 exact h j (by omega)
theorem Lo.all{K:List Int}{m:Nat}(hs:Qc K A)(hn:n<A.length)(h:Lo T L M A K n (m+1))(hm:m<n)(hne:Nq K (labA A m)≠Nq K (labA A n)):Lo T L M A K n 0:=fun i _ hi he ha=>by
 by_cases e:m+1<=i
 ·exact h i e hi he ha
 exact absurd (CI hs (by omega:i<=m) (by omega) hn he) hne
theorem KQ(hp:A.Perm (List.range M.length))(h:P6 T L M A (Mn T L M) M.length):Q3 T M L:=fun x hx y hy ha=>by
 have q:∀x∈M,∃j,j<M.length/\plA M A j=x/\Nq (Mn T L M) (labA A j)=Re L (tmAt T (x:Nat)):=fun x hx=>by
  obtain⟨i,E,rfl⟩:=Ya hx
  have hm:i∈A:=hp.mem_iff.2 (Yg.2 E)
  obtain⟨j,K,e⟩:=Ya hm
  have hl:=hp.length_eq
  rw[List.length_range]at hl
  refine⟨j,by omega,?_,?_⟩
  ·unfold plA;rw[O1 K,e,O1 E]
  rw[O1 K,e,S7 E,O1 E]
 obtain⟨j,K,G,R⟩:=q x hx
 obtain⟨i,E,J,k2⟩:=q y hy
 have O:=YX ha
 by_cases e:i=j
 ·subst e;rw[<-G,<-J]
 by_cases V:i<j
 ·have:=h j K i (Jp _) V (by rw[R,k2,O]) (by rw[G,J];exact ha)
  rw[G,J]at this
  exact this
 have:=h i E j (Jp _) (by omega) (by rw[R,k2,O]) (by rw[G,J];exact ha.symm)
 rw[G,J]at this
 exact this.symm
def Hx(T:List Tm)(L M L1:List Nat)(more:Bool)(C:Prop):Prop:=L1.length=L.length/\Ge T M L L1/\(more=true->L1.sum<L.sum)/\(more=false->L1=L/\C)
theorem Hx.join{L1:List Nat}{more:Bool}{C:Prop}(h:Hx T L M L1 more C){x y:Nat}(hx:x∈M)(hy:y∈M)(hxl:x<L.length)(hyl:y<L.length)(ha:Kg L1 (tmAt T (x:Nat)) (tmAt T (y:Nat)))(hne:labA L1 x≠labA L1 y)(C':Prop):Hx T L M (K9 L1 x y) true C':=by
 obtain⟨q,E,G,J⟩:=h;refine⟨by rw[Ik,q],E.join hx hy ha,fun _=>?_,fun e=>by cases e⟩;have j:=ET (L:=L1) (by omega) (by omega) hne
 cases more with
 | true=>have:=G rfl;omega
 | false=>rw[(J rfl).1]at j ⊢;exact j
theorem Hx.imp{L1:List Nat}{more:Bool}{C C':Prop}(h:Hx T L M L1 more C)(hc:L1=L->C->C'):Hx T L M L1 more C':=⟨h.1,h.2.1,h.2.2.1,fun e=>⟨(h.2.2.2 e).1,hc (h.2.2.2 e).1 (h.2.2.2 e).2⟩⟩
theorem Bj{g cm:Nat}{vs vf vt:Value}{S:List (List UInt8)}{F:List Fn}{pm:Option Addr}(w0 w:World)(h:BankAt w0 vs vf vt S F T)(hb:Up w0 w)(hg:w0.heap.size<=g)(hx:Bx w g (labV L))(hLn:L.length=T.length)(hn:T.length<=3000)(hT:TmK T)
 (hM:M=[]∨∃b,pm=some ⟨b,0,none⟩/\b<w.heap.size/\b≠g/\∀i,i<M.length->w.cell? ⟨b,i,none⟩=some (.int .i64 ((labA M i:Nat):Int))) (hMl:M.length<=3000) (hMT:∀x∈M,x<T.length) :
 Calls prog 42 #[.agg #[vs,vf,vt],.slice (some ⟨g,0,none⟩) L.length L.length,.slice pm M.length cm] w fun e w'=>∃L' more,e=.returned (.bool more)/\Bx w' g (labV L')/\L'.length=L.length/\IF T M L L' more/\Bar g w w':=by
 obtain⟨V,e5⟩:=O2 (w.alloc (.cells #[vs,vf,vt] 27));have b7:Up w V:=by rw[<-e5];exact Oy _ _
 have e7:Bx V w.heap.size [vs,vf,vt]:=by rw[<-e5];exact Oq w _ _
 have o2:=Hd e5;have n0:=Hd b7;have e4:=Hd e7;have b9:=Hd (hb.trans (b7.mono hb.size));have d9:=Hd (hx.bl hx.lt b7);have o1:=Hd (h.t.bl (hb.trans (b7.mono hb.size)));have j9:=Hd h.t;have y1:g<w.heap.size:=hx.lt;have b0:=Hd hT;have c8:=Hd hMT;have c6:=Hd hLn;have y6:w.heap.size<V.heap.size:=e7.lt;have j5:Hid (M=[]∨∃b,pm=some ⟨b,0,none⟩/\b<w.heap.size/\b≠g/\∀i,i<M.length->V.cell? ⟨b,i,none⟩=some (.int .i64 ((labA M i:Nat):Int))):=by
  rcases hM with e|⟨b,e,h1,h2,h3⟩
  ·exact .inl e
  exact .inr ⟨b,e,h1,h2,fun i hi=>(b7.cell (p:=⟨b,i,none⟩) h1).trans (h3 i hi)⟩
 obtain⟨ps,cs,rfl,-,-,-⟩:=h.s;obtain⟨pf,cf,rfl,-,-,-⟩:=h.f;obtain⟨pt,ct,rfl,-,-,-⟩:=h.t;obtain⟨c0,c1,c2⟩:=e7.c3;obtain⟨i0,l8,p9,q3,q4⟩:=info_parts EB;clear h hb hx e5 b7 e7 hT hMT hM hLn
 go_in
 go_upto_region 1 with fail
 rw[o2.o]
 go_wp2_with (at_make;refine wpList_make_full _ rfl _ _ 124 rfl V.heap.size 63 i0 (.int .u64 0) 1 underlying124 l8 p9 q3 .i64 .i64 _ _ M.length rfl rfl (by simp) (by simp) (by rw[q4];omega) (by unfold maxLen;omega) leR ?_)
 intro w1 d5 l7;have n1:Hid (Up V w1):=(Ji _ _).grown l7 leR (fun k e=>by cases e);have n8:=Hd d5;clear d5 l7 c0 c1 c2
 go_wp2
 go_loopw [8,9,21] (fun _ _ iv wr=>∃(i:Nat) (xs:List Value),i<=M.length/\iv=.int .i64 (i:Nat)/\(∀j,j<i->xs[j]? = some (.int .u64 (Re L (tmAt T (labA M j:Nat)))))/\wr.ownsRow V.heap.size 63 1 (.slice (some ⟨V.heap.size,0,none⟩) M.length M.length) M.length xs/\Up V wr) (fun _ _ iv _=>M.length - (intOf iv).toNat)
 case atStart=>exact⟨0,_,Jp _,rfl,fun j h=>absurd h (Jz _),n8.o,n1.o⟩
 rename World=>wr
 obtain⟨i,xs,hi,rfl,b4,b6,hB⟩:=hrel;have HB:=Hd hB;have j3:=Hd b4;have HO:=Hd b6;have k7:Hid (xs.length=M.length):=by have:=b6.1;unfold Hid;omega
 have y4:V.heap.size<=wr.heap.size:=hB.size
 by_cases E:i<M.length
 ·have z1:decide ((i:Int)<(M.length:Int))=true:=Jb (by omega);have z2:decide (i<M.length)=true:=Jb E;obtain⟨bm,rfl,q0⟩:∃b,pm=some ⟨b,0,none⟩/\wr.cell? ⟨b,i,none⟩=some (.int .i64 ((labA M i:Nat):Int)):=by
   rcases j5.o with e|⟨b,e,h1,_,h3⟩
   ·rw[e]at E;exact absurd E (Jz _)
   exact⟨b,e,(hB.cell (p:=⟨b,i,none⟩) (by show b<V.heap.size;omega)).trans (h3 i E)⟩
  have O:labA M i<T.length:=c8.o _ (by rw[O1 E];exact Jj E);have g6:Hid (∀k:Int,k=Re L (tmAt T (labA M i:Nat))->∀j,j<i+1->(xs.set i (.int .u64 k))[j]? = some (.int .u64 (Re L (tmAt T (labA M j:Nat))))):=fun k hk j hj=>by
   by_cases e:j=i
   ·subst e;rw[Vk (by have:=k7.o;omega),hk]
   rw[Zg (by omega)];exact j3.o j (by omega)
  obtain⟨x,hx⟩:=O2 (labA M i);rw[hx]at q0 O g6;have z3:decide (x<T.length)=true:=Jb O;obtain⟨G,x4,pk,ck,e,p6,k0,k1,k2,k3,k4,k5,k6⟩:=Uo (o1.o.bl hB) O;simp only[Value.slice.injEq,true_and]at e;obtain⟨rfl,rfl⟩:=e;obtain⟨d0,d1,d2⟩:=(e4.o.bl e4.o.lt hB).c3;have j2:=Hd (YD (g:=g) (L:=L) (tmAt T (x:Nat)) pk ck wr (d9.o.bl d9.o.lt hB) (by have:=c6.o;omega) k6 (fun y hy=>by have:=b0.o.kids x O y hy;have:=c6.o;omega) (b0.o.few x O) (b0.o.txt x O) (b0.o.op x O));generalize Re L (tmAt T (x:Nat))=KY at j2 g6;generalize tmAt T (x:Nat)=t at *;clear b4 b6 hB hx k6
  go_wp2_with fail
  refine j2.o.mono ?_;rintro e w2 ⟨rfl,hb2⟩;have g7:=Hd (Km HO.o hb2);have n2:=Hd (HB.o.trans (hb2.mono HB.o.size));obtain⟨u0,e0⟩:=ZF g7.o i (by omega);have g0:=g7.o.frozenAt i;have o3:=Hd (g7.o.stored i (.int .u64 KY)).1;clear hb2 k0 k1 k2 k3 k4 k5 d0 d1 d2
  go_wp2
  go_roundw
  case rel=>exact⟨i+1,_,by omega,by go_num,g6.o _ rfl,o3.o,n2.o.sc⟩
  simp[intOf];omega
 have z1:decide ((i:Int)<(M.length:Int))=false:=Jd (by omega);have z2:decide (i<M.length)=false:=Jd E;obtain⟨K,hK⟩:=O2 (Mn T L M);have p4:K.length=M.length:=by rw[<-hK];simp[Mn]
 have g5:Hid (Bx wr V.heap.size (Mg K)):=by
  unfold Hid;have e:xs=Mg K:=by
   refine List.ext_getElem? fun j=>?_
   by_cases hj:j<M.length
   ·rw[j3.o j (by omega),Rn (by omega),<-hK,S7 hj]
   rw[Zd.2 (by have:=k7.o;omega),Zd.2 (by simp[Mg];omega)]
  rw[<-e];exact B9 HO.o
 have j8:=Hd (Li wr g5.o (by omega));rw[p4]at j8;have n7:=Hd hK;clear b4 b6 hB E hi hK
 go_wp2_with fail
 refine j8.o.mono ?_;rintro e w3 ⟨va,A,rfl,h8,h9,l9,e6⟩;have Y:=Hd (HB.o.trans (e6.mono HB.o.size));have y3:wr.heap.size<=w3.heap.size:=e6.size;have e3:=Hd h8;have g8:=Hd h9;have o0:=Hd l9;have n5:=Hd (g5.o.bl g5.o.lt e6);have x9:A.length=M.length:=by have:=h9.length_eq;simpa using this
 obtain⟨pa,ca,rfl⟩:∃p c,va=Value.slice p M.length c:=by
  rcases h8.2 with⟨e,e2⟩|⟨g',o8,cur,e,_⟩
  ·exact⟨none,0,by rw[e,e2]⟩
  exact⟨_,_,e⟩
 have o4:=Hd (d9.o.bl d9.o.lt (Y.o.mono leR));clear h8 h9 l9 e6
 go_wp2
 go_loopw [11,12,13,14,15,41] (fun mv _ _ _ _ nv wx=>∃(n:Nat) (L1:List Nat) (more:Bool),n<=M.length/\nv=.int .i64 (n:Nat)/\mv=.bool more/\Bx wx g (labV L1)/\Hx T L M L1 more (P6 T L M A K n)/\Bar g w3 wx) (fun _ _ _ _ _ nv _=>M.length - (intOf nv).toNat)
 case atStart=>exact⟨0,L,false,Jp _,rfl,rfl,o4.o,⟨rfl,Ge.refl _ _ _,fun e=>(by cases e),fun _=>⟨rfl,fun j hj=>absurd hj (Jz _)⟩⟩,Bar.refl _ _⟩
 rename World=>wx
 obtain⟨n,L1,more,y2,rfl,rfl,m5,m0,g1⟩:=hrel;have h0:=Hd m5;have g9:=Hd m0;have g4:=Hd g1;clear m5 m0 g1
 by_cases E:n<M.length
 ·have z3:decide ((n:Int)<(M.length:Int))=true:=Jb (by omega);have z4:decide (n<M.length)=true:=Jb E;have j6:Hid (Hx T L M L1 more (P6 T L M A K n/\Lo T L M A K n n)):=g9.o.imp (fun _ h=>⟨h,fun i h1 h2=>absurd h1 (by omega)⟩);clear g9
  go_wp2
  go_loopw [11,13,14,15] (fun mv kv _ _ wy=>∃(m:Nat) (L2:List Nat) (more2:Bool),m<=n/\kv=.int .i64 ((m:Int) - 1)/\mv=.bool more2/\Bx wy g (labV L2)/\Hx T L M L2 more2 (P6 T L M A K n/\Lo T L M A K n m)/\Bar g w3 wy) (fun _ kv _ _ _=>(intOf kv+1).toNat)
  case atStart=>exact⟨n,L1,more,leR,by go_num,rfl,h0.o,j6.o,g4.o⟩
  rename World=>wy
  obtain⟨m,L2,more2,hm,rfl,rfl,m6,g3,d3⟩:=hrel;have J:=Hd m6;have a7:=Hd g3;have q:=Hd d3;clear m6 g3 d3 z3 z4 j6 h0 g4;have z4:decide (n<M.length)=true:=Jb E
  rcases m with _|m
  ·have HF:Hid (Hx T L M L2 more2 (P6 T L M A K (n+1))):=a7.o.imp (fun _ h=>h.1.next h.2)
   go_wp2
   go_quiet (fail)
   go_wp2
   go_roundw
   case rel=>exact⟨n+1,L2,more2,by omega,by go_num,rfl,J.o,HF.o,⟨q.o.os,q.o.tape,q.o.output,q.o.size,q.o.block⟩⟩
   simp[intOf];omega
  rw[show(((m+1:Nat):Int) - 1)=(m:Int)by omega];have p8:m<n:=by omega
  have p7:m<M.length:=by omega
  have z5:decide (m<M.length)=true:=Jb p7;have y0:g<V.heap.size:=by omega
  obtain⟨ga,rfl,s9,g2⟩:∃ga,pa=some ⟨ga,0,none⟩/\wr.heap.size<=ga/\ga<w3.heap.size:=by
   rcases e3.o.2 with⟨e,e2⟩|⟨g',o8,cur,e,p5,_⟩
   ·omega
   simp only[Value.slice.injEq,true_and]at e;obtain⟨rfl,rfl⟩:=e;exact⟨g',rfl,p5,(e3.o.lt g' rfl).2⟩
  have y5:V.heap.size<=wr.heap.size:=HB.o.size;have a1:wy.cell? ⟨ga,m,none⟩=some (.int .i64 ((labA A m:Nat):Int)):=(q.o.cell (p:=⟨ga,m,none⟩) g2 (by show ga≠g;omega)).trans (Nz e3.o (by omega)).1;have a2:wy.cell? ⟨ga,n,none⟩=some (.int .i64 ((labA A n:Nat):Int)):=(q.o.cell (p:=⟨ga,n,none⟩) g2 (by show ga≠g;omega)).trans (Nz e3.o (by omega)).1;have l1:=Dx g8.o (i:=m) (by omega);have l2:=Dx g8.o (i:=n) (by omega);have f0:=Hd (n5.o.bar q.o (by omega));have b1:=f0.o.cell (labA A m);have b2:=f0.o.cell (labA A n);rw[Rn (by omega)]at b1 b2;have z6:decide (labA A m<M.length)=true:=Jb l1;have z7:decide (labA A n<M.length)=true:=Jb l2
  by_cases b8:Nq K (labA A m)=Nq K (labA A n)
  case neg=>
   have HF:Hid (Hx T L M L2 more2 (P6 T L M A K (n+1))):=a7.o.imp (fun _ h=>h.1.next (h.2.all o0.o (by omega) p8 b8));have z8:(Nq K (labA A m)==Nq K (labA A n))=false:=by rw[Jc];exact b8
   generalize Nq K (labA A m)=ka at *;generalize Nq K (labA A n)=kb at *;generalize labA A m=am at *;generalize labA A n=an at *;clear b8
   go_wp2
   go_quiet (fail)
   go_wp2
   go_roundw
   case rel=>exact⟨n+1,L2,more2,by omega,by go_num,rfl,J.o,HF.o,⟨q.o.os,q.o.tape,q.o.output,q.o.size,q.o.block⟩⟩
   simp[intOf];omega
  have z8:(Nq K (labA A m)==Nq K (labA A n))=true:=by rw[J2];exact b8
  have F2:V.heap.size<=w3.heap.size:=Y.o.size;obtain⟨bm,rfl,q1,q2⟩:∃b,pm=some ⟨b,0,none⟩/\wy.cell? ⟨b,labA A m,none⟩=some (.int .i64 ((plA M A m:Nat):Int))/\wy.cell? ⟨b,labA A n,none⟩=some (.int .i64 ((plA M A n:Nat):Int)):=by
   rcases j5.o with e|⟨b,e,h1,h2,h3⟩
   ·rw[e]at E;exact absurd E (Jz _)
   have up:∀j u,V.cell? ⟨b,j,none⟩=some u->wy.cell? ⟨b,j,none⟩=some u:=fun j u hj=>((q.o.cell (p:=⟨b,j,none⟩) (by show b<w3.heap.size;omega) h2).trans (Y.o.cell (p:=⟨b,j,none⟩) (by show b<V.heap.size;omega))).trans hj;exact⟨b,e,up _ _ (h3 _ l1),up _ _ (h3 _ l2)⟩
  have d4:∀j,labA A j<M.length->plA M A j∈M:=fun j hj=>by unfold plA;rw[O1 hj];exact Jj hj
  have e9:=d4 m l1;have e8:=d4 n l2;have k9:L2.length=T.length:=a7.o.1.trans c6.o;have a8:Hid (labA L2 (plA M A n)=labA L2 (plA M A m)->Hx T L M L2 more2 (P6 T L M A K n/\Lo T L M A K n m)):=fun e=>a7.o.imp (fun hL h=>⟨h.1,fun i h1 h2 hk ha=>by
   by_cases ei:i=m
   ·subst ei;rw[hL]at e;exact e
   exact h.2 i (by omega) h2 hk ha⟩)
  have f5:Hid (¬ Kg L2 (tmAt T (plA M A n:Nat)) (tmAt T (plA M A m:Nat))->Hx T L M L2 more2 (P6 T L M A K n/\Lo T L M A K n m)):=fun e=>a7.o.imp (fun hL h=>⟨h.1,fun i h1 h2 hk ha=>by
   by_cases ei:i=m
   ·subst ei;rw[hL]at e;exact absurd ha e
   exact h.2 i (by omega) h2 hk ha⟩)
  have Z:Hid (Kg L2 (tmAt T (plA M A n:Nat)) (tmAt T (plA M A m:Nat))->labA L2 (plA M A n)≠labA L2 (plA M A m)->Hx T L M (K9 L2 (plA M A n) (plA M A m)) true (P6 T L M A K n/\Lo T L M A K n m)):=fun ha hne=>a7.o.join e8 e9 (by have:=c8.o _ e8;have:=c6.o;omega) (by have:=c8.o _ e9;have:=c6.o;omega) ha hne _;have O:=c8.o _ e8;have i6:=c8.o _ e9;clear d4 e8 e9;generalize plA M A n=x at *;generalize plA M A m=y at *;generalize Nq K (labA A m)=ka at *;generalize Nq K (labA A n)=kb at *;generalize labA A m=am at *;generalize labA A n=an at *;have v1:=J.o.cell x;have v2:=J.o.cell y;rw[Ks (by omega)]at v1 v2;have j0:Hid (Up w0 wy):=(b9.o.trans (Y.o.mono b9.o.size)).trans (q.o.bl hg (Jm b9.o.size Y.o.size));obtain⟨G,x5,p1,k1,e1,p6,s0,s1,s2,s3,s4,s5,s6⟩:=Uo (j9.o.bl j0.o) O;obtain⟨x2,x6,p2,k2,e2,-,t0,t1,t2,t3,t4,t5,t6⟩:=Uo (j9.o.bl j0.o) i6;simp only[Value.slice.injEq,true_and]at e1;obtain⟨rfl,rfl⟩:=e1;simp only[Value.slice.injEq,true_and,Option.some.injEq,Addr.mk.injEq,and_true]at e2;obtain⟨rfl,rfl⟩:=e2;have d2:wy.cell? ⟨w.heap.size,2,none⟩=some (.slice (some ⟨G,0,none⟩) T.length ct):=(q.o.cell (p:=⟨w.heap.size,2,none⟩) (by show w.heap.size<w3.heap.size;omega) (by show w.heap.size≠g;omega)).trans (e4.o.bl e4.o.lt Y.o).c3.2.2;have z9:decide (x<T.length)=true:=Jb O;have H1:decide (y<T.length)=true:=Jb i6;have H2:decide (x<L2.length)=true:=Jb (by omega);have H4:decide (y<L2.length)=true:=Jb (by omega);have h7:L2.length=L.length:=a7.o.1;have H7:decide (x<L.length)=true:=Jb (by omega);have K0:decide (y<L.length)=true:=Jb (by omega);have i1:(x:Int)<(L.length:Int):=by omega
  have i2:(y:Int)<(L.length:Int):=by omega
  have i3:x<L.length:=by omega
  have i4:y<L.length:=by omega
  by_cases b5:labA L2 x=labA L2 y
  ·have HF:=Hd (a8.o b5);have r4:=U4 (show((labA L2 x:Nat):Int)=((labA L2 y:Nat):Int)by omega);generalize labA L2 x=lx at *;generalize labA L2 y=ly at *;clear a8 f5 Z b5 b8 s6 t6 h7 k9
   go_wp2
   go_quiet (fail)
   go_wp2_with fail
   obtain⟨wz,R⟩:=O2 (wy.drewN nq);have u1:wz.drew.cell? ⟨g,x,none⟩=some (.int .i64 ((lx:Nat):Int)):=by rw[<-R];exact v1
   have u2:wz.drew.cell? ⟨g,y,none⟩=some (.int .i64 ((ly:Nat):Int)):=by rw[<-R];exact v2
   have d7:Hid (Bar g w3 wz):=by unfold Hid;rw[<-R];exact⟨q.o.os,q.o.tape,q.o.output,q.o.size,q.o.block⟩
   have o7:Hid (Bx wz g (labV L2)):=by unfold Hid;rw[<-R];exact J.o.bl J.o.lt (No _ _)
   rw[R];clear R;refine Ph 23 rfl (S:=fun W=>W.cell? ⟨g,x,none⟩=some (.int .i64 ((lx:Nat):Int))/\W.cell? ⟨g,y,none⟩=some (.int .i64 ((ly:Nat):Int))) (by kernel_rfl) ⟨u1,u2⟩ (fun hHeld=>?_)
   iterate 22 ((first|(refine tkf 22 103 (v:=?_) rfl rfl (by kernel_rfl) (fun _ _ _ h=>h) (Or.inl ⟨by rfl,?_⟩) (by assumption) ?_;rotate_left;(intro w b3;(try dsimp only at b3);go_simp;(try with_reducible rfl)))|refine tkf 22 103 (v:=undef) rfl rfl (by kernel_rfl) (fun _ _ _ h=>h) (Or.inr ⟨by rfl,rfl⟩) (by assumption) ?_);(try simp only[Nat.reduceSub,Act.put,Ja,Je,Jf]))
   refine tk 22 103 (v:=?_) rfl rfl (by kernel_rfl) (fun _ _ _ h=>h) (Or.inl ⟨by rfl,?_⟩) (by assumption) ?_
   rotate_left
   ·(intro w b3;(try dsimp only at b3);go_simp;(try with_reducible rfl))
   try simp only[Act.put,Ja,Je,Jf]
   refine wpAnyH_done (by kernel_rfl) ?_ _
   go_wp2
   go_roundw
   case rel=>exact⟨m,L2,more2,by omega,by go_num,rfl,o7.o.drew,HF.o,d7.o.drew⟩
   simp[intOf]
  have r4:=Un (show ¬ ((labA L2 x:Nat):Int)=((labA L2 y:Nat):Int)by omega);have j4:=Hd (fun W (hW:Up wy W)=>Bs (g:=g) (L:=L2) (tmAt T (x:Nat)) (tmAt T (y:Nat)) p1 p2 k1 k2 W (J.o.bl J.o.lt hW) (by omega) (s6.bl hW) (t6.bl hW) (fun u hu=>by have:=b0.o.kids x O u hu;omega) (fun u hu=>by have:=b0.o.kids y i6 u hu;omega) (b0.o.few x O));have j1:=Hd (fun W (hW:Up wy W)=>Hm (g:=g) (L:=L2) x y W (J.o.bl J.o.lt hW) (by omega) (by omega) (by omega));have n6:=Hd (fun ha=>Z.o ha b5);rw[h7]at j4 j1;generalize tmAt T (x:Nat)=tx at *;generalize tmAt T (y:Nat)=ty at *;generalize labA L2 x=lx at *;generalize labA L2 y=ly at *;clear a8 Z b5 b8 s6 t6 h7 k9;have HS:Hid (∀W,Up wy W->W.cell? ⟨g,x,none⟩=some (.int .i64 ((lx:Nat):Int))/\W.cell? ⟨g,y,none⟩=some (.int .i64 ((ly:Nat):Int))/\W.cell? ⟨w.heap.size,2,none⟩=some (.slice (some ⟨G,0,none⟩) T.length ct)/\W.cell? ⟨G,x*6,none⟩=some (.int .i64 tx.op)/\W.cell? ⟨G,x*6+1,none⟩=some (.string (Oo tx.sort))/\W.cell? ⟨G,x*6+2,none⟩=some (.string (Oo tx.text))/\W.cell? ⟨G,x*6+3,none⟩=some (.int .i64 tx.a)/\W.cell? ⟨G,x*6+4,none⟩=some (.int .i64 tx.b)/\W.cell? ⟨G,x*6+5,none⟩=some (.slice p1 tx.kids.length k1)/\W.cell? ⟨G,y*6,none⟩=some (.int .i64 ty.op)/\W.cell? ⟨G,y*6+1,none⟩=some (.string (Oo ty.sort))/\W.cell? ⟨G,y*6+2,none⟩=some (.string (Oo ty.text))/\W.cell? ⟨G,y*6+3,none⟩=some (.int .i64 ty.a)/\W.cell? ⟨G,y*6+4,none⟩=some (.int .i64 ty.b)/\W.cell? ⟨G,y*6+5,none⟩=some (.slice p2 ty.kids.length k2)):=fun W hW=>by
   have up:∀p u,wy.cell? p=some u->W.cell? p=some u:=fun p u hp=>(hW.cell (J3 wy _ hp)).trans hp;exact⟨up _ _ v1,up _ _ v2,up _ _ d2,up _ _ s0,up _ _ s1,up _ _ s2,up _ _ s3,up _ _ s4,up _ _ s5,up _ _ t0,up _ _ t1,up _ _ t2,up _ _ t3,up _ _ t4,up _ _ t5⟩
  go_wp2
  go_quiet (fail)
  go_wp2_with fail
  obtain⟨wz,R⟩:=O2 (wy.drewN nq);have l6:Up wy wz.drew:=by rw[<-R];exact(No _ _).drew
  have d7:=Hd l6;rw[R];clear R v1 v2 d2 s0 s1 s2 s3 s4 s5 t0 t1 t2 t3 t4 t5 a1 a2 b1 b2 q1 q2;refine Ph 23 rfl (S:=fun W=>W.cell? ⟨g,x,none⟩=some (.int .i64 ((lx:Nat):Int))/\W.cell? ⟨g,y,none⟩=some (.int .i64 ((ly:Nat):Int))/\W.cell? ⟨w.heap.size,2,none⟩=some (.slice (some ⟨G,0,none⟩) T.length ct)/\W.cell? ⟨G,x*6,none⟩=some (.int .i64 tx.op)/\W.cell? ⟨G,x*6+1,none⟩=some (.string (Oo tx.sort))/\W.cell? ⟨G,x*6+2,none⟩=some (.string (Oo tx.text))/\W.cell? ⟨G,x*6+3,none⟩=some (.int .i64 tx.a)/\W.cell? ⟨G,x*6+4,none⟩=some (.int .i64 tx.b)/\W.cell? ⟨G,x*6+5,none⟩=some (.slice p1 tx.kids.length k1)/\W.cell? ⟨G,y*6,none⟩=some (.int .i64 ty.op)/\W.cell? ⟨G,y*6+1,none⟩=some (.string (Oo ty.sort))/\W.cell? ⟨G,y*6+2,none⟩=some (.string (Oo ty.text))/\W.cell? ⟨G,y*6+3,none⟩=some (.int .i64 ty.a)/\W.cell? ⟨G,y*6+4,none⟩=some (.int .i64 ty.b)/\W.cell? ⟨G,y*6+5,none⟩=some (.slice p2 ty.kids.length k2)) (by kernel_rfl) (HS.o _ l6) (fun hHeld=>?_)
  iterate 21 ((first|(refine tkf 22 103 (v:=?_) rfl rfl (by kernel_rfl) (fun _ _ _ h=>h) (Or.inl ⟨by rfl,?_⟩) (by assumption) ?_;rotate_left;(intro w b3;(try dsimp only at b3);go_simp;(try with_reducible rfl)))|refine tkf 22 103 (v:=undef) rfl rfl (by kernel_rfl) (fun _ _ _ h=>h) (Or.inr ⟨by rfl,rfl⟩) (by assumption) ?_);(try simp only[Nat.reduceSub,Act.put,Ja,Je,Jf]))
  refine wpAnyH_ready (rs:=[21]) (by kernel_rfl) (by simp) ?_;refine AllReadyH.cons rfl (fun K hK=>?_) AllReadyH.nil
  go_simp
  go_at_call 74
  refine(j4.o _ d7.o).mono ?_;rintro e w5 ⟨⟨bb,rfl,l5⟩,l3⟩;have d6:=d7.up l3;have i8:=Hd l5;have l0:=HS.o w5 d6.o;clear l3 l5
  go_wp2_with fail
  refine hK.out _ _ l0 (fun hHeld2=>?_);clear hK K
  try simp only[Nat.reduceSub,Act.put,Ja,Je,Jf]
  refine tk 22 103 (v:=?_) rfl rfl (by kernel_rfl) (fun _ _ _ h=>h) (Or.inl ⟨by rfl,?_⟩) (by assumption) ?_
  rotate_left
  ·(intro w b3;(try dsimp only at b3);go_simp;(try with_reducible rfl))
  try simp only[Act.put,Ja,Je,Jf]
  refine wpAnyH_done (by kernel_rfl) ?_ _;have o5:=Hd (J.o.bl J.o.lt d6.o);have j7:Hid (Bar g w3 w5):=q.o.trans (Bar.of d6.o);clear l0 hHeld hHeld2
  cases bb
  ·have HF:=Hd (f5.o (fun h=>by have:=i8.o.2 h;cases this))
   go_wp2
   go_roundw
   case rel=>exact⟨m,L2,more2,by omega,by go_num,rfl,o5.o,HF.o,j7.o⟩
   simp[intOf]
  have HF:=Hd (n6.o (i8.o.1 rfl))
  go_wp2_with fail
  refine(j1.o w5 d6.o).mono ?_;rintro e w6 ⟨rfl,m7,l4⟩;have o6:=Hd m7;have n9:=Hd (j7.o.trans l4);clear m7 l4
  go_wp2
  go_roundw
  case rel=>exact⟨m,_,true,by omega,by go_num,rfl,o6.o,HF.o,n9.o⟩
  simp[intOf]
 have z3:decide ((n:Int)<(M.length:Int))=false:=Jd (by omega);have z4:decide (n<M.length)=false:=Jd E;have f1:Hid (L1.length=L.length/\IF T M L L1 more):=by
  obtain⟨h1,h2,h3,h4⟩:=g9.o;refine⟨h1,h2,h3,fun e=>⟨(h4 e).1,KQ g8.o ?_⟩⟩;have h5:=(h4 e).2;rw[show n=M.length by omega,<-n7.o]at h5;exact h5
 have n4:Hid (Bar g w wx):=(Bar.of (n0.o.trans (Y.o.mono (by omega)))).trans g4.o
 go_wp2
 go_ret
 exact⟨L1,more,rfl,h0.o,f1.o.1,f1.o.2,n4.o⟩
def Nd(P:Prop)(e:Ending):Prop:=∃b:Bool,e=.returned (.bool b)/\(b=true↔P)
theorem Nd.no{P:Prop}(h:¬ P):Nd P (.returned (.bool false)):=⟨false,rfl,by simp[h]⟩
theorem Nd.yes{P:Prop}(h:P):Nd P (.returned (.bool true)):=⟨true,rfl,by simp[h]⟩
def D0(T:List Tm)(f:Int×Bool):Prop:=0<=f.1/\f.1<(T.length:Int)/\(tmAt T f.1).sort=Ok
def Nn(T:List Tm)(Fs:List (Int×Bool)):Prop:=Fs.length<=300/\∀f∈Fs,D0 T f
theorem Bt{vs vf vt vk:Value}{S:List (List UInt8)}{F:List Fn}{Fs:List (Int×Bool)}(h:BankAt w vs vf vt S F T)(hk:FactsAt w vk Fs)(_hn:T.length<=3000) :
 Calls prog 16 #[.agg #[vs,vf,vt],vk] w fun e w'=>Nd (Nn T Fs) e/\Up w w':=by
 obtain⟨W0,J⟩:=O2 (w.alloc (.cells #[vs,vf,vt] 27));have O:Up w W0:=by rw[<-J];exact Oy _ _
 have b5:Bx W0 w.heap.size [vs,vf,vt]:=by rw[<-J];exact Oq w _ _
 have b4:=Hd J;have Y:=Hd O;have b0:=Hd b5;have HT:=Hd (h.t.bl O);have HF:=Hd (hk.bl O);obtain⟨ps,cs,rfl,-,-,-⟩:=h.s;obtain⟨pf,cf,rfl,-,-,-⟩:=h.f;obtain⟨pt,ct,rfl,-,-,-⟩:=h.t;obtain⟨pk,ck,rfl,g4,d8,-⟩:=hk;clear h J O b5;unfold maxLen at d8
 by_cases R:300<Fs.length
 ·have z1:decide ((300:Int)<(Fs.length:Int))=true:=Jb (by omega);have z2:decide (300<Fs.length)=true:=Jb R;have HN:Hid (¬ Nn T Fs):=fun h=>by have:=h.1;omega
  go_in
  go_upto_region 1 with fail
  rw[b4.o]
  go_wp2
  go_ret
  exact⟨Nd.no HN.o,Y.o⟩
 have z1:decide ((300:Int)<(Fs.length:Int))=false:=Jd (by omega);have z2:decide (300<Fs.length)=false:=Jd R
 go_in
 go_upto_region 1 with fail
 rw[b4.o]
 go_wp2
 go_loopw [6,12] (fun _ iv wr=>∃(i:Nat),i<=Fs.length/\iv=.int .i64 (i:Nat)/\(∀j (h:j<Fs.length),j<i->D0 T Fs[j])/\Up W0 wr) (fun _ iv _=>Fs.length - (intOf iv).toNat)
 case atStart=>exact⟨0,Jp _,rfl,fun j _ h=>absurd h (Jz _),Ji _ _⟩
 rename World=>wr
 obtain⟨i,hi,rfl,b1,V⟩:=hrel;have b3:=Hd b1;have HB:=Hd V;have Z:=Hd (Y.o.trans (V.mono Y.o.size))
 by_cases q:i<Fs.length
 ·have z3:decide ((i:Int)<(Fs.length:Int))=true:=Jb (by omega);have z4:decide (i<Fs.length)=true:=Jb q;obtain⟨bk,rfl,q0,q1⟩:∃b,pk=some ⟨b,0,none⟩/\wr.cell? ⟨b,i*2,none⟩=some (.int .i64 Fs[i].1)/\wr.cell? ⟨b,i*2+1,none⟩=some (.bool Fs[i].2):=by
   obtain⟨p',c',e,-,-,h3⟩:=HF.o.bl V;simp only[Value.slice.injEq,true_and]at e;obtain⟨rfl,rfl⟩:=e
   rcases h3 with h3|⟨b',e,_,h5⟩
   ·rw[h3]at q;exact absurd q (Jz _)
   exact⟨b',e,h5 i q⟩
  have b9:Hid (D0 T Fs[i]->∀j (h:j<Fs.length),j<i+1->D0 T Fs[j]):=fun hf j h hj=>by
   by_cases e:j=i
   ·subst e;exact hf
   exact b3.o j h (by omega)
  have a8:Hid (¬ D0 T Fs[i]->¬ Nn T Fs):=fun hf h=>hf (h.2 _ (Jj q));obtain⟨d0,d1,d2⟩:=(b0.o.bl b0.o.lt V).c3;have c8:=Hd (HT.o.bl V);have d9:w.heap.size<wr.heap.size:=Jn b0.o.lt V.size;generalize Fs[i]=f at *;obtain⟨G,fo⟩:=f;simp only at q0 q1;obtain⟨W1,K⟩:=O2 (wr.alloc (.cells #[.int .i64 G,.bool fo] 36));have E:Up wr W1:=by rw[<-K];exact Oy _ _
  have b6:Bx W1 wr.heap.size [.int .i64 G,.bool fo]:=by rw[<-K];exact Oq wr _ _
  have d3:=Hd K;have b8:=Hd (HB.o.trans (E.mono HB.o.size));have a1:=Hd (Z.o.trans (E.mono Z.o.size));obtain⟨y0,y1⟩:=b6.c2;have e2:W1.cell? ⟨w.heap.size,2,none⟩=some (.slice pt T.length ct):=(E.cell (p:=⟨w.heap.size,2,none⟩) d9).trans d2;have c6:=Hd (c8.o.bl E);clear b1 V K E b6
  go_upto_region 6 with fail
  rw[d3.o];clear q0 q1 d0 d1 d2
  by_cases f1:G<0
  ·have z5:decide (G<0)=true:=Jb f1;have HN:=Hd (a8.o (fun h=>by have:=h.1;simp only at this;omega))
   go_wp2
   go_ret
   exact⟨Nd.no HN.o,a1.o⟩
  have z5:decide (G<0)=false:=Jd f1
  by_cases f2:(T.length:Int)<=G
  ·have z6:decide ((T.length:Int)<=G)=true:=Jb f2;have HN:=Hd (a8.o (fun h=>by have:=h.2.1;simp only at this;omega))
   go_wp2
   go_ret
   exact⟨Nd.no HN.o,a1.o⟩
  obtain⟨x,rfl⟩:∃x:Nat,G=(x:Int):=⟨G.toNat,by omega⟩;have b7:x<T.length:=by omega
  have z6:decide ((T.length:Int)<=(x:Int))=false:=Jd f2;have z7:decide (T.length<=x)=false:=Jd (by omega);have z8:decide (x<T.length)=true:=Jb b7;obtain⟨bt,f9,p1,k1,e1,g3,s0,s1,s2,s3,s4,s5,s6⟩:=Uo c6.o b7;simp only[Value.slice.injEq,true_and]at e1;obtain⟨rfl,rfl⟩:=e1;clear f1 f2 s6
  rcases Uz (tmAt T (x:Nat)).sort Ok with⟨f3,z9⟩|⟨f3,z9⟩
  ·have HA:=Hd (b9.o ⟨by simp,by simp;omega,f3⟩);have b2:((Oo (tmAt T (x:Nat)).sort).toList==[66,111,111,108])=true:=z9;generalize (tmAt T (x:Nat)).sort=so at s1 b2;clear f3 z9
   go_wp2
   go_roundw
   case rel=>exact⟨i+1,by omega,by go_num,HA.o,b8.o⟩
   simp[intOf];omega
  have HN:=Hd (a8.o (fun h=>f3 h.2.2));have b2:((Oo (tmAt T (x:Nat)).sort).toList==[66,111,111,108])=false:=z9;generalize (tmAt T (x:Nat)).sort=so at s1 b2;clear f3 z9
  go_wp2
  go_ret
  exact⟨Nd.no HN.o,a1.o⟩
 have z3:decide ((i:Int)<(Fs.length:Int))=false:=Jd (by omega);have z4:decide (i<Fs.length)=false:=Jd q;have HY:Hid (Nn T Fs):=⟨by omega,fun f hf=>by
  obtain⟨j,hj,rfl⟩:=Ya hf;exact b3.o j hj (by omega)⟩
 clear b1 V
 go_wp2
 go_ret
 exact⟨Nd.yes HY.o,Z.o⟩
end Go.Proofs.YtfkagjelljnpdaaGreatDoor
namespace Go.Proofs.YtfkagjelljnpdaaGreatDoor
open ChangeShapes WideShapes ChangeAt RowKit
variable {L M:List Nat}{T:List Tm}
def CM(T:List Tm)(M:List Nat)(B R:Nat->Nat->Prop):Prop:=(∀i,R i i)/\(∀i j,R i j->R j i)/\(∀i j k,R i j->R j k->R i k)/\(∀i j,B i j->R i j)/\∀x∈M,∀y∈M,XS (tmAt T (x:Nat)) (tmAt T (y:Nat))->(∀i,i<(tmAt T (x:Nat)).kids.length->R (O9 (tmAt T (x:Nat)) i) (O9 (tmAt T (y:Nat)) i))->R x y
def Ky(T:List Tm)(M:List Nat)(B:Nat->Nat->Prop)(i j:Nat):Prop:=∀R,CM T M B R->R i j
theorem Ky.cong(T:List Tm)(M:List Nat)(B:Nat->Nat->Prop):CM T M B (Ky T M B):=by
 refine⟨fun i R h=>h.1 i,fun i j hij R h=>h.2.1 _ _ (hij R h),fun i j k h1 h2 R h=>h.2.2.1 _ _ _ (h1 R h) (h2 R h),fun i j hB R h=>h.2.2.2.1 _ _ hB,fun x hx y hy hh hk R h=>h.2.2.2.2 x hx y hy hh (fun i hi=>hk i hi R h)⟩
structure LabOk(T:List Tm)(M:List Nat)(B:Nat->Nat->Prop)(L:List Nat):Prop where
 len:L.length=T.length
 le:∀i,i<L.length->labA L i<=i
 idem:∀i,i<L.length->labA L (labA L i)=labA L i
 sound:∀i j,i<L.length->j<L.length->labA L i=labA L j->Ky T M B i j
theorem Ua{n i:Nat}(h:i<n):labA (List.range n) i=i:=by rw[O1 (by simpa using h)];simp
theorem LabOk.range(T:List Tm)(M:List Nat)(B:Nat->Nat->Prop):LabOk T M B (List.range T.length):=by
 refine⟨by simp,fun i hi=>?_,fun i hi=>?_,fun i j hi hj e=>?_⟩
 ·rw[Ua (by simpa using hi)];exact leR
 ·have h:labA (List.range T.length) i=i:=Ua (by simpa using hi);rw[h,h]
 rw[Ua (by simpa using hi),Ua (by simpa using hj)]at e;subst e;exact(Ky.cong T M B).1 i
theorem LabOk.join{B:Nat->Nat->Prop}(h:LabOk T M B L){x y:Nat}(hx:x<L.length)(hy:y<L.length)(hc:Ky T M B x y):LabOk T M B (K9 L x y):=by
 have C:=Ky.cong T M B
 by_cases e:labA L x=labA L y
 ·have:K9 L x y=L:=if_pos e;rw[this];exact h
 have at':∀i,i<L.length->labA (K9 L x y) i=if labA L i=max (labA L x) (labA L y)then min (labA L x) (labA L y)else labA L i:=fun i hi=>by rw[Xd hi,if_neg e]
 have lx:=h.le x hx;have ly:=h.le y hy;have Y:=h.idem x hx;have Z:=h.idem y hy;have G:min (labA L x) (labA L y)<L.length:=by omega
 have E:labA L (min (labA L x) (labA L y))=min (labA L x) (labA L y):=by
  rcases Nat.le_total (labA L x) (labA L y)with g|g
  ·rw[Yw g];exact Y
  rw[Z3 g];exact Z
 have K:Ky T M B (labA L x) x:=h.sound _ _ (by omega) hx Y;have O:Ky T M B (labA L y) y:=h.sound _ _ (by omega) hy Z;have R:Ky T M B (max (labA L x) (labA L y)) (min (labA L x) (labA L y)):=by
  have J:Ky T M B (labA L x) (labA L y):=C.2.2.1 _ _ _ (C.2.2.1 _ _ _ K hc) (C.2.1 _ _ O)
  rcases Nat.le_total (labA L x) (labA L y)with g|g
  ·rw[Nat.max_eq_right g,Yw g];exact C.2.1 _ _ J
  rw[Nat.max_eq_left g,Z3 g];exact J
 have own:∀i,i<L.length->Ky T M B i (labA (K9 L x y) i):=fun i hi=>by
  have q:Ky T M B i (labA L i):=C.2.1 _ _ (h.sound _ _ (by have:=h.le i hi;omega) hi (h.idem i hi));rw[at' i hi]
  split
  ·rename_i g;rw[g]at q;exact C.2.2.1 _ _ _ q R
  exact q
 refine⟨by rw[Ik];exact h.len,fun i hi=>?_,fun i hi=>?_,fun i j hi hj g=>?_⟩
 ·rw[Ik]at hi;have:=h.le i hi;rw[at' i hi]
  split<;>omega
 ·rw[Ik]at hi;have a7:=h.le i hi;rw[at' i hi]
  split
  ·rw[at' _ G,E,if_neg (by omega)]
  rename_i g;rw[at' _ (by omega),h.idem i hi,if_neg g]
 rw[Ik]at hi hj;have h1:=own i hi;have V:=own j hj;rw[<-g]at V;exact C.2.2.1 _ _ _ h1 (C.2.1 _ _ V)
def Eg(T:List Tm)(M:List Nat)(B:Nat->Nat->Prop)(L:List Nat):Prop:=L.length=T.length/\∀i,i<T.length->labA L i<T.length/\Ky T M B i (labA L i)/\∀j,j<T.length->Ky T M B i j->labA L i<=j
theorem Eg.eq{B:Nat->Nat->Prop}{L':List Nat}(h:Eg T M B L)(h':Eg T M B L'):L=L':=by
 refine Vi (h.1.trans h'.1.symm) fun i hi hi'=>?_;have E:i<T.length:=by have:=h.1;omega
 obtain⟨G,a2,a3⟩:=h.2 i E;obtain⟨J,K,O⟩:=h'.2 i E;have j:=a3 _ J K;have q:=O _ G a2;rw[O1 hi]at j q;rw[O1 hi']at j q;omega
theorem Tg{B:Nat->Nat->Prop}(h:LabOk T M B L)(hB:∀i j,B i j->i<T.length/\j<T.length/\labA L i=labA L j)(hc:Q3 T M L)(hM:∀x∈M,x<T.length):Eg T M B L:=by
 have G:∀i j,Ky T M B i j->i=j∨(i<T.length/\j<T.length/\labA L i=labA L j):=fun i j hij=>by
  refine hij (fun i j=>i=j∨(i<T.length/\j<T.length/\labA L i=labA L j)) ⟨fun i=>.inl rfl,?_,?_,fun i j hb=>.inr (hB i j hb),?_⟩
  ·rintro i j (rfl|⟨a,b,c⟩)
   ·exact .inl rfl
   exact .inr ⟨b,a,c.symm⟩
  ·rintro i j k (rfl|⟨a,b,c⟩) (rfl|⟨R,J,K⟩)
   ·exact .inl rfl
   ·exact .inr ⟨R,J,K⟩
   ·exact .inr ⟨a,b,c⟩
   exact .inr ⟨a,J,c.trans K⟩
  intro x hx y O hh q;refine .inr ⟨hM x hx,hM y O,hc x hx y O ⟨hh,fun i hi=>?_⟩⟩
  rcases q i hi with e|⟨_,_,e⟩
  ·rw[e]
  exact e
 refine⟨h.len,fun i hi=>?_⟩;have hl:=h.len;have E:=h.le i (by omega);refine⟨by omega,(Ky.cong T M B).2.1 _ _ (h.sound _ _ (by omega) (by omega) (h.idem i (by omega))),fun j hj hij=>?_⟩
 rcases G i j hij with e|⟨_,_,e⟩
 ·subst e;exact E
 rw[e];exact h.le j (by omega)
end Go.Proofs.YtfkagjelljnpdaaGreatDoor
namespace Go.Proofs.YtfkagjelljnpdaaGreatDoor
open ChangeShapes WideShapes ChangeAt RowKit Proofs.Tryz
def U5(op:Int):Bool:=decide (3<=op/\op<=10)
theorem Bw(op:Int)(w:World):Calls prog 41 #[.int .i64 op] w fun e w'=>e=.returned (.bool (U5 op))/\w'=w:=by
 by_cases j:3<=op
 ·have E:decide (3<=op)=true:=Jb j
  by_cases q:op<=10
  ·have z2:decide (op<=10)=true:=Jb q;have G:Hid (U5 op=true):=Jb ⟨j,q⟩
   go_in
   go_wp2
   go_ret
   exact⟨Oz G.o.symm,rfl⟩
  have z2:decide (op<=10)=false:=Jd q;have G:Hid (U5 op=false):=Jd (fun h=>q h.2)
  go_in
  go_wp2
  go_ret
  exact⟨Oz G.o.symm,rfl⟩
 have E:decide (3<=op)=false:=Jd j;have G:Hid (U5 op=false):=Jd (fun h=>j h.1)
 go_in
 go_wp2
 go_ret
 exact⟨Oz G.o.symm,rfl⟩
def Ri(t:Tm):Bool:=decide (0<t.kids.length)&&!U5 t.op
def madeL(T:List Tm)(n:Nat):List Nat:=(List.range n).filter (fun i=>Ri (tmAt T (i:Nat)))
theorem YJ(T:List Tm)(n:Nat):madeL T (n+1)=if Ri (tmAt T (n:Nat))=true then madeL T n++[n]else madeL T n:=by
 unfold madeL;rw[Yv,List.filter_append]
 split
 ·rename_i h;simp[h]
 rename_i h;simp[h]
theorem Xf{T:List Tm}{n x:Nat}(h:x∈madeL T n):x<n:=Yg.1 (List.mem_filter.1 h).1
theorem Mp(T:List Tm)(n:Nat):(madeL T n).length<=n:=by
 have:=List.length_filter_le (fun i=>Ri (tmAt T (i:Nat))) (List.range n);rw[List.length_range]at this;exact this
end Go.Proofs.YtfkagjelljnpdaaGreatDoor
namespace Go.Proofs.YtfkagjelljnpdaaGreatDoor
open ChangeShapes WideShapes ChangeAt RowKit
variable {L M:List Nat}{T:List Tm}{i:Nat}
def Gy(T:List Tm)(f:Int×Bool)(a b:Nat):Prop:=(f.2=true/\(tmAt T f.1).op=9/\a=O9 (tmAt T f.1) 0/\b=O9 (tmAt T f.1) 1)∨(f.2=true/\0<=Kf T 1/\a=f.1.toNat/\b=(Kf T 1).toNat)∨(f.2=false/\0<=Kf T 2/\a=f.1.toNat/\b=(Kf T 2).toNat)
def G5(T:List Tm)(Fs:List (Int×Bool))(a b:Nat):Prop:=∃f∈Fs,Gy T f a b
def Ny(T:List Tm)(Fs:List (Int×Bool))(i a b:Nat):Prop:=∃j,∃h:j<Fs.length,j<i/\Gy T Fs[j] a b
structure FactL(T:List Tm)(M:List Nat)(B Q:Nat->Nat->Prop)(L:List Nat):Prop where
 ok:LabOk T M B L
 eqs:∀a b,Q a b->a<T.length/\b<T.length/\labA L a=labA L b
theorem FactL.imp{B Q Q':Nat->Nat->Prop}(h:FactL T M B Q L)(hq:∀a b,Q' a b->Q a b):FactL T M B Q' L:=⟨h.ok,fun a b hab=>h.eqs a b (hq a b hab)⟩
theorem FactL.join{B Q:Nat->Nat->Prop}(h:FactL T M B Q L){x y:Nat}(hx:x<T.length)(hy:y<T.length)(hc:Ky T M B x y):FactL T M B (fun a b=>Q a b∨(a=x/\b=y)) (K9 L x y):=by
 have hl:=h.ok.len;refine⟨h.ok.join (by omega) (by omega) hc,?_⟩;rintro a b (j|⟨rfl,rfl⟩)
 ·obtain⟨q,E,G⟩:=h.eqs a b j;exact⟨q,E,YG (by omega) (by omega) G⟩
 exact⟨hx,hy,ES (by omega) (by omega)⟩
theorem Ny.one{Fs:List (Int×Bool)}(hi:i<Fs.length){a b:Nat}(h:Ny T Fs (i+1) a b):Ny T Fs i a b∨Gy T Fs[i] a b:=by
 obtain⟨j,q,E,hp⟩:=h
 by_cases e:j=i
 ·subst e;exact .inr hp
 exact .inl ⟨j,q,by omega,hp⟩
theorem Ny.all{Fs:List (Int×Bool)}{a b:Nat}(h:G5 T Fs a b):Ny T Fs Fs.length a b:=by
 obtain⟨f,E,hp⟩:=h;obtain⟨j,q,rfl⟩:=Ya E;exact⟨j,q,q,hp⟩
theorem Ky.base{B:Nat->Nat->Prop}{j:Nat}(h:B i j):Ky T M B i j:=(Ky.cong T M B).2.2.2.1 _ _ h
theorem Kr(hT:TmK T){x:Nat}(hx:x<T.length)(hi:i<(tmAt T (x:Nat)).kids.length):O9 (tmAt T (x:Nat)) i<T.length:=by
 have:=hT.kids x hx ((tmAt T (x:Nat)).kids[i]) (Jj hi);unfold O9;rw[J6,Jg hi];exact this.2
theorem Ky.alike{B:Nat->Nat->Prop}(hT:TmK T)(hM:∀x∈M,x<T.length)(h:LabOk T M B L){x y:Nat}(hx:x∈M)(hy:y∈M)(ha:Kg L (tmAt T (x:Nat)) (tmAt T (y:Nat))):Ky T M B x y:=by
 have hl:=h.len;refine(Ky.cong T M B).2.2.2.2 x hx y hy ha.1 fun i hi=>?_;have j:=Kr hT (hM x hx) hi;have q:=Kr hT (hM y hy) (i:=i) (by have:=ha.1.2.2.2.2.2;omega);exact h.sound _ _ (by omega) (by omega) (ha.2 i hi)
theorem FactL.steps{L':List Nat}{B Q:Nat->Nat->Prop}(hT:TmK T)(hM:∀x∈M,x<T.length)(h:FactL T M B Q L)(hs:Ge T M L L'):FactL T M B Q L':=
 hs (FactL T M B Q) (fun _ x y h1 hx hy ha=>(h1.join (hM x hx) (hM y hy) (Ky.alike hT hM h1.ok hx hy ha)).imp (fun _ _ h=>.inl h)) h
theorem FactL.least{B:Nat->Nat->Prop}(h:FactL T M B B L)(hM:∀x∈M,x<T.length)(hc:Q3 T M L):Eg T M B L:=Tg h.ok h.eqs hc hM
theorem Xx{op:Int}(h:0<=Kf T op):∃y:Nat,Kf T op=(y:Int)/\y<T.length:=by
 unfold Kf at h ⊢
 cases e:L7 T op with
 | none=>rw[e]at h;simp at h
 | some i=>exact⟨i,rfl,(J9.1 e).1⟩
def labSum(w:World)(g:Nat):Nat:=match w.heap[g]? with|some (.cells a _ _)=>(a.toList.map (fun v=>(intOf v).toNat)).sum|_=>0
theorem Bx.labSum{w:World}{g:Nat}(h:Bx w g (labV L)):labSum w g=L.sum:=by
 obtain⟨ty,e⟩:=h;unfold Go.Proofs.YtfkagjelljnpdaaGreatDoor.labSum;rw[e];simp[labV,intOf,Function.comp_def]
end Go.Proofs.YtfkagjelljnpdaaGreatDoor
namespace Go.Proofs.YtfkagjelljnpdaaGreatDoor
open ChangeShapes WideShapes ChangeAt RowKit Proofs.Tryz
def BY(v:Value):Nat:=match v with|.bool true=>1|_=>0
def LE(T:List Tm):Prop:=∀i,i<T.length->(tmAt T (i:Nat)).op=9->2<=(tmAt T (i:Nat)).kids.length
theorem Cx{vs vf vt vk:Value}{S:List (List UInt8)}{F:List Fn}{T:List Tm}{Fs:List (Int×Bool)}(w:World)(h:BankAt w vs vf vt S F T)(hk:FactsAt w vk Fs)(hn:T.length<=3000)(hT:TmK T)(hE:LE T)(hF:Nn T Fs) :
 Calls prog 17 #[.agg #[vs,vf,vt],vk] w fun e w'=>∃g L,e=.returned (.slice (some ⟨g,0,none⟩) T.length T.length)/\w.heap.size<=g/\Bx w' g (labV L)/\Eg T (madeL T T.length) (G5 T Fs) L/\Up w w':=by
 obtain⟨W0,h0⟩:=O2 (w.alloc (.cells #[vs,vf,vt] 27));have h8:Up w W0:=by rw[<-h0];exact Oy _ _
 have j3:Bx W0 w.heap.size [vs,vf,vt]:=by rw[<-h0];exact Oq w _ _
 have y3:=Hd h0;have Z:=Hd h8;have b5:=Hd j3;have d9:=Hd h;have y2:=Hd (h.t.bl h8);have u8:=Hd (hk.bl h8);have l5:=Hd hT;have u5:=Hd hE;have u9:=Hd hF;have r5:w.heap.size<W0.heap.size:=j3.lt;obtain⟨ps,cs,rfl,-,-,-⟩:=h.s;obtain⟨pf,cf,rfl,-,-,-⟩:=h.f;obtain⟨pt,ct,rfl,-,-,-⟩:=h.t;obtain⟨pk,ck,rfl,V2,W3,-⟩:=hk;have T9:Fs.length<=300:=hF.1;obtain⟨c0,c1,c2⟩:=j3.c3;obtain⟨i0,r3,F2,H0,H1⟩:=Iv;obtain⟨B,hB⟩:=O2 (G5 T Fs);obtain⟨M,hM⟩:=O2 (madeL T T.length);have o6:=Hd hB;have x5:=Hd hM;rw[hB,hM];have k9:Hid (∀x∈M,x<T.length):=fun x hx=>by rw[<-hM]at hx;exact Xf hx
 have x4:Hid (M.length<=3000):=by unfold Hid;rw[<-hM];exact Jm (Mp _ _) hn
 clear h hT hE hF h0 h8 j3 hB hM
 go_in
 go_upto_region 1 with fail
 rw[y3.o]
 go_wp2_with (at_make;refine wpList_make_full _ rfl _ _ 31 rfl W0.heap.size 3 i0 (.int .i64 0) 1 underlying31 r3 F2 H0 .i64 .i64 _ _ T.length rfl rfl (by simp) (by simp) (by rw[H1];omega) (by unfold maxLen;omega) leR ?_)
 intro w1 f9 q7;have b6:Hid (Up W0 w1):=(Ji _ _).grown q7 leR (fun k e=>by cases e);have x7:=Hd f9;clear f9 q7 c0 c1 c2
 go_wp2
 go_loopw [6,21] (fun _ iv wr=>∃(i:Nat) (xs:List Value),i<=T.length/\iv=.int .i64 (i:Nat)/\(∀j,j<i->xs[j]? = some (.int .i64 (j:Nat)))/\wr.ownsRow W0.heap.size 3 1 (.slice (some ⟨W0.heap.size,0,none⟩) T.length T.length) T.length xs/\Up W0 wr) (fun _ iv _=>T.length - (intOf iv).toNat)
 case atStart=>exact⟨0,_,Jp _,rfl,fun j h=>absurd h (Jz _),x7.o,b6.o⟩
 rename World=>wr
 obtain⟨i,xs,hi,rfl,c8,V,hB⟩:=hrel;have HB:=Hd hB;have k7:=Hd c8;have HO:=Hd V;have b1:Hid (xs.length=T.length):=by have:=V.1;unfold Hid;omega
 by_cases q:i<T.length
 ·have z1:decide ((i:Int)<(T.length:Int))=true:=Jb (by omega);have z2:decide (i<T.length)=true:=Jb q;obtain⟨u0,e0⟩:=ZF V i (by omega);have g0:=V.frozenAt i;have y4:=Hd (V.stored i (.int .i64 (i:Nat))).1;clear c8 V hB
  go_wp2
  go_roundw
  case rel=>
   refine⟨i+1,_,by omega,by go_num,?_,y4.o,HB.o.sc⟩;intro j hj
   by_cases e:j=i
   ·subst e;rw[Vk (by have:=b1.o;omega)]
   rw[Zg (by omega)];exact k7.o j (by omega)
  simp[intOf];omega
 have z1:decide ((i:Int)<(T.length:Int))=false:=Jd (by omega);have z2:decide (i<T.length)=false:=Jd q;obtain⟨g,hg⟩:=O2 W0.heap.size;have k0:Hid (Bx wr g (labV (List.range T.length))):=by
  unfold Hid;have e:xs=labV (List.range T.length):=by
   refine List.ext_getElem? fun j=>?_
   by_cases hj:j<T.length
   ·rw[k7.o j (by omega),Ks (by simpa using hj),Ua hj]
   rw[Zd.2 (by have:=b1.o;omega),Zd.2 (by simp[labV];omega)]
  rw[<-e,<-hg];exact B9 HO.o
 have U2:w.heap.size<g:=by omega
 have HG:=Hd hg;clear c8 V hi q HO b1 k7;rw[hg];obtain⟨d0,d1,d2⟩:=(b5.o.bl b5.o.lt hB).c3;have b8:=Hd (Z.o.trans (hB.mono Z.o.size));have o7:=Hd (Ps 1 (d9.o.bl (Z.o.trans (hB.mono Z.o.size))) hn);clear hB
 go_wp2_with fail
 refine o7.o.mono ?_;rintro e w2 ⟨rfl,hb2⟩;have l6:=Hd (b8.o.trans (hb2.mono b8.o.size));have b0:=Hd (HB.o.trans (hb2.mono HB.o.size));have e5:=Hd (k0.o.bl k0.o.lt hb2);have j7:=Hd (Ps 2 (d9.o.bl (b8.o.trans (hb2.mono b8.o.size))) hn);clear d0 d1 d2 o7 hb2;obtain⟨d0,d1,d2⟩:=(b5.o.bl b5.o.lt b0.o).c3
 go_wp2_with fail
 refine j7.o.mono ?_;rintro e w3 ⟨rfl,m6⟩;have o4:=Hd (b0.o.trans (m6.mono b0.o.size));have j6:=Hd (e5.o.bl e5.o.lt m6);clear d0 d1 d2 j7 m6 k0 e5 b0 b8 l6;obtain⟨yv,n9⟩:∃y,Kf T 1=y:=⟨_,rfl⟩;obtain⟨nv,n0⟩:∃y,Kf T 2=y:=⟨_,rfl⟩;have l7:=Hd n9;have l0:=Hd n0;rw[n9,n0];clear n9 n0;have p5:Hid (FactL T M B (Ny T Fs 0) (List.range T.length)):=⟨LabOk.range T M B,fun a b h=>by obtain⟨j,_,hj,_⟩:=h;exact absurd hj (Jz _)⟩
 go_wp2
 go_loopw [10,11,35] (fun _ _ iv wx=>∃(i:Nat) (L:List Nat),i<=Fs.length/\iv=.int .i64 (i:Nat)/\Bx wx g (labV L)/\FactL T M B (Ny T Fs i) L/\Up W0 wx) (fun _ _ iv _=>Fs.length - (intOf iv).toNat)
 case atStart=>exact⟨0,_,Jp _,rfl,j6.o,p5.o,o4.o⟩
 clear j6 p5 o4
 rename World=>wx
 obtain⟨i,L,hi,rfl,hx,i1,hB⟩:=hrel;have HB:=Hd hB;have HX:=Hd hx;have d6:=Hd i1;have b7:=Hd i1.ok.len
 by_cases q:i<Fs.length
 ·have z3:decide ((i:Int)<(Fs.length:Int))=true:=Jb (by omega);have z4:decide (i<Fs.length)=true:=Jb q;obtain⟨bk,rfl,q0,q1⟩:∃b,pk=some ⟨b,0,none⟩/\wx.cell? ⟨b,i*2,none⟩=some (.int .i64 Fs[i].1)/\wx.cell? ⟨b,i*2+1,none⟩=some (.bool Fs[i].2):=by
   obtain⟨p',c',e,-,-,h3⟩:=u8.o.bl hB;simp only[Value.slice.injEq,true_and]at e;obtain⟨rfl,rfl⟩:=e
   rcases h3 with h3|⟨b',e,_,h5⟩
   ·rw[h3]at q;exact absurd q (Jz _)
   exact⟨b',e,h5 i q⟩
  have m8:=u9.o.2 _ (Jj q);have g7:Hid (∀a b,Ny T Fs (i+1) a b->Ny T Fs i a b∨Gy T Fs[i] a b):=fun a b h=>Ny.one q h;have l3:Hid (∀a b,Gy T Fs[i] a b->Ky T M B a b):=fun a b h=>Ky.base (by rw[<-o6.o];exact⟨_,Jj q,h⟩);obtain⟨x,J⟩:∃x:Nat,Fs[i].1=(x:Int):=⟨Fs[i].1.toNat,by have:=m8.1;omega⟩;obtain⟨fo,n7⟩:∃o,Fs[i].2=o:=⟨_,rfl⟩;have b3:x<T.length:=by have:=m8.2.1;omega
  have HP:Hid (∀a b,Gy T Fs[i] a b↔((fo=true/\(tmAt T (x:Nat)).op=9/\a=O9 (tmAt T (x:Nat)) 0/\b=O9 (tmAt T (x:Nat)) 1)∨(fo=true/\0<=yv/\a=x/\b=yv.toNat)∨(fo=false/\0<=nv/\a=x/\b=nv.toNat))):=fun a b=>by
   unfold Gy;rw[J,n7,l7.o,l0.o,Y7]
  rw[J]at q0;rw[n7]at q1;have i8:w.heap.size<wx.heap.size:=Jn r5 hB.size;have m9:g<wx.heap.size:=hx.lt;obtain⟨W1,h4⟩:=O2 (wx.alloc (.cells #[.int .i64 (x:Nat),.bool fo] 36));have E:Up wx W1:=by rw[<-h4];exact Oy _ _
  have d5:Bx W1 wx.heap.size [.int .i64 (x:Nat),.bool fo]:=by rw[<-h4];exact Oq wx _ _
  have b8:=Hd h4;have b6:=Hd (HB.o.trans (E.mono HB.o.size));have p8:=Hd d5;obtain⟨y0,y1⟩:=d5.c2;have d2:=((b5.o.bl b5.o.lt b6.o).c3).2.2;have z5:decide (x<T.length)=true:=Jb b3;have z6:decide ((x:Int)<(T.length:Int))=true:=Jb (by omega);obtain⟨bt,y8,p1,k1,e,A2,s0,s1,s2,s3,s4,s5,s6⟩:=Uo (y2.o.bl b6.o) b3;simp only[Value.slice.injEq,true_and]at e;obtain⟨rfl,rfl⟩:=e;obtain⟨T5,T6,p2,k2,e2,j8,-,-,-,-,-,v5,v6⟩:=Uo d9.o.t b3;simp only[Value.slice.injEq,true_and,Option.some.injEq,Addr.mk.injEq,and_true]at e2;obtain⟨rfl,rfl⟩:=e2;have e3:=s5.symm.trans (((Z.o.trans (b6.o.mono Z.o.size)).cell (p:=⟨bt,x*6+5,none⟩) j8).trans v5);simp only[Option.some.injEq,Value.slice.injEq,true_and]at e3;obtain⟨rfl,rfl⟩:=e3;clear v5 s6 j8;have u2:=Hd (u5.o x b3);have p0:=Hd (l5.o.kids x b3);have o9:=Hd v6;generalize tmAt T (x:Nat)=t at *;have r4:wx.heap.size<W1.heap.size:=d5.lt;obtain⟨W2,h7⟩:=O2 (W1.alloc (.cells #[.int .i64 t.op,.string (Oo t.sort),.string (Oo t.text),.int .i64 t.a,.int .i64 t.b,.slice p1 t.kids.length k1] 38));have hb2:Up W1 W2:=by rw[<-h7];exact Oy _ _
  have g1:Bx W2 W1.heap.size [.int .i64 t.op,.string (Oo t.sort),.string (Oo t.text),.int .i64 t.a,.int .i64 t.b,.slice p1 t.kids.length k1]:=by rw[<-h7];exact Oq W1 _ _
  have l6:=Hd h7;have b0:=Hd (b6.o.trans (hb2.mono b6.o.size));have p9:=Hd g1;have b1:=Hd ((HX.o.bl HX.o.lt E).bl (Nat.lt_trans m9 r4) hb2);have e8:=Hd (p8.o.bl p8.o.lt hb2);have D9:W1.heap.size<W2.heap.size:=g1.lt;clear hB hx i1 m8 J n7 h4 E d5 h7 hb2 g1 v6
  go_upto_region 12 with fail
  rw[b8.o];clear q0 q1
  go_upto_region 13 with fail
  rw[l6.o];clear y0 y1 d2 s0 s1 s2 s3 s4 s5;have x2:Hid (x<L.length):=by unfold Hid;rw[b7.o];exact b3
  have p3:Hid (L.length<=3000):=by unfold Hid;rw[b7.o];exact hn
  have j9:Hid (∀wy,Bar g W2 wy->Up W0 wy):=fun wy hb=>b0.o.trans (hb.bl (by have:=HG.o;omega) b0.o.size)
  cases fo with
  | false=>
    obtain⟨y0,y1⟩:=e8.o.c2
    by_cases R:0<=nv
    ·obtain⟨y,hy,g2⟩:=Xx (T:=T) (op:=2) (by rw[l0.o];exact R);have n8:nv=(y:Int):=l0.o.symm.trans hy;subst n8;have z7:decide (0<=(y:Int))=true:=Jb R;have HJ:=Hd (Hm x y W2 b1.o x2.o (by rw[b7.o];exact g2) p3.o);rw[b7.o]at HJ;have HR:Hid (FactL T M B (Ny T Fs (i+1)) (K9 L x y)):=(d6.o.join b3 g2 (l3.o _ _ ((HP.o _ _).2 (.inr (.inr ⟨rfl,R,rfl,by simp⟩))))).imp (fun a b hab=>by
      rcases g7.o a b hab with h|h
      ·exact .inl h
      rcases(HP.o a b).1 h with⟨e,_⟩|⟨e,_⟩|⟨_,_,rfl,rfl⟩
      ·cases e
      ·cases e
      exact .inr ⟨rfl,by simp⟩)
     clear R hy
     go_wp2_with fail
     refine HJ.o.mono ?_;rintro e w4 ⟨rfl,K,G⟩;have b9:=Hd K;have a1:=Hd (j9.o _ G);clear K G
     go_wp2
     go_roundw
     case rel=>exact⟨i+1,_,by omega,by go_num,b9.o,HR.o,a1.o⟩
     simp[intOf];omega
    have z7:decide (0<=nv)=false:=Jd R;have HR:Hid (FactL T M B (Ny T Fs (i+1)) L):=d6.o.imp (fun a b hab=>by
     rcases g7.o a b hab with h|h
     ·exact h
     rcases(HP.o a b).1 h with⟨e,_⟩|⟨e,_⟩|⟨_,e,_⟩
     ·cases e
     ·cases e
     exact absurd e R)
    clear R
    go_wp2
    go_roundw
    case rel=>exact⟨i+1,_,by omega,by go_num,b1.o,HR.o,b0.o⟩
    simp[intOf];omega
  | true=>
    obtain⟨y0,y1⟩:=e8.o.c2;have o0:=p9.o.cell 0;have o5:=p9.o.cell 5;simp only[Jr,Jy]at o0 o5
    go_upto_if 51 with fail
    go_cut [] (fun wy=>∃L1,Bx wy g (labV L1)/\FactL T M B (fun a b=>Ny T Fs i a b∨(t.op=9/\a=O9 t 0/\b=O9 t 1)) L1/\Bar g W2 wy)
    case first=>
     by_cases h9:t.op=9
     ·have z7:(t.op==9)=true:=by rw[J2];exact h9
      have B2:=u2.o h9;have d4:=Z.o.trans (b0.o.mono Z.o.size);obtain⟨O,rfl,q6,j4,r7⟩:=Hl o9.o p0.o (i:=0) (by omega);obtain⟨T4,e1,-,j5,r8⟩:=Hl o9.o p0.o (i:=1) (by omega);simp only[Option.some.injEq,Addr.mk.injEq,and_true]at e1;subst e1
      replace j4:=(d4.cell (p:=⟨O,0,none⟩) q6).trans j4
      replace j5:=(d4.cell (p:=⟨O,1,none⟩) q6).trans j5
      have U1:w.heap.size<=W2.heap.size:=d4.size;clear d4;have HJ:Hid (∀W,Up W2 W->_):=fun W hb=>Hm (O9 t 0) (O9 t 1) W (b1.o.bl b1.o.lt hb) (by rw[b7.o];exact r7) (by rw[b7.o];exact r8) p3.o;rw[b7.o]at HJ;have HR:Hid (FactL T M B (fun a b=>Ny T Fs i a b∨(t.op=9/\a=O9 t 0/\b=O9 t 1)) (K9 L (O9 t 0) (O9 t 1))):=(d6.o.join r7 r8 (l3.o _ _ ((HP.o _ _).2 (.inl ⟨rfl,h9,rfl,rfl⟩)))).imp (fun a b hab=>by
       rcases hab with h|⟨_,h⟩
       ·exact .inl h
       exact .inr h)
      have j0:0<t.kids.length:=by omega
      have j1:1<t.kids.length:=by omega
      have j2:(1:Int)<(t.kids.length:Int):=by omega
      have z8:decide (0<t.kids.length)=true:=Jb j0;have z9:decide (1<t.kids.length)=true:=Jb j1;clear h9 B2;obtain⟨ka,i6⟩:=O2 (O9 t 0);obtain⟨kb,i7⟩:=O2 (O9 t 1);have v8:=Hd i6;have w9:=Hd i7;rw[i6]at j4 HJ;rw[i7]at j5 HJ;rw[i6,i7]at HR;clear i6 i7
      go_wp2
      go_region_held3 (fun W=>W.cell? ⟨W1.heap.size,5,none⟩=some (.slice (some ⟨O,0,none⟩) t.kids.length k1)/\W.cell? ⟨O,0,none⟩=some (.int .i64 (ka:Nat))/\W.cell? ⟨O,1,none⟩=some (.int .i64 (kb:Nat))) (first
       | assumption|go_keep) (first
       | (go_at_call 40;refine(HJ.o _ (Ji _ _).drew).mono ?_;rintro e w4 ⟨rfl,K,G⟩;have b9:=Hd K;have a1:Hid (Bar g W2 w4):=⟨G.os,G.tape,G.output,G.size,G.block⟩;have r0:=(a1.o.cell (p:=⟨W1.heap.size,5,none⟩) D9 (by show W1.heap.size≠g;omega)).trans o5;have r1:=(a1.o.cell (p:=⟨O,0,none⟩) (by show O<W2.heap.size;omega) (by show O≠g;omega)).trans j4;have r2:=(a1.o.cell (p:=⟨O,1,none⟩) (by show O<W2.heap.size;omega) (by show O≠g;omega)).trans j5;clear K G))
      all_goals (go_wp2;go_meet;exact⟨_,b9.o,by rw[v8.o,w9.o];exact HR.o,a1.o⟩)
     have z7:(t.op==9)=false:=by rw[Jc];exact h9
     have HR:Hid (FactL T M B (fun a b=>Ny T Fs i a b∨(t.op=9/\a=O9 t 0/\b=O9 t 1)) L):=d6.o.imp (fun a b hab=>by
      rcases hab with h|⟨e,_⟩
      ·exact h
      exact absurd e h9)
     clear h9
     go_wp2
     go_meet
     exact⟨L,b1.o,HR.o,Bar.refl _ _⟩
    rename World=>wy
    obtain⟨L1,J,f8,E⟩:=hcut;have g9:=Hd J;have e6:=Hd f8;have e4:=Hd E;have d7:=Hd f8.ok.len;have m0:wy.cell? ⟨wx.heap.size,0,none⟩=some (.int .i64 (x:Nat)):=(E.cell (p:=⟨wx.heap.size,0,none⟩) (by show wx.heap.size<W2.heap.size;omega) (by show wx.heap.size≠g;omega)).trans y0;have m1:wy.cell? ⟨wx.heap.size,1,none⟩=some (.bool true):=(E.cell (p:=⟨wx.heap.size,1,none⟩) (by show wx.heap.size<W2.heap.size;omega) (by show wx.heap.size≠g;omega)).trans y1;clear J f8 E y0 y1 o0 o5
    by_cases Y:0<=yv
    ·obtain⟨y,hy,g2⟩:=Xx (T:=T) (op:=1) (by rw[l7.o];exact Y);have n8:yv=(y:Int):=l7.o.symm.trans hy;subst n8;have z7:decide (0<=(y:Int))=true:=Jb Y;have HJ:=Hd (Hm x y wy g9.o (by rw[d7.o];exact b3) (by rw[d7.o];exact g2) (by rw[d7.o];exact hn));rw[d7.o]at HJ;have HR:Hid (FactL T M B (Ny T Fs (i+1)) (K9 L1 x y)):=(e6.o.join b3 g2 (l3.o _ _ ((HP.o _ _).2 (.inr (.inl ⟨rfl,Y,rfl,by simp⟩))))).imp (fun a b hab=>by
      rcases g7.o a b hab with h|h
      ·exact .inl (.inl h)
      rcases(HP.o a b).1 h with⟨_,h⟩|⟨_,_,rfl,rfl⟩|⟨e,_⟩
      ·exact .inl (.inr h)
      ·exact .inr ⟨rfl,by simp⟩
      cases e)
     clear Y hy
     go_wp2_with fail
     refine HJ.o.mono ?_;rintro e w4 ⟨rfl,K,G⟩;have b9:=Hd K;have a1:=Hd (j9.o _ (e4.o.trans G));have n1:w4.cell? ⟨wx.heap.size,1,none⟩=some (.bool true):=((e4.o.trans G).cell (p:=⟨wx.heap.size,1,none⟩) (by show wx.heap.size<W2.heap.size;omega) (by show wx.heap.size≠g;omega)).trans e8.o.c2.2;clear K G m0 m1
     go_wp2
     go_roundw
     case rel=>exact⟨i+1,_,by omega,by go_num,b9.o,HR.o,a1.o⟩
     simp[intOf];omega
    have z7:decide (0<=yv)=false:=Jd Y;have HR:Hid (FactL T M B (Ny T Fs (i+1)) L1):=e6.o.imp (fun a b hab=>by
     rcases g7.o a b hab with h|h
     ·exact .inl h
     rcases(HP.o a b).1 h with⟨_,h⟩|⟨_,e,_⟩|⟨e,_⟩
     ·exact .inr h
     ·exact absurd e Y
     cases e)
    clear Y
    go_wp2
    go_roundw
    case rel=>exact⟨i+1,_,by omega,by go_num,g9.o,HR.o,j9.o _ e4.o⟩
    simp[intOf];omega
 have z3:decide ((i:Int)<(Fs.length:Int))=false:=Jd (by omega);have z4:decide (i<Fs.length)=false:=Jd q;have o8:Hid (FactL T M B B L):=d6.o.imp (fun a b hab=>by
  rw[<-o6.o]at hab;obtain⟨j,h1,h2,h3⟩:=Ny.all hab;exact⟨j,h1,by omega,h3⟩)
 have g8:=Hd (Z.o.trans (hB.mono Z.o.size));have m9:g<wx.heap.size:=hx.lt;have i8:w.heap.size<wx.heap.size:=Jn r5 hB.size;have e7:=Hd (b5.o.bl b5.o.lt hB);have d2:=e7.o.c3.2.2;clear d6 i1 q hi hx hB
 go_wp2
 go_loopw [12,13,89] (fun mv _ iv wy=>∃(i:Nat) (pm:Option Addr) (cm:Nat),i<=T.length/\iv=.int .i64 (i:Nat)/\mv=.slice pm (madeL T i).length cm/\wy.ownsRow wx.heap.size 3 1 mv (madeL T i).length (labV (madeL T i))/\Up wx wy) (fun _ _ iv _=>T.length - (intOf iv).toNat)
 case atStart=>exact⟨0,none,0,Jp _,rfl,rfl,⟨rfl,.inl ⟨rfl,rfl⟩⟩,Ji _ _⟩
 clear d2
 rename World=>wy
 obtain⟨i,pm,cm,hi,rfl,rfl,n4,a8⟩:=hrel;have b4:=Hd n4;have g5:=Hd a8;have d2:=(e7.o.bl i8 a8).c3.2.2
 by_cases q:i<T.length
 ·have z5:decide ((i:Int)<(T.length:Int))=true:=Jb (by omega);have z6:decide (i<T.length)=true:=Jb q;obtain⟨bt,y8,p1,k1,e,A2,s0,s1,s2,s3,s4,s5,s6⟩:=Uo (d9.o.t.bl (g8.o.trans (a8.mono g8.o.size))) q;simp only[Value.slice.injEq,true_and]at e;obtain⟨rfl,rfl⟩:=e;have l1:=Hd (YJ T i);have W4:=Mp T i;have n6:wx.heap.size<=wy.heap.size:=a8.size;generalize tmAt T (i:Nat)=t at *;clear n4 a8 s1 s2 s3 s4 s6
  by_cases c6:0<t.kids.length
  ·have z7:decide (0<t.kids.length)=true:=Jb c6;have z8:decide ((0:Int)<(t.kids.length:Int))=true:=Jb (by omega);have g6:=Hd (Bw t.op wy)
   cases d8:U5 t.op with
   | true=>
     have HR:Hid (madeL T (i+1)=madeL T i):=by unfold Hid;rw[l1.o,if_neg (by simp[Ri,d8])]
     rw[d8]at g6;clear d8 c6
     go_wp2_with fail
     refine g6.o.mono ?_;rintro e w4 ⟨rfl,rfl⟩
     go_wp2
     go_roundw
     case rel=>exact⟨i+1,pm,cm,by omega,by go_num,by rw[HR.o],by rw[HR.o];exact b4.o,g5.o⟩
     simp[intOf];omega
   | false=>
     have HR:Hid (madeL T (i+1)=madeL T i++[i]):=by unfold Hid;rw[l1.o,if_pos (by simp[Ri,d8,c6])]
     rw[d8]at g6;clear d8 c6
     go_wp2_with fail
     refine g6.o.mono ?_;rintro e w4 ⟨rfl,rfl⟩
     go_wp2_with (refine Ke (y:=i) (base:=wx.heap.size) (N:=madeL T i) rfl _ _ rfl rfl b4.o _ rfl rfl (by omega) n6 ?_)
     intro v' W' n2 m5;obtain⟨pn,cn,rfl⟩:∃p c,v'=Value.slice p ((madeL T i).length+1) c:=by
      rcases n2.2 with⟨e,e2⟩|⟨g',y7,cur,e,_⟩
      ·simp at e2
      exact⟨_,_,e⟩
     have x6:=Hd n2;have t8:Hid (Up wx W'):=g5.o.trans ((Oy _ _).mono n6 |>.trans m5);clear n2 m5
     go_wp2
     go_roundw
     case rel=>exact⟨i+1,pn,cn,by omega,by go_num,by rw[HR.o,Jq];rfl,by rw[HR.o,Jq];exact x6.o,t8.o⟩
     simp[intOf];omega
  have z7:decide (0<t.kids.length)=false:=Jd c6;have z8:decide ((0:Int)<(t.kids.length:Int))=false:=Jd (by omega);have HR:Hid (madeL T (i+1)=madeL T i):=by unfold Hid;rw[l1.o,if_neg (by simp[Ri,c6])]
  clear c6
  go_wp2
  go_roundw
  case rel=>exact⟨i+1,pm,cm,by omega,by go_num,by rw[HR.o],by rw[HR.o];exact b4.o,g5.o⟩
  simp[intOf];omega
 have z5:decide ((i:Int)<(T.length:Int))=false:=Jd (by omega);have z6:decide (i<T.length)=false:=Jd q;have q9:i=T.length:=by omega
 have k8:Hid (madeL T i=M):=by unfold Hid;rw[q9];exact x5.o
 rw[k8.o];rw[k8.o]at b4;have q2:=Hd (HX.o.bl m9 a8);have p7:=Hd (e7.o.bl i8 a8);have y5:=Hd (g8.o.trans (a8.mono g8.o.size));have V1:g<wy.heap.size:=q2.o.lt;have n6:w.heap.size<wy.heap.size:=Jn i8 a8.size;have x3:Hid (M=[]∨∃b,pm=some ⟨b,0,none⟩/\b<wy.heap.size/\b≠g/\∀i,i<M.length->wy.cell? ⟨b,i,none⟩=some (.int .i64 ((labA M i:Nat):Int))):=by
  unfold Hid
  rcases b4.o.2 with⟨e,e2⟩|⟨g',y7,cur,e,m5,_⟩
  ·exact .inl (Jt e2)
  simp only[Value.slice.injEq,true_and]at e;obtain⟨rfl,rfl⟩:=e;exact .inr ⟨g',rfl,(b4.o.lt g' rfl).2,by omega,fun j hj=>(Nz b4.o hj).1⟩
 clear n4 a8 q hi q9 k8 d2 b4 g5
 go_wp2
 go_loopw [14] (fun bv wz=>∃(L1:List Nat) (more:Bool),bv=.bool more/\Bx wz g (labV L1)/\FactL T M B B L1/\(more=false->Q3 T M L1)/\Bar g wy wz) (fun bv wz=>2*labSum wz g+BY bv)
 case atStart=>exact⟨L,true,rfl,q2.o,o8.o,fun e=>(by cases e),Bar.refl _ _⟩
 rename World=>wz
 obtain⟨L1,more,rfl,J,f5,m7,E⟩:=hrel;have g9:=Hd J;have e6:=Hd f5;have u1:=Hd m7;have e4:=Hd E;have p6:=Hd (y5.o.trans (E.bl (by omega) (by omega)));have d7:=Hd f5.ok.len;have x9:=Hd J.labSum
 cases more with
 | true=>
   have p4:=Hd (Bj (M:=M) (pm:=pm) (cm:=cm) w wz d9.o p6.o (by omega) J f5.ok.len hn l5.o (by
    rcases x3.o with e|⟨b,e,h1,h2,h3⟩
    ·exact .inl e
    exact .inr ⟨b,e,Jn h1 E.size,h2,fun j hj=>(E.cell (p:=⟨b,j,none⟩) h1 h2).trans (h3 j hj)⟩) x4.o k9.o)
   rw[d7.o]at p4;obtain⟨d0,d1,d2⟩:=(p7.o.bar E (by omega)).c3;clear J f5 m7 E
   go_wp2_with fail
   refine p4.o.mono ?_;rintro e w4 ⟨L',g3,rfl,K,D2,n5,G⟩;have b9:=Hd K;have l4:=Hd n5;have u6:=Hd (e6.o.steps l5.o k9.o n5.1);have a1:=Hd (e4.o.trans G);have x8:=Hd K.labSum;clear K D2 n5 G d0 d1 d2
   go_wp2
   go_roundw
   case rel=>exact⟨L',g3,rfl,b9.o,u6.o,fun e=>by have:=l4.o.2.2 e;rw[this.1];exact this.2,a1.o⟩
   rw[x8.o,x9.o]
   cases g3 with
   | true=>have:=l4.o.2.1 rfl;simp only[BY];omega
   | false=>have:=(l4.o.2.2 rfl).1;rw[this];simp only[BY];omega
 | false=>
   have x1:=Hd (e6.o.least k9.o (u1.o rfl));clear J f5 m7 E
   go_wp2
   go_ret
   exact⟨g,rfl,by omega,L1,g9.o,x1.o,p6.o⟩
end Go.Proofs.YtfkagjelljnpdaaGreatDoor
namespace Go.Proofs.YtfkagjelljnpdaaGreatDoor
open ChangeShapes WideShapes ChangeAt RowKit
theorem Sm{S:List (List UInt8)}{F:List Fn}{T:List Tm}(h:Ek S Ep F T=true):T.length<=3000/\∀i,i<T.length->Us S Ep F T i (tmAt T i)=true:=by
 unfold Ek at h;rw[Jw,Jw,J1]at h;refine⟨h.1.1,fun i hi=>?_⟩;have j:=Jx.1 h.2 i (Yg.2 hi);rw[Jg hi]at j;have e:tmAt T i=T[i]:=by unfold tmAt;rw[Y7,Jg hi];rfl
 rw[e];rw[Jw]at j;exact j.1
theorem DB(o:Int):Xl o<=50:=by
 unfold Xl
 repeat (first|split|decide)
 all_goals omega
theorem Rz{S:List (List UInt8)}{F:List Fn}{T:List Tm}(h:Ek S Ep F T=true)(hz:BankZ S F T):T.length<=3000/\TmK T/\LE T:=by
 obtain⟨hn,q⟩:=Sm h;have sh:∀i,i<T.length->Ul (tmAt T (i:Nat))=true/\∀x∈(tmAt T (i:Nat)).kids,0<=x/\x.toNat<T.length:=fun i hi=>by
  have j:=q i hi;unfold Us Di at j;simp only[Jw]at j;refine⟨by have:=j.1.1;exact this,fun x hx=>?_⟩;have E:=Jx.1 j.1.2 x hx;rw[J1]at E;omega
 have sp:∀i,i<T.length->(1<=(tmAt T (i:Nat)).op/\(tmAt T (i:Nat)).op<=47)/\Uk (tmAt T (i:Nat)).op<=(tmAt T (i:Nat)).kids.length/\(tmAt T (i:Nat)).kids.length<=50:=fun i hi=>by
  have j:=(sh i hi).1;unfold Ul at j;simp only[Jw,J1]at j;exact⟨j.1.1.1.1,j.1.1.1.2.1,Jm j.1.1.1.2.2 (DB _)⟩
 refine⟨hn,⟨fun i hi=>(sh i hi).2,fun i hi=>(sp i hi).2.2,fun i hi=>?_,fun i hi=>?_⟩,fun i hi h9=>?_⟩
 ·have e:tmAt T i=T[i]:=by unfold tmAt;rw[Y7,Jg hi];rfl
  rw[e];exact(hz.t _ (Jj hi)).2.1
 ·have:=(sp i hi).1;omega
 have:=(sp i hi).2.1;rw[h9]at this;exact this
def F9(S:List (List UInt8))(F:List Fn)(T:List Tm)(Fs:List (Int×Bool)):Prop:=Ek S Ep F T=true/\Nn T Fs
def LX(S:List (List UInt8))(F:List Fn)(T:List Tm)(Fs:List (Int×Bool))(w:World)(e:Ending)(w':World):Prop:=
 ((¬ F9 S F T Fs/\e=.returned (.slice none 0 0))∨(F9 S F T Fs/\∃g L,e=.returned (.slice (some ⟨g,0,none⟩) T.length T.length)/\w.heap.size<=g/\Bx w' g (labV L)/\Eg T (madeL T T.length) (G5 T Fs) L))/\Up w w'
end Go.Proofs.YtfkagjelljnpdaaGreatDoor
