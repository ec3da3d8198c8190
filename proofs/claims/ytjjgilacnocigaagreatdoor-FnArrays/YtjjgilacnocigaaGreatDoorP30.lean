import Derived.Test.YtjjgilacnocigaaGreatDoorP29
set_option maxRecDepth 100000
set_option maxHeartbeats 8000000
namespace Go.Proofs.YtjjgilacnocigaaGreatDoor
theorem Sz.put {ki:SK}{r i v r':ByteArray}{L L':List Kd}(h:Sz ki r L v r' L')(hz:E7 ki i):OV ki r L i v r' L':=by
 obtain⟨⟨rfl,rfl,rfl⟩|⟨d,rfl,rfl|⟨j,h3⟩⟩,_⟩:=h
 ·exact .inl (.inl ⟨hz,rfl,rfl,rfl⟩)
 ·exact .inl (.inr (.inl ⟨hz,d,rfl,rfl⟩))
 exact .inr ⟨by omega,_,_,.inr (.inl ⟨hz,d,rfl,rfl⟩),h3⟩
theorem NL {ki:SK}{L:List Kd}{i:ByteArray}{p:Nat}{found:Bool}(hs:L.Pairwise fun e f=>key ki e.1<key ki f.1)(hK:∀ e∈L,key ki e.1=key ki i->e.1=i)(h:OZ ki L i p found) :
 PartA ki L i (L.take p) (if found then (L.drop p).take 1 else []) (L.drop (if found then p+1 else p)):=by
 obtain⟨U,T,h3,h4⟩:=h;have j:∀ e∈L.take p,key ki e.1<key ki i:=by
  intro e E;obtain⟨q,G,rfl⟩:=Ym E;rw[Jm] at G;rw[Zn];exact T q (by omega) (by omega)
 cases found
 ·refine⟨by simp,j,.inl rfl,?_⟩;intro e E;obtain⟨q,G,rfl⟩:=Ym E;simp only[Yz,if_false,Jr] at G;simp only[Yz,if_false,Zm];have D:p+q<L.length:=by omega
  have J:=h3 (p+q) D (by omega)
  rcases Int.lt_or_eq_of_le J with K|I
  ·exact K
  exfalso
  have Z:=hK _ (Yl D) I.symm;have d:p<L.length:=by omega
  have V:=h3 p d O1;have Y:key ki L[p].1<=key ki L[p+q].1:=Mv hs d D (by omega);have H:key ki L[p].1=key ki i:=by omega
  have:=h4.2 ⟨d,hK _ (Yl d) H⟩
  cases this
 obtain⟨d,F⟩:=h4.1 rfl;have O:(L.drop p).take 1=[L[p]]:=by rw[Yw d];rfl
 refine⟨?_,j,.inr ⟨L[p].2,?_⟩,?_⟩
 ·simp only[if_true,O];rw[Yo,show [L[p]]++L.drop (p+1)=L.drop p from (Yw d).symm,J9]
 ·simp only[if_true,O,<-F]
 intro e E;obtain⟨q,G,rfl⟩:=Ym E;simp only[if_true,Jr] at G;simp only[if_true,Zm];have:=Zl.1 hs p (p+1+q) d (by omega) (by omega);rw[F] at this;exact this
end Go.Proofs.YtjjgilacnocigaaGreatDoor
namespace Go.Proofs.YtjjgilacnocigaaGreatDoor
open ChangeShapes WideShapes ChangeAt RowKit Proofs.Tryz
theorem Ex.box {ki ke:SK}{w:World}{v:Value}{L:List Kd}{g:Nat}(h:Ex ki ke w v L)(hb:Bx w g [.nilIface,.slice none 0 0])(a d:Value):Ex ki ke ((w.setCell ⟨g,0,none⟩ a).setCell ⟨g,1,none⟩ d) v L:=by
 obtain⟨p,c,rfl,O,T,h3⟩:=h;refine⟨p,c,rfl,O,T,?_⟩
 by_cases F:L=[]
 ·exact .inl F
 rcases h3 with h3|⟨b,e,hl,I⟩
 ·exact absurd h3 F
 have G:Q.Kh w g:=Hk hb (fun u hu=>by
  rcases Yn.1 hu with rfl|hu
  ·exact .inl (.inl rfl)
  rcases Ye.1 hu with rfl;exact .inr ⟨_,_,_,rfl⟩)
 have j:∀ k,k≠g->((w.setCell ⟨g,0,none⟩ a).setCell ⟨g,1,none⟩ d).heap[k]? = w.heap[k]? := fun k hk=>(J1 _ ⟨g,1,none⟩ _ _ hk).trans (J1 _ ⟨g,0,none⟩ _ _ hk);have J:w.heap.size<=((w.setCell ⟨g,0,none⟩ a).setCell ⟨g,1,none⟩ d).heap.size:=by simp
 have hk:∀ k,k<w.heap.size->((w.setCell ⟨g,0,none⟩ a).setCell ⟨g,1,none⟩ d).heap[k]? = w.heap[k]? ∨ Q.Kh w k:=fun k _=>by
  by_cases e:k=g
  ·subst e;exact .inr G
  exact .inl (j k e)
 have D:b≠g:=fun e2=>by
  subst e2;obtain⟨x,y,E,_,H,_⟩:=I 0 (Zz.2 F);obtain⟨t,z,rfl⟩:=H.form;have K:w.cell? ⟨b,0*2,none⟩=some .nilIface:=hb.cell 0;rw[K] at E;cases E
 refine .inr ⟨b,e,by simpa using hl,fun i hi=>?_⟩;obtain⟨x,y,E,U,H,V⟩:=I i hi;exact⟨x,y,(Zg (a:=⟨b,i*2,none⟩) (j b D)).trans E,(Zg (a:=⟨b,i*2+1,none⟩) (j b D)).trans U,H.kept J hk,V.kept J hk⟩
theorem KK (a b:Int)(w:World):(Instr.field 93 (.agg #[.int .i64 a,.int .u64 b]) 0).run prog w=.ok (.int .i64 a) w:=by kernel_rfl
attribute [local go_sem] KK SF PR SL SC SR SA SW PP SB SM SX SQ SH PQ SG SU SN SV SZ PX TY TZ TO SJ
theorem FI (ki ke:SK)(x v u y:Value)(r i s:ByteArray)(L:List Kd)(w:World)(hki:Wt ki)(hke:Wt ke)(hx:PV ke w x r)(h:Ex ki ke w v L)(hS:SrtA ki ke r L)(hn:L.length<=60)(hu:PV ki w u i)(hy:PV ke w y s)(hT:VT w)(hz:E7 ki i) :
 Calls prog 22 #[.agg #[x,v],u,y] w fun e w'=>∃ x' v' r' L',e=.returned (.agg #[x',v'])/\PV ke w' x' r'/\Ex ki ke w' v' L'/\L'.length<=100/\OV ki r L i s r' L'/\Up w w':=by
 have HT:=Hd hT;have HZ:=Hd hz;obtain⟨W1,G⟩:=O2 ((w.alloc (.cells #[x,v] 50)).alloc (.cells #[.nilIface,.slice none 0 0] 50));have j:Up w W1:=by rw[<-G];exact (Oo _ _).trans ((Oo _ _).mono (by simp))
 have Z:=Hd j;have b3:Hid (Bx W1 w.heap.size [x,v]):=by unfold Hid;rw[<-G];exact (Ox w [x,v] _).alloc _
 have b4:Hid (Bx W1 (w.heap.size+1) [.nilIface,.slice none 0 0]):=by
  unfold Hid;rw[<-G];rw[show w.heap.size+1=(w.alloc (.cells #[x,v] 50)).heap.size from (by simp)];exact Ox _ [.nilIface,.slice none 0 0] _
 have d6:=Hd (hx.next j);have d7:=Hd (hy.next j);have HE:=Hd (h.next j);have a7:=Hd (G2 ki u i W1 (hu.next j));have HW:=Hd G;have V:=hz.1;obtain⟨tx,zx,rfl⟩:=hx.form;obtain⟨p,cp,rfl,g9,g8,_⟩:=h;obtain⟨B,hB⟩:=O2 (bn 2 (i.data.toList.drop 2):Nat);have e3:u=.iface 93 (.agg #[.int .i64 (ki.width:Nat),.int .u64 (B:Nat)]):=by
  have:=hu.2;rw[if_neg (by omega),if_neg (by omega),if_neg (by omega),if_pos V,hB] at this;exact this
 subst e3;have O:=Hd V;clear hT G j hx hy hu hz V hB
 go_in
 go_upto_region 1 with fail
 rw[HW.o]
 go_wp2_with fail
 refine a7.o.mono ?_;rintro e w2 ⟨b,rfl,hb,U⟩;obtain rfl:b=true:=hb.2 HZ.o;have a6:Hid (Up w w2.drew):=(Z.o.trans (U.mono Z.o.size)).drew;have D:=U.drew;have F:=Hd (b3.o.bl b3.o.lt D);have J:=Hd (b4.o.bl b4.o.lt D);have d5:=Hd (VV ki ke _ _ y r s L w2.drew O.o (hki O.o).1 (hki O.o).2 (d6.o.next D) (HE.o.next D) hS (d7.o.next D) hke (HT.o.next a6.o) hn);clear U D hb a7
 go_wp2_with fail
 refine Tx 7 rfl (S:=fun W=>W.cell? ⟨w.heap.size,0,none⟩=some (.iface tx zx)/\W.cell? ⟨w.heap.size,1,none⟩=some (.slice p L.length cp)) (by kernel_rfl) (F.o.c2) (fun hHeld=>?_);refine tk 0 12 (v:=?_) rfl rfl (by kernel_rfl) (fun _ _ _ h=>h) (Or.inl ⟨by rfl,?_⟩) (by assumption) ?_
 rotate_left
 ·(intro w d;(try dsimp only at d);go_simp;(try with_reducible rfl))
 try simp only[Act.put,Ja,Jc,Jb]
 refine tk 1 13 (v:=?_) rfl rfl (by kernel_rfl) (fun _ _ _ h=>h) (Or.inl ⟨by rfl,?_⟩) (by assumption) ?_
 rotate_left
 ·(intro w d;(try dsimp only at d);go_simp;(try with_reducible rfl))
 try simp only[Act.put,Ja,Jc,Jb]
 refine tk 2 14 (v:=?_) rfl rfl (by kernel_rfl) (fun _ _ _ h=>h) (Or.inl ⟨by rfl,?_⟩) (by assumption) ?_
 rotate_left
 ·(intro w d;(try dsimp only at d);go_simp;(try with_reducible rfl))
 try simp only[Act.put,Ja,Jc,Jb]
 refine tk 3 15 (v:=?_) rfl rfl (by kernel_rfl) (fun _ _ _ h=>h) (Or.inl ⟨by rfl,?_⟩) (by assumption) ?_
 rotate_left
 ·(intro w d;(try dsimp only at d);go_simp;(try with_reducible rfl))
 try simp only[Act.put,Ja,Jc,Jb]
 refine tk 4 16 (v:=?_) rfl rfl (by kernel_rfl) (fun _ _ _ h=>h) (Or.inl ⟨by rfl,?_⟩) (by assumption) ?_
 rotate_left
 ·(intro w d;(try dsimp only at d);go_simp;(try with_reducible rfl))
 try simp only[Act.put,Ja,Jc,Jb]
 refine wpAnyH_ready (rs:=[5]) (by kernel_rfl) (by simp) ?_;refine AllReadyH.cons rfl (fun K hK=>?_) AllReadyH.nil
 go_simp
 go_at_call 52
 refine d5.o.mono ?_;rintro e w4 ⟨x4,v4,r4,L4,rfl,Y,b9,c7,I⟩;have b5:=Hd (F.o.bl F.o.lt I);have E:=Hd (J.o.bl J.o.lt I);have d1:=a6.up I;have d4:=Hd Y;have d0:=Hd b9;have a8:=Hd c7;obtain⟨t4,z4,rfl⟩:=Y.form;obtain⟨p4,c4,rfl,_,_,_⟩:=b9;clear I Y c7
 go_wp2_with fail
 refine hK.out _ _ (b5.o.c2) (fun hHeld5=>?_);clear hK K
 try simp only[Act.put,Ja,Jc,Jb]
 have d8:=Hd (a8.o.put HZ.o);have e2:L4.length<=100:=by have:=a8.o.2;omega
 obtain⟨W5,H⟩:=O2 ((w4.setCell ⟨w.heap.size+1,0,none⟩ (.iface t4 z4)).setCell ⟨w.heap.size+1,1,none⟩ (.slice p4 L4.length c4));have c6:Q.Kh w4 (w.heap.size+1):=Hk E.o (fun u hu=>by rcases Yn.1 hu with rfl|hu;exact .inl (.inl rfl);rcases Ye.1 hu with rfl;exact .inr ⟨_,_,_,rfl⟩);have b8:(fun W=>W.cell? ⟨w.heap.size,0,none⟩=some (.iface tx zx)/\W.cell? ⟨w.heap.size,1,none⟩=some (.slice p L.length cp)) W5:=by rw[<-H];exact ((b5.o.other ⟨w.heap.size+1,0,none⟩ (by dsimp only;omega) _).other ⟨w.heap.size+1,1,none⟩ (by dsimp only;omega) _).c2
 have b7:Up w W5:=by rw[<-H];exact (d1.o.setCell (p:=⟨w.heap.size+1,0,none⟩) (by simp) _).setCell (p:=⟨w.heap.size+1,1,none⟩) (by simp) _
 have h5:=((E.o.set 0 (.iface t4 z4)).set 1 (.slice p4 L4.length c4)).c2;rw[H] at h5;have d9:=Hd b8;have d2:=Hd b7;have H5:=Hd h5;have T:=Hd H;have d3:=Hd c6;clear b8 b7 h5 H c6;obtain⟨e0,e1⟩:=E.o.c2;obtain⟨f0,f1⟩:=E.o.f2;refine wpAnyH_ready (rs:=[6]) (by kernel_rfl) (by simp) ?_;refine AllReadyH.cons rfl (fun K hK=>?_) AllReadyH.nil
 go_simp
 go_wp2_with fail
 rw[T.o];refine hK.out _ _ d9.o (fun hHeld6=>?_);clear hK K e0 e1 f0 f1
 try simp only[Act.put,Ja,Jc,Jb]
 refine wpAnyH_done (by kernel_rfl) ?_ _
 go_wp2_with fail
 obtain⟨g0,g1⟩:=H5.o;refine Jh ?_ rfl ⟨.iface t4 z4,.slice p4 L4.length c4,r4,L4,rfl,?_,?_,e2,d8.o,d2.o⟩
 ·simp[results,results22,go_sem,g0,g1]
 ·rw[<-T.o];refine d4.o.kept (by simp) fun k _=>?_
  by_cases e:k=w.heap.size+1
  ·subst e;exact .inr d3.o
  exact .inl ((J1 _ ⟨w.heap.size+1,1,none⟩ _ _ e).trans (J1 _ ⟨w.heap.size+1,0,none⟩ _ _ e))
 rw[<-T.o];exact d0.o.box E.o _ _
def oO:Go.Shelf.Ren:=⟨fun|41=>54|n=>n,fun|22=>48|23=>79|4=>4|n=>n,fun|n=>n⟩
theorem WW:Go.Proofs.SlLaysE0.n41 prog oO:={
 mixed:=by kernel_rfl
 f41:=⟨Tryz.f54.name,by decide,func54.trans (congrArg some (by kernel_rfl))⟩
 t4:=Tryz.underlying4
 a4:=Tryz.isAgg4
 z4:=Tryz.sizeOf4
 v4:=Tryz.zeroValue4
 t22:=underlying48
 a22:=Tryz.isAgg48
 z22:=Tryz.sizeOf48
 v22:=Tryz.zeroValue48 }
theorem UM (n c:Nat)(w:World) :
 Calls prog 54 #[.slice none n c] w fun e w'=>e=.returned (.slice none 0 0)/\w'=w:=AnyE.slices_Clone_nil WW n c w
end Go.Proofs.YtjjgilacnocigaaGreatDoor
namespace Go.Proofs.YtjjgilacnocigaaGreatDoor
open ChangeShapes WideShapes ChangeAt RowKit Proofs.Tryz
open Q (Kh)
variable {W:World}{xs:List Value}
def Dq (ki ke:SK)(W:World)(xs:List Value)(L:List Kd):Prop:=∀ i (_:i<L.length),∃ x y,xs[i*2]? = some x/\xs[i*2+1]? = some y/\PV ki W x L[i].1/\PV ke W y L[i].2
theorem Dq.kept {ki ke:SK}{W':World}{L:List Kd}(h:Dq ki ke W xs L)(hs:W.heap.size<=W'.heap.size)(hk:∀ b,b<W.heap.size->W'.heap[b]? = W.heap[b]? ∨ Kh W b):Dq ki ke W' xs L:=fun i hi=>by
 obtain⟨x,y,d,j,D,E⟩:=h i hi
 exact⟨x,y,d,j,D.kept hs hk,E.kept hs hk⟩
theorem Dq.take {ki ke:SK}{L:List Kd}(h:Dq ki ke W xs L)(p:Nat):Dq ki ke W (xs.take (p*2)) (L.take p):=fun i hi=>by
 rw[Jm] at hi
 obtain⟨x,y,d,j,D,E⟩:=h i (by omega)
 refine⟨x,y,?_,?_,?_,?_⟩
 ·rw[Oi,if_pos (by omega)];exact d
 ·rw[Oi,if_pos (by omega)];exact j
 ·rw[Zn];exact D
 rw[Zn];exact E
theorem Dq.drop {ki ke:SK}{L:List Kd}(h:Dq ki ke W xs L)(p:Nat):Dq ki ke W (xs.drop (p*2)) (L.drop p):=fun i hi=>by
 rw[Jr] at hi
 obtain⟨x,y,d,j,D,E⟩:=h (p+i) (by omega)
 refine⟨x,y,?_,?_,?_,?_⟩
 ·rw[Vl,show p*2+i*2=(p+i)*2 by omega];exact d
 ·rw[Vl,show p*2+(i*2+1)=(p+i)*2+1 by omega];exact j
 ·rw[Zm];exact D
 rw[Zm];exact E
theorem Dq.app {ki ke:SK}{ys:List Value}{L M:List Kd}(h:Dq ki ke W xs L)(hl:xs.length=L.length*2)(k:Dq ki ke W ys M):Dq ki ke W (xs++ys) (L++M):=fun i hi=>by
 rw[Jq] at hi
 by_cases e:i<L.length
 ·obtain⟨x,y,d,j,D,E⟩:=h i e
  refine⟨x,y,?_,?_,?_,?_⟩
  ·rw[Zk (by omega)];exact d
  ·rw[Zk (by omega)];exact j
  ·rw[Vy e];exact D
  rw[Vy e];exact E
 obtain⟨x,y,d,j,D,E⟩:=k (i - L.length) (by omega)
 refine⟨x,y,?_,?_,?_,?_⟩
 ·rw[Zp (by omega),hl,show i*2 - L.length*2=(i - L.length)*2 by omega];exact d
 ·rw[Zp (by omega),hl,show i*2+1 - L.length*2=(i - L.length)*2+1 by omega];exact j
 ·rw[Vx (by omega)];exact D
 rw[Vx (by omega)];exact E
theorem Dq.one {ki ke:SK}{x y:Value}{f:Kd}(h1:PV ki W x f.1)(h2:PV ke W y f.2):Dq ki ke W [x,y] [f]:=fun i hi=>by
 have e:i=0:=by simp at hi;omega
 subst e
 exact⟨x,y,rfl,rfl,h1,h2⟩
def GN (u:Value):Prop:=∃ t x,u=.iface t x
theorem GN.one {u:Value}(h:GN u):u.oneCell'=true:=by obtain⟨t,x,rfl⟩:=h;rfl
theorem GN.no {u:Value}(h:GN u)(x:Int):u≠.int .u32 x:=by obtain⟨t,y,rfl⟩:=h;intro e;cases e
theorem Dq.ifs {ki ke:SK}{L:List Kd}(h:Dq ki ke W xs L)(hl:xs.length=L.length*2):∀ u∈xs,GN u:=fun u hu=>by
 obtain⟨j,F,rfl⟩:=Ym hu
 obtain⟨x,y,D,E,G,H⟩:=h (j / 2) (by omega)
 have d:j=j / 2*2∨j=j / 2*2+1:=by omega
 rcases d with e|e
 ·rw[<-e,Jl F] at D;cases D;exact G.form
 rw[<-e,Jl F] at E;cases E;exact H.form
theorem VI {f:Nat->Option Value}:∀ (n:Nat),(∀ j,j<n->∃ u,f j=some u)->∃ xs:List Value,xs.length=n/\∀ j u,xs[j]? = some u->f j=some u
 | 0,_=>⟨[],rfl,fun j u h=>by simp at h⟩
 | n+1,h=>by
   obtain⟨xs,hl,F⟩:=VI n fun j hj=>h j (by omega)
   obtain⟨u,E⟩:=h n (by omega)
   refine⟨xs++[u],by simp[hl],fun j v hj=>?_⟩
   by_cases e:j<xs.length
   ·rw[Zk e] at hj;exact F j v hj
   have d:=(Y8.1 hj).1
   rw[Jq,Vk] at d
   have D:j=n:=by omega
   subst D
   rw[Zp (by omega),hl] at hj
   simp at hj
   rw[E,hj]
theorem DP {ki ke:SK}{b:Nat}{L:List Kd}(h:∀ i (h:i<L.length),∃ x y,W.cell? ⟨b,i*2,none⟩=some x/\W.cell? ⟨b,i*2+1,none⟩=some y/\PV ki W x L[i].1/\PV ke W y L[i].2) :
 ∃ xs:List Value,xs.length=L.length*2/\(∀ j u,xs[j]? = some u->W.cell? ⟨b,j,none⟩=some u)/\Dq ki ke W xs L:=by
 obtain⟨xs,hl,F⟩:=VI (f:=fun j=>W.cell? ⟨b,j,none⟩) (L.length*2) fun j hj=>by
  obtain⟨x,y,d,D,_,_⟩:=h (j / 2) (by omega);have E:j=j / 2*2∨j=j / 2*2+1:=by omega
  rcases E with e|e
  ·exact⟨x,by rw[<-e] at d;exact d⟩
  exact⟨y,by rw[<-e] at D;exact D⟩
 refine⟨xs,hl,F,fun i hi=>?_⟩;obtain⟨x,y,d,D,G,H⟩:=h i hi;refine⟨x,y,?_,?_,G,H⟩
 ·have:=F (i*2) _ (Jl (by omega));rw[d] at this;rw[Jl (by omega),this]
 have:=F (i*2+1) _ (Jl (by omega));rw[D] at this;rw[Jl (by omega),this]
theorem UQ {w w':World}{base:Nat}{v:Value}{n m g cap c:Nat}(hown:w.ownsRow base 79 2 v n xs)(hno:∀ g,v.ownBlock=some g->Kh w g)(ty:TypeId)(a:Addr)(news:List Value)(hl:news.length=m*2)(hnews:∀ j u,news[j]? = some u->w.cell? (a.add j)=some u)(h1:∀ u∈news,GN u)(hn:n+m<=1000000000)(hm:0<m∨v≠.slice none 0 0)
 (hr:(Builtin.append_ #[48,48] ty #[v,.slice (some a) m c]).run prog w=.ok (.slice (some ⟨g,0,none⟩) (n+m) cap) w'):Kh w' g:=by
 obtain⟨i0,D,O,E,T⟩:=G0
 rcases hown.2 with⟨rfl,rfl⟩|⟨F,d,cur,rfl,Y,K,a6,Z,U,I⟩
 ·have V:0<m:=hm.resolve_right (fun h=>h rfl);have h:=run_append_nil (P:=prog) w 48 ty 79 i0 _ underlying48 D O a m c news (by rw[E];exact hl) hnews V (by omega) (by rw[T];omega);rw[h] at hr;simp only[Result.ok.injEq,Value.slice.injEq,Option.some.injEq,Addr.mk.injEq,and_true] at hr;obtain⟨⟨rfl,-⟩,rfl⟩:=hr;refine G5 (heap_alloc_new w.drew _) ?_;intro u hu x;rw[Zr,J5] at hu
  rcases hu with hu|hu
  ·exact (h1 u (by simpa using hu)).no x
  exact Ha _ u hu x
 have hx:∀ u∈xs,∀ x,u≠.int .u32 x:=fun u hu=>Nm K (hno F rfl) u (by rw[<-I] at hu;exact Ya hu)
 by_cases H:n+m<=d
 ·have J:n*i0.size+news.length<=cur.size:=by rw[E,hl,U];omega
  have h:=run_append_room (P:=prog) w 48 ty 79 i0 underlying48 D F n d cur K a m c news (by rw[E];exact hl) hnews (fun u hu=>(h1 u hu).one) H J;rw[h] at hr;simp only[Result.ok.injEq,Value.slice.injEq,Option.some.injEq,Addr.mk.injEq,and_true] at hr;obtain⟨⟨rfl,-⟩,rfl⟩:=hr;refine G5 (setRow_heap w F cur _ _ _ K) ?_;intro u hu x;simp only[J5] at hu
  rcases hu with (hu|hu)|hu
  ·exact Nm K (hno F rfl) u (Ya hu) x
  ·exact (h1 u hu).no x
  exact Nm K (hno F rfl) u (Yp hu) x
 have G:∀ j u,xs[j]? = some u->w.cell? ((⟨F,0,none⟩:Addr).add j)=some u:=hown.cells (g:=F) rfl;have h:=run_append_grow (P:=prog) w 48 ty 79 i0 _ underlying48 D O ⟨F,0,none⟩ n d xs (by rw[E];exact hown.1) G a m c news (by rw[E];exact hl) hnews (by omega) (by omega) (growslice_fits (by omega) (by rw[T];omega));rw[h] at hr;simp only[Result.ok.injEq,Value.slice.injEq,Option.some.injEq,Addr.mk.injEq,and_true] at hr;obtain⟨⟨rfl,-⟩,rfl⟩:=hr;refine G5 (heap_alloc_new w.drew _) ?_;intro u hu x;simp only[Zr,J5] at hu
 rcases hu with (hu|hu)|hu
 ·exact hx u (by simpa using hu) x
 ·exact (h1 u (by simpa using hu)).no x
 exact Ha _ u hu x
theorem R7 {ops:Array Oper}{rest:List Oper}{o:Oper}{a:Act}{Q:Exit->Act->World->Prop}{W:World}{ki ke:SK}{base:Nat}{v:Value}{L M:List Kd}(hgd:o.guard=none)(s y:Operand)
 (ho:o.op=.call { callee:=.builtin .append,args:=#[s,y],argTypes:=#[48,48] }) (hs:a.eval s=v) (hown:ERow ki ke base W v L)
 (ad:Addr) (n m c:Nat) (news:List Value) (hx:a.eval y=.slice (some ad) m c) (hl:news.length=m*2) (hM:M.length=m) (hnews:∀ j u,news[j]? = some u->W.cell? (ad.add j)=some u) (hp:Dq ki ke W news M) (hnl:L.length=n) (hn:n+m<=1000000) (hm:0<m∨v≠.slice none 0 0) (hbase:base<=W.heap.size)
 (h:∀ g cap W',ERow ki ke base W' (.slice (some ⟨g,0,none⟩) (n+m) cap) (L++M)->W.grownBy W' v.ownBlock->wpList prog ops Q rest (a.put o.dst (.slice (some ⟨g,0,none⟩) (n+m) cap)) W') :
 wpList prog ops Q (o::rest) a W:=by
 subst hnl;subst hM;obtain⟨i0,D,K,F,G⟩:=G0;obtain⟨xs,H,V⟩:=hown.ex;have d:=hp.ifs hl;refine wpList_plain hgd fun _ hK=>?_;obtain⟨Y,W',T,U,k2,k3,k4⟩:=run_append_own_at (P:=prog) W base 48 o.type 79 i0 _ 2 32 underlying48 D K F G rfl (by decide) v L.length xs H ad M.length c news hl hnews (fun u hu=>(d u hu).one) (by unfold maxLen;omega) (by omega) hbase;obtain⟨g,cap,rfl⟩:∃ g cap,Y=.slice (some ⟨g,0,none⟩) (L.length+M.length) cap:=by
  rcases U.2 with⟨rfl,e⟩|⟨g,cap,_,rfl,_⟩
  ·rcases hm with O|O
   ·omega
   exact absurd (k3.1 rfl).1 O
  exact⟨g,cap,rfl⟩
 have J:=UQ H hown.no o.type ad news hl hnews d (by omega) hm T;have I:∀ b,b<W.heap.size->W'.heap[b]? = W.heap[b]? ∨ Kh W b:=fun b hb=>by
  by_cases E:v.ownBlock=some b
  ·exact .inr (hown.no b E)
  exact .inl (k2.block b hb (fun e=>E e.symm))
 unfold Oper.wp execOp;simp only[ho,resolve,invoke,builtin,Sem.run_bind,Sem.run_pure,Result.andThen_ok,Uq,Vc,Vs,hs,hx,T];refine hK _ _ (h g cap W' ⟨⟨xs++news,by rw[Jq];exact U,?_⟩,fun g' hg'=>by cases hg';exact J⟩ k2);exact (Dq.app (fun i hi=>V i hi) H.1 hp).kept k2.size I
theorem IH (ki ke:SK)(w:World)(v:Value)(L:List Kd)(h:Ex ki ke w v L)(hn:L.length<=1000) :
 Calls prog 54 #[v] w fun e w'=>∃ v',e=.returned v'/\ERow ki ke w.heap.size w' v' L/\Up w w':=by
 obtain⟨p,c,rfl,K,O,F⟩:=h
 cases p with
 | none=>
   have hL:L=[]:=F.resolve_right (fun ⟨b,e,_⟩=>by cases e);subst hL;refine (UM 0 c w).mono ?_;rintro e w' ⟨rfl,rfl⟩;exact⟨_,rfl,ERow.nil ki ke _ _,Jj _ _⟩
 | some a=>
   obtain⟨news,hl,d,H⟩:∃ news:List Value,news.length=L.length*2/\(∀ j u,news[j]? = some u->w.cell? (a.add j)=some u)/\Dq ki ke w news L:=by
    rcases F with rfl|⟨b,e,hb,hc⟩
    ·exact⟨[],rfl,fun j u hj=>by simp at hj,fun i hi=>absurd hi (Ve _)⟩
    cases e
    obtain⟨xs,Z,h2,h3⟩:=DP hc;exact⟨xs,Z,fun j u hj=>by rw[Addr.add_lit,Y3];exact h2 j u hj,h3⟩
   have J:=Hd H;have I:=Hd d;have V:=Hd hl;obtain⟨n,D⟩:=O2 L.length;have T:=Hd D;rw[D] at hn;rw[D];clear K O F H d hl D;have b4:∀ (w:World) (a:Option Addr) (n c n' c':Nat),(binOp .eql 48 (.slice a n c) (.slice none n' c')).run prog w=.ok (.bool a.isNone) w:=fun w a n c n' c'=>Lib.run_eql_slice_nil w _ _ a n c n' c' underlying48
   go_in
   go_wp2_with (at_builtin;refine R7 (ki:=ki) (ke:=ke) (base:=w.heap.size) (L:=[]) (M:=L) rfl _ _ rfl rfl ?q0 a 0 n c news rfl ?q1 T.o ?q2 ?q3 rfl ?q4 (.inr (by intro h;cases h)) ?q5 ?_)
   case q0=>
    refine⟨⟨[],World.ownsRow_made w #[] 0 O1 (J7 _) (by simp),fun i hi=>absurd hi (Ve _)⟩,fun g hg=>?_⟩;cases hg;exact G5 (heap_alloc_new w _) (by simp)
   case q1=>rw[<-T.o];exact V.o
   case q2=>exact fun j u hj=>Lib.cell?_alloc_some _ (I.o j u hj)
   case q3=>exact J.o.kept (by simp) (fun b hb=>.inl ((Oo w _).block b hb))
   case q4=>omega
   case q5=>simp
   intro g cap W' E G;have Y:=Hd E;have U:=Hd G;clear E G
   go_wp2
   go_ret
   refine⟨_,rfl,?_,?_⟩
   ·exact Y.o
   exact ((Jj _ w).alloc O1 _).grown U.o (by simp) (by intro k hk;simp[Value.ownBlock] at hk;omega)
end Go.Proofs.YtjjgilacnocigaaGreatDoor
