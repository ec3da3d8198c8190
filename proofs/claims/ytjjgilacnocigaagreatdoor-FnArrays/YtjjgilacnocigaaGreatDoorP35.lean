import Derived.Test.YtjjgilacnocigaaGreatDoorP34
set_option maxRecDepth 100000
set_option maxHeartbeats 8000000
namespace Go.Proofs.YtjjgilacnocigaaGreatDoor
open ChangeShapes WideShapes ChangeAt RowKit Proofs.Tryz
variable {i r:ByteArray}
theorem EU {L:List Kd}{k:Nat}(hk:k<L.length)(h:∀ j (hj:j<L.length),j<k->L[j].1≠i)(he:L[k].1=i):K2 r L i=L[k].2:=by
 have e:L=L.take k++L[k]::L.drop (k+1):=by rw[<-Yw hk,J9]
 have d:K2 r (L.take k++L[k]::L.drop (k+1)) i=K2 r (L[k]::L.drop (k+1)) i:=Qu fun x hx=>by
  obtain⟨j,hj,rfl⟩:=Ym hx;rw[Jm] at hj;rw[Zn];exact h j (by omega) (by omega)
 rw[<-e] at d;rw[d];unfold K2;rw[if_pos he]
theorem BK {L:List Kd}(h:∀ j (hj:j<L.length),L[j].1≠i):K2 r L i=r:=H8 fun x hx=>by
 obtain⟨j,hj,rfl⟩:=Ym hx
 exact h j hj
theorem We {W:World}{p1 p2:Option Addr}{n1 n2 c1 c2:Nat}{L:List Kd}(ha:Dp W (.slice p1 n1 c1) (L.map Prod.fst))(hb:Dp W (.slice p2 n2 c2) (L.map Prod.snd)):n1=L.length/\n2=L.length/\n1<=c1/\n2<=c2/\(c1:Int)<=9223372036854775807/\(c2:Int)<=9223372036854775807/\(0<n1->∃ b1 b2,p1=some ⟨b1,0,none⟩/\p2=some ⟨b2,0,none⟩/\∀ W',Up W W'->∀ k (h:k<L.length),W'.cell? ⟨b1,k,none⟩=some (.string L[k].1)/\W'.cell? ⟨b2,k,none⟩=some (.string L[k].2)):=by
 obtain⟨pa,Z,H,d,D,E⟩:=ha;obtain⟨pb,cb,I,j,F,G⟩:=hb;rw[Yq] at H I d j
 cases H
 cases I
 unfold maxLen at D F;refine⟨rfl,rfl,d,j,by omega,by omega,fun h0=>?_⟩;have J:L≠[]:=Zz.1 h0
 rcases E with e|⟨b1,K,V,T⟩
 ·exact absurd (V7.1 e) J
 rcases G with e|⟨b2,O,Y,U⟩
 ·exact absurd (V7.1 e) J
 refine⟨b1,b2,K,O,fun W' hW k hk=>⟨?_,?_⟩⟩
 ·have:=T k (by rw[Yq];exact hk);rw[Vo] at this;exact (hW.cell (p:=⟨b1,k,none⟩) V).trans this
 have:=U k (by rw[Yq];exact hk);rw[Vo] at this;exact (hW.cell (p:=⟨b2,k,none⟩) Y).trans this
theorem VM (vs:Value)(t:List UInt8)(a i:ByteArray)(X Xi Xe:SI)(w:World)(ha:a.size<=1048576)(hi:i.size<=1048576)(h6:X.kind=6)(hrs:P3 w vs t X)(hri:P3 w vs X.index Xi)(hre:P3 w vs X.elem Xe)(hwi:Cw Xi)(hwe:Cw Xe)(hK:Gm (On Xi))(hw64:Xi.width<=64) :
 Calls prog 10 #[vs,.string (Oy t),.string a,.string i] w fun e w'=>∃ u,e=.returned (.string u)/\Tq (On Xi) (On Xe) a i u/\Up w w':=by
 have b7:=Hd hri;have e6:=Hd hre;have H6:=Hd h6;have c6:=Hd hwi;have e8:=Hd hwe;have HK:=Hd hK;have b8:=Hd (hrs w (Jj _ _));have U:Hid ((¬ ∃ r L,K1 (On Xi) (On Xe) a r L/\Kg (On Xi) i)->Tq (On Xi) (On Xe) a i ⟨#[]⟩):=fun h=>⟨fun r L h1 h2=>absurd ⟨r,L,h1,h2⟩ h,fun _=>rfl⟩;have z6:(X.kind != 6)=false:=by rw[h6];rfl
 clear hri hre h6 hwi hwe hK hrs
 go_in
 go_wp2_with fail
 refine b8.o.mono ?_;rintro e w1 ⟨rfl,c8⟩;have b3:=Hd c8;unfold Hj;clear c8 b8
 go_upto_region 2 with fail
 generalize Y:w1.alloc _=W2;have G:Hid (Bx W2 w1.heap.size [.int .i64 X.kind,.int .i64 (X.width:Nat),.string (Oy X.index),.string (Oy X.elem)]):=by unfold Hid;rw[<-Y];exact Ox w1 _ _
 have K:Hid (Up w W2):=by unfold Hid;rw[<-Y];exact b3.o.alloc b3.o.size _
 obtain⟨x0,x1,x2,x3⟩:=G.o.c4;clear Y
 go_wp2_with fail
 refine (Xd vs X Xi Xe a W2 ha H6.o (b7.o.next K.o) (e6.o.next K.o) c6.o e8.o HK.o hw64).mono ?_;rintro e w3 ⟨b,rfl,hb,I⟩;have V:=Hd hb;have O:=K.up I;obtain⟨x0,x1,x2,x3⟩:=(G.o.bl G.o.lt I).c4;have i6:=Hd (G.o.bl G.o.lt I);clear hb I
 cases b
 ·have HQ:=Hd (U.o (fun ⟨r,L,h1,h2⟩=>by have:=V.o.2 ⟨r,L,h1⟩;cases this))
  go_wp2
  go_ret
  exact⟨_,rfl,HQ.o,O.o⟩
 go_wp2_with fail
 refine (b7.o w3 O.o).mono ?_;rintro e w4 ⟨rfl,d0⟩;have e2:=O.up d0;clear d0
 go_wp2_with fail
 refine (Gq Xi i w4 hi c6.o).mono ?_;rintro e w5 ⟨b,rfl,hb,d1⟩;have E:=Hd hb;have b4:=e2.up d1;clear hb d1 x0 x1 x2 x3
 cases b
 ·have HQ:=Hd (U.o (fun ⟨r,L,h1,h2⟩=>by have:=E.o.2 h2;cases this))
  go_wp2
  go_ret
  exact⟨_,rfl,HQ.o,b4.o⟩
 obtain⟨r,L,hA⟩:=V.o.1 (by simp);have HA:=Hd hA;have e7:=Hd (E.o.1 (by simp));have HG:Hid (∀ u,u=K2 r L i->Tq (On Xi) (On Xe) a i u):=fun u hu=>⟨fun r' L' h1 h2=>by
  obtain⟨rfl,rfl⟩:=h1.inj HA.o;exact hu,fun h=>absurd ⟨r,L,HA.o,e7.o⟩ h⟩
 clear hA U V E
 go_wp2_with fail
 refine (Fy a w5 ha).mono ?_;rintro e w6 ⟨ok,r',p1,n1,c1,p2,n2,c2,rfl,J,d7,d2⟩;have e3:=b4.up d2;obtain rfl:ok=true:=by
  cases ok
  ·exact absurd ⟨r,L,HA.o.cut⟩ (d7 rfl)
  rfl
 obtain⟨L',hcut,d8,d9⟩:=J rfl;obtain⟨rfl,rfl⟩:=hcut.inj HA.o.cut;have b9:=Hd d8;have E:=Hd d9;clear J d7 d2 hcut d8 d9
 go_upto_region 5 with fail
 generalize Z:w6.alloc _=W7;have D:Up w6 W7:=by rw[<-Z];exact Oo _ _
 have b5:=e3.up D;have e9:Hid (Bx W7 w6.heap.size [.bool true,.string r',.slice p1 n1 c1,.slice p2 n2 c2]):=by unfold Hid;rw[<-Z];exact Ox w6 _ _
 obtain⟨a6,d6,i8,j0,j1,j2,d3⟩:=We (b9.o.next D) (E.o.next D);have T:=Hd a6;have d5:n2=n1:=by rw[a6,d6]
 subst d5;have e4:=Hd d3;obtain⟨x0,x1,x2,x3⟩:=e9.o.c4;clear Z D a6 d6 d3 b9 E;have f9:n2<=60:=by rw[T.o];exact HA.o.2.2.most
 go_wp2
 go_loopw [39] (fun vi W=>∃ k:Nat,vi=.int .i64 k/\k<=n2/\Hid (∀ j (hj:j<L'.length),j<k->L'[j].1≠i)/\Hid (W=W7)) (fun vi _=>n2 - (intOf vi).toNat)
 case atStart=>exact⟨0,rfl,J7 _,fun _ _ h=>absurd h (Ve _),rfl⟩
 obtain⟨k,rfl,hk,d,hw⟩:=hrel;have g2:=hw.o;subst g2
 by_cases f8:k<n2
 ·have d4:k<L'.length:=by rw[<-T.o];exact f8
  obtain⟨b1,b2,rfl,rfl,H⟩:=e4.o (by omega);obtain⟨y1,y2⟩:=H wr (Jj _ _) k d4;obtain⟨u,hu⟩:=O2 (L'[k].1);obtain⟨v,hv⟩:=O2 (L'[k].2);rw[hu] at y1;rw[hv] at y2;have HU:=Hd hu;have HV:=Hd hv;have k0:(0:Int)<=(k:Int):=by omega
  clear hu hv H hw
  by_cases F:u=i
  ·have e1:(u.toList==i.toList)=true:=by rw[F];simp
   have HL:=Hd (EU (r:=r') d4 d.o (by rw[HU.o];exact F));clear F d
   go_wp2
   go_ret
   exact⟨_,rfl,HG.o _ (by rw[HL.o,HV.o]),b5.o⟩
  have e1:(u.toList==i.toList)=false:=by rw[Jd];intro e;exact F (Kz (by rw[<-Je,<-Je];exact e))
  have HL:Hid (∀ j (hj:j<L'.length),j<k+1->L'[j].1≠i):=fun j hj h=>by
   by_cases e:j=k
   ·subst e;rw[HU.o];exact F
   exact d.o j hj (by omega)
  clear F d
  go_wp2_with fail
  exact⟨⟨k+1,by go_num,by omega,HL,Hd trivial⟩,by simp[intOf];omega⟩
 have HL:=Hd (BK (r:=r') (fun j hj=>d.o j hj (by have:=T.o;omega)));clear d hw
 go_wp2
 go_ret
 exact⟨_,rfl,HG.o _ HL.o.symm,b5.o⟩
theorem AO {ki ke:SK}{L:List Kd}(hr:Kg ke r)(h:SrtA ki ke r L):Xt (E8 r L) r L:=
 ⟨rfl,fun c hc=>(Gt hr c hc).1,fun e he=>⟨Gt (h.ents e he).1,fun c hc=>(Gt (h.ents e he).2.1 c hc).1⟩⟩
theorem MP {ki ke:SK}{L:List Kd}(hr:Kg ke r)(h:SrtA ki ke r L):(∃ r' L',K1 ki ke (Oy (E8 r L)) r' L')↔(L.length<=60/\(E8 r L).length<=2000):=by
 have D:(Oy (E8 r L)).size=(E8 r L).length:=by show (E8 r L).toArray.size=_;simp
 constructor
 ·rintro⟨r',L',d,j,h3⟩;have E:Xt (E8 r L) r' L':=by
   have:=h3.cut;rw[<-d,O4] at this;exact this
  obtain⟨rfl,rfl⟩:=E.inj (AO hr h);exact⟨h3.most,by rw[<-D];exact j⟩
 rintro⟨d,j⟩;exact⟨r,L,by rw[O4],by rw[D];exact j,⟨hr,d,h.ents,h.sort⟩⟩
theorem DL {ki ke:SK}{L:List Kd}(hr:Kg ke r)(h:SrtA ki ke r L){b:Bool}(hb:b=true↔∃ r' L',K1 ki ke (Oy (E8 r L)) r' L'):X9 r L=if b then Oy (E8 r L) else ⟨#[]⟩:=by
 rw[MP hr h] at hb;unfold X9
 cases b
 ·rw[if_neg (fun h=>by have:=hb.2 h;cases this)];rfl
 rw[if_pos (hb.1 rfl)];rfl
theorem QO {L:List Kd}{e:Kd}(h:e.1≠i):K2 r (L++[e]) i=K2 r L i:=by
 have:=Bb (r:=r) (A:=L) (B:=[e]) (C:=[]) (i:=i) (by simp only[K2];rw[if_neg h]);rw[this,Z3]
theorem XJ {L:List Kd}{e:Kd}(h:e.1=i)(hn:∀ x∈L,x.1≠i):K2 r (L++[e]) i=e.2:=by
 rw[Qu hn];unfold K2;rw[if_pos h]
theorem Tg {wd:Nat}{v:ByteArray}{L:List Kd}{n:Nat}(h0:0<n):Km wd r L v (n+1)=if K2 r L (Ny wd n)=v then Km wd r L v n else Km wd r L v n++[(Ny wd n,K2 r L (Ny wd n))]:=by
 show Km wd r L v n++(if n=0∨K2 r L (Ny wd n)=v then [] else [(Ny wd n,K2 r L (Ny wd n))])=_
 by_cases h:K2 r L (Ny wd n)=v
 ·rw[if_pos (.inr h),if_pos h,Z3]
 rw[if_neg (by rintro (e|e);omega;exact h e),if_neg h]
theorem Ax {wd:Nat}{r v:ByteArray}{L:List Kd}:∀ N,(Km wd r L v N).length<=N
 | 0=>O1
 | N+1=>by
   have:=Ax (wd:=wd) (r:=r) (v:=v) (L:=L) N
   show (Km wd r L v N++_).length<=_
   rw[Jq]
   split<;>simp<;>omega
theorem Lg {ops:Array Oper}{rest:List Oper}{o:Oper}{a:Act}{Q:Exit->Act->World->Prop}{W:World}{base n H:Nat}{v:Value}{xs:List Value}{t:ByteArray}(hgd:o.guard=none)(s y:Operand)
 (ho:o.op=.call { callee:=.builtin .append,args:=#[s,y],argTypes:=#[23,23] }) (hs:a.eval s=v) (hown:W.ownsRow base 9 1 v n xs) (hx:a.eval y=.slice (some ⟨H,0,none⟩) 1 1) (hH:W.heap.size=H) (hn:n<=1000000) (hbase:base<=W.heap.size)
 (h:∀ g cap W',W'.ownsRow base 9 1 (.slice (some ⟨g,0,none⟩) (n+1) cap) (n+1) (xs++[.string t])->(W.alloc (.cells #[.string t] 9)).grownBy W' v.ownBlock->(v.ownBlock=some g∨W.heap.size<=g)->wpList prog ops Q rest (a.put o.dst (.slice (some ⟨g,0,none⟩) (n+1) cap)) W') :
 wpList prog ops Q (o::rest) a (W.alloc (.cells #[.string t] 9)):=by
 subst hH;obtain⟨i0,d,j,D,E⟩:=Sq;refine wpList_plain hgd fun _ hK=>?_;obtain⟨g,cap,W',F,G,k2,k3,k4⟩:=run_append_lies (P:=prog) (W.alloc (.cells #[.string t] 9)) 23 o.type base 9 i0 _ 1 16 underlying23 d j D E rfl (by decide) v n xs (hown.alloc _) ⟨W.heap.size,0,none⟩ 1 1 [.string t] (by rfl) (World.news_of_block (cs:=#[.string t]) (t:=9) (fr:=(0,0)) (heap_alloc_new W _)) (by simp[Value.oneCell']) (by decide) (by unfold maxLen;omega) (by omega) (by simp;omega) _ rfl;unfold Oper.wp execOp;simp only[ho,resolve,invoke,builtin,Sem.run_bind,Sem.run_pure,Result.andThen_ok,Uq,Vc,Vs,hs,hx,F];refine hK _ _ (h g cap W' G k2 ?_)
 rcases k3 with e|e
 ·exact .inl e
 exact .inr (by rw[e];simp)
theorem MQ (a b:Int)(c d:ByteArray)(w:World):(Instr.field 37 (.agg #[.int .i64 a,.int .i64 b,.string c,.string d]) 1).run prog w=.ok (.int .i64 b) w:=by kernel_rfl
attribute [local go_sem] MQ
theorem T5 (vs:Value)(X Xi Xe:SI)(okc:Bool)(r v a:ByteArray)(av bv:Value)(L:List Kd)(w:World)(hA:K1 (On Xi) (On Xe) a r L)(hv:Kg (On Xe) v)(h4:Xi.kind=4)(h6:X.kind=6)(hri:P3 w vs X.index Xi)(hre:P3 w vs X.elem Xe)(hwi:Cw Xi)(hwe:Cw Xe)(hsa:Dp w av (L.map Prod.fst))(hsb:Dp w bv (L.map Prod.snd)) :
 Calls prog 28 #[vs,Hj X,.agg #[.bool okc,.string r,av,bv],.string v] w fun e w'=>∃ r' L',e=.returned (.string (X9 r' L'))/\((v=r/\r'=r/\L'=L)∨(v≠r/\r'=v/\L'=Km Xi.width r L v (2 ^ Xi.width)))/\Up w w':=by
 have l9:=Hd hri;have s7:=Hd hre;have H6:=Hd h6;have H4:=Hd h4;have t7:=Hd hwi;have t6:=Hd hwe;have HA:=Hd hA;have HV:=Hd hv;have v6:=(hwi h4).1;have e4:=(hwi h4).2;have n5:L.length<=60:=hA.2.2.most;obtain⟨p1,c1,rfl,_,_,_⟩:=(id hsa);obtain⟨p2,c2,rfl,_,_,_⟩:=(id hsb);obtain⟨n1,I⟩:=O2 ((L.map Prod.fst).length);obtain⟨n2,a7⟩:=O2 ((L.map Prod.snd).length);rw[I] at hsa;rw[a7] at hsb;rw[I,a7];obtain⟨W1,d6⟩:=O2 ((w.alloc (.cells #[.int .i64 X.kind,.int .i64 (X.width:Nat),.string (Oy X.index),.string (Oy X.elem)] 37)).alloc (.cells #[.bool okc,.string r,.slice p1 n1 c1,.slice p2 n2 c2] 60));have e6:Hid (Up w W1):=by unfold Hid;rw[<-d6];exact ((Jj _ _).alloc O1 _).alloc (by simp) _
 have j0:Hid (Bx W1 w.heap.size [.int .i64 X.kind,.int .i64 (X.width:Nat),.string (Oy X.index),.string (Oy X.elem)]):=by unfold Hid;rw[<-d6];exact (Ox w _ _).alloc _
 have n0:Hid (Bx W1 (w.heap.size+1) [.bool okc,.string r,.slice p1 n1 c1,.slice p2 n2 c2]):=by
  unfold Hid;rw[<-d6];rw[show w.heap.size+1=(w.alloc (.cells #[.int .i64 X.kind,.int .i64 (X.width:Nat),.string (Oy X.index),.string (Oy X.elem)] 37)).heap.size from (by simp)];exact Ox _ [.bool okc,.string r,.slice p1 n1 c1,.slice p2 n2 c2] _
 have m5:=Hd (hsa.next e6.o);have m6:=Hd (hsb.next e6.o);have HW:=Hd d6;obtain⟨x0,x1,x2,x3⟩:=j0.o.c4;unfold Hj;clear d6 hri hre h6 h4 hwi hwe hA hv hsa hsb I a7
 go_in
 go_upto_region 1 with fail
 rw[HW.o]
 go_wp2_with fail
 refine (l9.o W1 e6.o).mono ?_;rintro e w2 ⟨rfl,K⟩;have w7:=Hd K;have i6:=e6.up K;have c7:=Hd (m5.o.next K);have d0:=Hd (m6.o.next K);have a6:=Hd (n0.o.bl n0.o.lt K);have e8:=Hd (j0.o.bl j0.o.lt K);unfold Hj;obtain⟨wd,f9⟩:=O2 Xi.width;rw[f9] at v6 e4;rw[f9];have F:=Hd f9;clear K x0 x1 x2 x3 m5 m6 f9;obtain⟨y0,y1,y2,y3⟩:=a6.o.c4
 by_cases a8:v=r
 ·have e1:(v.toList==r.toList)=true:=by rw[a8];simp
  have d4:=Hd a8;have o4:Dh r L:=by
   have h1:=Su HA.o.cut;have h2:=HA.o.2.1;have h3:a.data.toList.length=a.size:=rfl;exact⟨by omega,by omega,fun e he=>by have:=h1.2 e he;omega⟩
  have e7:=Hd o4;have Z:Hid (X9 r L=Oy (E8 r L)):=by
   unfold Hid X9;rw[if_pos ⟨n5,by have h1:=HA.o.1;have h2:=HA.o.2.1;rw[<-h1];exact h2⟩]
  clear a8 o4
  go_wp2_with fail
  refine (Cx okc r _ _ L w2 c7.o d0.o e7.o).mono ?_;rintro e w3 ⟨rfl,n7⟩;have r4:=i6.up n7;clear n7
  go_wp2
  go_ret
  exact⟨r,L,by rw[Z.o];rfl,.inl ⟨d4.o,rfl,rfl⟩,r4.o⟩
 have e1:(v.toList==r.toList)=false:=by rw[Jd];intro e;exact a8 (Kz (by rw[<-Je,<-Je];exact e))
 have d4:=Hd a8;clear a8
 by_cases h7:7<wd
 ·have Z:Hid (X9 v (Km wd r L v (2 ^ wd))=⟨#[]⟩):=by
   refine Mw ?_;have hp:256<=2 ^ wd:=by have:=J3 (show 0<2 by decide) (show 8<=wd by omega);simpa using this
   have h1:=Tn (ki:=On Xi) (r:=r) (v:=v) (L:=L) H4.o d4.o (N:=256) (by show 256<=2 ^ Xi.width;rw[F.o];exact hp);have h2:=Fp (w:=Xi.width) (r:=r) (v:=v) (L:=L) (n:=256) (N:=2 ^ Xi.width) (by rw[F.o];exact hp);have h3:(On Xi).width=wd:=F.o;rw[h3] at h1;rw[F.o] at h2;omega
  have u2:(7:Int)<(wd:Int):=by omega
  go_wp2
  go_ret
  exact⟨v,_,by rw[Z.o];rfl,.inr ⟨d4.o,rfl,by rw[F.o]⟩,i6.o⟩
 have u1:wd<=7:=by omega
 have u2:¬ (7:Int)<(wd:Int):=by omega
 obtain⟨G,hG⟩:=O2 w2.heap.size;obtain⟨N,hN⟩:=O2 (2 ^ wd);have u6:N<=128:=by rw[<-hN];have:=J3 (show 0<2 by decide) u1;simpa using this
 have u5:1<=N:=by rw[<-hN];exact Ua (by decide)
 have E1:(1:Int)*2 ^ wd=(N:Int):=by rw[Int.one_mul,<-hN,Int.natCast_pow];rfl
 have x8:(2:Int) ^ wd=(N:Int):=by rw[<-hN,Int.natCast_pow];rfl
 have l7:=Hd hN
 go_upto_region 7 with fail
 generalize j8:w2.alloc _=W7;have H:Up w2 W7:=by rw[<-j8];exact Oo _ _
 have r5:=i6.up H;have m9:Hid (Bx W7 G [.bool false,.string v,.slice none 0 0,.slice none 0 0]):=by unfold Hid;rw[<-j8,<-hG];exact Ox w2 _ _
 have n3:Hid (∀ W,Below G W7 W->Bx W (w.heap.size+1) [.bool okc,.string r,.slice p1 n1 c1,.slice p2 n2 c2]):=fun W hW=>(a6.o.bl a6.o.lt H).bl (N:=G) (by rw[<-hG];exact a6.o.lt) hW;have t8:Hid (∀ W,Below G W7 W->Bx W w.heap.size [.int .i64 X.kind,.int .i64 (X.width:Nat),.string (Oy X.index),.string (Oy X.elem)]):=fun W hW=>(e8.o.bl e8.o.lt H).bl (N:=G) (by rw[<-hG];exact e8.o.lt) hW;obtain⟨I,a7,F2,H0,H3,H5,o1⟩:=We c7.o d0.o;have l6:=Hd I;have o3:n2=n1:=by rw[I,a7]
 subst o3;have s2:Hid (0<n2->∃ b1 b2,p1=some ⟨b1,0,none⟩/\p2=some ⟨b2,0,none⟩/\∀ W,Below G W7 W->∀ k (h:k<L.length),W.cell? ⟨b1,k,none⟩=some (.string L[k].1)/\W.cell? ⟨b2,k,none⟩=some (.string L[k].2)):=fun h0=>by
  obtain⟨b1,b2,e1,e2,hc⟩:=o1 h0;refine⟨b1,b2,e1,e2,fun W hW k hk=>?_⟩;refine hc W ?_ k hk;exact H.trans (by rw[hG];exact hW)
 have s4:Hid (w.heap.size+1<G):=by unfold Hid;rw[<-hG];exact a6.o.lt
 have s0:Hid (∀ W,Below G W7 W->Up w W):=fun W hW=>r5.o.trans (hW.mono (by have:=s4.o;omega));have L2:n2<=60:=by omega
 have s3:Hid (G<W7.heap.size):=m9.o.lt;have u0:Hid (Km wd r L v 1=[]):=by unfold Hid;show ([]++if (0:Nat)=0∨_ then [] else _)=[];rw[if_pos (.inl rfl)];rfl
 try rw[hG]
 clear hG hN j8 H I a7 o1 e8 a6 c7 d0 y0 y1 y2 y3 e1
 go_wp2
 go_loopw [11] (fun vn W=>∃ (n:Nat) (M:List Kd) (av bv:Value),vn=.int .i64 n/\1<=n/\n<=N/\Hid (M=Km wd r L v n)/\Hid (TwoR false G W v av bv (M.map Prod.fst) (M.map Prod.snd))/\Hid (Below G W7 W)) (fun vn _=>N - (intOf vn).toNat)
 case atStart=>exact⟨1,[],.slice none 0 0,.slice none 0 0,rfl,O1,u5,u0.o.symm,Wf m9.o,Jj _ _⟩
 obtain⟨n,M,av,bv,rfl,I,K3,hM,hT,hb⟩:=hrel
 by_cases H2:n<N
 ·obtain⟨i,hi⟩:=O2 (Ny wd n);have HI:=Hd hi;have r8:=Hd hb;have o6:=n3.o wr hb.o;obtain⟨y0,y1,y2,y3⟩:=o6.c4;have u7:=Ax (wd:=wd) (r:=r) (v:=v) (L:=L) n;have j5:M.length<=128:=by rw[hM.o];omega
  have y7:(n:Int)<18446744073709551616:=by omega
  have l3:=Hd (Q4 n wd wr (by omega) e4);clear o6 hi u7
  go_wp2_with fail
  refine l3.o.mono ?_;rintro e w9 ⟨rfl,d8⟩;have b6:Hid (Below G W7 w9):=hb.o.trans (d8.mono (by have:=hb.o.size;have:=s3.o;omega));have d:Hid (TwoR false G w9 v av bv (M.map Prod.fst) (M.map Prod.snd)):=by
   have hT:=hT.o;exact⟨hT.bx.bl hT.bx.lt d8,Gb hT.ra (fun k e=>d8.block k (hT.ra.lt k e).2),Gb hT.rb (fun k e=>d8.block k (hT.rb.lt k e).2),hT.ab⟩
  obtain⟨T,f8⟩:=O2 (Q.Kq (digits2 n wd));have L3:T.size<=64:=by rw[<-f8,Q.Kf,K5];exact e4
  have x9:(⟨#[35,98]⟩:ByteArray)++T=i:=by rw[<-HI.o,<-f8];rfl
  rw[f8];obtain⟨y0,y1,y2,y3⟩:=(n3.o w9 b6.o).c4;clear d8 f8 l3 hT hb r8
  go_wp2_with fail
  have z1:=HI
  go_loopw [13,48] (fun vx vk W=>∃ (x:ByteArray) (k:Nat),vx=.string x/\vk=.int .i64 k/\k<=n2/\Hid (x=K2 r (L.take k) i)/\Hid (W=w9)) (fun _ vk _=>n2 - (intOf vk).toNat)
  case atStart=>exact⟨r,0,rfl,rfl,J7 _,rfl,rfl⟩
  obtain⟨x,k,rfl,rfl,hk,hx,hw⟩:=hrel;have v7:=hw.o;subst v7
  by_cases u8:k<n2
  ·have k5:k<L.length:=by rw[<-l6.o];exact u8
   obtain⟨b1,b2,rfl,rfl,d9⟩:=s2.o (by omega);obtain⟨q1,q2⟩:=d9 wr b6.o k k5;obtain⟨u,hu⟩:=O2 (L[k].1);obtain⟨z,hz⟩:=O2 (L[k].2);rw[hu] at q1;rw[hz] at q2;have HU:=Hd hu;have HZ:=Hd hz;have k0:(0:Int)<=(k:Int):=by omega
   have o5:L.take (k+1)=L.take k++[L[k]]:=Jt k5;have m7:=Hd o5;clear hu hz d9 hw o5
   by_cases U:u=i
   ·have e1:(u.toList==i.toList)=true:=by rw[U];simp
    have HL:Hid (z=K2 r (L.take (k+1)) i):=by
     unfold Hid;rw[m7.o,XJ (by rw[HU.o];exact U) (fun y hy e=>?_),HZ.o];obtain⟨j,hj,rfl⟩:=Ym hy;rw[Jm] at hj;rw[Zn] at e;have:=Zl.1 HA.o.2.2.sort j k (by omega) k5 (by omega);rw[e,HU.o,U] at this;omega
    clear U hx
    go_wp2_with fail
    exact⟨⟨z,k+1,rfl,by go_num,by omega,HL,(by first|exact Hd trivial|exact Hd rfl)⟩,by simp[intOf];omega⟩
   have e1:(u.toList==i.toList)=false:=by rw[Jd];intro e;exact U (Kz (by rw[<-Je,<-Je];exact e))
   have HL:Hid (x=K2 r (L.take (k+1)) i):=by
    unfold Hid;rw[m7.o,QO (by rw[HU.o];exact U)];exact hx.o
   clear U hx
   go_wp2_with fail
   exact⟨⟨x,k+1,rfl,by go_num,by omega,HL,(by first|exact Hd trivial|exact Hd rfl)⟩,by simp[intOf];omega⟩
  have o2:k=n2:=by omega
  have HX:Hid (x=K2 r L i):=by
   unfold Hid;rw[hx.o,o2,l6.o,Zi]
  clear hx o2 hw;have g1:n+1<=N:=by omega
  by_cases b4:x=v
  ·have e1:(x.toList==v.toList)=true:=by rw[b4];simp
   have i7:Hid (M=Km wd r L v (n+1)):=by
    unfold Hid;rw[Tg (by omega),HI.o,<-HX.o,if_pos b4];exact hM.o
   clear b4
   go_wp2_with fail
   exact⟨⟨n+1,M,av,bv,by go_num,by omega,g1,i7,d,b6⟩,by simp[intOf];omega⟩
  have e1:(x.toList==v.toList)=false:=by rw[Jd];intro e;exact b4 (Kz (by rw[<-Je,<-Je];exact e))
  have i7:Hid (M++[(i,x)]=Km wd r L v (n+1)):=by
   unfold Hid;rw[Tg (by omega),HI.o,<-HX.o,if_neg b4,<-hM.o]
  clear b4;obtain⟨A,hA⟩:∃ A,A=M.map Prod.fst:=⟨_,rfl⟩;obtain⟨B,hB⟩:∃ B,B=M.map Prod.snd:=⟨_,rfl⟩;obtain⟨m1,D⟩:=O2 A.length;obtain⟨m2,E⟩:=O2 B.length;have y5:m1<=128:=by rw[<-D,hA,Yq];exact j5
  have y6:m2<=128:=by rw[<-E,hB,Yq];exact j5
  rw[<-hA,<-hB] at d;obtain⟨pa,ca,rfl,_,_,_⟩:=N0 d.o.ra;obtain⟨pb,cb,rfl,_,_,_⟩:=N0 d.o.rb;rw[D,E] at d;have b8:=Hd D;have b9:=Hd E;have r3:=Hd hA;have r9:=Hd hB;have i8:Hid (wr.ownsRow (G+1) 9 1 (.slice pa m1 ca) m1 (A.map Value.string)):=by
   have:=d.o.ra;rw[b8.o] at this;exact this
  have V:Hid (G+1<=wr.heap.size):=d.o.bx.lt;have l2:Hid (∀ w6,(wr.alloc (.cells #[.string i] 9)).grownBy w6 (Value.slice pa m1 ca).ownBlock->Bx w6 G [.bool false,.string v,.slice pa m1 ca,.slice pb m2 cb]):=fun w6 h=>d.o.boxA (.inl rfl) h;have b2:=d.o.bx.cell 2;clear hA hB D E
  go_upto_region 20 with (at_builtin;refine Lg rfl _ _ rfl rfl i8.o rfl rfl (by omega) V.o ?_;intro g6 c6 w6 e3 e0 h8;have j9:=l2.o w6 e0;have d2:=j9.cell 2;have z2:=j9.fz 2;simp only[J6,Yk] at d2)
  have O:(wr.alloc (.cells #[.string i] 9)).grownBy w6 (Value.slice pa m1 ca).ownBlock:=e0;have d7:(Value.slice pa m1 ca).ownBlock=some g6∨wr.heap.size<=g6:=h8;have j7:TwoR false G (w6.setCell ⟨G,2,none⟩ (.slice (some ⟨g6,0,none⟩) (m1+1) c6)) v (.slice (some ⟨g6,0,none⟩) (m1+1) c6) (.slice pb m2 cb) (A++[i]) B:=by
   have h:=d.o.appA (W':=w6) (g:=g6) (cap:=c6) (a:=i) (o:=.cells #[.string i] 9) (by rw[b8.o];exact e3) O d7;rw[b8.o] at h;exact h
  have j3:Below G W7 (w6.setCell ⟨G,2,none⟩ (.slice (some ⟨g6,0,none⟩) (m1+1) c6)):=((b6.o.alloc (by have:=V.o;omega) (.cells #[.string i] 9)).grown O (by have:=V.o;simp;omega) (fun k e=>by have:=(i8.o.lt k e).1;omega)).sc;obtain⟨W8,n6⟩:=O2 (w6.setCell ⟨G,2,none⟩ (.slice (some ⟨g6,0,none⟩) (m1+1) c6));rw[n6] at j7 j3 ⊢;have d1:=Hd j7;have r6:=Hd j3;clear n6 j7 j3 O d7 e3 e0 h8 j9 d2 z2 b2 i8 l2 V d b6 y0 y1 y2 y3;have l8:Hid (W8.ownsRow (G+1) 9 1 (.slice pb m2 cb) m2 (B.map Value.string)):=by
   have:=d1.o.rb;rw[b9.o] at this;exact this
  have b7:Hid (G+1<=W8.heap.size):=d1.o.bx.lt;have s1:Hid (∀ w6,(W8.alloc (.cells #[.string x] 9)).grownBy w6 (Value.slice pb m2 cb).ownBlock->Bx w6 G [.bool false,.string v,.slice (some ⟨g6,0,none⟩) (m1+1) c6,.slice pb m2 cb]):=fun w6 h=>d1.o.boxA (.inr rfl) h;have b3:=d1.o.bx.cell 3;have l5:Hid (∀ g8 c8 w8,w8.ownsRow (G+1) 9 1 (.slice (some ⟨g8,0,none⟩) (m2+1) c8) (m2+1) (B.map Value.string++[.string x])->(W8.alloc (.cells #[.string x] 9)).grownBy w8 (Value.slice pb m2 cb).ownBlock->((Value.slice pb m2 cb).ownBlock=some g8∨W8.heap.size<=g8)->TwoR false G (w8.setCell ⟨G,3,none⟩ (.slice (some ⟨g8,0,none⟩) (m2+1) c8)) v (.slice (some ⟨g6,0,none⟩) (m1+1) c6) (.slice (some ⟨g8,0,none⟩) (m2+1) c8) ((M++[(i,x)]).map Prod.fst) ((M++[(i,x)]).map Prod.snd)/\Below G W7 (w8.setCell ⟨G,3,none⟩ (.slice (some ⟨g8,0,none⟩) (m2+1) c8))):=fun g8 c8 w8 hown8 hgr8 hat8=>by
   have h:=d1.o.appB (W':=w8) (g:=g8) (cap:=c8) (a:=x) (o:=.cells #[.string x] 9) (by rw[b9.o];exact hown8) hgr8 hat8;rw[b9.o] at h;refine⟨?_,((r6.o.alloc (by have:=b7.o;omega) (.cells #[.string x] 9)).grown hgr8 (by have:=b7.o;simp;omega) (fun k e=>by have:=(l8.o.lt k e).1;omega)).sc⟩;rw[Zc,Zc,<-r3.o,<-r9.o];exact h
  go_wp2_with (at_builtin;refine Lg rfl _ _ rfl rfl l8.o rfl rfl (by omega) b7.o ?_;intro g8 c8 w8 hown8 hgr8 hat8;have n8:=s1.o w8 hgr8;have d3:=n8.cell 3;have z3:=n8.fz 3;simp only[J6,Yk] at d3)
  have l4:=l5.o g8 c8 w8 hown8 hgr8 hat8;exact⟨⟨n+1,M++[(i,x)],_,_,by go_num,by omega,g1,i7,l4.1,l4.2⟩,by simp[intOf];omega⟩
 have e:n=N:=by omega
 have f7:M=Km wd r L v (2 ^ wd):=by rw[l7.o,<-e];exact hM.o
 have s6:=Hd f7;have J:=hT.o;obtain⟨pa,ca,rfl,_,_,_⟩:=N0 J.ra;obtain⟨pb,cb,rfl,_,_,_⟩:=N0 J.rb;obtain⟨m1,D⟩:=O2 ((M.map Prod.fst).length);obtain⟨m2,E⟩:=O2 ((M.map Prod.snd).length);rw[D,E] at J;clear D E;obtain⟨b0,b1,b2,b3⟩:=J.bx.c4;have g4:Hid (SrtA (On Xi) (On Xe) v M):=by
  unfold Hid;rw[f7,<-F.o];exact R4 (ki:=On Xi) H4.o (by show Xi.width<=64;rw[F.o];exact e4) ⟨HA.o.2.2.ents,HA.o.2.2.sort⟩ HA.o.2.2.rest O1
 have j5:M.length<=128:=by have:=Ax (wd:=wd) (r:=r) (v:=v) (L:=L) (2 ^ wd);rw[f7];rw[l7.o] at this ⊢;omega
 have e7:Hid (Dh v M):=⟨by have:=HV.o.1;omega,by omega,fun x hx=>by have h1:=g4.o.ents x hx;have:=h1.1.1;have:=h1.2.1.1;omega⟩;have s8:Hid ((Oy (E8 v M)).size<=1048576):=by
  have h1:=Qs e7.o
  show (E8 v M).toArray.size<=_
  unfold E8;simp;have:(Hu v M).length<=3000+128*6002:=by omega
  omega
 have g2:=Hd (N0 J.ra);have g3:=Hd (N0 J.rb);have r7:=Hd (s0.o wr hb.o);have j1:=Hd (t8.o wr hb.o);obtain⟨x0,x1,x2,x3⟩:=j1.o.c4;have HJ:=Hd (Cx false v _ _ M wr g2.o g3.o e7.o);have m8:=Hd (fun W (hW:Up w W)=>Xd vs X Xi Xe (Oy (E8 v M)) W s8.o H6.o (l9.o.next hW) (s7.o.next hW) t7.o t6.o (.inr (.inl H4.o)) (by rw[F.o];exact e4));have L1:¬ (n:Int)<(N:Int):=by omega
 have z6:=Hd e;clear hT J hb f7 e g2 g3;obtain⟨ST,j6⟩:=O2 (Oy (E8 v M));have g5:=Hd j6;rw[j6] at HJ m8;clear j6
 go_wp2_with fail
 refine HJ.o.mono ?_;rintro e wj ⟨rfl,k1⟩;have l0:=r7.up k1;obtain⟨x0,x1,x2,x3⟩:=(j1.o.bl j1.o.lt k1).c4;clear k1
 go_wp2_with fail
 refine (m8.o wj l0.o).mono ?_;rintro e wv ⟨b,rfl,n9,o0⟩;have l1:=l0.up o0;have Z:Hid (X9 v M=if b then ST else ⟨#[]⟩):=by
  unfold Hid;rw[<-g5.o];exact DL HV.o g4.o (by rw[g5.o];exact n9)
 have Y:Hid (v≠r/\M=Km Xi.width r L v (2 ^ Xi.width)):=⟨d4.o,by rw[F.o];exact s6.o⟩;clear n9 o0
 cases b
 ·go_wp2
  go_ret
  exact⟨v,M,by rw[Z.o];rfl,.inr ⟨Y.o.1,rfl,Y.o.2⟩,l1.o⟩
 go_wp2
 go_ret
 exact⟨v,M,by rw[Z.o];rfl,.inr ⟨Y.o.1,rfl,Y.o.2⟩,l1.o⟩
end Go.Proofs.YtjjgilacnocigaaGreatDoor
namespace Go.Proofs.YtjjgilacnocigaaGreatDoor
open ChangeShapes WideShapes ChangeAt RowKit
variable {d:Bool}{i o' r v:ByteArray}{k:Nat}
structure PutI (ki:SK)(r i v:ByteArray)(L:List Kd)(k:Nat)(d:Bool)(o:ByteArray)(M:List Kd):Prop where
 out:o=Oy (123::Hu r M)
 len:M.length<=k+1
 sml:∀ e∈M,e.1.size<=2000/\e.2.size<=2000
 no:d=false->k<=L.length/\M=L.take k/\∀ j (h:j<L.length),j<k->key ki L[j].1<key ki i
 yes:d=true->∃ p q,p<=q/\q<=k/\q<=L.length/\M=L.take p++newE r i v++(L.drop q).take (k - q)/\(q=p∨(q=p+1/\∃ h:p<L.length,L[p].1=i))/\(∀ j (h:j<L.length),j<p->key ki L[j].1<key ki i)/\(∀ j (h:j<L.length),q<=j->key ki i<key ki L[j].1)
theorem PutI.size {ki:SK}{L:List Kd}{o:ByteArray}{M:List Kd}(h:PutI ki r i v L k d o M)(hr:r.size<=2000)(hk:k<=61):o.size<=400000:=by
 have j:Dh r M:=⟨by omega,by have:=h.len;omega,fun e he=>by have:=h.sml e he;omega⟩;have D:=Qs j;have h3:=h.len;rw[h.out]
 show (123::Hu r M).toArray.size<=_
 simp only[Vh,J8];omega
theorem Cl {M:List Kd}{o x y:ByteArray}(ho:o=Oy (123::Hu r M)):o++(⟨#[59]⟩++x++⟨#[61]⟩++y)=Oy (123::Hu r (M++[(x,y)])):=by
 rw[ho,Ce];refine Kz ?_;simp[Oy,Ie]
theorem PutI.keep {ki:SK}{L:List Kd}{o:ByteArray}{M:List Kd}(h:PutI ki r i v L k d o M)(hk:k<L.length)(hs:L[k].1.size<=2000/\L[k].2.size<=2000)(hlt:d=false->key ki L[k].1<key ki i):PutI ki r i v L (k+1) d (o++(⟨#[59]⟩++L[k].1++⟨#[61]⟩++L[k].2)) (M++[L[k]]):=by
 refine⟨Cl h.out,by rw[Jq];have:=h.len;simp;omega,fun e he=>?_,fun hd=>?_,fun hd=>?_⟩
 ·rcases J5.1 he with he|he
  ·exact h.sml e he
  rcases Ye.1 he with rfl;exact hs
 ·obtain⟨D,E,h3⟩:=h.no hd;refine⟨hk,by rw[E,Jt hk],fun j hj hj2=>?_⟩
  by_cases e:j=k
  ·subst e;exact hlt hd
  exact h3 j hj (by omega)
 obtain⟨p,q,D,E,h3,h4,h5,F,G⟩:=h.yes hd;refine⟨p,q,D,by omega,h3,?_,h5,F,G⟩;rw[h4,Yo]
 congr 1
 rw[show k+1 - q=k - q+1 by omega,Jt (by rw[Jr];omega),Zm];simp only[show q+(k - q)=k by omega]
theorem PutI.lay {ki:SK}{L:List Kd}{o:ByteArray}{M:List Kd}(h:PutI ki r i v L k false o M)(ho:o'=Oy (123::Hu r (M++newE r i v)))(hiv:i.size<=2000/\v.size<=2000):o'=Oy (123::Hu r (L.take k++newE r i v))/\(M++newE r i v).length<=k+1/\∀ e∈M++newE r i v,e.1.size<=2000/\e.2.size<=2000:=by
 obtain⟨j,d,_⟩:=h.no rfl;refine⟨by rw[ho,d],?_,fun e he=>?_⟩
 ·rw[Jq,d,Jm];unfold newE
  split<;>simp<;>omega
 rcases J5.1 he with he|he
 ·exact h.sml e he
 unfold newE at he
 split at he
 ·cases he
 rcases Ye.1 he with rfl;exact hiv
theorem PutI.over {ki:SK}{L:List Kd}{o:ByteArray}{M:List Kd}(h:PutI ki r i v L k false o M)(ho:o'=Oy (123::Hu r (M++newE r i v)))(hiv:i.size<=2000/\v.size<=2000)(hk:k<L.length)(hi:L[k].1=i)(hs:L.Pairwise fun e f=>key ki e.1<key ki f.1):PutI ki r i v L (k+1) true o' (M++newE r i v):=by
 obtain⟨a,b,c⟩:=h.lay ho hiv;obtain⟨D,d,h3⟩:=h.no rfl;refine⟨ho,by omega,c,fun e=>(by cases e),fun _=>⟨k,k+1,by omega,O1,hk,?_,.inr ⟨rfl,hk,hi⟩,h3,fun j hj hj2=>?_⟩⟩
 ·rw[d,V9,List.take_zero,Z3]
 have:=Zl.1 hs k j hk hj (by omega);rw[hi] at this;exact this
theorem PutI.ahead {ki:SK}{L:List Kd}{o:ByteArray}{M:List Kd}(h:PutI ki r i v L k false o M)(ho:o'=Oy (123::Hu r (M++newE r i v)))(hiv:i.size<=2000/\v.size<=2000)(hk:k<L.length)(hi:key ki i<key ki L[k].1)(hs:L.Pairwise fun e f=>key ki e.1<key ki f.1)(hsm:L[k].1.size<=2000/\L[k].2.size<=2000):PutI ki r i v L (k+1) true (o'++(⟨#[59]⟩++L[k].1++⟨#[61]⟩++L[k].2)) (M++newE r i v++[L[k]]):=by
 obtain⟨a,b,c⟩:=h.lay ho hiv;obtain⟨d,D,h3⟩:=h.no rfl;refine⟨Cl ho,by rw[Jq,Vk];omega,fun e he=>?_,fun e=>(by cases e),fun _=>⟨k,k,O1,by omega,d,?_,.inl rfl,h3,fun j hj hj2=>?_⟩⟩
 ·rcases J5.1 he with he|he
  ·exact c e he
  rcases Ye.1 he with rfl;exact hsm
 ·rw[D,show k+1 - k=1 by omega,Yw hk];rfl
 by_cases e:j=k
 ·subst e;exact hi
 have:=Zl.1 hs k j hk hj (by omega);omega
theorem PutI.last {ki:SK}{L:List Kd}{o:ByteArray}{M:List Kd}(h:PutI ki r i v L k false o M)(ho:o'=Oy (123::Hu r (M++newE r i v)))(hiv:i.size<=2000/\v.size<=2000)(hk:k=L.length):PutI ki r i v L (k+1) true o' (M++newE r i v):=by
 obtain⟨a,b,c⟩:=h.lay ho hiv;obtain⟨d,D,h3⟩:=h.no rfl;refine⟨ho,by omega,c,fun e=>(by cases e),fun _=>⟨k,k,O1,by omega,d,?_,.inl rfl,h3,fun j hj hj2=>by omega⟩⟩;rw[D,Uw (by omega)];simp
theorem PutI.idle {ki:SK}{L:List Kd}{o:ByteArray}{M:List Kd}(h:PutI ki r i v L k true o M)(hk:k=L.length):PutI ki r i v L (k+1) true o M:=by
 refine⟨h.out,by have:=h.len;omega,h.sml,fun e=>(by cases e),fun _=>?_⟩;obtain⟨p,q,d,E,h3,h4,h5,j,D⟩:=h.yes rfl;refine⟨p,q,d,by omega,h3,?_,h5,j,D⟩;rw[h4,Jf (l:=L.drop q) (by rw[Jr];omega),Jf (l:=L.drop q) (by rw[Jr];omega)]
theorem PutI.done {ki:SK}{L:List Kd}{o:ByteArray}{M:List Kd}(h:PutI ki r i v L k d o M)(hk:L.length<k):∃ A m B,PartA ki L i A m B/\M=A++newE r i v++B:=by
 cases d
 ·have:=(h.no rfl).1;omega
 obtain⟨p,q,J,K,h3,h4,h5,F,G⟩:=h.yes rfl;rw[Jf (l:=L.drop q) (by rw[Jr];omega)] at h4;refine⟨L.take p,(L.drop p).take (q - p),L.drop q,⟨?_,?_,?_,?_⟩,h4⟩
 ·rw[Yo,show L.drop q=(L.drop p).drop (q - p) by rw[Z6];congr 1;omega,J9,J9]
 ·intro e D;obtain⟨j,E,rfl⟩:=Ym D;rw[Jm] at E;rw[Zn];exact F j (by omega) (by omega)
 ·rcases h5 with e|⟨e,I,H⟩
  ·left;rw[e,V9,List.take_zero]
  right
  refine⟨L[p].2,?_⟩;rw[e,show p+1 - p=1 by omega,Yw I]
  show [L[p]]=_
  rw[<-H]
 intro e D;obtain⟨j,E,rfl⟩:=Ym D;rw[Jr] at E;rw[Zm];exact G (q+j) (by omega) (by omega)
end Go.Proofs.YtjjgilacnocigaaGreatDoor
