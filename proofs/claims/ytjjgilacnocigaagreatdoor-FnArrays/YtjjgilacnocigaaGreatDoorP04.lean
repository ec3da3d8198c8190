import Derived.Ground.SlgnProg
import Derived.Shelf.SlicesE.Clone
import Derived.Laws.CopyOwn
import Derived.Test.YtjjgilacnocigaaGreatDoorP03
set_option maxRecDepth 100000
set_option maxHeartbeats 8000000
namespace Go.Proofs.YtjjgilacnocigaaGreatDoor.Q
open ChangeShapes WideShapes ChangeAt RowKit Shelf Proofs.Tryz
def PM:Go.Shelf.Ren:=⟨fun|41=>216|n=>n,fun|22=>70|23=>127|4=>4|n=>n,fun|n=>n⟩
theorem IG:Go.Proofs.SlLaysE0.n41 prog PM:={
 mixed:=by kernel_rfl
 f41:=⟨Tryz.f216.name,by decide,func216.trans (congrArg some (by kernel_rfl))⟩
 t4:=underlying4
 a4:=Tryz.isAgg4
 z4:=Tryz.sizeOf4
 v4:=Tryz.zeroValue4
 t22:=underlying70
 a22:=Tryz.isAgg70
 z22:=Tryz.sizeOf70
 v22:=Tryz.zeroValue70 }
theorem II (b off n c:Nat)(a:List Nat)(w:World)(hl:a.length=n)(hn:n<=1000000)(hc:∀ j,j<a.length->w.cell? ⟨b,off+j,none⟩=some (.int .u32 (a.getD j 0:Nat))) :
 Calls prog 216 #[.slice (some ⟨b,off,none⟩) n c] w fun e w'=>∃ g cap,e=.returned (.slice (some ⟨g,0,none⟩) n cap)/\n<=cap/\cap<=maxLen/\w.heap.size<=g/\Kv w' g a/\Up w w':=by
 obtain⟨i0,d,H,I,J⟩:=info_parts info_u32;refine (AnyE.slices_Clone IG i0 (.int .u32 0) 1 4 d H I J rfl (by omega) Tryz.sizeOf127 b off n c (Gy a) w (by simp[hl]) (by unfold maxLen;omega) (by omega) ?_ ?_).mono ?_
 ·intro j u O;simp only[Gy,Zh,Option.map_eq_some_iff] at O;obtain⟨x,Y,rfl⟩:=O;obtain⟨F,a8⟩:=Y8.1 Y;rw[hc j F,Ji,Y];rfl
 ·intro v V;simp only[Gy,Z5] at V;obtain⟨x,_,rfl⟩:=V;rfl
 rintro e w' ⟨v',rfl,D,G,Z⟩
 rcases D.2 with⟨e,_⟩|⟨g,cap,cur,e,hg,E,K,T,a7,U⟩
 ·exact absurd e G
 refine⟨g,cap,by rw[e],by omega,by omega,hg,⟨cur.toList.drop n,?_⟩,Z⟩;rw[E];rw[Z7] at U;rw[<-U,J9,Array.toArray_toList];rfl
end Go.Proofs.YtjjgilacnocigaaGreatDoor.Q
namespace Go.Proofs.YtjjgilacnocigaaGreatDoor.Q
open ChangeShapes WideShapes ChangeAt RowKit Proofs.Tryz
variable {B:Nat}{w:World}{x:Int}{z:Value}
theorem Wq (B ba oa ca:Nat)(vb:Value)(a b:List Nat)(w:World)(ha:Kn B w (.slice (some ⟨ba,oa,none⟩) a.length ca) a)(hb:Kn B w vb b)(hla:a.length<=100000)(hlb:b.length<=a.length)(hle:val b<=val a) :
 Calls prog 172 #[.slice (some ⟨ba,oa,none⟩) a.length ca,vb] w fun e w'=>∃ v L,e=.returned v/\Kn w.heap.size w' v L/\val L+val b=val a/\L.length<=a.length/\Oq L/\Up w w':=by
 obtain⟨pb,cb,rfl,_⟩:=id hb;obtain⟨_,_,_,H,O⟩:=ha.cells;obtain⟨_,_,_,K,U⟩:=hb.cells;have HA:Hid (∀ i,i<a.length->w.cell? ⟨ba,oa+i,none⟩=some (.int .u32 (a.getD i 0:Nat))):=fun i hi=>by
  obtain⟨b',c6,e,_,Y⟩:=O i hi;simp only[Option.some.injEq,Addr.mk.injEq,and_true] at e;obtain⟨rfl,rfl⟩:=e;exact Y
 have HB:=Hd U;have a6:=Hd hle;clear O U ha hb hle
 go_in
 go_wp2_with fail
 refine (II ba oa a.length ca a _ rfl (by omega) HA.o).mono ?_;rintro e w1 ⟨g,cap,rfl,T,E,hg,hR,I⟩;have HR:=Hd hR;have F:=Hd I;have a7:=Hd E;clear hR I E
 go_wp2_with fail
 refine (A6 g a.length cap 1 _ pb cb a b w1 HR.o H O1 (by omega) hlb K rfl T (by omega) ?_).mono ?_
 ·intro i hi;obtain⟨c,V,e,Y,b3⟩:=HB.o i hi;exact⟨c,V,e,by omega,by rw[F.o.cell (p:=⟨c,V+i,none⟩) Y];exact b3⟩
 rintro e w3 ⟨c,L,rfl,G,D,d,b4,Y,j,J⟩;have Z:Hid (Up w w3):=F.o.trans (J.mono hg);have HI:Hid (Kn w.heap.size w3 (.slice (some ⟨g,0,none⟩) a.length cap) L):=by
  have h:=G.isL (B:=w.heap.size) (cap:=cap) hg d (by omega) a7.o;rw[D] at h;exact h
 have HV:Hid (val L+val b=val a/\L.length=a.length):=by
  refine⟨?_,D⟩;rw[Z8,Jf (by omega),Jf O1] at j;exact Wr (1000000000 ^ a.length) c _ _ _ j (by rw[<-D];exact G4 L d) a6.o
 clear G D d b4 j J
 go_wp2_with fail
 refine (E6 w.heap.size _ L _ HI.o).mono ?_;rintro e w5 ⟨v,rfl,hcut,rfl⟩;have HW:Hid (Kn w.heap.size w5 v (Ov L)):=hcut _ _ HI.o;have HT:Hid (val (Ov L)+val b=val a/\(Ov L).length<=a.length/\Oq (Ov L)):=⟨by rw[O9];exact HV.o.1,by have:=Kl L;have:=HV.o.2;omega,O8 _⟩;obtain⟨pv,cv,hv,_⟩:=HW.o;subst hv;clear hcut
 go_wp2
 go_ret
 exact⟨_,_,rfl,HW.o,HT.o.1,HT.o.2.1,HT.o.2.2,Z.o⟩
theorem Wx (B:Nat)(va vb:Value)(a b:List Nat)(w:World)(ha:Kn B w va a)(hb:Kn B w vb b)(hne:a≠[])(hla:a.length<=100000)(hlb:b.length<=a.length)(hle:val b<=val a) :
 Calls prog 172 #[va,vb] w fun e w'=>∃ v L,e=.returned v/\Kn w.heap.size w' v L/\val L+val b=val a/\L.length<=a.length/\Oq L/\Up w w':=by
 obtain⟨H,j,rfl,hl,d,D,E⟩:=id ha
 rcases E with h|⟨G,F,rfl,_⟩
 ·exact absurd h hne
 exact Wq B _ _ j vb a b w ha hb hla hlb hle
theorem OC (w w1:World)(R n:Nat)(pa:Option Addr)(ca:Nat)(a:List Nat)(hn:a.length<=n)(hR:Hh w1 R (List.replicate n 0))(hRw:w.heap.size<=R)(hB1:Up w w1)
 (hA:∀ i,i<a.length->∃ b off,pa=some ⟨b,off,none⟩/\b<w.heap.size/\w.cell? ⟨b,off+i,none⟩=some (.int .u32 (a.getD i 0:Nat))) :
 ∃ w2,(∀ ty,(Builtin.copy_ #[70,70] ty #[.slice (some ⟨R,0,none⟩) n n,.slice pa a.length ca]).run prog w1=.ok (goInt a.length) w2)/\Hh w2 R (a++List.replicate (n - a.length) 0)/\Up w w2:=by
 have K:=underlying70;have J:(prog.info? 127).map (·.size)=some 1:=by
  obtain⟨i0,d,Y,G,Z⟩:=info_parts info_u32;rw[d];simp[G]
 by_cases H:a.length=0
 ·have e:a=[]:=Jo H;refine⟨w1,fun ty=>?_,?_,hB1⟩
  ·rw[H];exact Go.run_copy_none w1 _ _ ty _ _ pa n n 0 ca K J (by simp)
  subst e;simpa using hR
 obtain⟨b,off,rfl,hb,_⟩:=hA 0 (by omega);refine⟨w1.setRow R (Gy (a++List.replicate (n - a.length) 0)).toArray,fun ty=>?_,setRow_heap w1 R _ _ _ _ hR,below_setRow hB1 hRw _⟩;have h:=Go.run_copy_row (P:=prog) w1 70 70 ty 127 R 0 n n ⟨b,off,none⟩ a.length ca _ _ (Gy a) K J hR ?_ ?_ ?_ ?_
 ·have e:(Gy (List.replicate n 0)).drop a.length=Gy (List.replicate (n - a.length) 0):=by simp[Gy]
  simp only[List.take_zero,Zv,Y3,Yq,e,<-Zc] at h;exact h
 ·simp[hn]
 ·intro j v I;simp only[Gy,Zh,Option.map_eq_some_iff] at I;obtain⟨x,T,rfl⟩:=I;obtain⟨F,V⟩:=Y8.1 T;obtain⟨b',U,e,D,E⟩:=hA j F;simp only[Option.some.injEq,Addr.mk.injEq,and_true] at e;obtain⟨rfl,rfl⟩:=e;rw[show (Addr.add ⟨b,off,none⟩ j)=⟨b,off+j,none⟩ by simp[Addr.add],hB1.cell (p:=⟨b,off+j,none⟩) D,E,Ji,T];rfl
 ·simp;omega
 intro v O;simp only[Gy,Z5] at O;obtain⟨x,_,rfl⟩:=O;rfl
theorem OU (B:Nat)(va vb:Value)(a b:List Nat)(w:World)(ha:Kn B w va a)(hb:Kn B w vb b)(hla:a.length<=100000)(hlb:b.length<=a.length) :
 Calls prog 171 #[va,vb] w fun e w'=>∃ v L,e=.returned v/\Kn w.heap.size w' v L/\val L=val a+val b/\L.length<=a.length+1/\Oq L/\Up w w':=by
 obtain⟨i0,b5,d3,d4,d5⟩:=info_parts info_u32;obtain⟨pa,ca,rfl,_⟩:=id ha;obtain⟨pb,cb,rfl,_⟩:=id hb;obtain⟨_,_,_,Z,a8⟩:=ha.cells;obtain⟨_,_,_,a7,b3⟩:=hb.cells;have HA:=Hd a8;have HB:=Hd b3;clear a8 b3 ha hb
 go_in
 go_wp2_with (at_make;refine wpList_make_full _ rfl _ _ 70 rfl w.heap.size 127 i0 (.int .u32 0) 1 underlying70 b5 d3 d4 .i64 .i64 _ _ (a.length+1) rfl rfl ?m0 ?m1 ?m2 ?m3 ?m4 ?_)
 try (case m0=>first|rfl|omega)
 try (case m1=>first|rfl|omega)
 try (case m2=>(first|omega|(rw[d5];omega)))
 try (case m3=>(unfold maxLen;omega))
 try (case m4=>exact O1)
 intro w1 d b4
 first|rw[Ee] at d|rw[K7] at d
 have hR:Hh w1 w.heap.size (List.replicate (a.length+1) 0):=Kt d;have T:Up w w1:=(Jj _ _).grown b4 O1 (fun k h=>by cases h);clear d b4;obtain⟨w2,e0,I,U⟩:=OC w w1 w.heap.size (a.length+1) pa ca a (by omega) hR O1 T HA.o;rw[show a.length+1 - a.length=1 by omega] at I;have b9:=Hd I;have K:=Hd U;have b6:Kx (a++List.replicate 1 0):=fun x hx=>by
  rcases J5.1 hx with h|h
  ·exact Z x h
  simp at h;omega
 clear hR T I U
 go_wp2_with fail
 refine (Fb w.heap.size a.length (a.length+1) _ pb cb (a++List.replicate 1 0) b w2 b9.o b6 (by simp) (by simp;omega) hlb a7 rfl (by omega) ?_).mono ?_
 ·intro i hi;obtain⟨c,b7,e,hc,d0⟩:=HB.o i hi;exact⟨c,b7,e,hc,by rw[K.o.cell (p:=⟨c,b7+i,none⟩) hc];exact d0⟩
 rintro e w3 ⟨c,L,rfl,D,H,E,d1,hc,F,a6⟩;have V:Up w w3:=K.o.trans a6;have J:=D.cell a.length (by rw[H];simp);have d2:=D.frozen a.length;have G:Hid (Hh (w3.setCell ⟨w.heap.size,a.length,none⟩ (.int .u32 (c:Nat))) w.heap.size (L.set a.length c)):=D.set _ _;have O:Hid (Up w (w3.setCell ⟨w.heap.size,a.length,none⟩ (.int .u32 (c:Nat)))):=V.setCell O1 _;have j:Hid (Kx (L.set a.length c)/\(L.set a.length c).length=a.length+1/\val (L.set a.length c)=val a+val b):=by
  have hl:L.length=a.length+1:=by rw[H];simp
  refine⟨Kp L E _ _ (by omega),by simp[hl],?_⟩;have h1:=Ky L a.length c (by omega);rw[Jf (by simp[hl])] at h1;rw[h1,F];simp
 clear D H E d1 F a6 V
 go_wp2_with fail
 obtain⟨W4,Y⟩:=O2 (w3.setCell ⟨w.heap.size,a.length,none⟩ (.int .u32 (c:Nat)));rw[Y] at G O ⊢;generalize L.set a.length c=N at G j;have hI:Kn w.heap.size W4 (.slice (some ⟨w.heap.size,0,none⟩) (a.length+1) (a.length+1)) N:=by
  have h:=G.o.isL (B:=w.heap.size) (cap:=a.length+1) O1 j.o.1 (by have:=j.o.2.1;omega) (by unfold maxLen;omega);rw[j.o.2.1] at h;exact h
 clear Y J d2;refine (E6 w.heap.size _ N _ hI).mono ?_;rintro e w5 ⟨v,rfl,hcut,rfl⟩;have HV:Hid (Kn w.heap.size w5 v (Ov N)):=hcut _ _ hI;have HT:Hid (val (Ov N)=val a+val b/\(Ov N).length<=a.length+1/\Oq (Ov N)):=⟨by rw[O9];exact j.o.2.2,by have:=Kl N;have:=j.o.2.1;omega,O8 _⟩;obtain⟨pv,cv,hv,_⟩:=HV.o;subst hv;clear hcut hI
 go_wp2
 go_ret
 exact⟨_,_,rfl,HV.o,HT.o.1,HT.o.2.1,HT.o.2.2,O.o⟩
theorem OK (B:Nat)(va vb:Value)(a b:List Nat)(w:World)(ha:Kn B w va a)(hb:Kn B w vb b)(hla:a.length<=100000)(hlb:b.length<a.length) :
 Calls prog 171 #[vb,va] w fun e w'=>∃ v L,e=.returned v/\Kn w.heap.size w' v L/\val L=val a+val b/\L.length<=a.length+1/\Oq L/\Up w w':=by
 obtain⟨i0,b5,d3,d4,d5⟩:=info_parts info_u32;obtain⟨pa,ca,rfl,_⟩:=id ha;obtain⟨pb,cb,rfl,_⟩:=id hb;obtain⟨_,_,_,Z,a8⟩:=ha.cells;obtain⟨_,_,_,a7,b3⟩:=hb.cells;have HA:=Hd a8;have HB:=Hd b3;clear a8 b3 ha hb
 go_in
 go_wp2_with (at_make;refine wpList_make_full _ rfl _ _ 70 rfl w.heap.size 127 i0 (.int .u32 0) 1 underlying70 b5 d3 d4 .i64 .i64 _ _ (a.length+1) rfl rfl ?m0 ?m1 ?m2 ?m3 ?m4 ?_)
 try (case m0=>first|rfl|omega)
 try (case m1=>first|rfl|omega)
 try (case m2=>(first|omega|(rw[d5];omega)))
 try (case m3=>(unfold maxLen;omega))
 try (case m4=>exact O1)
 intro w1 d b4
 first|rw[Ee] at d|rw[K7] at d
 have hR:Hh w1 w.heap.size (List.replicate (a.length+1) 0):=Kt d;have T:Up w w1:=(Jj _ _).grown b4 O1 (fun k h=>by cases h);clear d b4;obtain⟨w2,e0,I,U⟩:=OC w w1 w.heap.size (a.length+1) pa ca a (by omega) hR O1 T HA.o;rw[show a.length+1 - a.length=1 by omega] at I;have b9:=Hd I;have K:=Hd U;have b6:Kx (a++List.replicate 1 0):=fun x hx=>by
  rcases J5.1 hx with h|h
  ·exact Z x h
  simp at h;omega
 clear hR T I U
 go_wp2_with fail
 refine (Fb w.heap.size a.length (a.length+1) _ pb cb (a++List.replicate 1 0) b w2 b9.o b6 (by simp) (by simp;omega) (by omega) a7 rfl (by omega) ?_).mono ?_
 ·intro i hi;obtain⟨c,b7,e,hc,d0⟩:=HB.o i hi;exact⟨c,b7,e,hc,by rw[K.o.cell (p:=⟨c,b7+i,none⟩) hc];exact d0⟩
 rintro e w3 ⟨c,L,rfl,D,H,E,d1,hc,F,a6⟩;have V:Up w w3:=K.o.trans a6;have J:=D.cell a.length (by rw[H];simp);have d2:=D.frozen a.length;have G:Hid (Hh (w3.setCell ⟨w.heap.size,a.length,none⟩ (.int .u32 (c:Nat))) w.heap.size (L.set a.length c)):=D.set _ _;have O:Hid (Up w (w3.setCell ⟨w.heap.size,a.length,none⟩ (.int .u32 (c:Nat)))):=V.setCell O1 _;have j:Hid (Kx (L.set a.length c)/\(L.set a.length c).length=a.length+1/\val (L.set a.length c)=val a+val b):=by
  have hl:L.length=a.length+1:=by rw[H];simp
  refine⟨Kp L E _ _ (by omega),by simp[hl],?_⟩;have h1:=Ky L a.length c (by omega);rw[Jf (by simp[hl])] at h1;rw[h1,F];simp
 clear D H E d1 F a6 V
 go_wp2_with fail
 obtain⟨W4,Y⟩:=O2 (w3.setCell ⟨w.heap.size,a.length,none⟩ (.int .u32 (c:Nat)));rw[Y] at G O ⊢;generalize L.set a.length c=N at G j;have hI:Kn w.heap.size W4 (.slice (some ⟨w.heap.size,0,none⟩) (a.length+1) (a.length+1)) N:=by
  have h:=G.o.isL (B:=w.heap.size) (cap:=a.length+1) O1 j.o.1 (by have:=j.o.2.1;omega) (by unfold maxLen;omega);rw[j.o.2.1] at h;exact h
 clear Y J d2;refine (E6 w.heap.size _ N _ hI).mono ?_;rintro e w5 ⟨v,rfl,hcut,rfl⟩;have HV:Hid (Kn w.heap.size w5 v (Ov N)):=hcut _ _ hI;have HT:Hid (val (Ov N)=val a+val b/\(Ov N).length<=a.length+1/\Oq (Ov N)):=⟨by rw[O9];exact j.o.2.2,by have:=Kl N;have:=j.o.2.1;omega,O8 _⟩;obtain⟨pv,cv,hv,_⟩:=HV.o;subst hv;clear hcut hI
 go_wp2
 go_ret
 exact⟨_,_,rfl,HV.o,HT.o.1,HT.o.2.1,HT.o.2.2,O.o⟩
theorem Td (B:Nat)(va vb:Value)(a b:List Nat)(w:World)(ha:Kn B w va a)(hb:Kn B w vb b)(hla:a.length<=100000)(hlb:b.length<=100000) :
 Calls prog 171 #[va,vb] w fun e w'=>∃ v L,e=.returned v/\Kn w.heap.size w' v L/\val L=val a+val b/\(L.length<=a.length+1∨L.length<=b.length+1)/\Oq L/\Up w w':=by
 by_cases h:b.length<=a.length
 ·refine (OU B va vb a b w ha hb hla h).mono ?_;rintro e w' ⟨v,L,d,j,h3,h4,h5⟩;exact⟨v,L,d,j,h3,.inl h4,h5⟩
 refine (OK B vb va b a w hb ha hlb (by omega)).mono ?_;rintro e w' ⟨v,L,d,j,h3,h4,h5⟩;exact⟨v,L,d,j,by rw[h3,Ol],.inr h4,h5⟩
def Cc (x k:Nat):List Nat:=(List.range k).map (fun j=>48+x / 10 ^ j % 10)
def revD (l:List Nat):List Nat:=l.flatMap (fun x=>Cc x 9)
theorem RY (x k:Nat):Cc x (k+1)=Cc x k++[48+x / 10 ^ k % 10]:=by simp[Cc,List.range_succ]
theorem VH (x k:Nat):(Cc x k).length=k:=by simp[Cc]
theorem VE (l:List Nat):(revD l).length=9*l.length:=by
 unfold revD;rw[List.length_flatMap];simp only[VH];rw[List.map_const',List.sum_replicate_nat];omega
theorem RO (l:List Nat)(x:Nat):revD (l++[x])=revD l++Cc x 9:=by simp[revD]
theorem FD (x:Nat):(Cc x 9).reverse=Gl x 9:=by
 simp[Cc,Gl,dg,tens,List.range_succ]
theorem VG (l:List Nat):(revD l).reverse=Hi l:=by
 unfold revD Hi
 induction l with
 | nil=>rfl
 | cons x l ih=>rw[V6,V8,ih,U8,Od,FD];simp
theorem BS (l:List Nat):∀ x∈revD l,x<256:=fun x hx=>Wz l x (by rw[<-VG];simpa using hx)
def Dj (l:List Nat):List Nat:=(l.reverse.dropWhile (·==48))
theorem IR (D:List Nat)(j:Nat)(h:j<D.length)(h0:D.getD j 0=48):Dj (D.take (j+1))=Dj (D.take j):=by
 unfold Dj;rw[Jt h,V8];have:D[j]=48:=by simpa[List.getD_eq_getElem?_getD,h] using h0
 simp[this]
theorem DY (D:List Nat)(j:Nat)(h:j<D.length)(h0:D.getD j 0≠48):Dj (D.take (j+1))=(D.take (j+1)).reverse:=by
 unfold Dj;rw[Jt h,V8];have:D[j]≠48:=by simpa[List.getD_eq_getElem?_getD,h] using h0
 simp[this]
theorem OX (l:List Nat)(h:∀ x∈l,x<256):Nj (Ot l)=Ot (l.dropWhile (·==48)):=by
 induction l with
 | nil=>rfl
 | cons x l ih=>
   have d:=h x (by simp);have e:(UInt8.ofNat x==48)=(x==48):=by
    rw[Zj,Jw,Jw];constructor
    ·intro e;have:=congrArg UInt8.toNat e;rw[UInt8.toNat_ofNat_of_lt' (by simpa using d)] at this;exact this
    rintro rfl;rfl
   unfold Nj Ot at *;simp only[Vc,Um,e]
   split
   ·exact ih (fun y hy=>h y (by simp[hy]))
   rfl
theorem RP (l:List Nat):textD l=Ot (Dj (revD l)):=by
 unfold textD Dj;rw[OX _ (Wz l),VG]
def Gd (ng:Bool)(t:List Nat):ByteArray:=if t.length=0 then Kq [48] else if ng then Kq (45::textD t) else Kq (textD t)
theorem TR {z0:Int}{zn:Bool}{za:Option Addr}{zl zc:Nat}{neg:Bool}{t:List Nat}(h:Ej B w (.agg #[.int .i64 z0,.bool zn,.slice za zl zc]) neg t):Rg z0 zn zl=Ko neg t:=by
 obtain⟨d,j,h3⟩:=h
 rcases h3 with⟨h3,v,e,p,c,rfl,_⟩|⟨h3,e⟩
 ·simp at e;obtain⟨_,rfl,_,rfl,_⟩:=e;unfold Rg Ko;have:0<t.length:=by omega
  simp[this]
 simp at e;obtain⟨rfl,rfl,_,rfl,_⟩:=e;exact (Rm neg t h3 d j).symm
def Eb (s M q:Nat):Nat:=s+(M - q)
theorem Gn (s M:Nat):Eb s M M=s:=by unfold Eb;omega
theorem Bl (s M q:Nat)(h:q<M):Eb s M (q+1)+1=Eb s M q:=by unfold Eb;omega
def Gh (D:List Nat)(M q:Nat):List Value:=Lt ((D.take M).drop q).reverse
theorem Ro (D:List Nat)(M:Nat):Gh D M M=[]:=by unfold Gh;rw[Z0 (List.length_take_le _ _)];rfl
theorem Ak (D:List Nat)(M q:Nat)(h:q<M)(hl:M<=D.length):Gh D M q=Gh D M (q+1)++[.int .u8 (D.getD q 0:Nat)]:=by
 unfold Gh;have d:q<(D.take M).length:=by rw[Jm];omega
 rw[Yw d,Zn,Ji,Jl (by omega),U8,I2];rfl
theorem Pd (w:World)(v:Value)(t:TypeId)(g:Nat)(hg:w.heap.size=g):∀ j u,[v][j]? = some u->(w.alloc (.cells #[v] t)).cell? ((⟨g,0,none⟩:Addr).add j)=some u:=by
 subst hg;exact cell_one_new _ _ _
theorem Q1 (B:Nat)(z:Value)(neg:Bool)(t:List Nat)(w:World)(hz:Ej B w z neg t)(hBw:B<=w.heap.size)(hlen:t.length<=600) :
 Calls prog 38 #[z] w fun e w'=>e=.returned (.string (Gd (Ko neg t) t))/\Up w w':=by
 obtain⟨z0,zn,za,zl,zc,l7⟩:=hz.shape;subst l7;obtain⟨i0,U,h9,b5,i1⟩:=info_parts info_u8;obtain⟨W0,b9⟩:=O2 (w.alloc (.cells #[.int .i64 z0,.bool zn,.slice za zl zc] 72));have k9:=Hd b9;have g9:Up w W0:=by rw[<-b9];exact Oo _ _
 have n9:W0.heap.size=w.heap.size+1:=by rw[<-b9];simp
 have HZ:Hid (Ej B W0 (.agg #[.int .i64 z0,.bool zn,.slice za zl zc]) neg t):=hz.bl g9;have k7:=Hd g9;have HX:Hid (∀ W,Up W0 W->W.cell? ⟨w.heap.size,0,none⟩=some (.int .i64 z0)/\W.cell? ⟨w.heap.size,1,none⟩=some (.bool zn)/\W.cell? ⟨w.heap.size,2,none⟩=some (.slice za zl zc)):=fun W hW=>by
  refine⟨?_,?_,?_⟩
  ·rw[hW.cell (p:=⟨w.heap.size,0,none⟩) (by show w.heap.size<_;omega),<-b9,Jg _ _ _ _ rfl];rfl
  ·rw[hW.cell (p:=⟨w.heap.size,1,none⟩) (by show w.heap.size<_;omega),<-b9,Jg _ _ _ _ rfl];rfl
  rw[hW.cell (p:=⟨w.heap.size,2,none⟩) (by show w.heap.size<_;omega),<-b9,Jg _ _ _ _ rfl];rfl
 have j0:Hid (Rg z0 zn zl=Ko neg t):=TR hz;clear hz g9 b9
 go_in
 go_wp2_with fail
 rw[k9.o];refine (Kc B _ neg t _ HZ.o (by omega)).mono ?_;rintro e J ⟨v,rfl,hv,g0⟩;obtain⟨a,cap,rfl,hl,m6,l4,hr⟩:=hv;have m7:w.heap.size+1<=J.heap.size:=by have:=g0.size;omega
 have HC:Hid (∀ i,i<t.length->∃ b off,a=some ⟨b,off,none⟩/\b<J.heap.size/\J.cell? ⟨b,off+i,none⟩=some (.int .u32 (t.getD i 0:Nat))):=fun i hi=>by
  rcases hr with rfl|⟨b,off,rfl,_,hb,hc⟩
  ·simp at hi
  exact⟨b,off,rfl,hb,hc i hi⟩
 have d1:=Hd g0;have O:Hid (Up w J):=k7.o.trans (g0.mono (by omega));clear hr g0
 by_cases h0:t.length=0
 ·have HT:Hid (Gd (Ko neg t) t=Kq [48]):=if_pos h0;have zz:((t.length:Int)==0)=true:=by rw[Jw];omega
  go_wp2
  go_ret
  exact⟨by rw[HT.o];rfl,O.o⟩
 have zz:((t.length:Int)==0)=false:=by rw[Jd];omega
 have HT:Hid (Gd (Ko neg t) t=if Ko neg t then Kq (45::textD t) else Kq (textD t)):=if_neg h0
 go_wp2_with (at_make;refine wpList_make_own _ rfl _ _ 22 rfl J.heap.size 5 i0 (.int .u8 0) 1 underlying22 U h9 b5 .i64 .i64 _ (9*t.length+1) rfl rfl ?m1 ?m2 ?m3 ?m4 ?_)
 case m1=>omega
 case m2=>rw[i1];omega
 case m3=>unfold maxLen;omega
 case m4=>exact O1
 intro w2 f5 g1;have j6:Up J w2:=(Jj _ _).grown g1 O1 (fun k h=>by cases h);clear g1
 go_wp2
 go_loopw [4,23] (fun v i wr=>∃ j:Nat,j<=t.length/\i=.int .i64 j/\v=.slice (some ⟨J.heap.size,0,none⟩) (9*j) (9*t.length+1) /\
  wr.ownsRow J.heap.size 5 1 (.slice (some ⟨J.heap.size,0,none⟩) (9*j) (9*t.length+1)) (9*j) (Lt (revD (t.take j)))/\Up J wr) (fun _ i _=>t.length - (intOf i).toNat)
 case atStart=>exact⟨0,J7 _,rfl,rfl,f5,j6⟩
 clear f5 j6;obtain⟨j,hj,rfl,rfl,G,hB⟩:=hrel
 by_cases h1:j<t.length
 ·obtain⟨b,off,rfl,hb,T⟩:=HC.o j h1;have l6:=GU t l4 j;rw[<-hB.cell (p:=⟨b,off+j,none⟩) hb] at T;have j4:Hid (t.take (j+1)=t.take j++[t.getD j 0]):=by
   unfold Hid
   rw[Jt h1,Ji,Jl h1];rfl
  obtain⟨y,hy⟩:=O2 (t.getD j 0);rw[hy] at T l6 j4;obtain⟨P,hP⟩:=O2 (revD (t.take j));have HP:=Hd hP;rw[hP] at G;clear hy hP
  go_wp2
  go_loopw [4,6,7] (fun v x kk wr=>∃ k:Nat,k<=9/\kk=.int .i64 k/\x=.int .u32 (y / 10 ^ k:Nat)/\v=.slice (some ⟨J.heap.size,0,none⟩) (9*j+k) (9*t.length+1) /\
   wr.ownsRow J.heap.size 5 1 (.slice (some ⟨J.heap.size,0,none⟩) (9*j+k) (9*t.length+1)) (9*j+k) (Lt (P++Cc y k))/\Up J wr) (fun _ _ kk _=>9 - (intOf kk).toNat)
  case atStart=>exact⟨0,J7 _,rfl,O5 (by simp),rfl,by simpa[Cc] using G,hB⟩
  clear G hB T;rename_i wr0;obtain⟨k,hk,rfl,rfl,rfl,G,hB⟩:=hrel
  by_cases n8:k<9
  ·have hq:=Nat.div_le_self y (10 ^ k);have j3:Hid (y / 10 ^ (k+1)=y / 10 ^ k / 10):=by unfold Hid;rw[Ju,Vf]
   have g6:=RY y k;obtain⟨q,k1⟩:=O2 (y / 10 ^ k);rw[k1] at hq j3 g6 ⊢;have j2:Hid (Cc y (k+1)=Cc y k++[48+q % 10]):=g6;clear k1 g6
   go_wp2_with (at_builtin;refine wpList_append_fits _ rfl _ _ 22 rfl J.heap.size 5 i0 1 underlying22 U b5 J.heap.size (9*j+k) (9*t.length+1) _ rfl (G.alloc _) ⟨wr.heap.size,0,none⟩ 1 1 [_] rfl rfl (cell_one_new _ _ _) ?c1 ?c2 ?_)
   case c1=>first|rfl|(intro u hu;simp at hu;subst hu;rfl)
   case c2=>omega
   intro w3 f7 g2;have l0:Up J w3:=(hB.alloc hB.size _).grown g2 (by have:=hB.size;simp;omega) (fun k e=>by cases e;exact O1);have k8:Hid (w3.ownsRow J.heap.size 5 1 (.slice (some ⟨J.heap.size,0,none⟩) (9*j+(k+1)) (9*t.length+1)) (9*j+(k+1)) (Lt (P++Cc y (k+1)))):=by
    unfold Hid
    rw[j2.o,<-Yo,I2]
    simpa[<-Nat.add_assoc] using f7
   clear f7 g2 G hB
   go_wp2
   go_roundw
   case rel=>exact⟨k+1,by omega,by go_num,by rw[j3.o];exact O5 (by simp),rfl,k8.o,l0⟩
   simp[intOf];omega
  obtain rfl:k=9:=by omega
  have b6:Hid (wr.ownsRow J.heap.size 5 1 (.slice (some ⟨J.heap.size,0,none⟩) (9*(j+1)) (9*t.length+1)) (9*(j+1)) (Lt (revD (t.take (j+1))))):=by
   unfold Hid
   rw[j4.o,RO,HP.o];exact G
  clear G
  go_wp2
  go_roundw
  case rel=>exact⟨j+1,by omega,by go_num,rfl,b6.o,hB⟩
  simp[intOf];omega
 obtain rfl:j=t.length:=by omega
 generalize l2:wr=F at *;clear l2;rw[Zi] at G;have g3:=VE t;have g7:=RP t;have d9:=BS t;obtain⟨D,hD⟩:=O2 (revD t);rw[hD] at G g3 g7 d9;have I:Hid (D.length=9*t.length):=g3;have c7:Hid (textD t=Ot (Dj D)):=g7;have Z:Hid (∀ x∈D,x<256):=d9;have e0:=Hd G;have g5:Hid (∀ W:World,W.ownsRow J.heap.size 5 1 (.slice (some ⟨J.heap.size,0,none⟩) (9*t.length) (9*t.length+1)) (9*t.length) (Lt D)->∀ i,i<9*t.length->W.cell? ⟨J.heap.size,i,none⟩=some (.int .u8 (D.getD i 0:Nat))):=fun W hW i hi=>by
  have:=hW.cells (g:=J.heap.size) rfl i (.int .u8 (D.getD i 0:Nat)) (by rw[Zh];simp[List.getD_eq_getElem?_getD,show i<D.length by omega])
  by_cases i0:i=0
  ·subst i0;simpa[Addr.add] using this
  simpa[Addr.add,i0] using this
 have d2:=Hd hB;clear G g3 g7 d9 hD hB
 go_wp2
 go_loop [8] (fun n=>∃ m:Nat,m<=9*t.length/\n=.int .i64 m/\Dj (D.take m)=Dj D) (fun n=>(intOf n).toNat)
 case atStart=>exact⟨9*t.length,O1,O5 (by omega),by rw[<-I.o,Zi]⟩
 obtain⟨m,hm,rfl,hp⟩:=hrel;have HP:=Hd hp;clear hp;obtain⟨ng,k0⟩:=O2 (Ko neg t);have a6:=Hd k0;clear k0
 cases m with
 | zero=>
   have HM:Hid (Dj D=(D.take 0).reverse):=HP.o.symm.trans rfl
   go_wp2_with (at_make;refine wpList_make_own _ rfl _ _ 22 rfl F.heap.size 5 i0 (.int .u8 0) 1 underlying22 U h9 b5 .i64 .i64 _ (0+1) rfl rfl ?am1 ?am2 ?am3 ?am4 ?_)
   try (case am1=>(omega))
   try (case am2=>(first|omega|(rw[i1];omega)))
   try (case am3=>(unfold maxLen;omega))
   try (case am4=>(exact O1))
   intro w4 Y a8;have b8:Up F w4:=(Jj _ _).grown a8 O1 (fun k h=>by cases h);have h7:J.heap.size<F.heap.size:=(e0.o.lt _ rfl).2;have d7:Hid (Up W0 w4):=d1.o.trans ((d2.o.mono d1.o.size).trans (b8.mono (by have:=d1.o.size;omega)));obtain⟨c0,c1,c2⟩:=HX.o w4 d7.o;have b6:=Hd Y;have K:=Hd b8;clear a8 Y b8
   go_wp2_with fail
   refine (Ku _ _ _ _ _ _).mono ?_;rintro e w' ⟨rfl,l5⟩;subst w';rw[j0.o,a6.o]
   cases ng
   ·have b7:Hid (Gd (Ko neg t) t=Kq (Ot (D.take (0)).reverse)):=by rw[HT.o,a6.o,c7.o,HM.o];rfl
    have H:=b6.o.alloc (.cells #[.int .i64 z0,.bool zn,.slice za zl zc] 72);have E:Up F (w4.alloc (.cells #[.int .i64 z0,.bool zn,.slice za zl zc] 72)):=K.o.alloc K.o.size _;obtain⟨W5,e6⟩:=O2 (w4.alloc (.cells #[.int .i64 z0,.bool zn,.slice za zl zc] 72));rw[e6] at H E ⊢;clear e6
    go_wp2
    go_loopw [9,10] (fun v i wr=>∃ q:Nat,q<=0/\i=.int .i64 (q - 1)/\v=.slice (some ⟨F.heap.size,0,none⟩) (Eb 0 (0) q) (0+1) /\
     wr.ownsRow F.heap.size 5 1 (.slice (some ⟨F.heap.size,0,none⟩) (Eb 0 (0) q) (0+1)) (Eb 0 (0) q) (Gh D (0) q)/\Up F wr) (fun _ i _=>(intOf i+1).toNat)
    case atStart=>
     refine⟨0,O1,O5 (by omega),by rw[Gn],?_,E⟩;rw[Gn,Ro]
     simpa using H
    clear H E;obtain⟨q,hq,rfl,rfl,H,E⟩:=hrel
    cases q with
    | zero=>
      have e9:Gh D (0) 0=Lt ((D.take (0)).reverse):=by unfold Gh;rw[Y9]
      rw[e9] at H;have c6:=Gj _ _ _ _ _ _ H (by
       intro x hx;have h:=hx;exact Z.o x (Ya (List.mem_reverse.1 h))) (by unfold Eb;rw[Un,Jm,I.o];omega)
      have V:Hid (Up w wr):=O.o.trans ((d2.o.mono O.o.size).trans (E.mono (by have:=O.o.size;omega)));clear H E e9
      go_wp2
      go_ret
      exact⟨by rw[b7.o];rfl,V.o⟩
    | succ q=>exact absurd hq (Nat.not_succ_le_zero q)
   have b7:Hid (Gd (Ko neg t) t=Kq (Ot ([45]++(D.take (0)).reverse))):=by rw[HT.o,a6.o,c7.o,HM.o];rfl
   have e4:=b6.o.alloc (.cells #[.int .i64 z0,.bool zn,.slice za zl zc] 72)
   go_wp2_with (at_builtin;refine wpList_append_fits _ rfl _ _ 22 rfl F.heap.size 5 i0 1 underlying22 U b5 F.heap.size 0 (0+1) _ rfl (e4.alloc _) ⟨w4.heap.size+1,0,none⟩ 1 1 [.int .u8 45] rfl rfl ?ad0 ?ad1 ?ad2 ?_)
   try (case ad0=>(exact Pd _ _ _ _ (by simp)))
   try (case ad1=>(first|rfl|(intro u hu;simp at hu;subst hu;rfl)))
   try (case ad2=>(omega))
   intro W5 H b3;have E:Up F W5:=((K.o.alloc K.o.size _).alloc (by have:=K.o.size;simp;omega) _).grown b3 (by have:=K.o.size;simp;omega) (fun k e=>by cases e;exact O1);clear b3 e4
   go_wp2
   go_loopw [9,10] (fun v i wr=>∃ q:Nat,q<=0/\i=.int .i64 (q - 1)/\v=.slice (some ⟨F.heap.size,0,none⟩) (Eb 1 (0) q) (0+1) /\
    wr.ownsRow F.heap.size 5 1 (.slice (some ⟨F.heap.size,0,none⟩) (Eb 1 (0) q) (0+1)) (Eb 1 (0) q) ([.int .u8 45]++Gh D (0) q)/\Up F wr) (fun _ i _=>(intOf i+1).toNat)
   case atStart=>
    refine⟨0,O1,O5 (by omega),by rw[Gn],?_,E⟩;rw[Gn,Ro]
    simpa using H
   clear H E;obtain⟨q,hq,rfl,rfl,H,E⟩:=hrel
   cases q with
   | zero=>
     have e9:[.int .u8 45]++Gh D (0) 0=Lt ([45]++(D.take (0)).reverse):=by unfold Gh;rw[Y9];rfl
     rw[e9] at H;have c6:=Gj _ _ _ _ _ _ H (by
      intro x hx
      rcases J5.1 hx with h|h
      ·simp at h;omega
      exact Z.o x (Ya (List.mem_reverse.1 h))) (by unfold Eb;rw[Jq,Un,Jm,I.o];simp only[J8,Zo];omega)
     have V:Hid (Up w wr):=O.o.trans ((d2.o.mono O.o.size).trans (E.mono (by have:=O.o.size;omega)));clear H E e9
     go_wp2
     go_ret
     exact⟨by rw[b7.o];rfl,V.o⟩
   | succ q=>exact absurd hq (Nat.not_succ_le_zero q)
 | succ m=>
   have T:=g5.o F e0.o m (by omega);have j9:m<D.length:=by rw[I.o];omega
   by_cases d3:D.getD m 0=48
   ·have HN:Hid (Dj (D.take m)=Dj D):=(IR D m j9 d3).symm.trans HP.o;rw[d3] at T;clear d3
    go_wp2
    go_round
    case rel=>exact⟨m,by omega,O5 (by omega),HN.o⟩
    simp[intOf]
   have HM:Hid (Dj D=(D.take (m+1)).reverse):=HP.o.symm.trans (DY D m j9 d3);obtain⟨d0,j8⟩:=O2 (D.getD m 0);rw[j8] at T d3;have n6:((d0:Int)==48)=false:=by rw[Jd];omega
   clear j8 d3
   go_wp2_with (at_make;refine wpList_make_own _ rfl _ _ 22 rfl F.heap.size 5 i0 (.int .u8 0) 1 underlying22 U h9 b5 .i64 .i64 _ ((m+1)+1) rfl rfl ?bm1 ?bm2 ?bm3 ?bm4 ?_)
   try (case bm1=>(omega))
   try (case bm2=>(first|omega|(rw[i1];omega)))
   try (case bm3=>(unfold maxLen;omega))
   try (case bm4=>(exact O1))
   intro w4 Y a8;have b8:Up F w4:=(Jj _ _).grown a8 O1 (fun k h=>by cases h);have h7:J.heap.size<F.heap.size:=(e0.o.lt _ rfl).2;have d7:Hid (Up W0 w4):=d1.o.trans ((d2.o.mono d1.o.size).trans (b8.mono (by have:=d1.o.size;omega)));obtain⟨c0,c1,c2⟩:=HX.o w4 d7.o;have b6:=Hd Y;have K:=Hd b8;clear a8 Y b8
   go_wp2_with fail
   refine (Ku _ _ _ _ _ _).mono ?_;rintro e w' ⟨rfl,l5⟩;subst w';rw[j0.o,a6.o]
   cases ng
   ·have b7:Hid (Gd (Ko neg t) t=Kq (Ot (D.take ((m+1))).reverse)):=by rw[HT.o,a6.o,c7.o,HM.o];rfl
    have H:=b6.o.alloc (.cells #[.int .i64 z0,.bool zn,.slice za zl zc] 72);have E:Up F (w4.alloc (.cells #[.int .i64 z0,.bool zn,.slice za zl zc] 72)):=K.o.alloc K.o.size _;obtain⟨W5,e6⟩:=O2 (w4.alloc (.cells #[.int .i64 z0,.bool zn,.slice za zl zc] 72));rw[e6] at H E ⊢;clear e6
    go_wp2
    go_loopw [9,10] (fun v i wr=>∃ q:Nat,q<=(m+1)/\i=.int .i64 (q - 1)/\v=.slice (some ⟨F.heap.size,0,none⟩) (Eb 0 ((m+1)) q) ((m+1)+1) /\
     wr.ownsRow F.heap.size 5 1 (.slice (some ⟨F.heap.size,0,none⟩) (Eb 0 ((m+1)) q) ((m+1)+1)) (Eb 0 ((m+1)) q) (Gh D ((m+1)) q)/\Up F wr) (fun _ i _=>(intOf i+1).toNat)
    case atStart=>
     refine⟨(m+1),O1,O5 (by omega),by rw[Gn],?_,E⟩;rw[Gn,Ro]
     simpa using H
    clear H E;obtain⟨q,hq,rfl,rfl,H,E⟩:=hrel
    cases q with
    | zero=>
      have e9:Gh D ((m+1)) 0=Lt ((D.take ((m+1))).reverse):=by unfold Gh;rw[Y9]
      rw[e9] at H;have c6:=Gj _ _ _ _ _ _ H (by
       intro x hx;have h:=hx;exact Z.o x (Ya (List.mem_reverse.1 h))) (by unfold Eb;rw[Un,Jm,I.o];omega)
      have V:Hid (Up w wr):=O.o.trans ((d2.o.mono O.o.size).trans (E.mono (by have:=O.o.size;omega)));clear H E e9
      go_wp2
      go_ret
      exact⟨by rw[b7.o];rfl,V.o⟩
    | succ q=>
      have e7:wr.cell? ⟨J.heap.size,q,none⟩=some (.int .u8 (D.getD q 0:Nat)):=(E.cell (p:=⟨J.heap.size,q,none⟩) h7).trans (g5.o F e0.o q (by omega));have e1:Hid (Gh D ((m+1)) q=Gh D ((m+1)) (q+1)++[.int .u8 (D.getD q 0:Nat)]):=Ak D ((m+1)) q (by omega) (by rw[I.o];omega);have e8:D.getD q 0<256:=by
       rw[Ji,Jl (by rw[I.o];omega)];exact Z.o _ (Yl _)
      obtain⟨d,hd⟩:=O2 (D.getD q 0);rw[hd] at e7 e1 e8;clear hd;have h6:q<9*t.length:=by omega
      have a7:Hid (Eb 0 ((m+1)) (q+1)+1=Eb 0 ((m+1)) q):=Bl _ _ _ (by omega);have d8:Hid (Eb 0 ((m+1)) (q+1)+1<=(m+1)+1):=by unfold Hid;unfold Eb;omega
      go_wp2_with (at_builtin;refine wpList_append_fits _ rfl _ _ 22 rfl F.heap.size 5 i0 1 underlying22 U b5 F.heap.size (Eb 0 ((m+1)) (q+1)) ((m+1)+1) _ rfl (H.alloc _) ⟨wr.heap.size,0,none⟩ 1 1 [_] rfl rfl (cell_one_new _ _ _) ?bfc1 ?bfc2 ?_)
      try (case bfc1=>(first|rfl|(intro u hu;simp at hu;subst hu;rfl)))
      try (case bfc2=>(exact d8.o))
      intro w6 e5 b4;have g8:Up F w6:=(E.alloc E.size _).grown b4 (by have:=E.size;simp;omega) (fun k e=>by cases e;exact O1);have g4:Hid (w6.ownsRow F.heap.size 5 1 (.slice (some ⟨F.heap.size,0,none⟩) (Eb 0 ((m+1)) q) ((m+1)+1)) (Eb 0 ((m+1)) q) (Gh D ((m+1)) q)):=by
       unfold Hid
       rw[e1.o,<-a7.o]
       simpa using e5
      clear e5 b4 H E e7
      go_wp2
      go_roundw
      case rel=>exact⟨q,by omega,O5 (by omega),by rw[a7.o],g4.o,g8⟩
      simp[intOf]
   have b7:Hid (Gd (Ko neg t) t=Kq (Ot ([45]++(D.take ((m+1))).reverse))):=by rw[HT.o,a6.o,c7.o,HM.o];rfl
   have e4:=b6.o.alloc (.cells #[.int .i64 z0,.bool zn,.slice za zl zc] 72)
   go_wp2_with (at_builtin;refine wpList_append_fits _ rfl _ _ 22 rfl F.heap.size 5 i0 1 underlying22 U b5 F.heap.size 0 ((m+1)+1) _ rfl (e4.alloc _) ⟨w4.heap.size+1,0,none⟩ 1 1 [.int .u8 45] rfl rfl ?bd0 ?bd1 ?bd2 ?_)
   try (case bd0=>(exact Pd _ _ _ _ (by simp)))
   try (case bd1=>(first|rfl|(intro u hu;simp at hu;subst hu;rfl)))
   try (case bd2=>(omega))
   intro W5 H b3;have E:Up F W5:=((K.o.alloc K.o.size _).alloc (by have:=K.o.size;simp;omega) _).grown b3 (by have:=K.o.size;simp;omega) (fun k e=>by cases e;exact O1);clear b3 e4
   go_wp2
   go_loopw [9,10] (fun v i wr=>∃ q:Nat,q<=(m+1)/\i=.int .i64 (q - 1)/\v=.slice (some ⟨F.heap.size,0,none⟩) (Eb 1 ((m+1)) q) ((m+1)+1) /\
    wr.ownsRow F.heap.size 5 1 (.slice (some ⟨F.heap.size,0,none⟩) (Eb 1 ((m+1)) q) ((m+1)+1)) (Eb 1 ((m+1)) q) ([.int .u8 45]++Gh D ((m+1)) q)/\Up F wr) (fun _ i _=>(intOf i+1).toNat)
   case atStart=>
    refine⟨(m+1),O1,O5 (by omega),by rw[Gn],?_,E⟩;rw[Gn,Ro]
    simpa using H
   clear H E;obtain⟨q,hq,rfl,rfl,H,E⟩:=hrel
   cases q with
   | zero=>
     have e9:[.int .u8 45]++Gh D ((m+1)) 0=Lt ([45]++(D.take ((m+1))).reverse):=by unfold Gh;rw[Y9];rfl
     rw[e9] at H;have c6:=Gj _ _ _ _ _ _ H (by
      intro x hx
      rcases J5.1 hx with h|h
      ·simp at h;omega
      exact Z.o x (Ya (List.mem_reverse.1 h))) (by unfold Eb;rw[Jq,Un,Jm,I.o];simp only[J8,Zo];omega)
     have V:Hid (Up w wr):=O.o.trans ((d2.o.mono O.o.size).trans (E.mono (by have:=O.o.size;omega)));clear H E e9
     go_wp2
     go_ret
     exact⟨by rw[b7.o];rfl,V.o⟩
   | succ q=>
     have e7:wr.cell? ⟨J.heap.size,q,none⟩=some (.int .u8 (D.getD q 0:Nat)):=(E.cell (p:=⟨J.heap.size,q,none⟩) h7).trans (g5.o F e0.o q (by omega));have e1:Hid (Gh D ((m+1)) q=Gh D ((m+1)) (q+1)++[.int .u8 (D.getD q 0:Nat)]):=Ak D ((m+1)) q (by omega) (by rw[I.o];omega);have e8:D.getD q 0<256:=by
      rw[Ji,Jl (by rw[I.o];omega)];exact Z.o _ (Yl _)
     obtain⟨d,hd⟩:=O2 (D.getD q 0);rw[hd] at e7 e1 e8;clear hd;have h6:q<9*t.length:=by omega
     have a7:Hid (Eb 1 ((m+1)) (q+1)+1=Eb 1 ((m+1)) q):=Bl _ _ _ (by omega);have d8:Hid (Eb 1 ((m+1)) (q+1)+1<=(m+1)+1):=by unfold Hid;unfold Eb;omega
     go_wp2_with (at_builtin;refine wpList_append_fits _ rfl _ _ 22 rfl F.heap.size 5 i0 1 underlying22 U b5 F.heap.size (Eb 1 ((m+1)) (q+1)) ((m+1)+1) _ rfl (H.alloc _) ⟨wr.heap.size,0,none⟩ 1 1 [_] rfl rfl (cell_one_new _ _ _) ?btc1 ?btc2 ?_)
     try (case btc1=>(first|rfl|(intro u hu;simp at hu;subst hu;rfl)))
     try (case btc2=>(exact d8.o))
     intro w6 e5 b4;have g8:Up F w6:=(E.alloc E.size _).grown b4 (by have:=E.size;simp;omega) (fun k e=>by cases e;exact O1);have g4:Hid (w6.ownsRow F.heap.size 5 1 (.slice (some ⟨F.heap.size,0,none⟩) (Eb 1 ((m+1)) q) ((m+1)+1)) (Eb 1 ((m+1)) q) ([.int .u8 45]++Gh D ((m+1)) q)):=by
      unfold Hid
      rw[e1.o,<-a7.o]
      simpa using e5
     clear e5 b4 H E e7
     go_wp2
     go_roundw
     case rel=>exact⟨q,by omega,O5 (by omega),by rw[a7.o],g4.o,g8⟩
     simp[intOf]
theorem XH {y u:Int}(B e a b c g:Nat)(ha:a<1000000000)(hb:b<1000000000)(hcc:c<1000000000)(hx:x=a)(hy:y=b)(hu:u=c)(hg:w.heap.size=g)(hB:B<=g):Kn B (w.alloc (.cells #[.int .u32 x,.int .u32 y,.int .u32 u] e)) (.slice (some ⟨g,0,none⟩) 3 3) [a,b,c]:=by
 subst hx;subst hy;subst hu;subst hg;exact⟨_,3,rfl,by simp,by unfold maxLen;omega,fun x hx=>by simp at hx;omega,.inr ⟨w.heap.size,0,rfl,hB,by simp,fun i hi=>by
  match i,hi with
  | 0,_=>rw[Jg _ _ _ _ rfl];rfl
  | 1,_=>rw[Jg _ _ _ _ rfl];rfl
  | 2,_=>rw[Jg _ _ _ _ rfl];rfl⟩⟩
theorem Tv (t:List Nat):(textD t).length<=9*t.length:=by
 have d:(textD t).length<=(Ot (Hi t)).length:=by unfold textD Nj;exact (U4 _).length_le
 rw[Ot,Yq,Io] at d;exact d
def E0 (B:Nat)(w:World)(z:Value)(x:Int)(n:Nat):Prop:=∃ neg t,Ej B w z neg t/\sg neg (val t)=x/\t.length<=n
theorem E0.bl {w':World}{n:Nat}(h:E0 B w z x n)(hb:Up w w'):E0 B w' z x n:=by
 obtain⟨neg,t,d,j⟩:=h;exact⟨neg,t,d.bl hb,j⟩
theorem E0.mono {B':Nat}{n:Nat}(h:E0 B w z x n)(hb:B'<=B):E0 B' w z x n:=by
 obtain⟨neg,t,d,j⟩:=h;exact⟨neg,t,d.mono hb,j⟩
def LW (n:Nat):List Nat:=Ov [n % 1000000000,n / 1000000000]
theorem LC (n:Nat)(h:n<1000000000000000000):Kx (LW n):=Ed _ fun x hx=>by
 simp at hx
 rcases hx with rfl|rfl<;>omega
theorem UV (n:Nat):Oq (LW n):=O8 _
theorem GC (n:Nat):val (LW n)=n:=by
 unfold LW;rw[O9];simp only[val];omega
theorem Wc (n:Nat):(LW n).length<=2:=by
 have:=Kl [n % 1000000000,n / 1000000000]
 simpa[LW] using this
theorem Nl (x:Int)(w:World)(h1 : -2000000000000000000<x)(h2:x<2000000000000000000) :
 Calls prog 39 #[.int .i64 x] w fun e w'=>∃ z,e=.returned z/\E0 w.heap.size w' z x 3/\Up w w':=by
 by_cases H:x<1000000000000000000 /\ -1000000000000000000<x
 ·obtain⟨O,T⟩:=H
  go_in
  go_wp2
  have I:sg (decide (x<0)) (val (LW x.natAbs))=x:=by
   rw[GC];unfold sg
   by_cases h:x<0<;>simp[h]<;>omega
  refine Jh (v:=.agg #[.int .i64 x,.bool false,.slice none 0 0]) ?_ rfl ⟨_,rfl,⟨decide (x<0),LW x.natAbs,⟨LC _ (by omega),UV _,.inr ⟨Wc _,?_⟩⟩,I,Yt (Wc _) (by omega)⟩,?_⟩
  ·simp[results,results39,go_sem]
  ·rw[I]
  exact Oo _ _
 obtain⟨n,hn⟩:∃ n:Nat,x.natAbs=n:=⟨_,rfl⟩;obtain⟨u,K⟩:∃ u:Int,(n:Int)=u:=⟨_,rfl⟩;have d:Hid (Kx [n % 1000000000,n / 1000000000 % 1000000000,n / 1000000000 / 1000000000]/\Oq [n % 1000000000,n / 1000000000 % 1000000000,n / 1000000000 / 1000000000]/\sg (decide (x<0)) (val [n % 1000000000,n / 1000000000 % 1000000000,n / 1000000000 / 1000000000])=x):=by
  refine⟨fun y hy=>by simp at hy;omega,fun _=>by simp;omega,?_⟩;have:val [n % 1000000000,n / 1000000000 % 1000000000,n / 1000000000 / 1000000000]=n:=by simp only[val];omega
  rw[this];unfold sg
  by_cases h:x<0<;>simp[h]<;>omega
 have F:Hid (∀ W:World,Kn (W.heap.size) (W.alloc (.cells #[.int .u32 (u % 1000000000),.int .u32 (u / 1000000000 % 1000000000),.int .u32 (u / 1000000000 / 1000000000)] 127)) (.slice (some ⟨W.heap.size,0,none⟩) 3 3) [n % 1000000000,n / 1000000000 % 1000000000,n / 1000000000 / 1000000000]):=fun W=>
  XH _ _ _ _ _ _ (by omega) (by omega) (by omega) (by omega) (by omega) (by omega) rfl O1
 obtain⟨L,G⟩:=O2 ([n % 1000000000,n / 1000000000 % 1000000000,n / 1000000000 / 1000000000]);have J:L.length=3:=by rw[<-G];rfl
 rw[G] at d F;clear G;have V:u<2000000000000000000:=by omega
 have U:1000000000000000000<=u:=by omega
 by_cases j:x<0
 ·obtain rfl:x = -u:=by omega
  have E:decide (-u<0)=true:=Jn j;rw[E] at d;clear K hn E H
  go_in
  go_wp2
  have hl:=F.o (w.alloc (.cells #[.int .i64 0,.bool true,.slice (some ⟨w.heap.size+1,0,none⟩) 3 3] 72));have D:(w.alloc (.cells #[.int .i64 0,.bool true,.slice (some ⟨w.heap.size+1,0,none⟩) 3 3] 72)).heap.size=w.heap.size+1:=by simp
  rw[D] at hl;refine Jh (v:=.agg #[.int .i64 0,.bool true,.slice (some ⟨w.heap.size+1,0,none⟩) 3 3]) ?_ rfl ⟨_,rfl,⟨true,L,Ej.mono (B:=w.heap.size+1) ⟨d.o.1,d.o.2.1,.inl ⟨by omega,_,rfl,hl⟩⟩ (Ze _),d.o.2.2,by omega⟩,Ou (Oo _ _) _⟩;simp[results,results39,go_sem]
 obtain rfl:x=u:=by omega
 have E:decide (x<0)=false:=Jp j;rw[E] at d;clear K hn E H
 go_in
 go_wp2
 have hl:=F.o (w.alloc (.cells #[.int .i64 0,.bool false,.slice (some ⟨w.heap.size+1,0,none⟩) 3 3] 72));have D:(w.alloc (.cells #[.int .i64 0,.bool false,.slice (some ⟨w.heap.size+1,0,none⟩) 3 3] 72)).heap.size=w.heap.size+1:=by simp
 rw[D] at hl;refine Jh (v:=.agg #[.int .i64 0,.bool false,.slice (some ⟨w.heap.size+1,0,none⟩) 3 3]) ?_ rfl ⟨_,rfl,⟨false,L,Ej.mono (B:=w.heap.size+1) ⟨d.o.1,d.o.2.1,.inl ⟨by omega,_,rfl,hl⟩⟩ (Ze _),d.o.2.2,by omega⟩,Ou (Oo _ _) _⟩;simp[results,results39,go_sem]
theorem Nr (n:Bool)(t:List Nat):sg (Ko n t) (val t)=sg n (val t):=by
 cases t with
 | nil=>cases n<;>simp[Ko,sg,val]
 | cons a t=>simp[Ko]
theorem NY (n:Bool)(v:Nat):sg (!n) v = -sg n v:=by cases n<;>simp[sg]
theorem TC (s:Bool)(u v:Nat):sg s (u+v)=sg s u+sg s v:=by cases s<;>simp[sg]<;>omega
theorem FM (s:Bool)(d u v:Nat)(h:d+v=u):sg s d=sg s u+sg (!s) v:=by cases s<;>simp[sg]<;>omega
theorem Au (s:Bool)(t:List Nat)(hok:Kx t)(h2:t.length<=2) : -1000000000000000000<sg s (val t)/\sg s (val t)<1000000000000000000:=by
 have h:=Aq t hok 0 (by omega);unfold Ea at h;rw[Y9] at h
 cases s<;>simp[sg]<;>omega
theorem Rp (B:Nat)(z:Value)(neg:Bool)(t:List Nat)(w:World)(h:Ej B w z neg t) :
 Calls prog 113 #[z] w fun e w'=>∃ z',e=.returned z'/\Ej B w' z' (!neg) t/\Up w w':=by
 have G:=Hd h;obtain⟨d,D,h⟩:=h
 rcases h with⟨E,v,rfl,a,cap,rfl,hl,j,_,_⟩|⟨E,rfl⟩
 ·have V:0<t.length:=by omega
  unfold maxLen at j;have U:((t.length:Int)==0)=false:=by rw[Jd];omega
  go_in
  go_wp2_with (go_at_call 106;refine (O0 _ _ _ _ _ _).mono ?_;rintro e w' ⟨rfl,rfl⟩)
  refine Jh (v:=.agg #[.int .i64 0,.bool !neg,.slice a t.length cap]) ?_ rfl ⟨_,rfl,⟨d,D,.inl ⟨E,_,rfl,?_⟩⟩,Ou (Ou (Oo _ _) _) _⟩
  ·simp[results,results113,go_sem]
  obtain⟨_,_,h3⟩:=G.o
  rcases h3 with⟨_,v,I,K⟩|⟨h4,_⟩
  ·simp at I;subst I;exact K.bl (Ou (Ou (Oo _ _) _) _)
  omega
 obtain⟨n,hn⟩:=O2 (sg neg (val t));have H:=Au neg t d E;have J:Hid (sg (!neg) (val t) = -n):=by rw[<-hn];exact NY neg (val t)
 have F:Hid (Kx t/\Oq t/\t.length<=2):=⟨d,D,E⟩;rw[hn] at H ⊢;obtain⟨O,T⟩:=H;clear hn G
 go_in
 go_wp2_with (go_at_call 106;refine (O0 _ _ _ _ _ _).mono ?_;rintro e w' ⟨rfl,rfl⟩)
 refine Jh (v:=.agg #[.int .i64 (-n),.bool false,.slice none 0 0]) ?_ rfl ⟨_,rfl,⟨F.o.1,F.o.2.1,.inr ⟨F.o.2.2,by rw[J.o]⟩⟩,Ou (Ou (Oo _ _) _) _⟩;simp[results,results113,go_sem]
def Nb (B:Nat)(w:World)(z:Value)(x:Int):Prop:=∃ neg t,Ej B w z neg t/\sg neg (val t)=x
theorem Nb.bl {w':World}(h:Nb B w z x)(hb:Up w w'):Nb B w' z x:=by
 obtain⟨neg,t,d,j⟩:=h;exact⟨neg,t,d.bl hb,j⟩
theorem Nb.mono {B':Nat}(h:Nb B w z x)(hb:B'<=B):Nb B' w z x:=by
 obtain⟨neg,t,d,j⟩:=h;exact⟨neg,t,d.mono hb,j⟩
theorem Nb.setCell (h:Nb B w z x)(p:Addr)(u:Value)(hp:p.block<B):Nb B (w.setCell p u) z x:=by
 obtain⟨neg,t,d,j⟩:=h;exact⟨neg,t,d.setCell p u hp,j⟩
theorem Nb.shape (h:Nb B w z x):∃ (z0:Int) (zn:Bool) (za:Option Addr) (zl zc:Nat),z=.agg #[.int .i64 z0,.bool zn,.slice za zl zc]:=by
 obtain⟨neg,t,d,j⟩:=h;exact d.shape
structure Boxes (g:Nat)(W:World)(x:Int)(xn:Bool)(pa:Option Addr)(la ca:Nat)(y:Int)(yn:Bool)(pb:Option Addr)(lb cb:Nat):Prop where
 a0:W.cell? ⟨g,0,none⟩=some (.int .i64 x)
 a1:W.cell? ⟨g,1,none⟩=some (.bool xn)
 a2:W.cell? ⟨g,2,none⟩=some (.slice pa la ca)
 b0:W.cell? ⟨g+1,0,none⟩=some (.int .i64 y)
 b1:W.cell? ⟨g+1,1,none⟩=some (.bool yn)
 b2:W.cell? ⟨g+1,2,none⟩=some (.slice pb lb cb)
 r0:W.cell? ⟨g+2,0,none⟩=some (.int .i64 0)
 r1:W.cell? ⟨g+2,1,none⟩=some (.bool false)
 r2:W.cell? ⟨g+2,2,none⟩=some (.slice none 0 0)
 f0:W.frozen? ⟨g+2,0,none⟩=false
 f1:W.frozen? ⟨g+2,1,none⟩=false
 f2:W.frozen? ⟨g+2,2,none⟩=false
theorem Boxes.bl {g:Nat}{W W':World}{xn:Bool}{pa:Option Addr}{la ca:Nat}{y:Int}{yn:Bool}{pb:Option Addr}{lb cb:Nat}(h:Boxes g W x xn pa la ca y yn pb lb cb){N:Nat}(hN:g+3<=N)(hb:Below N W W'):Boxes g W' x xn pa la ca y yn pb lb cb:=by
 have q:∀ k,k<3->∀ i,W'.cell? ⟨g+k,i,none⟩=W.cell? ⟨g+k,i,none⟩:=fun k hk i=>hb.cell (p:=⟨g+k,i,none⟩) (by show g+k<N;omega);have f:∀ i,W'.frozen? ⟨g+2,i,none⟩=W.frozen? ⟨g+2,i,none⟩:=fun i=>hb.frozen (p:=⟨g+2,i,none⟩) (by show g+2<N;omega);exact⟨(q 0 (by omega) 0).trans h.a0,(q 0 (by omega) 1).trans h.a1,(q 0 (by omega) 2).trans h.a2,(q 1 (by omega) 0).trans h.b0,(q 1 (by omega) 1).trans h.b1,(q 1 (by omega) 2).trans h.b2,(q 2 (by omega) 0).trans h.r0,(q 2 (by omega) 1).trans h.r1,(q 2 (by omega) 2).trans h.r2,(f 0).trans h.f0,(f 1).trans h.f1,(f 2).trans h.f2⟩
theorem Gv (w:World)(x:Int)(xn:Bool)(pa:Option Addr)(la ca:Nat)(y:Int)(yn:Bool)(pb:Option Addr)(lb cb:Nat)(ty:TypeId) :
 Boxes w.heap.size (((w.alloc (.cells #[.int .i64 x,.bool xn,.slice pa la ca] ty)).alloc (.cells #[.int .i64 y,.bool yn,.slice pb lb cb] ty)).alloc (.cells #[.int .i64 0,.bool false,.slice none 0 0] ty)) x xn pa la ca y yn pb lb cb:=by
 constructor
 ·rw[Jk _ _ _ (by simp;omega),Jk _ _ _ (by simp),Jg _ _ _ _ rfl];rfl
 ·rw[Jk _ _ _ (by simp;omega),Jk _ _ _ (by simp),Jg _ _ _ _ rfl];rfl
 ·rw[Jk _ _ _ (by simp;omega),Jk _ _ _ (by simp),Jg _ _ _ _ rfl];rfl
 ·rw[Jk _ _ _ (by simp),Jg _ _ _ _ (by simp)];rfl
 ·rw[Jk _ _ _ (by simp),Jg _ _ _ _ (by simp)];rfl
 ·rw[Jk _ _ _ (by simp),Jg _ _ _ _ (by simp)];rfl
 ·rw[Jg _ _ _ _ (by simp)];rfl
 ·rw[Jg _ _ _ _ (by simp)];rfl
 ·rw[Jg _ _ _ _ (by simp)];rfl
 ·rw[Jv _ _ _ _ (by simp)]
 ·rw[Jv _ _ _ _ (by simp)]
 rw[Jv _ _ _ _ (by simp)]
theorem ZY (x y:Int)(w:World)(hx1 : -1000000000000000000<x)(hx2:x<1000000000000000000)(hy1 : -1000000000000000000<y)(hy2:y<1000000000000000000) :
 Calls prog 153 #[.agg #[.int .i64 x,.bool false,.slice none 0 0],.agg #[.int .i64 y,.bool false,.slice none 0 0]] w fun e w'=>∃ z,e=.returned z/\Nb w.heap.size w' z (x+y)/\Up w w':=by
 have V:=Gv w x false none 0 0 y false none 0 0 72;obtain⟨j,d⟩:=O2 (((w.alloc (.cells #[.int .i64 x,.bool false,.slice none 0 0] 72)).alloc (.cells #[.int .i64 y,.bool false,.slice none 0 0] 72)).alloc (.cells #[.int .i64 0,.bool false,.slice none 0 0] 72));have U:=Hd d;have K:Hid (Up w j):=by rw[<-d];exact Ou (Ou (Oo _ _) _) _
 have J:j.heap.size=w.heap.size+3:=by rw[<-d];simp
 have G:w.heap.size<j.heap.size:=by omega
 have H:w.heap.size+1<j.heap.size:=by omega
 have I:w.heap.size+2<j.heap.size:=by omega
 rw[d] at V;have HS:=Hd J;have E:=V;obtain⟨a0,a1,a2,b0,b1,b2,r0,r1,r2,f0,f1,f2⟩:=V;have T:Hid (Boxes w.heap.size j x false none 0 0 y false none 0 0):=E;clear d J E
 go_in
 go_wp2_with fail
 rw[U.o];refine (O0 _ _ _ _ _ _).mono ?_;rintro e w' ⟨rfl,rfl⟩
 go_wp2_with (go_at_call 106;refine (O0 _ _ _ _ _ _).mono ?_;rintro e w' ⟨rfl,rfl⟩)
 refine (Nl _ _ (by omega) (by omega)).mono ?_;rintro e w1 ⟨z,rfl,⟨neg,t,Y,hv,_⟩,F⟩;have HN:Hid (Nb (w.heap.size+3) w1 z (x+y)):=⟨neg,t,Y.mono (by have:=HS.o;simp;omega),hv⟩;have D:Up j w1:=(Ou (Oo j _) _).trans (F.mono (by simp;omega));have O:Hid (Up w w1):=K.o.trans (D.mono (by omega));clear a0 a1 a2 b0 b1 b2 r0 r1 r2 f0 f1 f2;obtain⟨a0,a1,a2,b0,b1,b2,r0,r1,r2,f0,f1,f2⟩:=T.o.bl (by have:=HS.o;omega) D;obtain⟨z0,zn,za,zl,zc,Z⟩:=Y.shape;subst Z;clear Y hv F D G H I
 go_wp2
 refine Jh ?_ rfl ⟨_,rfl,(((HN.o.setCell _ _ (by simp)).setCell _ _ (by simp)).setCell _ _ (by simp)).mono (by omega),((O.o.setCell (by simp;omega) _).setCell (by simp;omega) _).setCell (by simp;omega) _⟩;simp[results,results153,go_sem,r0,r1,r2]
theorem Em {p:Prop}(h:p):Hid p:=h
theorem KL (B:Nat)(x y:Int)(xn yn:Bool)(pa:Option Addr)(la ca:Nat)(pb:Option Addr)(lb cb:Nat)(na nb:Bool)(a b:List Nat)(w:World)(hBw:B<=w.heap.size)(hz:((la:Int)==0)=false∨((la:Int)==0)=true/\((lb:Int)==0)=false)
 (hza:Ej B w (.agg #[.int .i64 x,.bool xn,.slice pa la ca]) na a) (hzb:Ej B w (.agg #[.int .i64 y,.bool yn,.slice pb lb cb]) nb b) (s:Bool) (ha:Rg x xn la=s) (hb:Rg y yn lb=s) (hla:a.length<=1000000) (hlb:b.length<=1000000) :
 Calls prog 153 #[.agg #[.int .i64 x,.bool xn,.slice pa la ca],.agg #[.int .i64 y,.bool yn,.slice pb lb cb]] w fun e w'=>∃ z,e=.returned z/\Nb w.heap.size w' z (sg s (val a)+sg (s) (val b))/\Up w w':=by
 have b4:=Hd ha;have d7:=Hd hb;have b3:Hid (a.length<=1000000/\b.length<=1000000):=⟨hla,hlb⟩;have HX:=Gv w x xn pa la ca y yn pb lb cb 72;obtain⟨D,E⟩:=O2 (((w.alloc (.cells #[.int .i64 x,.bool xn,.slice pa la ca] 72)).alloc (.cells #[.int .i64 y,.bool yn,.slice pb lb cb] 72)).alloc (.cells #[.int .i64 0,.bool false,.slice none 0 0] 72));have e0:=Hd E;have H:Up w D:=by rw[<-E];exact Ou (Ou (Oo _ _) _) _
 have d4:=Hd H;have c8:D.heap.size=w.heap.size+3:=by rw[<-E];simp
 have b8:w.heap.size<D.heap.size:=by omega
 have b9:w.heap.size+1<D.heap.size:=by omega
 have c6:w.heap.size+2<D.heap.size:=by omega
 rw[E] at HX;have HS:=Hd c8;have Z:=Hd hBw;have G:Hid (∀ W,Up D W->Boxes w.heap.size W x xn pa la ca y yn pb lb cb):=fun W hW=>HX.bl (by omega) hW;have e3:Hid (∀ W,Up D W->Ej B W (.agg #[.int .i64 x,.bool xn,.slice pa la ca]) na a):=fun W hW=>(hza.bl H).bl hW;have e4:Hid (∀ W,Up D W->Ej B W (.agg #[.int .i64 y,.bool yn,.slice pb lb cb]) nb b):=fun W hW=>(hzb.bl H).bl hW;obtain⟨a0,a1,a2,b0,b1,b2,r0,r1,r2,f0,f1,f2⟩:=HX;clear E c8 ha hb hza hzb H hBw hla hlb;have a8:Hid (∃ W1,Up D W1/\((((la:Int)==0)=false/\D.alloc (.cells #[.int .i64 x,.bool xn,.slice pa la ca] 72)=W1)∨(((la:Int)==0)=true/\((lb:Int)==0)=false/\(D.alloc (.cells #[.int .i64 x,.bool xn,.slice pa la ca] 72)).alloc (.cells #[.int .i64 y,.bool yn,.slice pb lb cb] 72)=W1))):=by
  rcases hz with h|⟨h,h'⟩
  ·exact⟨_,Oo _ _,.inl ⟨h,rfl⟩⟩
  exact⟨_,Ou (Oo _ _) _,.inr ⟨h,h',rfl⟩⟩
 obtain⟨W1,I,e9⟩:=a8.o;have d:=Hd I;clear hz a8 I
 go_in
 go_wp2_with fail
 rw[e0.o];refine (O0 _ _ _ _ _ _).mono ?_;rintro e w' ⟨rfl,rfl⟩
 rcases e9 with⟨hz,K⟩|⟨hz,g3,K⟩
 all_goals
  have e1:=Em K;clear K
  go_wp2_with (go_at_call 106;refine (O0 _ _ _ _ _ _).mono ?_;rintro e w' ⟨rfl,rfl⟩)
  rw[e1.o];clear a0 a1 a2 b0 b1 b2 r0 r1 r2 f0 f1 f2;obtain⟨a0,a1,a2,b0,b1,b2,r0,r1,r2,f0,f1,f2⟩:=G.o W1 d.o;refine (Kc B _ na a _ (e3.o _ d.o) (by have:=d.o.size;have:=HS.o;have:=Z.o;omega)).mono ?_;rintro e wa ⟨va,rfl,d0,b6⟩;have d8:=Hd d0;have F:=d.up b6;clear a0 a1 a2 b0 b1 b2 r0 r1 r2 f0 f1 f2 d0 b6;obtain⟨a0,a1,a2,b0,b1,b2,r0,r1,r2,f0,f1,f2⟩:=G.o wa F.o
  go_wp2_with fail
  refine (Kc B _ nb b _ (e4.o _ F.o) (by have:=F.o.size;have:=HS.o;have:=Z.o;omega)).mono ?_;rintro e V ⟨vb,rfl,d1,O⟩;have d9:=Hd d1;have b5:Hid (Kn B V va a):=d8.o.bl O;have j:=F.up O;have e6:w.heap.size<V.heap.size:=by have:=j.o.size;omega
  have e7:w.heap.size+1<V.heap.size:=by have:=j.o.size;omega
  have e8:w.heap.size+2<V.heap.size:=by have:=j.o.size;omega
  clear a0 a1 a2 b0 b1 b2 r0 r1 r2 f0 f1 f2 d1 O b8 b9 c6;obtain⟨a0,a1,a2,b0,b1,b2,r0,r1,r2,f0,f1,f2⟩:=G.o V j.o
  go_wp2
  go_region_with (first|(go_at_call_of 74 (Value.int IntKind.i64 x);refine (Ku _ _ _ _ _ _).mono ?_;rintro e w' ⟨rfl,rfl⟩;rw[b4.o])|(go_at_call_of 74 (Value.int IntKind.i64 y);refine (Ku _ _ _ _ _ _).mono ?_;rintro e w' ⟨rfl,rfl⟩;rw[d7.o]))
  all_goals
   simp only[Yg,Yb,J0,Act.put,Ja,Jb,Jc]
   go_wp2_with fail
   refine (Ku _ _ _ _ _ _).mono ?_;rintro e wc ⟨rfl,d2⟩;rw[b4.o];have T:Up V wc:=by rw[d2];exact Ou ((Ou (Oo _ _) _).drew) _
   have Y:=Hd T;have a6:=j.up T;clear d2 T a0 a1 a2 b0 b1 b2 r0 r1 r2 f0 f1 f2 e6 e7 e8
   go_wp2_with fail
   refine (KF B va vb a b _ (b5.o.bl Y.o) (d9.o.bl Y.o) b3.o.1 b3.o.2).mono ?_;rintro e wd ⟨vd,L,rfl,hL,J,b7⟩;have HL:=Hd hL;have HV:=Hd J;have d6:=a6.up b7;clear hL J b7
   go_wp2_with fail
   refine (Nt _ s vd L _ HL.o).mono ?_;rintro e we ⟨z,rfl,c7,U⟩;have hN:Nb (w.heap.size+3) we z (sg s (val a)+sg s (val b)):=⟨s,Ov L,(((c7 _ _ HL.o).bl U).mono (by have:=a6.o.size;have:=HS.o;omega)),by rw[O9,HV.o,TC]⟩;have HN:=Hd hN;have a7:=d6.up U;have d5:Hid (Up w we):=d4.o.trans (a7.o.mono (by have:=HS.o;omega));obtain⟨a0,a1,a2,b0,b1,b2,r0,r1,r2,f0,f1,f2⟩:=G.o we a7.o;obtain⟨z0,zn,za,zl,zc,f5⟩:=hN.shape;subst f5;clear c7 U hN
   go_wp2
   refine Jh ?_ rfl ⟨_,rfl,(((HN.o.setCell _ _ (by simp)).setCell _ _ (by simp)).setCell _ _ (by simp)).mono (by omega),((d5.o.setCell (by simp;omega) _).setCell (by simp;omega) _).setCell (by simp;omega) _⟩;simp[results,results153,go_sem,r0,r1,r2]
end Go.Proofs.YtjjgilacnocigaaGreatDoor.Q
