import Derived.Test.YtfkagjelljnpdaaGreatDoorP02
set_option maxRecDepth 100000
set_option maxHeartbeats 8000000
namespace Go.Proofs.YtfkagjelljnpdaaGreatDoor.Q
open ChangeShapes WideShapes ChangeAt RowKit Proofs.Tryz
variable {B:Nat}{w:World}
def Rd(x k:Nat):List Nat:=(List.range k).map (fun j=>48+x / 10 ^ j % 10)
def revD(l:List Nat):List Nat:=l.flatMap (fun x=>Rd x 9)
theorem GQ(x k:Nat):Rd x (k+1)=Rd x k++[48+x / 10 ^ k % 10]:=by simp[Rd,List.range_succ]
theorem Wo(x k:Nat):(Rd x k).length=k:=by simp[Rd]
theorem T3(l:List Nat):(revD l).length=9*l.length:=by
 unfold revD;rw[List.length_flatMap];simp only[Wo];rw[List.map_const',List.sum_replicate_nat];omega
theorem GX(l:List Nat)(x:Nat):revD (l++[x])=revD l++Rd x 9:=by simp[revD]
theorem QJ(x:Nat):(Rd x 9).reverse=Xu x 9:=by
 simp[Rd,Xu,dg,tens,List.range_succ]
theorem T8(l:List Nat):(revD l).reverse=H5 l:=by
 unfold revD H5
 induction l with
 | nil=>rfl
 | cons x l ih=>rw[Zs,Z0,ih,Vr,Yx,QJ];simp
theorem CU(l:List Nat):∀x∈revD l,x<256:=fun x hx=>UC l x (by rw[<-T8];simpa using hx)
def Q8(l:List Nat):List Nat:=(l.reverse.dropWhile (·==48))
theorem KD(D:List Nat)(j:Nat)(h:j<D.length)(h0:D.getD j 0=48):Q8 (D.take (j+1))=Q8 (D.take j):=by
 unfold Q8;rw[Yl h,Z0];have:D[j]=48:=by simpa[List.getD_eq_getElem?_getD,h]using h0
 simp[this]
theorem XK(D:List Nat)(j:Nat)(h:j<D.length)(h0:D.getD j 0≠48):Q8 (D.take (j+1))=(D.take (j+1)).reverse:=by
 unfold Q8;rw[Yl h,Z0];have:D[j]≠48:=by simpa[List.getD_eq_getElem?_getD,h]using h0
 simp[this]
theorem A9(l:List Nat)(h:∀x∈l,x<256):N2 (Od l)=Od (l.dropWhile (·==48)):=by
 induction l with
 | nil=>rfl
 | cons x l ih=>
   have hx:=h x (by simp);have e:(UInt8.ofNat x==48)=(x==48):=by
    rw[J8,J2,J2];constructor
    ·intro e;have:=congrArg UInt8.toNat e;rw[UInt8.toNat_ofNat_of_lt' (by simpa using hx)]at this;exact this
    rintro rfl;rfl
   unfold N2 Od at *;simp only[Za,Ve,e]
   split
   ·exact ih (fun y hy=>h y (by simp[hy]))
   rfl
theorem GJ(l:List Nat):textD l=Od (Q8 (revD l)):=by
 unfold textD Q8;rw[A9 _ (UC l),T8]
def Nc(ng:Bool)(t:List Nat):ByteArray:=if t.length=0 then Kc [48]else if ng then Kc (45::textD t)else Kc (textD t)
theorem QX{z0:Int}{zn:Bool}{za:Option Addr}{zl zc:Nat}{neg:Bool}{t:List Nat}(h:Q5 B w (.agg #[.int .i64 z0,.bool zn,.slice za zl zc]) neg t):FM z0 zn zl=Um neg t:=by
 obtain⟨q,E,j⟩:=h
 rcases j with⟨j,v,e,p,c,rfl,_⟩|⟨j,e⟩
 ·simp at e;obtain⟨_,rfl,_,rfl,_⟩:=e;unfold FM Um;have:0<t.length:=by omega
  simp[this]
 simp at e;obtain⟨rfl,rfl,_,rfl,_⟩:=e;exact(Tx neg t j q E).symm
def U6(s M q:Nat):Nat:=s+(M - q)
theorem E1(s M:Nat):U6 s M M=s:=by unfold U6;omega
theorem Cl(s M q:Nat)(h:q<M):U6 s M (q+1)+1=U6 s M q:=by unfold U6;omega
def E2(D:List Nat)(M q:Nat):List Value:=Af ((D.take M).drop q).reverse
theorem I2(D:List Nat)(M:Nat):E2 D M M=[]:=by unfold E2;rw[Yj (List.length_take_le _ _)];rfl
theorem Ft(D:List Nat)(M q:Nat)(h:q<M)(hl:M<=D.length):E2 D M q=E2 D M (q+1)++[.int .u8 (D.getD q 0:Nat)]:=by
 unfold E2;have j:q<(D.take M).length:=by rw[J7];omega
 rw[Y3 j,Z9,J6,Jg (by omega),Vr,H8];rfl
theorem Qe(w:World)(v:Value)(t:TypeId)(g:Nat)(hg:w.heap.size=g):∀j u,[v][j]? = some u->(w.alloc (.cells #[v] t)).cell? ((⟨g,0,none⟩:Addr).add j)=some u:=by
 subst hg;exact cell_one_new _ _ _
theorem Is(B:Nat)(z:Value)(neg:Bool)(t:List Nat)(w:World)(hz:Q5 B w z neg t)(hBw:B<=w.heap.size)(hlen:t.length<=600) :
 Calls prog 75 #[z] w fun e w'=>e=.returned (.string (Nc (Um neg t) t))/\Up w w':=by
 obtain⟨z0,zn,za,zl,zc,l0⟩:=hz.shape;subst l0;obtain⟨i0,Z,h3,b5,h4⟩:=info_parts info_u8;obtain⟨W0,b9⟩:=O2 (w.alloc (.cells #[.int .i64 z0,.bool zn,.slice za zl zc] 131));have j8:=Hd b9;have g8:Up w W0:=by rw[<-b9];exact Oy _ _
 have n0:W0.heap.size=w.heap.size+1:=by rw[<-b9];simp
 have HZ:Hid (Q5 B W0 (.agg #[.int .i64 z0,.bool zn,.slice za zl zc]) neg t):=hz.bl g8;have j6:=Hd g8;have HX:Hid (∀W,Up W0 W->W.cell? ⟨w.heap.size,0,none⟩=some (.int .i64 z0)/\W.cell? ⟨w.heap.size,1,none⟩=some (.bool zn)/\W.cell? ⟨w.heap.size,2,none⟩=some (.slice za zl zc)):=fun W hW=>by
  refine⟨?_,?_,?_⟩
  ·rw[hW.cell (p:=⟨w.heap.size,0,none⟩) (by show w.heap.size<_;omega),<-b9,Yd _ _ _ _ rfl];rfl
  ·rw[hW.cell (p:=⟨w.heap.size,1,none⟩) (by show w.heap.size<_;omega),<-b9,Yd _ _ _ _ rfl];rfl
  rw[hW.cell (p:=⟨w.heap.size,2,none⟩) (by show w.heap.size<_;omega),<-b9,Yd _ _ _ _ rfl];rfl
 have h9:Hid (FM z0 zn zl=Um neg t):=QX hz;clear hz g8 b9
 go_in
 go_wp2_with fail
 rw[j8.o];refine(To B _ neg t _ HZ.o (by omega)).mono ?_;rintro e w1 ⟨v,rfl,hv,f9⟩;obtain⟨a,m6,rfl,hl,l4,k7,hr⟩:=hv;have l5:w.heap.size+1<=w1.heap.size:=by have:=f9.size;omega
 have HC:Hid (∀i,i<t.length->∃b off,a=some ⟨b,off,none⟩/\b<w1.heap.size/\w1.cell? ⟨b,off+i,none⟩=some (.int .u32 (t.getD i 0:Nat))):=fun i hi=>by
  rcases hr with rfl|⟨b,off,rfl,_,hb,hc⟩
  ·simp at hi
  exact⟨b,off,rfl,hb,hc i hi⟩
 have d2:=Hd f9;have V:Hid (Up w w1):=j6.o.trans (f9.mono (by omega));clear hr f9
 by_cases h0:t.length=0
 ·have HT:Hid (Nc (Um neg t) t=Kc [48]):=if_pos h0;have zz:((t.length:Int)==0)=true:=by rw[J2];omega
  go_wp2
  go_ret
  exact⟨by rw[HT.o];rfl,V.o⟩
 have zz:((t.length:Int)==0)=false:=by rw[Jc];omega
 have HT:Hid (Nc (Um neg t) t=if Um neg t then Kc (45::textD t)else Kc (textD t)):=if_neg h0
 go_wp2_with (at_make;refine wpList_make_own _ rfl _ _ 22 rfl w1.heap.size 5 i0 (.int .u8 0) 1 underlying22 Z h3 b5 .i64 .i64 _ (9*t.length+1) rfl rfl ?m1 ?m2 ?m3 ?m4 ?_)
 case m1=>omega
 case m2=>rw[h4];omega
 case m3=>unfold maxLen;omega
 case m4=>exact leR
 intro w2 f0 g0;have j1:Up w1 w2:=(Ji _ _).grown g0 leR (fun k h=>by cases h);clear g0
 go_wp2
 go_loopw [4,23] (fun v i wr=>∃j:Nat,j<=t.length/\i=.int .i64 j/\v=.slice (some ⟨w1.heap.size,0,none⟩) (9*j) (9*t.length+1) /\
  wr.ownsRow w1.heap.size 5 1 (.slice (some ⟨w1.heap.size,0,none⟩) (9*j) (9*t.length+1)) (9*j) (Af (revD (t.take j)))/\Up w1 wr) (fun _ i _=>t.length - (intOf i).toNat)
 case atStart=>exact⟨0,Jp _,rfl,rfl,f0,j1⟩
 clear f0 j1;obtain⟨j,hj,rfl,rfl,J,hB⟩:=hrel
 by_cases g9:j<t.length
 ·obtain⟨b,off,rfl,hb,Y⟩:=HC.o j g9;have k9:=DK t k7 j;rw[<-hB.cell (p:=⟨b,off+j,none⟩) hb]at Y;have i8:Hid (t.take (j+1)=t.take j++[t.getD j 0]):=by
   unfold Hid
   rw[Yl g9,J6,Jg g9];rfl
  obtain⟨y,hy⟩:=O2 (t.getD j 0);rw[hy]at Y k9 i8;obtain⟨P,hP⟩:=O2 (revD (t.take j));have HP:=Hd hP;rw[hP]at J;clear hy hP
  go_wp2
  go_loopw [4,6,7] (fun v x kk wr=>∃k:Nat,k<=9/\kk=.int .i64 k/\x=.int .u32 (y / 10 ^ k:Nat)/\v=.slice (some ⟨w1.heap.size,0,none⟩) (9*j+k) (9*t.length+1) /\
   wr.ownsRow w1.heap.size 5 1 (.slice (some ⟨w1.heap.size,0,none⟩) (9*j+k) (9*t.length+1)) (9*j+k) (Af (P++Rd y k))/\Up w1 wr) (fun _ _ kk _=>9 - (intOf kk).toNat)
  case atStart=>exact⟨0,Jp _,rfl,V0 (by simp),rfl,by simpa[Rd]using J,hB⟩
  clear J hB Y;rename_i wr0;obtain⟨k,hk,rfl,rfl,rfl,J,hB⟩:=hrel
  by_cases m9:k<9
  ·have hq:=Nat.div_le_self y (10 ^ k);have i7:Hid (y / 10 ^ (k+1)=y / 10 ^ k / 10):=by unfold Hid;rw[Vt,Z1]
   have g5:=GQ y k;obtain⟨q,j5⟩:=O2 (y / 10 ^ k);rw[j5]at hq i7 g5 ⊢;have i6:Hid (Rd y (k+1)=Rd y k++[48+q % 10]):=g5;clear j5 g5
   go_wp2_with (at_builtin;refine wpList_append_fits _ rfl _ _ 22 rfl w1.heap.size 5 i0 1 underlying22 Z b5 w1.heap.size (9*j+k) (9*t.length+1) _ rfl (J.alloc _) ⟨wr.heap.size,0,none⟩ 1 1 [_] rfl rfl (cell_one_new _ _ _) ?c1 ?c2 ?_)
   case c1=>first|rfl|(intro u hu;simp at hu;subst hu;rfl)
   case c2=>omega
   intro w3 f1 g1;have j9:Up w1 w3:=(hB.alloc hB.size _).grown g1 (by have:=hB.size;simp;omega) (fun k e=>by cases e;exact leR);have j7:Hid (w3.ownsRow w1.heap.size 5 1 (.slice (some ⟨w1.heap.size,0,none⟩) (9*j+(k+1)) (9*t.length+1)) (9*j+(k+1)) (Af (P++Rd y (k+1)))):=by
    unfold Hid
    rw[i6.o,<-Ys,H8]
    simpa[<-Nat.add_assoc]using f1
   clear f1 g1 J hB
   go_wp2
   go_roundw
   case rel=>exact⟨k+1,by omega,by go_num,by rw[i7.o];exact V0 (by simp),rfl,j7.o,j9⟩
   simp[intOf];omega
  obtain rfl:k=9:=by omega
  have b6:Hid (wr.ownsRow w1.heap.size 5 1 (.slice (some ⟨w1.heap.size,0,none⟩) (9*(j+1)) (9*t.length+1)) (9*(j+1)) (Af (revD (t.take (j+1))))):=by
   unfold Hid
   rw[i8.o,GX,HP.o];exact J
  clear J
  go_wp2
  go_roundw
  case rel=>exact⟨j+1,by omega,by go_num,rfl,b6.o,hB⟩
  simp[intOf];omega
 obtain rfl:j=t.length:=by omega
 generalize k1:wr=G at *;clear k1;rw[Y1]at J;have g2:=T3 t;have g6:=GJ t;have d9:=CU t;obtain⟨D,hD⟩:=O2 (revD t);rw[hD]at J g2 g6 d9;have O:Hid (D.length=9*t.length):=g2;have c8:Hid (textD t=Od (Q8 D)):=g6;have a8:Hid (∀x∈D,x<256):=d9;have e0:=Hd J;have g4:Hid (∀W:World,W.ownsRow w1.heap.size 5 1 (.slice (some ⟨w1.heap.size,0,none⟩) (9*t.length) (9*t.length+1)) (9*t.length) (Af D)->∀i,i<9*t.length->W.cell? ⟨w1.heap.size,i,none⟩=some (.int .u8 (D.getD i 0:Nat))):=fun W hW i hi=>by
  have:=hW.cells (g:=w1.heap.size) rfl i (.int .u8 (D.getD i 0:Nat)) (by rw[Yt];simp[List.getD_eq_getElem?_getD,show i<D.length by omega])
  by_cases i0:i=0
  ·subst i0;simpa[Addr.add]using this
  simpa[Addr.add,i0]using this
 have d3:=Hd hB;clear J g2 g6 d9 hD hB
 go_wp2
 go_loop [8] (fun n=>∃m:Nat,m<=9*t.length/\n=.int .i64 m/\Q8 (D.take m)=Q8 D) (fun n=>(intOf n).toNat)
 case atStart=>exact⟨9*t.length,leR,V0 (by omega),by rw[<-O.o,Y1]⟩
 obtain⟨m,hm,rfl,hp⟩:=hrel;have HP:=Hd hp;clear hp;obtain⟨ng,j4⟩:=O2 (Um neg t);have b0:=Hd j4;clear j4
 cases m with
 | zero=>
   have HM:Hid (Q8 D=(D.take 0).reverse):=HP.o.symm.trans rfl
   go_wp2_with (at_make;refine wpList_make_own _ rfl _ _ 22 rfl G.heap.size 5 i0 (.int .u8 0) 1 underlying22 Z h3 b5 .i64 .i64 _ (0+1) rfl rfl ?am1 ?am2 ?am3 ?am4 ?_)
   try (case am1=>(omega))
   try (case am2=>(first|omega|(rw[h4];omega)))
   try (case am3=>(unfold maxLen;omega))
   try (case am4=>(exact leR))
   intro w4 a7 b2;have b8:Up G w4:=(Ji _ _).grown b2 leR (fun k h=>by cases h);have h2:w1.heap.size<G.heap.size:=(e0.o.lt _ rfl).2;have d7:Hid (Up W0 w4):=d2.o.trans ((d3.o.mono d2.o.size).trans (b8.mono (by have:=d2.o.size;omega)));obtain⟨c0,c1,c2⟩:=HX.o w4 d7.o;have b6:=Hd a7;have R:=Hd b8;clear b2 a7 b8
   go_wp2_with fail
   refine(Cr _ _ _ _ _ _).mono ?_;rintro e w' ⟨rfl,k8⟩;subst w';rw[h9.o,b0.o]
   cases ng
   ·have b7:Hid (Nc (Um neg t) t=Kc (Od (D.take (0)).reverse)):=by rw[HT.o,b0.o,c8.o,HM.o];rfl
    have K:=b6.o.alloc (.cells #[.int .i64 z0,.bool zn,.slice za zl zc] 131);have E:Up G (w4.alloc (.cells #[.int .i64 z0,.bool zn,.slice za zl zc] 131)):=R.o.alloc R.o.size _;obtain⟨W5,e6⟩:=O2 (w4.alloc (.cells #[.int .i64 z0,.bool zn,.slice za zl zc] 131));rw[e6]at K E ⊢;clear e6
    go_wp2
    go_loopw [9,10] (fun v i wr=>∃q:Nat,q<=0/\i=.int .i64 (q - 1)/\v=.slice (some ⟨G.heap.size,0,none⟩) (U6 0 (0) q) (0+1) /\
     wr.ownsRow G.heap.size 5 1 (.slice (some ⟨G.heap.size,0,none⟩) (U6 0 (0) q) (0+1)) (U6 0 (0) q) (E2 D (0) q)/\Up G wr) (fun _ i _=>(intOf i+1).toNat)
    case atStart=>
     refine⟨0,leR,V0 (by omega),by rw[E1],?_,E⟩;rw[E1,I2]
     simpa using K
    clear K E;obtain⟨q,hq,rfl,rfl,K,E⟩:=hrel
    cases q with
    | zero=>
      have e9:E2 D (0) 0=Af ((D.take (0)).reverse):=by unfold E2;rw[Y9]
      rw[e9]at K;have c6:=Gn _ _ _ _ _ _ K (by
       intro x hx;have h:=hx;exact a8.o x (Yp (List.mem_reverse.1 h))) (by unfold U6;rw[Vf,J7,O.o];omega)
      have a1:Hid (Up w wr):=V.o.trans ((d3.o.mono V.o.size).trans (E.mono (by have:=V.o.size;omega)));clear K E e9
      go_wp2
      go_ret
      exact⟨by rw[b7.o];rfl,a1.o⟩
    | succ q=>exact absurd hq (Nat.not_succ_le_zero q)
   have b7:Hid (Nc (Um neg t) t=Kc (Od ([45]++(D.take (0)).reverse))):=by rw[HT.o,b0.o,c8.o,HM.o];rfl
   have e4:=b6.o.alloc (.cells #[.int .i64 z0,.bool zn,.slice za zl zc] 131)
   go_wp2_with (at_builtin;refine wpList_append_fits _ rfl _ _ 22 rfl G.heap.size 5 i0 1 underlying22 Z b5 G.heap.size 0 (0+1) _ rfl (e4.alloc _) ⟨w4.heap.size+1,0,none⟩ 1 1 [.int .u8 45] rfl rfl ?ad0 ?ad1 ?ad2 ?_)
   try (case ad0=>(exact Qe _ _ _ _ (by simp)))
   try (case ad1=>(first|rfl|(intro u hu;simp at hu;subst hu;rfl)))
   try (case ad2=>(omega))
   intro W5 K b3;have E:Up G W5:=((R.o.alloc R.o.size _).alloc (by have:=R.o.size;simp;omega) _).grown b3 (by have:=R.o.size;simp;omega) (fun k e=>by cases e;exact leR);clear b3 e4
   go_wp2
   go_loopw [9,10] (fun v i wr=>∃q:Nat,q<=0/\i=.int .i64 (q - 1)/\v=.slice (some ⟨G.heap.size,0,none⟩) (U6 1 (0) q) (0+1) /\
    wr.ownsRow G.heap.size 5 1 (.slice (some ⟨G.heap.size,0,none⟩) (U6 1 (0) q) (0+1)) (U6 1 (0) q) ([.int .u8 45]++E2 D (0) q)/\Up G wr) (fun _ i _=>(intOf i+1).toNat)
   case atStart=>
    refine⟨0,leR,V0 (by omega),by rw[E1],?_,E⟩;rw[E1,I2]
    simpa using K
   clear K E;obtain⟨q,hq,rfl,rfl,K,E⟩:=hrel
   cases q with
   | zero=>
     have e9:[.int .u8 45]++E2 D (0) 0=Af ([45]++(D.take (0)).reverse):=by unfold E2;rw[Y9];rfl
     rw[e9]at K;have c6:=Gn _ _ _ _ _ _ K (by
      intro x hx
      rcases Yc.1 hx with h|h
      ·simp at h;omega
      exact a8.o x (Yp (List.mem_reverse.1 h))) (by unfold U6;rw[Jq,Vf,J7,O.o];simp only[Yo,Zp];omega)
     have a1:Hid (Up w wr):=V.o.trans ((d3.o.mono V.o.size).trans (E.mono (by have:=V.o.size;omega)));clear K E e9
     go_wp2
     go_ret
     exact⟨by rw[b7.o];rfl,a1.o⟩
   | succ q=>exact absurd hq (Nat.not_succ_le_zero q)
 | succ m=>
   have Y:=g4.o G e0.o m (by omega);have j3:m<D.length:=by rw[O.o];omega
   by_cases d4:D.getD m 0=48
   ·have HN:Hid (Q8 (D.take m)=Q8 D):=(KD D m j3 d4).symm.trans HP.o;rw[d4]at Y;clear d4
    go_wp2
    go_round
    case rel=>exact⟨m,by omega,V0 (by omega),HN.o⟩
    simp[intOf]
   have HM:Hid (Q8 D=(D.take (m+1)).reverse):=HP.o.symm.trans (XK D m j3 d4);obtain⟨d0,j2⟩:=O2 (D.getD m 0);rw[j2]at Y d4;have m7:((d0:Int)==48)=false:=by rw[Jc];omega
   clear j2 d4
   go_wp2_with (at_make;refine wpList_make_own _ rfl _ _ 22 rfl G.heap.size 5 i0 (.int .u8 0) 1 underlying22 Z h3 b5 .i64 .i64 _ ((m+1)+1) rfl rfl ?bm1 ?bm2 ?bm3 ?bm4 ?_)
   try (case bm1=>(omega))
   try (case bm2=>(first|omega|(rw[h4];omega)))
   try (case bm3=>(unfold maxLen;omega))
   try (case bm4=>(exact leR))
   intro w4 a7 b2;have b8:Up G w4:=(Ji _ _).grown b2 leR (fun k h=>by cases h);have h2:w1.heap.size<G.heap.size:=(e0.o.lt _ rfl).2;have d7:Hid (Up W0 w4):=d2.o.trans ((d3.o.mono d2.o.size).trans (b8.mono (by have:=d2.o.size;omega)));obtain⟨c0,c1,c2⟩:=HX.o w4 d7.o;have b6:=Hd a7;have R:=Hd b8;clear b2 a7 b8
   go_wp2_with fail
   refine(Cr _ _ _ _ _ _).mono ?_;rintro e w' ⟨rfl,k8⟩;subst w';rw[h9.o,b0.o]
   cases ng
   ·have b7:Hid (Nc (Um neg t) t=Kc (Od (D.take ((m+1))).reverse)):=by rw[HT.o,b0.o,c8.o,HM.o];rfl
    have K:=b6.o.alloc (.cells #[.int .i64 z0,.bool zn,.slice za zl zc] 131);have E:Up G (w4.alloc (.cells #[.int .i64 z0,.bool zn,.slice za zl zc] 131)):=R.o.alloc R.o.size _;obtain⟨W5,e6⟩:=O2 (w4.alloc (.cells #[.int .i64 z0,.bool zn,.slice za zl zc] 131));rw[e6]at K E ⊢;clear e6
    go_wp2
    go_loopw [9,10] (fun v i wr=>∃q:Nat,q<=(m+1)/\i=.int .i64 (q - 1)/\v=.slice (some ⟨G.heap.size,0,none⟩) (U6 0 ((m+1)) q) ((m+1)+1) /\
     wr.ownsRow G.heap.size 5 1 (.slice (some ⟨G.heap.size,0,none⟩) (U6 0 ((m+1)) q) ((m+1)+1)) (U6 0 ((m+1)) q) (E2 D ((m+1)) q)/\Up G wr) (fun _ i _=>(intOf i+1).toNat)
    case atStart=>
     refine⟨(m+1),leR,V0 (by omega),by rw[E1],?_,E⟩;rw[E1,I2]
     simpa using K
    clear K E;obtain⟨q,hq,rfl,rfl,K,E⟩:=hrel
    cases q with
    | zero=>
      have e9:E2 D ((m+1)) 0=Af ((D.take ((m+1))).reverse):=by unfold E2;rw[Y9]
      rw[e9]at K;have c6:=Gn _ _ _ _ _ _ K (by
       intro x hx;have h:=hx;exact a8.o x (Yp (List.mem_reverse.1 h))) (by unfold U6;rw[Vf,J7,O.o];omega)
      have a1:Hid (Up w wr):=V.o.trans ((d3.o.mono V.o.size).trans (E.mono (by have:=V.o.size;omega)));clear K E e9
      go_wp2
      go_ret
      exact⟨by rw[b7.o];rfl,a1.o⟩
    | succ q=>
      have e7:wr.cell? ⟨w1.heap.size,q,none⟩=some (.int .u8 (D.getD q 0:Nat)):=(E.cell (p:=⟨w1.heap.size,q,none⟩) h2).trans (g4.o G e0.o q (by omega));have e1:Hid (E2 D ((m+1)) q=E2 D ((m+1)) (q+1)++[.int .u8 (D.getD q 0:Nat)]):=Ft D ((m+1)) q (by omega) (by rw[O.o];omega);have e8:D.getD q 0<256:=by
       rw[J6,Jg (by rw[O.o];omega)];exact a8.o _ (Jj _)
      obtain⟨d,hd⟩:=O2 (D.getD q 0);rw[hd]at e7 e1 e8;clear hd;have h1:q<9*t.length:=by omega
      have b1:Hid (U6 0 ((m+1)) (q+1)+1=U6 0 ((m+1)) q):=Cl _ _ _ (by omega);have d8:Hid (U6 0 ((m+1)) (q+1)+1<=(m+1)+1):=by unfold Hid;unfold U6;omega
      go_wp2_with (at_builtin;refine wpList_append_fits _ rfl _ _ 22 rfl G.heap.size 5 i0 1 underlying22 Z b5 G.heap.size (U6 0 ((m+1)) (q+1)) ((m+1)+1) _ rfl (K.alloc _) ⟨wr.heap.size,0,none⟩ 1 1 [_] rfl rfl (cell_one_new _ _ _) ?bfc1 ?bfc2 ?_)
      try (case bfc1=>(first|rfl|(intro u hu;simp at hu;subst hu;rfl)))
      try (case bfc2=>(exact d8.o))
      intro w6 e5 b4;have g7:Up G w6:=(E.alloc E.size _).grown b4 (by have:=E.size;simp;omega) (fun k e=>by cases e;exact leR);have g3:Hid (w6.ownsRow G.heap.size 5 1 (.slice (some ⟨G.heap.size,0,none⟩) (U6 0 ((m+1)) q) ((m+1)+1)) (U6 0 ((m+1)) q) (E2 D ((m+1)) q)):=by
       unfold Hid
       rw[e1.o,<-b1.o]
       simpa using e5
      clear e5 b4 K E e7
      go_wp2
      go_roundw
      case rel=>exact⟨q,by omega,V0 (by omega),by rw[b1.o],g3.o,g7⟩
      simp[intOf]
   have b7:Hid (Nc (Um neg t) t=Kc (Od ([45]++(D.take ((m+1))).reverse))):=by rw[HT.o,b0.o,c8.o,HM.o];rfl
   have e4:=b6.o.alloc (.cells #[.int .i64 z0,.bool zn,.slice za zl zc] 131)
   go_wp2_with (at_builtin;refine wpList_append_fits _ rfl _ _ 22 rfl G.heap.size 5 i0 1 underlying22 Z b5 G.heap.size 0 ((m+1)+1) _ rfl (e4.alloc _) ⟨w4.heap.size+1,0,none⟩ 1 1 [.int .u8 45] rfl rfl ?bd0 ?bd1 ?bd2 ?_)
   try (case bd0=>(exact Qe _ _ _ _ (by simp)))
   try (case bd1=>(first|rfl|(intro u hu;simp at hu;subst hu;rfl)))
   try (case bd2=>(omega))
   intro W5 K b3;have E:Up G W5:=((R.o.alloc R.o.size _).alloc (by have:=R.o.size;simp;omega) _).grown b3 (by have:=R.o.size;simp;omega) (fun k e=>by cases e;exact leR);clear b3 e4
   go_wp2
   go_loopw [9,10] (fun v i wr=>∃q:Nat,q<=(m+1)/\i=.int .i64 (q - 1)/\v=.slice (some ⟨G.heap.size,0,none⟩) (U6 1 ((m+1)) q) ((m+1)+1) /\
    wr.ownsRow G.heap.size 5 1 (.slice (some ⟨G.heap.size,0,none⟩) (U6 1 ((m+1)) q) ((m+1)+1)) (U6 1 ((m+1)) q) ([.int .u8 45]++E2 D ((m+1)) q)/\Up G wr) (fun _ i _=>(intOf i+1).toNat)
   case atStart=>
    refine⟨(m+1),leR,V0 (by omega),by rw[E1],?_,E⟩;rw[E1,I2]
    simpa using K
   clear K E;obtain⟨q,hq,rfl,rfl,K,E⟩:=hrel
   cases q with
   | zero=>
     have e9:[.int .u8 45]++E2 D ((m+1)) 0=Af ([45]++(D.take ((m+1))).reverse):=by unfold E2;rw[Y9];rfl
     rw[e9]at K;have c6:=Gn _ _ _ _ _ _ K (by
      intro x hx
      rcases Yc.1 hx with h|h
      ·simp at h;omega
      exact a8.o x (Yp (List.mem_reverse.1 h))) (by unfold U6;rw[Jq,Vf,J7,O.o];simp only[Yo,Zp];omega)
     have a1:Hid (Up w wr):=V.o.trans ((d3.o.mono V.o.size).trans (E.mono (by have:=V.o.size;omega)));clear K E e9
     go_wp2
     go_ret
     exact⟨by rw[b7.o];rfl,a1.o⟩
   | succ q=>
     have e7:wr.cell? ⟨w1.heap.size,q,none⟩=some (.int .u8 (D.getD q 0:Nat)):=(E.cell (p:=⟨w1.heap.size,q,none⟩) h2).trans (g4.o G e0.o q (by omega));have e1:Hid (E2 D ((m+1)) q=E2 D ((m+1)) (q+1)++[.int .u8 (D.getD q 0:Nat)]):=Ft D ((m+1)) q (by omega) (by rw[O.o];omega);have e8:D.getD q 0<256:=by
      rw[J6,Jg (by rw[O.o];omega)];exact a8.o _ (Jj _)
     obtain⟨d,hd⟩:=O2 (D.getD q 0);rw[hd]at e7 e1 e8;clear hd;have h1:q<9*t.length:=by omega
     have b1:Hid (U6 1 ((m+1)) (q+1)+1=U6 1 ((m+1)) q):=Cl _ _ _ (by omega);have d8:Hid (U6 1 ((m+1)) (q+1)+1<=(m+1)+1):=by unfold Hid;unfold U6;omega
     go_wp2_with (at_builtin;refine wpList_append_fits _ rfl _ _ 22 rfl G.heap.size 5 i0 1 underlying22 Z b5 G.heap.size (U6 1 ((m+1)) (q+1)) ((m+1)+1) _ rfl (K.alloc _) ⟨wr.heap.size,0,none⟩ 1 1 [_] rfl rfl (cell_one_new _ _ _) ?btc1 ?btc2 ?_)
     try (case btc1=>(first|rfl|(intro u hu;simp at hu;subst hu;rfl)))
     try (case btc2=>(exact d8.o))
     intro w6 e5 b4;have g7:Up G w6:=(E.alloc E.size _).grown b4 (by have:=E.size;simp;omega) (fun k e=>by cases e;exact leR);have g3:Hid (w6.ownsRow G.heap.size 5 1 (.slice (some ⟨G.heap.size,0,none⟩) (U6 1 ((m+1)) q) ((m+1)+1)) (U6 1 ((m+1)) q) ([.int .u8 45]++E2 D ((m+1)) q)):=by
      unfold Hid
      rw[e1.o,<-b1.o]
      simpa using e5
     clear e5 b4 K E e7
     go_wp2
     go_roundw
     case rel=>exact⟨q,by omega,V0 (by omega),by rw[b1.o],g3.o,g7⟩
     simp[intOf]
theorem EA{x y u:Int}(B e a b c g:Nat)(ha:a<1000000000)(hb:b<1000000000)(hcc:c<1000000000)(hx:x=a)(hy:y=b)(hu:u=c)(hg:w.heap.size=g)(hB:B<=g):Gc B (w.alloc (.cells #[.int .u32 x,.int .u32 y,.int .u32 u] e)) (.slice (some ⟨g,0,none⟩) 3 3) [a,b,c]:=by
 subst hx;subst hy;subst hu;subst hg;exact⟨_,3,rfl,by simp,by unfold maxLen;omega,fun x hx=>by simp at hx;omega,.inr ⟨w.heap.size,0,rfl,hB,by simp,fun i hi=>by
  match i,hi with
  | 0,_=>rw[Yd _ _ _ _ rfl];rfl
  | 1,_=>rw[Yd _ _ _ _ rfl];rfl
  | 2,_=>rw[Yd _ _ _ _ rfl];rfl⟩⟩
theorem Pz(t:List Nat):(textD t).length<=9*t.length:=by
 have h:(textD t).length<=(Od (H5 t)).length:=by unfold textD N2;exact(List.dropWhile_suffix _).length_le
 rw[Od,Z6,Pj]at h;exact h
def Gs(B:Nat)(w:World)(z:Value)(x:Int)(n:Nat):Prop:=∃neg t,Q5 B w z neg t/\sg neg (val t)=x/\t.length<=n
theorem Gs.bl{w':World}{z:Value}{x:Int}{n:Nat}(h:Gs B w z x n)(hb:Up w w'):Gs B w' z x n:=by
 obtain⟨neg,t,j,q⟩:=h;exact⟨neg,t,j.bl hb,q⟩
theorem Gs.mono{B':Nat}{z:Value}{x:Int}{n:Nat}(h:Gs B w z x n)(hb:B'<=B):Gs B' w z x n:=by
 obtain⟨neg,t,j,q⟩:=h;exact⟨neg,t,j.mono hb,q⟩
def two(n:Nat):List Nat:=O0 [n % 1000000000,n / 1000000000]
theorem LY(n:Nat)(h:n<1000000000000000000):C1 (two n):=Xj _ fun x hx=>by
 simp at hx
 rcases hx with rfl|rfl<;>omega
theorem PE(n:Nat):Kl (two n):=Gp _
theorem CR(n:Nat):val (two n)=n:=by
 unfold two;rw[IG];simp only[val];omega
theorem UW(n:Nat):(two n).length<=2:=by
 have:=Pv [n % 1000000000,n / 1000000000]
 simpa[two]using this
theorem Xc(x:Int)(w:World)(h1 : -2000000000000000000<x)(h2:x<2000000000000000000) :
 Calls prog 76 #[.int .i64 x] w fun e w'=>∃z,e=.returned z/\Gs w.heap.size w' z x 3/\Up w w':=by
 by_cases K:x<1000000000000000000 /\ -1000000000000000000<x
 ·obtain⟨s1,Y⟩:=K
  go_in
  go_wp2
  have O:sg (decide (x<0)) (val (two x.natAbs))=x:=by
   rw[CR];unfold sg
   by_cases h:x<0<;>simp[h]<;>omega
  refine Jl (v:=.agg #[.int .i64 x,.bool false,.slice none 0 0]) ?_ rfl ⟨_,rfl,⟨decide (x<0),two x.natAbs,⟨LY _ (by omega),PE _,.inr ⟨UW _,?_⟩⟩,O,Jm (UW _) (by omega)⟩,?_⟩
  ·simp[results,results76,go_sem]
  ·rw[O]
  exact Oy _ _
 obtain⟨n,hn⟩:∃n:Nat,x.natAbs=n:=⟨_,rfl⟩;obtain⟨u,V⟩:∃u:Int,(n:Int)=u:=⟨_,rfl⟩;have j:Hid (C1 [n % 1000000000,n / 1000000000 % 1000000000,n / 1000000000 / 1000000000]/\Kl [n % 1000000000,n / 1000000000 % 1000000000,n / 1000000000 / 1000000000]/\sg (decide (x<0)) (val [n % 1000000000,n / 1000000000 % 1000000000,n / 1000000000 / 1000000000])=x):=by
  refine⟨fun y hy=>by simp at hy;omega,fun _=>by simp;omega,?_⟩;have:val [n % 1000000000,n / 1000000000 % 1000000000,n / 1000000000 / 1000000000]=n:=by simp only[val];omega
  rw[this];unfold sg
  by_cases h:x<0<;>simp[h]<;>omega
 have G:Hid (∀W:World,Gc (W.heap.size) (W.alloc (.cells #[.int .u32 (u % 1000000000),.int .u32 (u / 1000000000 % 1000000000),.int .u32 (u / 1000000000 / 1000000000)] 152)) (.slice (some ⟨W.heap.size,0,none⟩) 3 3) [n % 1000000000,n / 1000000000 % 1000000000,n / 1000000000 / 1000000000]):=fun W=>
  EA _ _ _ _ _ _ (by omega) (by omega) (by omega) (by omega) (by omega) (by omega) rfl leR
 obtain⟨L,J⟩:=O2 ([n % 1000000000,n / 1000000000 % 1000000000,n / 1000000000 / 1000000000]);have R:L.length=3:=by rw[<-J];rfl
 rw[J]at j G;clear J;have u2:u<2000000000000000000:=by omega
 have Z:1000000000000000000<=u:=by omega
 by_cases q:x<0
 ·obtain rfl:x = -u:=by omega
  have hd:decide (-u<0)=true:=Jb q;rw[hd]at j;clear V hn hd K
  go_in
  go_wp2
  have hl:=G.o (w.alloc (.cells #[.int .i64 0,.bool true,.slice (some ⟨w.heap.size+1,0,none⟩) 3 3] 131));have E:(w.alloc (.cells #[.int .i64 0,.bool true,.slice (some ⟨w.heap.size+1,0,none⟩) 3 3] 131)).heap.size=w.heap.size+1:=by simp
  rw[E]at hl;refine Jl (v:=.agg #[.int .i64 0,.bool true,.slice (some ⟨w.heap.size+1,0,none⟩) 3 3]) ?_ rfl ⟨_,rfl,⟨true,L,Q5.mono (B:=w.heap.size+1) ⟨j.o.1,j.o.2.1,.inl ⟨by omega,_,rfl,hl⟩⟩ (Y8 _),j.o.2.2,by omega⟩,Iy (Oy _ _) _⟩;simp[results,results76,go_sem]
 obtain rfl:x=u:=by omega
 have hd:decide (x<0)=false:=Jd q;rw[hd]at j;clear V hn hd K
 go_in
 go_wp2
 have hl:=G.o (w.alloc (.cells #[.int .i64 0,.bool false,.slice (some ⟨w.heap.size+1,0,none⟩) 3 3] 131));have E:(w.alloc (.cells #[.int .i64 0,.bool false,.slice (some ⟨w.heap.size+1,0,none⟩) 3 3] 131)).heap.size=w.heap.size+1:=by simp
 rw[E]at hl;refine Jl (v:=.agg #[.int .i64 0,.bool false,.slice (some ⟨w.heap.size+1,0,none⟩) 3 3]) ?_ rfl ⟨_,rfl,⟨false,L,Q5.mono (B:=w.heap.size+1) ⟨j.o.1,j.o.2.1,.inl ⟨by omega,_,rfl,hl⟩⟩ (Y8 _),j.o.2.2,by omega⟩,Iy (Oy _ _) _⟩;simp[results,results76,go_sem]
theorem Bi(a b:List UInt8)(h:N2 a≠[]):N2 (a++b)=N2 a++b:=by
 induction a with
 | nil=>exact absurd rfl h
 | cons x a ih=>
   unfold N2 at *;simp only[Y4,Ve]at *
   split
   ·rename_i hx;rw[if_pos hx]at h;exact ih h
   rfl
theorem KJ(a:List UInt8)(h:N2 a=[]):∀x∈a,x=48:=by
 induction a with
 | nil=>intro x hx;cases hx
 | cons y a ih=>
   unfold N2 at *;simp only[Ve]at h
   split at h
   ·rename_i hy;intro x hx
    rcases Ym.1 hx with rfl|hx
    ·simpa using hy
    exact ih h x hx
   cases h
theorem DV(x j:Nat)(h:UInt8.ofNat (dg x j)=48):x / tens j % 10=0:=by
 have q:=congrArg UInt8.toNat h;unfold dg at q;rw[UInt8.toNat_ofNat_of_lt' (by simp[UInt8.size];omega)]at q;have:(48:UInt8).toNat=48:=rfl;omega
theorem DU(x:Nat)(h0:x≠0)(h:x<1000000000):N2 (Od (Xu x 9))≠[]:=by
 intro he;have q:=KJ _ he;have hd:∀j,j<9->x / tens j % 10=0:=fun j hj=>DV x j (q _ (by
  unfold Od Xu;rw[List.map_map,Yu];exact⟨j,Yg.2 hj,rfl⟩))
 have E:=hd 0 (by decide);have G:=hd 1 (by decide);have J:=hd 2 (by decide);have K:=hd 3 (by decide);have O:=hd 4 (by decide);have R:=hd 5 (by decide);have V:=hd 6 (by decide);have Y:=hd 7 (by decide);have Z:=hd 8 (by decide);have e0:tens 0=100000000:=rfl;have e1:tens 1=10000000:=rfl;have e2:tens 2=1000000:=rfl;have e3:tens 3=100000:=rfl;have e4:tens 4=10000:=rfl;have e5:tens 5=1000:=rfl;have e6:tens 6=100:=rfl;have e7:tens 7=10:=rfl;have e8:tens 8=1:=rfl;rw[e0]at E;rw[e1]at G;rw[e2]at J;rw[e3]at K;rw[e4]at O;rw[e5]at R;rw[e6]at V;rw[e7]at Y;rw[e8]at Z;omega
theorem RA(t:List Nat)(hok:C1 t)(htr:Kl t)(hne:t≠[]):9*(t.length - 1)+1<=(textD t).length:=by
 have hl:=htr hne;have h:=hok _ (List.getLast_mem hne);obtain⟨u,x,rfl⟩:∃u x,t=u++[x]:=⟨t.dropLast,t.getLast hne,(Y5 hne).symm⟩;simp at hl h;have hn:=DU x hl h;have e:Od (H5 (u++[x]))=Od (Xu x 9)++Od (H5 u):=by
  unfold H5 Od;simp
 unfold textD;rw[e,Bi _ _ hn];have j:0<(N2 (Od (Xu x 9))).length:=List.length_pos_iff.2 hn;have q:(Od (H5 u)).length=9*u.length:=by rw[Od,Z6,Pj]
 have E:(N2 (Od (Xu x 9))++Od (H5 u)).length=(N2 (Od (Xu x 9))).length+(Od (H5 u)).length:=Jq;have G:(u++[x]).length=u.length+1:=by simp
 omega
theorem OF(ng:Bool)(t:List Nat)(h:t.length≠0):(Nc ng t).size=(if ng then 1 else 0)+(textD t).length:=by
 unfold Nc;rw[if_neg h]
 cases ng
 ·simp[Gq]
 simp[Gq];omega
def Il(t:List Nat):Nat:=if t.length=0 then 1 else(textD t).length
theorem Rg(B:Nat)(z:Value)(neg:Bool)(t:List Nat)(w:World)(hz:Q5 B w z neg t)(hBw:B<=w.heap.size)(hlen:t.length<=600) :
 Calls prog 110 #[z] w fun e w'=>e=.returned (.int .i64 (Il t:Nat))/\Up w w':=by
 obtain⟨z0,Y,za,V,zc,b1⟩:=hz.shape;subst b1;have a7:Hid (FM z0 Y V=Um neg t):=QX hz;obtain⟨R,h⟩:=O2 (w.alloc (.cells #[.int .i64 z0,.bool Y,.slice za V zc] 131));have a8:=Hd h;have G:Up w R:=by rw[<-h];exact Oy _ _
 have b9:R.heap.size=w.heap.size+1:=by rw[<-h];simp
 have HZ:Hid (Q5 B R (.agg #[.int .i64 z0,.bool Y,.slice za V zc]) neg t):=hz.bl G;have Z:=Hd G;have HX:Hid (∀W,Up R W->W.cell? ⟨w.heap.size,0,none⟩=some (.int .i64 z0)/\W.cell? ⟨w.heap.size,1,none⟩=some (.bool Y)/\W.cell? ⟨w.heap.size,2,none⟩=some (.slice za V zc)):=fun W hW=>by
  refine⟨?_,?_,?_⟩
  ·rw[hW.cell (p:=⟨w.heap.size,0,none⟩) (by show w.heap.size<_;omega),<-h,Yd _ _ _ _ rfl];rfl
  ·rw[hW.cell (p:=⟨w.heap.size,1,none⟩) (by show w.heap.size<_;omega),<-h,Yd _ _ _ _ rfl];rfl
  rw[hW.cell (p:=⟨w.heap.size,2,none⟩) (by show w.heap.size<_;omega),<-h,Yd _ _ _ _ rfl];rfl
 clear hz G h
 go_in
 go_wp2_with fail
 rw[a8.o];refine(Is B _ neg t _ HZ.o (by omega) hlen).mono ?_;rintro e w1 ⟨rfl,J⟩;obtain⟨c0,c1,c2⟩:=HX.o w1 J;obtain⟨q,j⟩:=O2 (Um neg t);have K:=Hd j;have E:Hid ((Nc q t).size=(if q then 1 else 0)+Il t):=by
  unfold Hid
  by_cases O:t.length=0
  ·have e1:q=false:=by rw[<-j];unfold Um;simp[O]
   unfold Nc Il;rw[if_pos O,if_pos O,e1];rfl
  rw[OF q t O];unfold Il;rw[if_neg O]
 have b0:(Nc q t).size<=6000:=by
  have h1:=Pz t;have h2:=E.o;have h3:Il t<=5401:=by unfold Il;split<;>omega
  cases q<;>simp at h2<;>omega
 have a1:Hid (Up w w1):=Z.o.trans (J.mono (by omega));rw[j];clear j J;obtain⟨s,hs⟩:=O2 (Nc q t);rw[hs]at b0 E ⊢;clear hs
 go_wp2_with fail
 refine(Cr _ _ _ _ _ _).mono ?_;rintro e w' ⟨rfl,c6⟩;subst w';rw[a7.o,K.o]
 cases q
 all_goals
  go_wp2
  go_ret
  exact⟨Qz (by have:=E.o;simp at this;omega),Iy a1.o _⟩
end Go.Proofs.YtfkagjelljnpdaaGreatDoor.Q
namespace Go.Proofs.YtfkagjelljnpdaaGreatDoor.Q
open ChangeShapes WideShapes ChangeAt RowKit
end Go.Proofs.YtfkagjelljnpdaaGreatDoor.Q
