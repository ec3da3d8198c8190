import Derived.Test.YtjjgilacnocigaaGreatDoorP01
import Derived.RangeFuncBox
import Derived.RangeFuncLeaves
import Derived.Shelf.Abstract
import Derived.OwnWalkIn
import Derived.TacticsInMore
import Derived.LoopNIn
import Derived.LoopIn
import Derived.Laws.IdiomStrings
import Derived.RangeFuncCalls
set_option maxRecDepth 100000
set_option maxHeartbeats 2000000
namespace Go.Proofs.YtjjgilacnocigaaGreatDoor.Q
open ChangeShapes WideShapes ChangeAt RowKit Proofs.Tryz
variable {R:Nat}{l:List Nat}{w:World}
theorem XW (P s:Nat):P*(s % 1000000000)+P*1000000000*(s / 1000000000)=P*s:=by
 rw[Y5,<-Yi,Ol,U0]
theorem K7 (n:Nat):(madeCells #[Value.int .u32 0] n).toList=Gy (List.replicate n 0):=by
 rw[toList_madeCells_one];simp[Gy]
theorem Kk (t:List Nat)(h:Kx t)(i:Nat)(hi:i<t.length):t.getD i 0<1000000000:=by
 rw[Ji,Jl hi];exact h _ (Yl _)
theorem Xj (P A Bv La c x y:Nat)(h:La+P*c=A+Bv):La+P*((c+x+y) % 1000000000)+P*1000000000*((c+x+y) / 1000000000)=A+P*x+(Bv+P*y):=by
 have d:=XW P (c+x+y);rw[Yi,Yi] at d;omega
theorem NF (P Q c A Bv V:Nat)(hQ:Q=P*1000000000)(h:V+Q*c=A+Bv)(hA:A<P)(hB:Bv<P):V=A+Bv:=by
 cases c with
 | zero=>rw[Vz] at h;omega
 | succ c=>
   rw[Nat.mul_succ] at h;generalize Q*c=X at h;omega
theorem Gr (a:List Nat)(h:Kx a)(n:Nat)(hn:a.length<=n):val a<1000000000 ^ n:=Js (G4 a h) (J3 (by decide) hn)
theorem KF (B:Nat)(va vb:Value)(a b:List Nat)(w:World)(ha:Kn B w va a)(hb:Kn B w vb b)(hla:a.length<=1000000)(hlb:b.length<=1000000) :
 Calls prog 187 #[va,vb] w fun e w'=>∃ v L,e=.returned v/\Kn w.heap.size w' v L/\val L=val a+val b/\Up w w':=by
 obtain⟨i0,d1,d7,d8,d9⟩:=info_parts info_u32;obtain⟨pa,ca,rfl,_⟩:=id ha;obtain⟨pb,cb,rfl,_⟩:=id hb;obtain⟨_,_,_,a7,T⟩:=ha.cells;obtain⟨_,_,_,a8,U⟩:=hb.cells;have HA:=Hd T;have HB:=Hd U;clear T U ha hb
 by_cases hl:a.length<b.length
 ·have z:decide ((a.length:Int)<b.length)=true:=dT (by omega)
  go_in
  go_wp2_with (at_make;refine wpList_make_full _ rfl _ _ 70 rfl w.heap.size 127 i0 (.int .u32 0) 1 underlying70 d1 d7 d8 .i64 .i64 _ _ (b.length+1) rfl rfl ?pm0 ?pm1 ?pm2 ?pm3 ?pm4 ?_)
  try (case pm0=>omega)
  try (case pm1=>omega)
  try (case pm2=>(first|omega|(rw[d9];omega)))
  try (case pm3=>(unfold maxLen;omega))
  try (case pm4=>exact O1)
  intro w1 H b8
  first|rw[Ee] at H|rw[K7] at H
  have G:Hh w1 w.heap.size (List.replicate (b.length+1) 0):=Kt H;have b6:Up w w1:=(Jj _ _).grown b8 O1 (fun k h=>by cases h);clear H b8
  go_wp2
  go_loopw [7,8] (fun cv iv wr=>∃ (i c:Nat) (L:List Nat),i<=b.length+1/\c<=1/\L.length=b.length+1/\Kx L/\Hh wr w.heap.size L/\cv=.int .u64 (c:Nat)/\iv=.int .i64 i /\
   val (L.take i)+1000000000 ^ i*c=val (a.take i)+val (b.take i)/\Up w wr) (fun _ iv _=>b.length+1 - (intOf iv).toNat)
  case atStart=>exact⟨0,0,_,by omega,by omega,by simp,fun x hx=>by rw[Yu hx];omega,G,rfl,rfl,by simp[val],b6⟩
  clear G b6;obtain⟨i,c,L,hi,hc,Z,j,G,rfl,rfl,D,O⟩:=hrel
  by_cases e7:i<=b.length
  ·by_cases b5:i<a.length
   ·by_cases a6:i<b.length
    ·obtain⟨ba,oa,rfl,b3,T⟩:=HA.o i b5;rw[<-O.cell (p:=⟨ba,oa+i,none⟩) b3] at T;have c7:=Kk a a7 i b5;obtain⟨bb,ob,rfl,b4,U⟩:=HB.o i a6;rw[<-O.cell (p:=⟨bb,ob+i,none⟩) b4] at U;have d0:=Kk b a8 i a6;have d:=Xj (1000000000 ^ i) _ _ _ c (a.getD i 0) (b.getD i 0) D;rw[<-Oz,<-Oz] at d;obtain⟨x,hx⟩:=O2 (a.getD i 0);rw[hx] at T c7 d;obtain⟨y,hy⟩:=O2 (b.getD i 0);rw[hy] at U d0 d;have F:Hid (val ((L.set i ((c+x+y) % 1000000000)).take (i+1))+1000000000 ^ (i+1)*((c+x+y) / 1000000000)=val (a.take (i+1))+val (b.take (i+1))):=by
      unfold Hid
      rw[Ky L i _ (by omega),Ju];exact d
     clear d D hx hy;obtain⟨s,Y⟩:=O2 (c+x+y);have b9:s<2000000000:=by omega
     rw[Y] at F;have V:=G.cell i (by omega);have b7:=G.frozen i;have K:Hid (Hh (wr.setCell ⟨w.heap.size,i,none⟩ (.int .u32 ((s % 1000000000:Nat):Int))) w.heap.size (L.set i (s % 1000000000))):=G.set i _;have I:Hid (∀ u,Up w (wr.setCell ⟨w.heap.size,i,none⟩ u)):=fun u=>O.setCell O1 u;have J:Hid (Kx (L.set i (s % 1000000000))):=Kp L j i _ (Zy _ (by decide));have E:=Hd Y;clear G O Y j
     go_wp2
     go_roundw
     case rel=>
      refine⟨i+1,s / 1000000000,L.set i (s % 1000000000),by omega,by omega,by simp[Z],J.o,?_,O5 (by rw[<-E.o];simp),by go_num,F.o,I.o _⟩;have h:=K.o;rw[<-E.o] at h ⊢
      simpa using h
     simp[intOf];omega
    exfalso;omega
   by_cases a6:i<b.length
   ·have c6:a.getD i 0=0:=by rw[Ji,Yv (by omega)];rfl
    obtain⟨bb,ob,rfl,b4,U⟩:=HB.o i a6;rw[<-O.cell (p:=⟨bb,ob+i,none⟩) b4] at U;have d0:=Kk b a8 i a6;have d:=Xj (1000000000 ^ i) _ _ _ c (a.getD i 0) (b.getD i 0) D;rw[<-Oz,<-Oz] at d;rw[c6,Vt] at d;obtain⟨y,hy⟩:=O2 (b.getD i 0);rw[hy] at U d0 d;have F:Hid (val ((L.set i ((c+y) % 1000000000)).take (i+1))+1000000000 ^ (i+1)*((c+y) / 1000000000)=val (a.take (i+1))+val (b.take (i+1))):=by
     unfold Hid
     rw[Ky L i _ (by omega),Ju];exact d
    clear d D hy;obtain⟨s,Y⟩:=O2 (c+y);have b9:s<2000000000:=by omega
    rw[Y] at F;have V:=G.cell i (by omega);have b7:=G.frozen i;have K:Hid (Hh (wr.setCell ⟨w.heap.size,i,none⟩ (.int .u32 ((s % 1000000000:Nat):Int))) w.heap.size (L.set i (s % 1000000000))):=G.set i _;have I:Hid (∀ u,Up w (wr.setCell ⟨w.heap.size,i,none⟩ u)):=fun u=>O.setCell O1 u;have J:Hid (Kx (L.set i (s % 1000000000))):=Kp L j i _ (Zy _ (by decide));have E:=Hd Y;clear G O Y j
    go_wp2
    go_roundw
    case rel=>
     refine⟨i+1,s / 1000000000,L.set i (s % 1000000000),by omega,by omega,by simp[Z],J.o,?_,O5 (by rw[<-E.o];simp),by go_num,F.o,I.o _⟩;have h:=K.o;rw[<-E.o] at h ⊢
     simpa using h
    simp[intOf];omega
   have c6:a.getD i 0=0:=by rw[Ji,Yv (by omega)];rfl
   have c8:b.getD i 0=0:=by rw[Ji,Yv (by omega)];rfl
   have d:=Xj (1000000000 ^ i) _ _ _ c (a.getD i 0) (b.getD i 0) D;rw[<-Oz,<-Oz] at d;rw[c6,Vt] at d;rw[c8,Vt] at d;have F:Hid (val ((L.set i ((c) % 1000000000)).take (i+1))+1000000000 ^ (i+1)*((c) / 1000000000)=val (a.take (i+1))+val (b.take (i+1))):=by
    unfold Hid
    rw[Ky L i _ (by omega),Ju];exact d
   clear d D;obtain⟨s,Y⟩:=O2 c;have b9:s<2000000000:=by omega
   rw[Y] at F;have V:=G.cell i (by omega);have b7:=G.frozen i;have K:Hid (Hh (wr.setCell ⟨w.heap.size,i,none⟩ (.int .u32 ((s % 1000000000:Nat):Int))) w.heap.size (L.set i (s % 1000000000))):=G.set i _;have I:Hid (∀ u,Up w (wr.setCell ⟨w.heap.size,i,none⟩ u)):=fun u=>O.setCell O1 u;have J:Hid (Kx (L.set i (s % 1000000000))):=Kp L j i _ (Zy _ (by decide));have E:=Hd Y;clear G O Y j
   go_wp2
   go_roundw
   case rel=>
    refine⟨i+1,s / 1000000000,L.set i (s % 1000000000),by omega,by omega,by simp[Z],J.o,?_,O5 (by rw[<-E.o];simp),by go_num,F.o,I.o _⟩;have h:=K.o;rw[<-E.o] at h ⊢
    simpa using h
   simp[intOf];omega
  obtain rfl:i=b.length+1:=by omega
  have hE:=NF (1000000000 ^ (b.length)) _ c _ _ _ (Ju ..) D (by rw[Jf (by omega)];exact Gr a a7 _ (by omega)) (by rw[Jf (by omega)];exact Gr b a8 _ (by omega));rw[Jf (by omega),Jf (by omega),Jf (by omega)] at hE;have HE:=Hd hE;have HL:Hid (Kn w.heap.size wr (.slice (some ⟨w.heap.size,0,none⟩) (b.length+1) (b.length+1)) L):=by
   have:=G.isL (B:=w.heap.size) (cap:=b.length+1) O1 j (by omega) (by unfold maxLen;omega);rw[Z] at this;exact this
  have d3:=Hd O;clear hE D G O j
  go_wp2
  go_ret
  exact⟨_,L,rfl,HL.o,HE.o,d3.o⟩
 have z:decide ((a.length:Int)<b.length)=false:=dF (by omega)
 go_in
 go_wp2_with (at_make;refine wpList_make_full _ rfl _ _ 70 rfl w.heap.size 127 i0 (.int .u32 0) 1 underlying70 d1 d7 d8 .i64 .i64 _ _ (a.length+1) rfl rfl ?qm0 ?qm1 ?qm2 ?qm3 ?qm4 ?_)
 try (case qm0=>omega)
 try (case qm1=>omega)
 try (case qm2=>(first|omega|(rw[d9];omega)))
 try (case qm3=>(unfold maxLen;omega))
 try (case qm4=>exact O1)
 intro w1 H b8
 first|rw[Ee] at H|rw[K7] at H
 have G:Hh w1 w.heap.size (List.replicate (a.length+1) 0):=Kt H;have b6:Up w w1:=(Jj _ _).grown b8 O1 (fun k h=>by cases h);clear H b8
 go_wp2
 go_loopw [7,8] (fun cv iv wr=>∃ (i c:Nat) (L:List Nat),i<=a.length+1/\c<=1/\L.length=a.length+1/\Kx L/\Hh wr w.heap.size L/\cv=.int .u64 (c:Nat)/\iv=.int .i64 i /\
  val (L.take i)+1000000000 ^ i*c=val (a.take i)+val (b.take i)/\Up w wr) (fun _ iv _=>a.length+1 - (intOf iv).toNat)
 case atStart=>exact⟨0,0,_,by omega,by omega,by simp,fun x hx=>by rw[Yu hx];omega,G,rfl,rfl,by simp[val],b6⟩
 clear G b6;obtain⟨i,c,L,hi,hc,Z,j,G,rfl,rfl,D,O⟩:=hrel
 by_cases e7:i<=a.length
 ·by_cases b5:i<a.length
  ·by_cases a6:i<b.length
   ·obtain⟨ba,oa,rfl,b3,T⟩:=HA.o i b5;rw[<-O.cell (p:=⟨ba,oa+i,none⟩) b3] at T;have c7:=Kk a a7 i b5;obtain⟨bb,ob,rfl,b4,U⟩:=HB.o i a6;rw[<-O.cell (p:=⟨bb,ob+i,none⟩) b4] at U;have d0:=Kk b a8 i a6;have d:=Xj (1000000000 ^ i) _ _ _ c (a.getD i 0) (b.getD i 0) D;rw[<-Oz,<-Oz] at d;obtain⟨x,hx⟩:=O2 (a.getD i 0);rw[hx] at T c7 d;obtain⟨y,hy⟩:=O2 (b.getD i 0);rw[hy] at U d0 d;have F:Hid (val ((L.set i ((c+x+y) % 1000000000)).take (i+1))+1000000000 ^ (i+1)*((c+x+y) / 1000000000)=val (a.take (i+1))+val (b.take (i+1))):=by
     unfold Hid
     rw[Ky L i _ (by omega),Ju];exact d
    clear d D hx hy;obtain⟨s,Y⟩:=O2 (c+x+y);have b9:s<2000000000:=by omega
    rw[Y] at F;have V:=G.cell i (by omega);have b7:=G.frozen i;have K:Hid (Hh (wr.setCell ⟨w.heap.size,i,none⟩ (.int .u32 ((s % 1000000000:Nat):Int))) w.heap.size (L.set i (s % 1000000000))):=G.set i _;have I:Hid (∀ u,Up w (wr.setCell ⟨w.heap.size,i,none⟩ u)):=fun u=>O.setCell O1 u;have J:Hid (Kx (L.set i (s % 1000000000))):=Kp L j i _ (Zy _ (by decide));have E:=Hd Y;clear G O Y j
    go_wp2
    go_roundw
    case rel=>
     refine⟨i+1,s / 1000000000,L.set i (s % 1000000000),by omega,by omega,by simp[Z],J.o,?_,O5 (by rw[<-E.o];simp),by go_num,F.o,I.o _⟩;have h:=K.o;rw[<-E.o] at h ⊢
     simpa using h
    simp[intOf];omega
   obtain⟨ba,oa,rfl,b3,T⟩:=HA.o i b5;rw[<-O.cell (p:=⟨ba,oa+i,none⟩) b3] at T;have c7:=Kk a a7 i b5;have c8:b.getD i 0=0:=by rw[Ji,Yv (by omega)];rfl
   have d:=Xj (1000000000 ^ i) _ _ _ c (a.getD i 0) (b.getD i 0) D;rw[<-Oz,<-Oz] at d;rw[c8,Vt] at d;obtain⟨x,hx⟩:=O2 (a.getD i 0);rw[hx] at T c7 d;have F:Hid (val ((L.set i ((c+x) % 1000000000)).take (i+1))+1000000000 ^ (i+1)*((c+x) / 1000000000)=val (a.take (i+1))+val (b.take (i+1))):=by
    unfold Hid
    rw[Ky L i _ (by omega),Ju];exact d
   clear d D hx;obtain⟨s,Y⟩:=O2 (c+x);have b9:s<2000000000:=by omega
   rw[Y] at F;have V:=G.cell i (by omega);have b7:=G.frozen i;have K:Hid (Hh (wr.setCell ⟨w.heap.size,i,none⟩ (.int .u32 ((s % 1000000000:Nat):Int))) w.heap.size (L.set i (s % 1000000000))):=G.set i _;have I:Hid (∀ u,Up w (wr.setCell ⟨w.heap.size,i,none⟩ u)):=fun u=>O.setCell O1 u;have J:Hid (Kx (L.set i (s % 1000000000))):=Kp L j i _ (Zy _ (by decide));have E:=Hd Y;clear G O Y j
   go_wp2
   go_roundw
   case rel=>
    refine⟨i+1,s / 1000000000,L.set i (s % 1000000000),by omega,by omega,by simp[Z],J.o,?_,O5 (by rw[<-E.o];simp),by go_num,F.o,I.o _⟩;have h:=K.o;rw[<-E.o] at h ⊢
    simpa using h
   simp[intOf];omega
  by_cases a6:i<b.length
  ·exfalso;omega
  have c6:a.getD i 0=0:=by rw[Ji,Yv (by omega)];rfl
  have c8:b.getD i 0=0:=by rw[Ji,Yv (by omega)];rfl
  have d:=Xj (1000000000 ^ i) _ _ _ c (a.getD i 0) (b.getD i 0) D;rw[<-Oz,<-Oz] at d;rw[c6,Vt] at d;rw[c8,Vt] at d;have F:Hid (val ((L.set i ((c) % 1000000000)).take (i+1))+1000000000 ^ (i+1)*((c) / 1000000000)=val (a.take (i+1))+val (b.take (i+1))):=by
   unfold Hid
   rw[Ky L i _ (by omega),Ju];exact d
  clear d D;obtain⟨s,Y⟩:=O2 c;have b9:s<2000000000:=by omega
  rw[Y] at F;have V:=G.cell i (by omega);have b7:=G.frozen i;have K:Hid (Hh (wr.setCell ⟨w.heap.size,i,none⟩ (.int .u32 ((s % 1000000000:Nat):Int))) w.heap.size (L.set i (s % 1000000000))):=G.set i _;have I:Hid (∀ u,Up w (wr.setCell ⟨w.heap.size,i,none⟩ u)):=fun u=>O.setCell O1 u;have J:Hid (Kx (L.set i (s % 1000000000))):=Kp L j i _ (Zy _ (by decide));have E:=Hd Y;clear G O Y j
  go_wp2
  go_roundw
  case rel=>
   refine⟨i+1,s / 1000000000,L.set i (s % 1000000000),by omega,by omega,by simp[Z],J.o,?_,O5 (by rw[<-E.o];simp),by go_num,F.o,I.o _⟩;have h:=K.o;rw[<-E.o] at h ⊢
   simpa using h
  simp[intOf];omega
 obtain rfl:i=a.length+1:=by omega
 have hE:=NF (1000000000 ^ (a.length)) _ c _ _ _ (Ju ..) D (by rw[Jf (by omega)];exact Gr a a7 _ (by omega)) (by rw[Jf (by omega)];exact Gr b a8 _ (by omega));rw[Jf (by omega),Jf (by omega),Jf (by omega)] at hE;have HE:=Hd hE;have HL:Hid (Kn w.heap.size wr (.slice (some ⟨w.heap.size,0,none⟩) (a.length+1) (a.length+1)) L):=by
  have:=G.isL (B:=w.heap.size) (cap:=a.length+1) O1 j (by omega) (by unfold maxLen;omega);rw[Z] at this;exact this
 have d3:=Hd O;clear hE D G O j
 go_wp2
 go_ret
 exact⟨_,L,rfl,HL.o,HE.o,d3.o⟩
theorem Ij (P A Bv La c x y d c':Nat)(h:La+P*c=A+Bv)(hd:d+1000000000*c'=x+c+y):La+P*d+P*1000000000*c'=A+P*x+(Bv+P*y):=by
 have j:P*(d+1000000000*c')=P*(x+c+y):=by rw[hd]
 rw[Yi,Yi,Yi,<-Y5] at j;omega
theorem UK (L A:List Nat)(i n:Nat)(hi:i<=n)(hl:L.length=A.length)(hd:L.drop i=A.drop i)(V:Nat)(h:val (L.take i)=val (A.take i)+V):val (L.take n)=val (A.take n)+V:=by
 have key:∀ X:List Nat,i<=X.length->val (X.take n)=val (X.take i)+1000000000 ^ i*val ((X.drop i).take (n - i)):=fun X hX=>by
  have d:X.take n=X.take i++(X.drop i).take (n - i):=by rw[show n=i+(n - i) by omega,List.take_add];simp
  rw[d,Di,Jm,Vd hX]
 by_cases hX:i<=A.length
 ·rw[key L (by omega),key A hX,hd,h];omega
 rw[Jf (by omega),Jf (by omega)] at h ⊢;exact h
theorem Kb (L A:List Nat)(i x:Nat)(h:L.drop i=A.drop i):(L.set i x).drop (i+1)=A.drop (i+1):=by
 rw[List.drop_set_of_lt (by omega),<-Z6,<-Z6,h]
theorem Qo (L A:List Nat)(i:Nat)(h:L.drop i=A.drop i):L.getD i 0=A.getD i 0:=by
 have d:∀ X:List Nat,X.getD i 0=(X.drop i).getD 0 0:=fun X=>by simp[List.getD_eq_getElem?_getD]
 rw[d L,d A,h]
theorem Fb (R n cap:Nat)(vb:Value)(pb:Option Addr)(cb:Nat)(A b:List Nat)(w:World)(hR:Hh w R A)(hAok:Kx A)(hn:n<=A.length)(hA:A.length<=1000000)(hbn:b.length<=n)(hbok:Kx b)
 (hvb:vb=.slice pb b.length cb) (hcap:n<=cap)
 (hcb:∀ i,i<b.length->∃ c off,pb=some ⟨c,off,none⟩/\c<R/\w.cell? ⟨c,off+i,none⟩=some (.int .u32 (b.getD i 0:Nat))) :
 Calls prog 215 #[.slice (some ⟨R,0,none⟩) n cap,vb] w fun e w'=>∃ c L,e=.returned (.int .u32 (c:Nat))/\Hh w' R L/\L.length=A.length/\Kx L/\L.drop n=A.drop n/\c<=1 /\
  val (L.take n)+1000000000 ^ n*c=val (A.take n)+val b/\Below R w w':=by
 subst hvb;have HB:=Hd hcb;clear hcb
 go_in
 go_wp2
 go_loopw [5,10] (fun cv iv wr=>∃ (i c:Nat) (L:List Nat),i<=n/\c<=1/\L.length=A.length/\Kx L/\Hh wr R L/\L.drop i=A.drop i/\cv=.int .u32 (c:Nat)/\iv=.int .i64 i /\
  val (L.take i)+1000000000 ^ i*c=val (A.take i)+val (b.take i)/\Below R w wr) (fun _ iv _=>n - (intOf iv).toNat)
 case atStart=>exact⟨0,0,A,by omega,by omega,rfl,hAok,hR,rfl,rfl,rfl,by simp[val],Jj _ _⟩
 clear hR;obtain⟨i,c,L,hi,hc,U,j,hR,D,rfl,rfl,d,Z⟩:=hrel
 by_cases f7:i<n
 ·have E:=hR.cell i (by omega);have hx:=Qo L A i D;have a7:=Kk A hAok i (by omega);rw[hx] at E;clear hx;obtain⟨x,hx⟩:=O2 (A.getD i 0);rw[hx] at a7 E
  by_cases b8:i<b.length
  ·obtain⟨bb,ob,rfl,b9,hcb⟩:=HB.o i b8;rw[<-Z.cell (p:=⟨bb,ob+i,none⟩) b9] at hcb;have b7:=Kk b hbok i b8;obtain⟨y,hy⟩:=O2 (b.getD i 0);rw[hy] at hcb b7
   by_cases hov:1000000000<=x+c+y
   ·skip
    have G:=Ij (1000000000 ^ i) _ _ _ c x y (x+c+y - 1000000000) 1 d (by omega);have T:Hid (val ((L.set i (x+c+y - 1000000000)).take (i+1))+1000000000 ^ (i+1)*1=val (A.take (i+1))+val (b.take (i+1))):=by
     unfold Hid
     rw[Ky L i _ (by omega),Oz,Oz,hx,hy,Ju];exact G
    have b6:=hR.frozen i;have O:Hid (Hh (wr.setCell ⟨R,i,none⟩ (.int .u32 (((x+c+y - 1000000000):Nat):Int))) R (L.set i (x+c+y - 1000000000))):=hR.set i _;have H:Hid (∀ u,Below R w (wr.setCell ⟨R,i,none⟩ u)):=fun u=>Z.setCell O1 u;have J:Hid (Kx (L.set i (x+c+y - 1000000000))):=Kp L j i _ (by omega);have I:Hid ((L.set i (x+c+y - 1000000000)).drop (i+1)=A.drop (i+1)):=Kb L A i _ D;clear G d hx hy hR Z j D;obtain⟨X,V⟩:∃ X:Int,(x:Int)=X:=⟨_,rfl⟩;have HX:=Hd V;have x1:0<=X:=by omega
    have x2:X<1000000000:=by omega
    rw[V] at E;obtain⟨C,hC⟩:∃ C:Int,(c:Int)=C:=⟨_,rfl⟩;have HC:=Hd hC;have c1:0<=C:=by omega
    have c2:C<=1:=by omega
    rw[hC];obtain⟨Y,hY⟩:∃ Y:Int,(y:Int)=Y:=⟨_,rfl⟩;have HY:=Hd hY;have y1:0<=Y:=by omega
    have y2:Y<1000000000:=by omega
    rw[hY] at hcb;have t1:1000000000<=X+C+Y:=by omega
    have K:=(id hov:_);have F:Hid _:=hov;clear V a7 hov hC hY b7 K
    go_wp2
    go_roundw
    case rel=>
     refine⟨i+1,1,L.set i (x+c+y - 1000000000),by omega,by omega,by simp[U],J.o,?_,I.o,rfl,by go_num,T.o,H.o _⟩;have h:=O.o;rw[show ((((x+c+y - 1000000000)):Nat):Int)=_ from ?_] at h
     ·exact h
     have:=F.o;have:=HX.o;have:=HC.o;have:=HY.o;omega
    simp[intOf];omega
   skip
   have G:=Ij (1000000000 ^ i) _ _ _ c x y (x+c+y) 0 d (by omega);have T:Hid (val ((L.set i (x+c+y)).take (i+1))+1000000000 ^ (i+1)*0=val (A.take (i+1))+val (b.take (i+1))):=by
    unfold Hid
    rw[Ky L i _ (by omega),Oz,Oz,hx,hy,Ju];exact G
   have b6:=hR.frozen i;have O:Hid (Hh (wr.setCell ⟨R,i,none⟩ (.int .u32 (((x+c+y):Nat):Int))) R (L.set i (x+c+y))):=hR.set i _;have H:Hid (∀ u,Below R w (wr.setCell ⟨R,i,none⟩ u)):=fun u=>Z.setCell O1 u;have J:Hid (Kx (L.set i (x+c+y))):=Kp L j i _ (by omega);have I:Hid ((L.set i (x+c+y)).drop (i+1)=A.drop (i+1)):=Kb L A i _ D;clear G d hx hy hR Z j D;obtain⟨X,V⟩:∃ X:Int,(x:Int)=X:=⟨_,rfl⟩;have HX:=Hd V;have x1:0<=X:=by omega
   have x2:X<1000000000:=by omega
   rw[V] at E;obtain⟨C,hC⟩:∃ C:Int,(c:Int)=C:=⟨_,rfl⟩;have HC:=Hd hC;have c1:0<=C:=by omega
   have c2:C<=1:=by omega
   rw[hC];obtain⟨Y,hY⟩:∃ Y:Int,(y:Int)=Y:=⟨_,rfl⟩;have HY:=Hd hY;have y1:0<=Y:=by omega
   have y2:Y<1000000000:=by omega
   rw[hY] at hcb;have t1:X+C+Y<1000000000:=by omega
   have K:=(id hov:_);have F:Hid _:=hov;clear V a7 hov hC hY b7 K
   go_wp2
   go_roundw
   case rel=>
    refine⟨i+1,0,L.set i (x+c+y),by omega,by omega,by simp[U],J.o,?_,I.o,rfl,by go_num,T.o,H.o _⟩;have h:=O.o;rw[show ((((x+c+y)):Nat):Int)=_ from ?_] at h
    ·exact h
    have:=F.o;have:=HX.o;have:=HC.o;have:=HY.o;omega
   simp[intOf];omega
  have hy:b.getD i 0=0:=by rw[Ji,Yv (by omega)];rfl
  by_cases d6:c=0
  ·subst d6;have hE:=UK L A i n hi U D (val b) (by rw[Vz,Vt,Jf (show b.length<=i by omega)] at d;exact d);have HE:Hid (∃ c' L',Hh wr R L'/\L'.length=A.length/\Kx L'/\L'.drop n=A.drop n/\c'=0/\val (L'.take n)+1000000000 ^ n*c'=val (A.take n)+val b):=⟨0,L,hR,U,j,by rw[show n=i+(n - i) by omega,<-Z6,<-Z6,D],rfl,by rw[hE];omega⟩;have c6:=Hd Z;clear hE d hR Z j D hx hy
   go_wp2
   go_ret
   obtain⟨c',L',e1,e2,e3,e4,rfl,e5⟩:=HE.o;exact⟨0,L',rfl,e1,e2,e3,e4,by omega,e5,c6.o⟩
  obtain rfl:c=1:=by omega
  by_cases hov:1000000000<=x+1
  ·skip
   have G:=Ij (1000000000 ^ i) _ _ _ 1 x 0 (x+1 - 1000000000) 1 d (by omega);have T:Hid (val ((L.set i (x+1 - 1000000000)).take (i+1))+1000000000 ^ (i+1)*1=val (A.take (i+1))+val (b.take (i+1))):=by
    unfold Hid
    rw[Ky L i _ (by omega),Oz,Oz,hx,hy,Ju];exact G
   have b6:=hR.frozen i;have O:Hid (Hh (wr.setCell ⟨R,i,none⟩ (.int .u32 (((x+1 - 1000000000):Nat):Int))) R (L.set i (x+1 - 1000000000))):=hR.set i _;have H:Hid (∀ u,Below R w (wr.setCell ⟨R,i,none⟩ u)):=fun u=>Z.setCell O1 u;have J:Hid (Kx (L.set i (x+1 - 1000000000))):=Kp L j i _ (by omega);have I:Hid ((L.set i (x+1 - 1000000000)).drop (i+1)=A.drop (i+1)):=Kb L A i _ D;clear G d hx hy hR Z j D;obtain⟨X,V⟩:∃ X:Int,(x:Int)=X:=⟨_,rfl⟩;have HX:=Hd V;have x1:0<=X:=by omega
   have x2:X<1000000000:=by omega
   rw[V] at E;have t1:1000000000<=X+1:=by omega
   have K:=(id hov:_);have F:Hid _:=hov;clear V a7 hov K
   go_wp2
   go_roundw
   case rel=>
    refine⟨i+1,1,L.set i (x+1 - 1000000000),by omega,by omega,by simp[U],J.o,?_,I.o,rfl,by go_num,T.o,H.o _⟩;have h:=O.o;rw[show ((((x+1 - 1000000000)):Nat):Int)=_ from ?_] at h
    ·exact h
    have:=F.o;have:=HX.o;omega
   simp[intOf];omega
  skip
  have G:=Ij (1000000000 ^ i) _ _ _ 1 x 0 (x+1) 0 d (by omega);have T:Hid (val ((L.set i (x+1)).take (i+1))+1000000000 ^ (i+1)*0=val (A.take (i+1))+val (b.take (i+1))):=by
   unfold Hid
   rw[Ky L i _ (by omega),Oz,Oz,hx,hy,Ju];exact G
  have b6:=hR.frozen i;have O:Hid (Hh (wr.setCell ⟨R,i,none⟩ (.int .u32 (((x+1):Nat):Int))) R (L.set i (x+1))):=hR.set i _;have H:Hid (∀ u,Below R w (wr.setCell ⟨R,i,none⟩ u)):=fun u=>Z.setCell O1 u;have J:Hid (Kx (L.set i (x+1))):=Kp L j i _ (by omega);have I:Hid ((L.set i (x+1)).drop (i+1)=A.drop (i+1)):=Kb L A i _ D;clear G d hx hy hR Z j D;obtain⟨X,V⟩:∃ X:Int,(x:Int)=X:=⟨_,rfl⟩;have HX:=Hd V;have x1:0<=X:=by omega
  have x2:X<1000000000:=by omega
  rw[V] at E;have t1:X+1<1000000000:=by omega
  have K:=(id hov:_);have F:Hid _:=hov;clear V a7 hov K
  go_wp2
  go_roundw
  case rel=>
   refine⟨i+1,0,L.set i (x+1),by omega,by omega,by simp[U],J.o,?_,I.o,rfl,by go_num,T.o,H.o _⟩;have h:=O.o;rw[show ((((x+1)):Nat):Int)=_ from ?_] at h
   ·exact h
   have:=F.o;have:=HX.o;omega
  simp[intOf];omega
 obtain rfl:i=n:=by omega
 rw[Jf (show b.length<=i by omega)] at d;have HE:Hid (Hh wr R L/\L.length=A.length/\Kx L/\L.drop i=A.drop i/\val (L.take i)+1000000000 ^ i*c=val (A.take i)+val b/\Below R w wr):=⟨hR,U,j,D,d,Z⟩;clear d hR Z j D
 go_wp2
 go_ret
 obtain⟨e1,e2,e3,e4,e5,e6⟩:=HE.o;exact⟨c,L,rfl,e1,e2,e3,e4,hc,e5,e6⟩
def Kv (w:World)(R:Nat)(l:List Nat):Prop:=∃ tail:List Value,w.heap[R]? = some (.cells (Gy l++tail).toArray 127 (0,0))
theorem Hh.tail (h:Hh w R l):Kv w R l:=⟨[],by rw[Z3];exact h⟩
theorem Kv.lt (h:Kv w R l):R<w.heap.size:=by
 obtain⟨t,h⟩:=h;exact (Yr.1 h).1
theorem Kv.cell (h:Kv w R l)(i:Nat)(hi:i<l.length):w.cell? ⟨R,i,none⟩=some (.int .u32 (l.getD i 0:Nat)):=by
 obtain⟨t,h⟩:=h;simp[World.cell?,h,List.getElem?_append,hi,List.getD_eq_getElem?_getD]
theorem Kv.frozen (h:Kv w R l)(i:Nat):w.frozen? ⟨R,i,none⟩=false:=by
 obtain⟨t,h⟩:=h;simp[World.frozen?,h]
theorem Kv.set (h:Kv w R l)(i x:Nat)(hi:i<l.length):Kv (w.setCell ⟨R,i,none⟩ (.int .u32 (x:Nat))) R (l.set i x):=by
 obtain⟨t,h⟩:=h;refine⟨t,?_⟩;obtain⟨d,j⟩:=Yr.1 h
 show (w.heap.modify R _)[R]? = _
 rw[Vv (by rw[U6];exact d),Vw,j];simp[Gy,List.map_set,hi]
theorem Kv.isL {B cap:Nat}(h:Kv w R l)(hB:B<=R)(hok:Kx l)(hc:l.length<=cap)(hm:cap<=maxLen):Kn B w (.slice (some ⟨R,0,none⟩) l.length cap) l:=
 ⟨_,cap,rfl,hc,hm,hok,.inr ⟨R,0,rfl,hB,h.lt,fun i hi=>by rw[Y3];exact h.cell i hi⟩⟩
theorem Rz (l:List Nat)(j x:Nat)(hj:j<l.length):val (l.set j x)+1000000000 ^ j*l.getD j 0=val l+1000000000 ^ j*x:=by
 induction l generalizing j with
 | nil=>simp at hj
 | cons y l ih=>
   cases j with
   | zero=>simp[val];omega
   | succ j=>
     have h:=ih j (by simpa using hj);simp only[Jb,val,List.getD_cons_succ,Ju,Yy _ 1000000000,Y5];omega
theorem Av (P VL VN VA K c x F d c':Nat)(h:VL+P*c=VA+K)(hs:VN+P*x=VL+P*d)(hd:d+1000000000*c'=c+F+x):VN+P*1000000000*c'=VA+(K+P*F):=by
 have j:P*(d+1000000000*c')=P*(c+F+x):=by rw[hd]
 rw[Yi,Yi,Yi,<-Y5] at j;omega
theorem S7 (off i f v y:Nat):1000000000 ^ off*(f*(v+1000000000 ^ i*y))=1000000000 ^ off*(f*v)+1000000000 ^ (off+i)*(f*y):=by
 rw[Yi,Yi,Nat.pow_add,Nat.mul_left_comm f,Y5]
theorem Xm (R off cap f:Nat)(vb:Value)(pb:Option Addr)(cb:Nat)(A b:List Nat)(w:World)(hR:Kv w R A)(hAok:Kx A)(hn:off+b.length<=A.length)(hA:A.length<=1000000)(hbok:Kx b)
 (hvb:vb=.slice pb b.length cb) (_hcap:b.length<=cap) (hf:f<1000000000)
 (hcb:∀ i,i<b.length->∃ c off,pb=some ⟨c,off,none⟩/\c<R/\w.cell? ⟨c,off+i,none⟩=some (.int .u32 (b.getD i 0:Nat))) :
 Calls prog 223 #[.slice (some ⟨R,off,none⟩) b.length cap,vb,.int .u64 (f:Nat)] w fun e w'=>∃ c L,e=.returned (.int .u32 (c:Nat))/\Kv w' R L/\L.length=A.length/\Kx L/\L.drop (off+b.length)=A.drop (off+b.length)/\c<=f /\
  val L+1000000000 ^ (off+b.length)*c=val A+1000000000 ^ off*(f*val b)/\Below R w w':=by
 subst hvb;have HB:=Hd hcb;clear hcb
 go_in
 go_wp2
 go_loopw [7,12] (fun cv iv wr=>∃ (i c:Nat) (L:List Nat),i<=b.length/\c<=f/\L.length=A.length/\Kx L/\Kv wr R L/\L.drop (off+i)=A.drop (off+i)/\cv=.int .u64 (c:Nat)/\iv=.int .i64 i /\
  val L+1000000000 ^ (off+i)*c=val A+1000000000 ^ off*(f*val (b.take i))/\Below R w wr) (fun _ iv _=>b.length - (intOf iv).toNat)
 case atStart=>exact⟨0,0,A,by omega,by omega,rfl,hAok,hR,rfl,rfl,rfl,by simp[val],Jj _ _⟩
 clear hR;obtain⟨i,c,L,hi,T,O,d,hR,H,rfl,rfl,j,K⟩:=hrel
 by_cases U:i<b.length
 ·have D:=hR.cell (off+i) (by omega);have a6:=Kk L d (off+i) (by omega);obtain⟨x,hx⟩:=O2 (L.getD (off+i) 0);rw[hx] at a6 D;obtain⟨bb,ob,rfl,V,hcb⟩:=HB.o i U;rw[<-K.cell (p:=⟨bb,ob+i,none⟩) V] at hcb;have a7:=Kk b hbok i U;obtain⟨y,hy⟩:=O2 (b.getD i 0);rw[hy] at hcb a7;obtain⟨F,hF⟩:=O2 (f*y);have c6:F<=f*999999999:=by rw[<-hF];exact Jz f (by omega)
  have I:=Rz L (off+i) ((c+F+x) % 1000000000) (by omega);rw[hx] at I;have Z:=Av (1000000000 ^ (off+i)) _ _ _ _ c x F ((c+F+x) % 1000000000) ((c+F+x) / 1000000000) j I (by omega);have b8:Hid (val (L.set (off+i) ((c+F+x) % 1000000000))+1000000000 ^ (off+(i+1))*((c+F+x) / 1000000000)=val A+1000000000 ^ off*(f*val (b.take (i+1)))):=by
   unfold Hid
   rw[Oz,hy,S7,hF,<-U1,Ju];exact Z
  have f5:=hR.frozen (off+i);have b7:Hid (Kv (wr.setCell ⟨R,off+i,none⟩ (.int .u32 ((((c+F+x) % 1000000000):Nat):Int))) R (L.set (off+i) ((c+F+x) % 1000000000))):=hR.set (off+i) _ (by omega);have b3:Hid (∀ u,Below R w (wr.setCell ⟨R,off+i,none⟩ u)):=fun u=>K.setCell O1 u;have b6:Hid (Kx (L.set (off+i) ((c+F+x) % 1000000000))):=Kp L d (off+i) _ (Zy _ (by decide));have b5:Hid ((L.set (off+i) ((c+F+x) % 1000000000)).drop (off+(i+1))=A.drop (off+(i+1))):=Kb L A (off+i) _ H;have b4:Hid ((c+F+x) / 1000000000<=f):=by
   unfold Hid
   omega
  clear Z j hx hy hR K d H I;obtain⟨X,hX⟩:∃ X:Int,(x:Int)=X:=⟨_,rfl⟩;have HX:=Hd hX;have x1:0<=X:=by omega
  have x2:X<1000000000:=by omega
  rw[hX] at D;obtain⟨C,hC⟩:∃ C:Int,(c:Int)=C:=⟨_,rfl⟩;have HC:=Hd hC;have c1:0<=C:=by omega
  have c2:C<1000000000:=by omega
  rw[hC];obtain⟨G,hG⟩:∃ G:Int,(f:Int)=G:=⟨_,rfl⟩;rw[hG];obtain⟨Y,hY⟩:∃ Y:Int,(y:Int)=Y:=⟨_,rfl⟩;have E:(F:Int)=G*Y:=by rw[<-hF,<-hG,<-hY];rfl
  have J:=Hd E;have g1:0<=G*Y:=by rw[<-E];omega
  have g2:G*Y<=999999999000000000:=by rw[<-E];omega
  have y1:0<=Y:=by omega
  have y2:Y<1000000000:=by omega
  rw[hY] at hcb;clear hX a6 hC hG hY E a7 hF c6 T
  go_wp2
  go_roundw
  case rel=>
   refine⟨i+1,(c+F+x) / 1000000000,L.set (off+i) ((c+F+x) % 1000000000),by omega,b4.o,by simp[O],b6.o,?_,b5.o,?_,by go_num,b8.o,b3.o _⟩
   ·have h:=b7.o;rw[show ((((c+F+x) % 1000000000):Nat):Int)=_ from ?_] at h
    ·exact h
    have:=HX.o;have:=HC.o;have:=J.o;omega
   congr 1;have:=HX.o;have:=HC.o;have:=J.o;omega
  simp[intOf];omega
 obtain rfl:i=b.length:=by omega
 rw[Jf O1] at j;have HE:Hid (Kv wr R L/\L.length=A.length/\Kx L/\L.drop (off+b.length)=A.drop (off+b.length)/\val L+1000000000 ^ (off+b.length)*c=val A+1000000000 ^ off*(f*val b)/\Below R w wr):=⟨hR,O,d,H,j,K⟩;clear j hR K d H
 go_wp2
 go_ret
 obtain⟨e1,e2,e3,e4,e5,e6⟩:=HE.o;exact⟨c,L,rfl,e1,e2,e3,e4,T,e5,e6⟩
theorem G6 (P A Bv La c x y d c' f:Nat)(h:La+f*Bv=A+P*c)(hd:d+(c+f*y)=x+1000000000*c'):La+P*d+f*(Bv+P*y)=A+P*x+P*1000000000*c':=by
 have j:P*(d+(c+f*y))=P*(x+1000000000*c'):=by rw[hd]
 rw[Yi,Yi,Yi,<-Y5,<-Y5] at j;rw[Yi,<-Y5,Yy f P];omega
theorem A6 (R n cap f:Nat)(vb:Value)(pb:Option Addr)(cb:Nat)(A b:List Nat)(w:World)(hR:Kv w R A)(hAok:Kx A)(hn:n<=A.length)(hA:A.length<=1000000)(hbn:b.length<=n)(hbok:Kx b)
 (hvb:vb=.slice pb b.length cb) (hcap:n<=cap) (hf:f<=1000000000)
 (hcb:∀ i,i<b.length->∃ c off,pb=some ⟨c,off,none⟩/\c<R/\w.cell? ⟨c,off+i,none⟩=some (.int .u32 (b.getD i 0:Nat))) :
 Calls prog 217 #[.slice (some ⟨R,0,none⟩) n cap,vb,.int .u64 (f:Nat)] w fun e w'=>∃ c L,e=.returned (.int .u64 (c:Nat))/\Kv w' R L/\L.length=A.length/\Kx L/\L.drop n=A.drop n/\c<=f /\
  val (L.take n)+f*val b=val (A.take n)+1000000000 ^ n*c/\Below R w w':=by
 subst hvb;have HB:=Hd hcb;clear hcb
 go_in
 go_wp2
 go_loopw [7,12] (fun cv iv wr=>∃ (i c:Nat) (L:List Nat),i<=n/\c<=f/\L.length=A.length/\Kx L/\Kv wr R L/\L.drop i=A.drop i/\cv=.int .u64 (c:Nat)/\iv=.int .i64 i /\
  val (L.take i)+f*val (b.take i)=val (A.take i)+1000000000 ^ i*c/\Below R w wr) (fun _ iv _=>n - (intOf iv).toNat)
 case atStart=>exact⟨0,0,A,by omega,by omega,rfl,hAok,hR,rfl,rfl,rfl,by simp[val],Jj _ _⟩
 clear hR;obtain⟨i,c,L,hi,c7,a8,D,hR,E,rfl,rfl,d,T⟩:=hrel;have hc:c<=1000000000:=by omega
 by_cases g9:i<n
 ·have H:=hR.cell i (by omega);have hx:=Qo L A i E;have c8:=Kk A hAok i (by omega);rw[hx] at H;clear hx;obtain⟨x,hx⟩:=O2 (A.getD i 0);rw[hx] at c8 H
  by_cases d7:i<b.length
  ·obtain⟨bb,ob,rfl,d8,hcb⟩:=HB.o i d7;rw[<-T.cell (p:=⟨bb,ob+i,none⟩) d8] at hcb;have d5:=Kk b hbok i d7;obtain⟨y,hy⟩:=O2 (b.getD i 0);rw[hy] at hcb d5;obtain⟨F,hF⟩:=O2 (f*y);have d6:F<=f*999999999:=by rw[<-hF];exact Jz f (by omega)
   by_cases O:x<(c+F) % 1000000000
   ·skip
    have J:=G6 (1000000000 ^ i) _ _ _ c x y (x+1000000000 - (c+F) % 1000000000) ((c+F) / 1000000000+1) f d (by rw[hF];omega);have a6:Hid (val ((L.set i (x+1000000000 - (c+F) % 1000000000)).take (i+1))+f*val (b.take (i+1))=val (A.take (i+1))+1000000000 ^ (i+1)*((c+F) / 1000000000+1)):=by
     unfold Hid
     rw[Ky L i _ (by omega),Oz,Oz,hx,hy,Ju];exact J
    have d4:=hR.frozen i;have c6:Hid (∀ u:Nat,Kv ((wr.setCell ⟨R,i,none⟩ (.int .u32 (u:Nat))).setCell ⟨R,i,none⟩ (.int .u32 (((x+1000000000 - (c+F) % 1000000000):Nat):Int))) R (L.set i (x+1000000000 - (c+F) % 1000000000))):=fun u=>by
     have h:=(hR.set i u (by omega)).set i (x+1000000000 - (c+F) % 1000000000) (by simp;omega);rw[Ok] at h;exact h
    have b9:Hid (Kv (wr.setCell ⟨R,i,none⟩ (.int .u32 (((x+1000000000 - (c+F) % 1000000000):Nat):Int))) R (L.set i (x+1000000000 - (c+F) % 1000000000))):=hR.set i _ (by omega);have I:Hid (∀ u v,Below R w (wr.setCell ⟨R,i,none⟩ u)/\Below R w ((wr.setCell ⟨R,i,none⟩ u).setCell ⟨R,i,none⟩ v)):=fun u v=>⟨T.setCell O1 u,(T.setCell O1 u).setCell O1 v⟩;have Z:Hid (Kx (L.set i (x+1000000000 - (c+F) % 1000000000))):=Kp L D i _ (by omega);have V:Hid ((L.set i (x+1000000000 - (c+F) % 1000000000)).drop (i+1)=A.drop (i+1)):=Kb L A i _ E;have U:Hid ((c+F) / 1000000000+1<=f):=by
     unfold Hid
     omega
    clear J d hx hy hR T D E;obtain⟨X,hX⟩:∃ X:Int,(x:Int)=X:=⟨_,rfl⟩;have HX:=Hd hX;have x1:0<=X:=by omega
    have x2:X<1000000000:=by omega
    rw[hX] at H;obtain⟨C,hC⟩:∃ C:Int,(c:Int)=C:=⟨_,rfl⟩;have HC:=Hd hC;have c1:0<=C:=by omega
    have c2:C<=1000000000:=by omega
    rw[hC];obtain⟨G,hG⟩:∃ G:Int,(f:Int)=G:=⟨_,rfl⟩;rw[hG];obtain⟨Y,hY⟩:∃ Y:Int,(y:Int)=Y:=⟨_,rfl⟩;have K:(F:Int)=G*Y:=by rw[<-hF,<-hG,<-hY];rfl
    have b5:=Hd K;have g1:0<=G*Y:=by rw[<-K];omega
    have g2:G*Y<=999999999000000000:=by rw[<-K];omega
    have y1:0<=Y:=by omega
    have y2:Y<1000000000:=by omega
    rw[hY] at hcb;have t1:X<(C+G*Y) % 1000000000:=by omega
    have j:Hid _:=O;clear hX c8 O hC hG hY K d5 hF d6 hc c7
    go_wp2
    go_roundw
    case rel=>
     refine⟨i+1,(c+F) / 1000000000+1,L.set i (x+1000000000 - (c+F) % 1000000000),by omega,U.o,by simp[a8],Z.o,?_,V.o,?_,by go_num,a6.o,?_⟩
     ·have h:=c6.o (x+1000000000);rw[show ((((x+1000000000 - (c+F) % 1000000000)):Nat):Int)=_ from ?_,show (((x+1000000000:Nat)):Int)=_ from ?_] at h
      ·exact h
      ·have:=HX.o;have:=HC.o;have:=j.o;have:=b5.o;  omega
      have:=HX.o;have:=HC.o;have:=j.o;have:=b5.o;  omega
     ·congr 1;have:=HX.o;have:=HC.o;have:=j.o;have:=b5.o;  omega
     first|exact (I.o _ (.bool true)).1|exact (I.o _ _).2
    simp[intOf];omega
   skip
   have J:=G6 (1000000000 ^ i) _ _ _ c x y (x - (c+F) % 1000000000) ((c+F) / 1000000000) f d (by rw[hF];omega);have a6:Hid (val ((L.set i (x - (c+F) % 1000000000)).take (i+1))+f*val (b.take (i+1))=val (A.take (i+1))+1000000000 ^ (i+1)*((c+F) / 1000000000)):=by
    unfold Hid
    rw[Ky L i _ (by omega),Oz,Oz,hx,hy,Ju];exact J
   have d4:=hR.frozen i;have c6:Hid (∀ u:Nat,Kv ((wr.setCell ⟨R,i,none⟩ (.int .u32 (u:Nat))).setCell ⟨R,i,none⟩ (.int .u32 (((x - (c+F) % 1000000000):Nat):Int))) R (L.set i (x - (c+F) % 1000000000))):=fun u=>by
    have h:=(hR.set i u (by omega)).set i (x - (c+F) % 1000000000) (by simp;omega);rw[Ok] at h;exact h
   have b9:Hid (Kv (wr.setCell ⟨R,i,none⟩ (.int .u32 (((x - (c+F) % 1000000000):Nat):Int))) R (L.set i (x - (c+F) % 1000000000))):=hR.set i _ (by omega);have I:Hid (∀ u v,Below R w (wr.setCell ⟨R,i,none⟩ u)/\Below R w ((wr.setCell ⟨R,i,none⟩ u).setCell ⟨R,i,none⟩ v)):=fun u v=>⟨T.setCell O1 u,(T.setCell O1 u).setCell O1 v⟩;have Z:Hid (Kx (L.set i (x - (c+F) % 1000000000))):=Kp L D i _ (by omega);have V:Hid ((L.set i (x - (c+F) % 1000000000)).drop (i+1)=A.drop (i+1)):=Kb L A i _ E;have U:Hid ((c+F) / 1000000000<=f):=by
    unfold Hid
    omega
   clear J d hx hy hR T D E;obtain⟨X,hX⟩:∃ X:Int,(x:Int)=X:=⟨_,rfl⟩;have HX:=Hd hX;have x1:0<=X:=by omega
   have x2:X<1000000000:=by omega
   rw[hX] at H;obtain⟨C,hC⟩:∃ C:Int,(c:Int)=C:=⟨_,rfl⟩;have HC:=Hd hC;have c1:0<=C:=by omega
   have c2:C<=1000000000:=by omega
   rw[hC];obtain⟨G,hG⟩:∃ G:Int,(f:Int)=G:=⟨_,rfl⟩;rw[hG];obtain⟨Y,hY⟩:∃ Y:Int,(y:Int)=Y:=⟨_,rfl⟩;have K:(F:Int)=G*Y:=by rw[<-hF,<-hG,<-hY];rfl
   have b5:=Hd K;have g1:0<=G*Y:=by rw[<-K];omega
   have g2:G*Y<=999999999000000000:=by rw[<-K];omega
   have y1:0<=Y:=by omega
   have y2:Y<1000000000:=by omega
   rw[hY] at hcb;have t1:(C+G*Y) % 1000000000<=X:=by omega
   have j:Hid _:=O;clear hX c8 O hC hG hY K d5 hF d6 hc c7
   go_wp2
   go_roundw
   case rel=>
    refine⟨i+1,(c+F) / 1000000000,L.set i (x - (c+F) % 1000000000),by omega,U.o,by simp[a8],Z.o,?_,V.o,?_,by go_num,a6.o,?_⟩
    ·have h:=b9.o;rw[show ((((x - (c+F) % 1000000000)):Nat):Int)=_ from ?_] at h
     ·exact h
     have:=HX.o;have:=HC.o;have:=j.o;have:=b5.o;  omega
    ·congr 1;have:=HX.o;have:=HC.o;have:=j.o;have:=b5.o;  omega
    first|exact (I.o _ (.bool true)).1|exact (I.o _ _).2
   simp[intOf];omega
  have hy:b.getD i 0=0:=by rw[Ji,Yv (by omega)];rfl
  by_cases d3:c=0
  ·subst d3;have hE:val (L.take n)+f*val b=val (A.take n):=by
    rw[Vz,Vt,Jf (show b.length<=i by omega)] at d;exact (UK A L i n hi a8.symm E.symm (f*val b) d.symm).symm
   have HE:Hid (Kv wr R L/\L.length=A.length/\Kx L/\L.drop n=A.drop n/\val (L.take n)+f*val b=val (A.take n)+1000000000 ^ n*0/\Below R w wr):=⟨hR,a8,D,by rw[show n=i+(n - i) by omega,<-Z6,<-Z6,E],by rw[hE,Vz,Vt],T⟩;clear hE d hR T D E hx hy
   go_wp2
   go_ret
   obtain⟨e1,e2,e3,e4,e5,e6⟩:=HE.o;exact⟨0,L,rfl,e1,e2,e3,e4,by omega,e5,e6⟩
  by_cases O:x<c % 1000000000
  ·skip
   have J:=G6 (1000000000 ^ i) _ _ _ c x 0 (x+1000000000 - c % 1000000000) (c / 1000000000+1) f d (by rw[Vz];omega);have a6:Hid (val ((L.set i (x+1000000000 - c % 1000000000)).take (i+1))+f*val (b.take (i+1))=val (A.take (i+1))+1000000000 ^ (i+1)*(c / 1000000000+1)):=by
    unfold Hid
    rw[Ky L i _ (by omega),Oz,Oz,hx,hy,Ju];exact J
   have d4:=hR.frozen i;have c6:Hid (∀ u:Nat,Kv ((wr.setCell ⟨R,i,none⟩ (.int .u32 (u:Nat))).setCell ⟨R,i,none⟩ (.int .u32 (((x+1000000000 - c % 1000000000):Nat):Int))) R (L.set i (x+1000000000 - c % 1000000000))):=fun u=>by
    have h:=(hR.set i u (by omega)).set i (x+1000000000 - c % 1000000000) (by simp;omega);rw[Ok] at h;exact h
   have b9:Hid (Kv (wr.setCell ⟨R,i,none⟩ (.int .u32 (((x+1000000000 - c % 1000000000):Nat):Int))) R (L.set i (x+1000000000 - c % 1000000000))):=hR.set i _ (by omega);have I:Hid (∀ u v,Below R w (wr.setCell ⟨R,i,none⟩ u)/\Below R w ((wr.setCell ⟨R,i,none⟩ u).setCell ⟨R,i,none⟩ v)):=fun u v=>⟨T.setCell O1 u,(T.setCell O1 u).setCell O1 v⟩;have Z:Hid (Kx (L.set i (x+1000000000 - c % 1000000000))):=Kp L D i _ (by omega);have V:Hid ((L.set i (x+1000000000 - c % 1000000000)).drop (i+1)=A.drop (i+1)):=Kb L A i _ E;have U:Hid (c / 1000000000+1<=f):=by
    unfold Hid
    omega
   clear J d hx hy hR T D E;obtain⟨X,hX⟩:∃ X:Int,(x:Int)=X:=⟨_,rfl⟩;have HX:=Hd hX;have x1:0<=X:=by omega
   have x2:X<1000000000:=by omega
   rw[hX] at H;obtain⟨C,hC⟩:∃ C:Int,(c:Int)=C:=⟨_,rfl⟩;have HC:=Hd hC;have c1:0<=C:=by omega
   have c2:C<=1000000000:=by omega
   rw[hC];obtain⟨G,hG⟩:∃ G:Int,(f:Int)=G:=⟨_,rfl⟩;rw[hG];have t1:X<C % 1000000000:=by omega
   have j:Hid _:=O;have t2:0<C:=by omega
   clear hX c8 O hC hG d3 hc c7
   go_wp2
   go_roundw
   case rel=>
    refine⟨i+1,c / 1000000000+1,L.set i (x+1000000000 - c % 1000000000),by omega,U.o,by simp[a8],Z.o,?_,V.o,?_,by go_num,a6.o,?_⟩
    ·have h:=c6.o (x+1000000000);rw[show ((((x+1000000000 - c % 1000000000)):Nat):Int)=_ from ?_,show (((x+1000000000:Nat)):Int)=_ from ?_] at h
     ·exact h
     ·have:=HX.o;have:=HC.o;have:=j.o;  omega
     have:=HX.o;have:=HC.o;have:=j.o;  omega
    ·congr 1;have:=HX.o;have:=HC.o;have:=j.o;  omega
    first|exact (I.o _ (.bool true)).1|exact (I.o _ _).2
   simp[intOf];omega
  skip
  have J:=G6 (1000000000 ^ i) _ _ _ c x 0 (x - c % 1000000000) (c / 1000000000) f d (by rw[Vz];omega);have a6:Hid (val ((L.set i (x - c % 1000000000)).take (i+1))+f*val (b.take (i+1))=val (A.take (i+1))+1000000000 ^ (i+1)*(c / 1000000000)):=by
   unfold Hid
   rw[Ky L i _ (by omega),Oz,Oz,hx,hy,Ju];exact J
  have d4:=hR.frozen i;have c6:Hid (∀ u:Nat,Kv ((wr.setCell ⟨R,i,none⟩ (.int .u32 (u:Nat))).setCell ⟨R,i,none⟩ (.int .u32 (((x - c % 1000000000):Nat):Int))) R (L.set i (x - c % 1000000000))):=fun u=>by
   have h:=(hR.set i u (by omega)).set i (x - c % 1000000000) (by simp;omega);rw[Ok] at h;exact h
  have b9:Hid (Kv (wr.setCell ⟨R,i,none⟩ (.int .u32 (((x - c % 1000000000):Nat):Int))) R (L.set i (x - c % 1000000000))):=hR.set i _ (by omega);have I:Hid (∀ u v,Below R w (wr.setCell ⟨R,i,none⟩ u)/\Below R w ((wr.setCell ⟨R,i,none⟩ u).setCell ⟨R,i,none⟩ v)):=fun u v=>⟨T.setCell O1 u,(T.setCell O1 u).setCell O1 v⟩;have Z:Hid (Kx (L.set i (x - c % 1000000000))):=Kp L D i _ (by omega);have V:Hid ((L.set i (x - c % 1000000000)).drop (i+1)=A.drop (i+1)):=Kb L A i _ E;have U:Hid (c / 1000000000<=f):=by
   unfold Hid
   omega
  clear J d hx hy hR T D E;obtain⟨X,hX⟩:∃ X:Int,(x:Int)=X:=⟨_,rfl⟩;have HX:=Hd hX;have x1:0<=X:=by omega
  have x2:X<1000000000:=by omega
  rw[hX] at H;obtain⟨C,hC⟩:∃ C:Int,(c:Int)=C:=⟨_,rfl⟩;have HC:=Hd hC;have c1:0<=C:=by omega
  have c2:C<=1000000000:=by omega
  rw[hC];obtain⟨G,hG⟩:∃ G:Int,(f:Int)=G:=⟨_,rfl⟩;rw[hG];have t1:C % 1000000000<=X:=by omega
  have j:Hid _:=O;have t2:0<C:=by omega
  clear hX c8 O hC hG d3 hc c7
  go_wp2
  go_roundw
  case rel=>
   refine⟨i+1,c / 1000000000,L.set i (x - c % 1000000000),by omega,U.o,by simp[a8],Z.o,?_,V.o,?_,by go_num,a6.o,?_⟩
   ·have h:=b9.o;rw[show ((((x - c % 1000000000)):Nat):Int)=_ from ?_] at h
    ·exact h
    have:=HX.o;have:=HC.o;have:=j.o;  omega
   ·congr 1;have:=HX.o;have:=HC.o;have:=j.o;  omega
   first|exact (I.o _ (.bool true)).1|exact (I.o _ _).2
  simp[intOf];omega
 obtain rfl:i=n:=by omega
 rw[Jf (show b.length<=i by omega)] at d;have HE:Hid (Kv wr R L/\L.length=A.length/\Kx L/\L.drop i=A.drop i/\val (L.take i)+f*val b=val (A.take i)+1000000000 ^ i*c/\Below R w wr):=⟨hR,a8,D,E,d,T⟩;clear d hR T D E
 go_wp2
 go_ret
 obtain⟨e1,e2,e3,e4,e5,e6⟩:=HE.o;exact⟨c,L,rfl,e1,e2,e3,e4,c7,e5,e6⟩
theorem Iu (P A Bv La c x y d c':Nat)(h:La+Bv=A+P*c)(hd:d+c+y=x+1000000000*c'):La+P*d+(Bv+P*y)=A+P*x+P*1000000000*c':=by
 have j:P*(d+c+y)=P*(x+1000000000*c'):=by rw[hd]
 rw[Yi,Yi,Yi,<-Y5] at j;omega
theorem Wr (P c A Bv V:Nat)(h:V+Bv=A+P*c)(hV:V<P)(hB:Bv<=A):V+Bv=A:=by
 cases c with
 | zero=>rw[Vz] at h;omega
 | succ c=>
   rw[Nat.mul_succ] at h;generalize P*c=X at h;omega
theorem Bq (B:Nat)(va vb:Value)(a b:List Nat)(w:World)(ha:Kn B w va a)(hb:Kn B w vb b)(hla:a.length<=1000000)(hlb:b.length<=a.length)(hle:val b<=val a) :
 Calls prog 186 #[va,vb] w fun e w'=>∃ v L,e=.returned v/\Kn w.heap.size w' v L/\val L+val b=val a/\Up w w':=by
 obtain⟨i0,b7,d3,d4,d5⟩:=info_parts info_u32;obtain⟨pa,ca,rfl,_⟩:=id ha;obtain⟨pb,cb,rfl,_⟩:=id hb;obtain⟨_,_,_,a7,U⟩:=ha.cells;obtain⟨_,_,_,a8,V⟩:=hb.cells;have HA:=Hd U;have HB:=Hd V;have c8:=Hd hle;clear U V ha hb hle
 go_in
 go_wp2_with (at_make;refine wpList_make_full _ rfl _ _ 70 rfl w.heap.size 127 i0 (.int .u32 0) 1 underlying70 b7 d3 d4 .i64 .i64 _ _ a.length rfl rfl ?m0 ?m1 ?m2 ?m3 ?m4 ?_)
 try (case m0=>first|rfl|omega)
 try (case m1=>first|rfl|omega)
 try (case m2=>(first|omega|(rw[d5];omega)))
 try (case m3=>(unfold maxLen;omega))
 try (case m4=>exact O1)
 intro w1 K b4
 first|rw[Ee] at K|rw[K7] at K
 have E:Hh w1 w.heap.size (List.replicate a.length 0):=Kt K;have a6:Up w w1:=(Jj _ _).grown b4 O1 (fun k h=>by cases h);clear K b4
 go_wp2
 go_loopw [6,14] (fun cv iv wr=>∃ (i c:Nat) (L:List Nat),i<=a.length/\c<=1/\L.length=a.length/\Kx L/\Hh wr w.heap.size L/\cv=.int .i64 (c:Nat)/\iv=.int .i64 i /\
  val (L.take i)+val (b.take i)=val (a.take i)+1000000000 ^ i*c/\Up w wr) (fun _ iv _=>a.length - (intOf iv).toNat)
 case atStart=>exact⟨0,0,_,by omega,by omega,by simp,fun x hx=>by rw[Yu hx];omega,E,rfl,rfl,by simp[val],a6⟩
 clear E a6;obtain⟨i,c,L,hi,hc,T,d,E,rfl,rfl,j,O⟩:=hrel
 by_cases b6:i<a.length
 ·obtain⟨ba,oa,rfl,b8,U⟩:=HA.o i b6;rw[<-O.cell (p:=⟨ba,oa+i,none⟩) b8] at U;have d1:=Kk a a7 i b6;obtain⟨x,hx⟩:=O2 (a.getD i 0);rw[hx] at U d1
  by_cases b5:i<b.length
  ·obtain⟨bb,ob,rfl,b9,V⟩:=HB.o i b5;rw[<-O.cell (p:=⟨bb,ob+i,none⟩) b9] at V;have d2:=Kk b a8 i b5;obtain⟨y,hy⟩:=O2 (b.getD i 0);rw[hy] at V d2
   by_cases b3:x<c+y
   ·have D:=Iu (1000000000 ^ i) _ _ _ c x y (x+1000000000 - c - y) 1 j (by omega);have I:Hid (val ((L.set i (x+1000000000 - c - y)).take (i+1))+val (b.take (i+1))=val (a.take (i+1))+1000000000 ^ (i+1)*1):=by
     unfold Hid
     rw[Ky L i _ (by omega),Oz,Oz,hx,hy,Ju];exact D
    have J:=E.cell i (by omega);have Z:=E.frozen i;have H:Hid (Hh (wr.setCell ⟨w.heap.size,i,none⟩ (.int .u32 (((x+1000000000 - c - y):Nat):Int))) w.heap.size (L.set i (x+1000000000 - c - y))):=E.set i _;have F:Hid (∀ u,Up w (wr.setCell ⟨w.heap.size,i,none⟩ u)):=fun u=>O.setCell O1 u;have G:Hid (Kx (L.set i (x+1000000000 - c - y))):=Kp L d i _ (by omega);clear D j hx hy E O d
    go_wp2
    go_roundw
    case rel=>
     refine⟨i+1,1,L.set i (x+1000000000 - c - y),by omega,by omega,by simp[T],G.o,?_,rfl,by go_num,I.o,F.o _⟩;have h:=H.o;rw[show ((((x+1000000000 - c - y)):Nat):Int)=_ from ?_] at h
     ·exact h
     omega
    simp[intOf];omega
   have D:=Iu (1000000000 ^ i) _ _ _ c x y (x - c - y) 0 j (by omega);have I:Hid (val ((L.set i (x - c - y)).take (i+1))+val (b.take (i+1))=val (a.take (i+1))+1000000000 ^ (i+1)*0):=by
    unfold Hid
    rw[Ky L i _ (by omega),Oz,Oz,hx,hy,Ju];exact D
   have J:=E.cell i (by omega);have Z:=E.frozen i;have H:Hid (Hh (wr.setCell ⟨w.heap.size,i,none⟩ (.int .u32 (((x - c - y):Nat):Int))) w.heap.size (L.set i (x - c - y))):=E.set i _;have F:Hid (∀ u,Up w (wr.setCell ⟨w.heap.size,i,none⟩ u)):=fun u=>O.setCell O1 u;have G:Hid (Kx (L.set i (x - c - y))):=Kp L d i _ (by omega);clear D j hx hy E O d
   go_wp2
   go_roundw
   case rel=>
    refine⟨i+1,0,L.set i (x - c - y),by omega,by omega,by simp[T],G.o,?_,rfl,by go_num,I.o,F.o _⟩;have h:=H.o;rw[show ((((x - c - y)):Nat):Int)=_ from ?_] at h
    ·exact h
    omega
   simp[intOf];omega
  have Y:b.getD i 0=0:=by rw[Ji,Yv (by omega)];rfl
  by_cases b3:x<c
  ·have D:=Iu (1000000000 ^ i) _ _ _ c x 0 (x+1000000000 - c) 1 j (by omega);have I:Hid (val ((L.set i (x+1000000000 - c)).take (i+1))+val (b.take (i+1))=val (a.take (i+1))+1000000000 ^ (i+1)*1):=by
    unfold Hid
    rw[Ky L i _ (by omega),Oz,Oz,hx,Y,Ju];exact D
   have J:=E.cell i (by omega);have Z:=E.frozen i;have H:Hid (Hh (wr.setCell ⟨w.heap.size,i,none⟩ (.int .u32 (((x+1000000000 - c):Nat):Int))) w.heap.size (L.set i (x+1000000000 - c))):=E.set i _;have F:Hid (∀ u,Up w (wr.setCell ⟨w.heap.size,i,none⟩ u)):=fun u=>O.setCell O1 u;have G:Hid (Kx (L.set i (x+1000000000 - c))):=Kp L d i _ (by omega);clear D j hx Y E O d
   go_wp2
   go_roundw
   case rel=>
    refine⟨i+1,1,L.set i (x+1000000000 - c),by omega,by omega,by simp[T],G.o,?_,rfl,by go_num,I.o,F.o _⟩;have h:=H.o;rw[show ((((x+1000000000 - c)):Nat):Int)=_ from ?_] at h
    ·exact h
    omega
   simp[intOf];omega
  have D:=Iu (1000000000 ^ i) _ _ _ c x 0 (x - c) 0 j (by omega);have I:Hid (val ((L.set i (x - c)).take (i+1))+val (b.take (i+1))=val (a.take (i+1))+1000000000 ^ (i+1)*0):=by
   unfold Hid
   rw[Ky L i _ (by omega),Oz,Oz,hx,Y,Ju];exact D
  have J:=E.cell i (by omega);have Z:=E.frozen i;have H:Hid (Hh (wr.setCell ⟨w.heap.size,i,none⟩ (.int .u32 (((x - c):Nat):Int))) w.heap.size (L.set i (x - c))):=E.set i _;have F:Hid (∀ u,Up w (wr.setCell ⟨w.heap.size,i,none⟩ u)):=fun u=>O.setCell O1 u;have G:Hid (Kx (L.set i (x - c))):=Kp L d i _ (by omega);clear D j hx Y E O d
  go_wp2
  go_roundw
  case rel=>
   refine⟨i+1,0,L.set i (x - c),by omega,by omega,by simp[T],G.o,?_,rfl,by go_num,I.o,F.o _⟩;have h:=H.o;rw[show ((((x - c)):Nat):Int)=_ from ?_] at h
   ·exact h
   omega
  simp[intOf];omega
 obtain rfl:i=a.length:=by omega
 have hE:=Wr (1000000000 ^ a.length) c _ _ _ j (by rw[Jf (by omega)];exact Gr L d _ (by omega)) (by rw[Jf (by omega),Jf (by omega)];exact c8.o);rw[Jf (by omega),Jf (by omega),Jf (by omega)] at hE;have HE:=Hd hE;have HL:Hid (Kn w.heap.size wr (.slice (some ⟨w.heap.size,0,none⟩) a.length a.length) L):=by
  have:=E.isL (B:=w.heap.size) (cap:=a.length) O1 d (by omega) (by unfold maxLen;omega);rw[T] at this;exact this
 have c7:=Hd O;clear hE j E O d
 go_wp2
 go_ret
 exact⟨_,L,rfl,HL.o,HE.o,c7.o⟩
end Go.Proofs.YtjjgilacnocigaaGreatDoor.Q
namespace Go.Proofs.YtjjgilacnocigaaGreatDoor.Q
open RowKit Shelf Proofs.Tryz
attribute [local go_sem] Oper.semAt_some
abbrev Lb:={ x:Int×Nat // x.2<1000000000 }
theorem GU (l:List Nat)(h:Kx l)(i:Nat):l.getD i 0<1000000000:=by
 rw[Ji]
 by_cases d:i<l.length
 ·rw[Jl d];exact h _ (Yl _)
 rw[Yv (by omega)];simp
def bk (l:List Nat)(h:Kx l)(j:Nat):Lb:=⟨((l.length:Int) - 1 - j,l.getD (l.length - 1 - j) 0),GU l h _⟩
def R5 {α:Type}(f:Nat->α)(k:Nat):List α:=(List.range k).map f
theorem Fc {α:Type}(f:Nat->α)(k:Nat):R5 f (k+1)=R5 f k++[f k]:=by simp[R5,List.range_succ]
theorem R6 {α:Type}(f:Nat->α)(k:Nat):(R5 f k).length=k:=by simp[R5]
def KB (n₀ Bs:Nat)(W W':World):Prop:=Below n₀ W W'/\W'.cell? ⟨Bs,0,none⟩=W.cell? ⟨Bs,0,none⟩
theorem AT {n₀ Bs:Nat}{A B C:World}(h:KB n₀ Bs A B)(k:KB n₀ Bs B C):KB n₀ Bs A C:=⟨h.1.trans k.1,k.2.trans h.2⟩
theorem WN {n₀ Bs:Nat}{w:World}(hn:n₀<=w.heap.size)(hB:Bs<w.heap.size)(W:World)(l:Nat)(o o':Obj)(hl:w.heap.size<=l)(h:W.heap[l]? = some o)(h1:o.isCells=false)(h2:o.isWalk=false):KB n₀ Bs W (W.putObj l o'):=
 ⟨belowK_b hn W l o o' hl h h1 h2,(belowK_b (n₀:=Bs+1) (w:=w) hB W l o o' hl h h1 h2).cell (p:=⟨Bs,0,none⟩) (Yh _)⟩
theorem MZ (n₀ Bs:Nat)(W:World):KB n₀ Bs W W:=⟨Jj _ _,rfl⟩
theorem PD (F:Fence)(n:Nat)(hf:F.fn 235)(hro:F.round=none)(hn:1<=n)(l Bs n₀ b off cap:Nat)(zs:List Nat)(hok:Kx zs)(hcap:zs.length<=cap)(hmax:cap<=maxLen)(hb:b<n₀)(J Jx:List Lb->World->Prop)
 (hY:∀ pre x W,J pre W->pre.length<zs.length->YieldAt F (n - 1) prog l #[.int .i64 x.1.1,.int .u32 (x.1.2:Nat)] W fun e W'=>
   (e=.returned (.bool true)/\J (pre++[x]) W'/\KB n₀ Bs W W')∨(e=.returned (.bool false)/\Jx (pre++[x]) W'))
 (W:World) (hBs:W.cell? ⟨Bs,0,none⟩=some (.slice (some ⟨b,off,none⟩) zs.length cap)) (hc:∀ j,j<zs.length->W.cell? ⟨b,off+j,none⟩=some (.int .u32 (zs.getD j 0:Nat))) (h0:J [] W) :
 CallsIn F n prog 235 #[.func (.yield l) #[] #[],.pointer (some ⟨Bs,0,none⟩)] W fun e W'=>(∃ v,e=.returned v) /\
  ((∃ ys,ys=R5 (bk zs hok) zs.length/\J ys W')∨(∃ pre,(∃ k,k<=zs.length/\pre=R5 (bk zs hok) k)/\Jx pre W')):=by
 unfold maxLen at hmax;have Y:=Hd hc;clear hc;refine callsIn_of_wp func235 rfl hf ?_ hro;simp only[ntmps235,Vh,J8,Zo,Nat.reduceAdd,Nat.reduceSub,Ue,Uf,U7,Ul,Zv,Yf]
 gi_wp2
 gi_loopw [3] (fun i wr=>∃ k:Nat,k<=zs.length/\i=.int .i64 ((zs.length:Int) - 1 - k)/\J (R5 (bk zs hok) k) wr/\KB n₀ Bs W wr)
  (fun i _=>(intOf i+1).toNat)
 case atStart=>exact⟨0,J7 _,by simp,h0,MZ _ _ _⟩
 obtain⟨k,hk,rfl,G,D⟩:=hrel;have a6:wr.cell? ⟨Bs,0,none⟩=some (.slice (some ⟨b,off,none⟩) zs.length cap):=D.2.trans hBs
 by_cases U:k<zs.length
 ·obtain⟨fn,tmps,assign,body,hy,Z⟩:=hY _ (bk zs hok k) wr G (by rw[R6];exact U);obtain⟨i,V⟩:∃ i:Nat,zs.length - 1 - k=i:=⟨_,rfl⟩;have O:wr.cell? ⟨b,off+i,none⟩=some (.int .u32 (zs.getD i 0:Nat)):=(D.1.cell (p:=⟨b,off+i,none⟩) hb).trans (Y.o i (by omega));have d:((zs.length:Int) - 1 - k)=(i:Int):=by omega
  obtain⟨y,E⟩:=O2 (zs.getD i 0);simp only[bk,V,E,d] at hy;rw[E] at O;have I:=Hd d;have a7:i<zs.length:=by omega
  rw[d];clear V E d
  gi_wp2
  refine Z.mono ?_;rintro e W3 (⟨rfl,K,T⟩|⟨rfl,H⟩)
  ·gi_wp2
   go_roundw
   case rel=>exact⟨k+1,by omega,O5 (by have:=I.o;omega),by rw[Fc];exact K,AT D T⟩
   simp[intOf]
  gi_wp2
  refine Jh (results_none rfl _ _ _) rfl ?_;exact⟨⟨_,rfl⟩,.inr ⟨_,⟨k+1,by omega,(Fc _ _).symm⟩,H⟩⟩
 obtain rfl:k=zs.length:=by omega
 gi_wp2
 go_end0
 exact⟨⟨_,rfl⟩,.inl ⟨_,rfl,G⟩⟩
theorem Ac (F:Fence)(n:Nat)(hf:F.fn 235)(hro:F.round=none)(l Bs cap:Nat)(a:Option Addr)(J:List Lb->World->Prop)(W:World)(hBs:W.cell? ⟨Bs,0,none⟩=some (.slice a 0 cap))(h0:J [] W) :
 CallsIn F n prog 235 #[.func (.yield l) #[] #[],.pointer (some ⟨Bs,0,none⟩)] W fun e W'=>(∃ v,e=.returned v)/\J [] W':=by
 refine callsIn_of_wp func235 rfl hf ?_ hro;simp only[ntmps235,Vh,J8,Zo,Nat.reduceAdd,Nat.reduceSub,Ue,Uf,U7,Ul,Zv,Yf]
 gi_wp2
 gi_loopw [3] (fun i wr=>i=.int .i64 (-1)/\J [] wr) (fun _ _=>0)
 case atStart=>exact⟨rfl,h0⟩
 obtain⟨rfl,d⟩:=hrel
 gi_wp2
 go_end0
 exact⟨⟨_,rfl⟩,d⟩
theorem NM (F:Fence)(n:Nat)(hf:F.fn 218)(hro:F.round=none)(a:Option Addr)(len cap:Nat)(w:World) :
 CallsIn F n prog 218 #[.slice a len cap] w fun e w'=>e=.returned (.func (.func 235) #[] #[.pointer (some ⟨w.heap.size,0,none⟩)])/\w'=w.alloc (.cells #[.slice a len cap] 70):=by
 refine callsIn_of_wp func218 rfl hf ?_ hro;simp only[ntmps218,Vh,J8,Zo,Nat.reduceAdd,Nat.reduceSub,Ue,Uf,U7,Ul,Zv,Yf]
 gi_wp2
 go_ret
 exact⟨rfl,rfl⟩
theorem Mn (F:Fence)(n:Nat)(hf:F.fn 235)(hro:F.round=none)(hn:1<=n)(Bs n₀:Nat)(sv:Value)(zs:List Nat)(hok:Kx zs)(w:World)(hBs:Bs<w.heap.size)(hn₀:n₀<=w.heap.size)
 (hc:w.cell? ⟨Bs,0,none⟩=some sv) (hI:∃ a cap,sv=.slice a zs.length cap/\zs.length<=cap/\cap<=maxLen/\(zs=[]∨∃ b off,a=some ⟨b,off,none⟩/\b<n₀/\∀ i,i<zs.length->w.cell? ⟨b,off+i,none⟩=some (.int .u32 (zs.getD i 0:Nat)))) :
 SeqStopsK F n prog 235 #[.pointer (some ⟨Bs,0,none⟩)] (fun x:Lb=>#[Value.int .i64 x.1.1,Value.int .u32 (x.1.2:Nat)]) (KB n₀ Bs) (fun ys=>ys=R5 (bk zs hok) zs.length)
  (fun pre=>∃ k,k<=zs.length/\pre=R5 (bk zs hok) k) zs.length w:=fun l J Jx W hW _ _ hY h0=>by
 have d:=(hW.cell (p:=⟨Bs,0,none⟩) hBs).trans hc
 obtain⟨a,cap,rfl,hl,j,G⟩:=hI
 rcases G with rfl|⟨b,off,rfl,E,D⟩
 ·exact (Ac F n hf hro l Bs cap a J W d h0).mono fun e W' ⟨he,hj⟩=>⟨he,.inl ⟨_,rfl,hj⟩⟩
 exact PD F n hf hro hn l Bs n₀ b off cap zs hok hl j E J Jx hY W d (fun i hi=>(hW.cell (p:=⟨b,off+i,none⟩) (Js E hn₀)).trans (D i hi)) h0
end Go.Proofs.YtjjgilacnocigaaGreatDoor.Q
namespace Go.Proofs.YtjjgilacnocigaaGreatDoor.Q
open ChangeShapes WideShapes ChangeAt RowKit Proofs.Tryz
def tens (j:Nat):Nat:=10 ^ (8 - j)
def LT (w:World):Prop:=∀ j,j<9->w.cell? ⟨7,j,none⟩=some (.int .u32 (tens j:Nat))
def dg (x j:Nat):Nat:=48+x / tens j % 10
def Gl (x k:Nat):List Nat:=(List.range k).map (dg x)
abbrev Lt (l:List Nat):List Value:=l.map (fun x=>Value.int .u8 (x:Nat))
theorem I2 (a:List Nat)(b:Nat):Lt (a++[b])=Lt a++[Value.int .u8 (b:Nat)]:=by simp[Lt]
theorem RR (k:Nat)(h:k<9):10 ^ (9 - k)=10*tens k:=by
 unfold tens;rw[show 9 - k=8 - k+1 by omega,Ju,Yy]
theorem LH (k:Nat):0<tens k:=Ua (by decide)
theorem AZ (k:Nat):tens k<=100000000:=by
 unfold tens;have:10 ^ (8 - k)<=10 ^ 8:=J3 (by decide) (by omega);have e:(10:Nat) ^ 8=100000000:=by decide
 omega
theorem IL (x k:Nat):Gl x (k+1)=Gl x k++[dg x k]:=by simp[Gl,List.range_succ]
theorem BI (x T:Nat):x % (10*T) / T=x / T % 10:=by rw[Yy];exact Nat.mod_mul_right_div_self x T 10
theorem BX (x T:Nat):x % (10*T) % T=x % T:=Nat.mod_mod_of_dvd x (Nat.dvd_mul_left T 10)
theorem M7 {A B C:World}{r:Option Nat}(h1:A.grownBy B r)(h2:B.grownBy C r):A.grownBy C r:=
 ⟨h2.os.trans h1.os,h2.tape.trans h1.tape,h2.output.trans h1.output,Yt h1.size h2.size,fun k hk hne=>(h2.block k (Js hk h1.size) hne).trans (h1.block k hk hne)⟩
theorem info_u8:(prog.info? 5).map (fun i=>(i.zero,i.size,i.bytes))=some (some (.int .u8 0),1,1):=by kernel_rfl
theorem Mk (base g n cap x:Nat)(xs:List Value)(w:World)(hown0:w.ownsRow base 5 1 (.slice (some ⟨g,0,none⟩) n cap) n xs)(hLT:LT w)(hgb:7<base)(hx:x<1000000000)(hc:n+9<=cap) :
 Calls prog 219 #[.slice (some ⟨g,0,none⟩) n cap,.int .u32 (x:Nat)] w fun e w'=>
  e=.returned (.slice (some ⟨g,0,none⟩) (n+9) cap)/\w'.ownsRow base 5 1 (.slice (some ⟨g,0,none⟩) (n+9) cap) (n+9) (xs++Lt (Gl x 9))/\w.grownBy w' (some g):=by
 have a6:=Hd hLT;have d1:=(hown0.lt g rfl).1;have HO:=Hd hown0;obtain⟨i0,K,d4,b3,d5⟩:=info_parts info_u8;clear hLT hown0
 go_in
 go_wp2
 go_loopw [0,1,6] (fun v l i wr=>∃ k:Nat,k<=9/\i=.int .i64 k/\l=.int .u32 (x % 10 ^ (9 - k):Nat)/\v=.slice (some ⟨g,0,none⟩) (n+k) cap /\
  wr.ownsRow base 5 1 (.slice (some ⟨g,0,none⟩) (n+k) cap) (n+k) (xs++Lt (Gl x k))/\w.grownBy wr (some g)) (fun _ _ i _=>9 - (intOf i).toNat)
 case atStart=>
  refine⟨0,J7 _,rfl,O5 ?_,rfl,by simpa[Gl] using HO.o,World.grownBy.refl _ _⟩;have e:(10:Nat) ^ 9=1000000000:=by decide
  rw[show 9 - 0=9 from rfl,e];omega
 obtain⟨k,hk,rfl,rfl,rfl,D,G⟩:=hrel
 by_cases O:k<9
 ·have d:wr.cell? ⟨7,k,none⟩=some (.int .u32 (tens k:Nat)):=G.cell (a6.o k O) (by simp;omega);have hT:=LH k;have a8:=AZ k;have e1:=RR k O;have U:=BI x (tens k);have V:=BX x (tens k);have e4:10 ^ (9 - (k+1))=tens k:=by unfold tens;rw[show 9 - (k+1)=8 - k by omega]
  have H:x % (10*tens k)<10*tens k:=Zy _ (by omega);have Z:Hid (dg x k=48+x / tens k % 10):=rfl;rw[e1];have F:Hid (10 ^ (9 - (k+1))=tens k):=e4;obtain⟨T,I⟩:=O2 (tens k);rw[I] at d hT a8 U V H Z F ⊢;obtain⟨L,hL⟩:=O2 (x % (10*T));rw[hL] at U V H ⊢;have hq:L / T<10:=Nat.div_lt_of_lt_mul (by omega);have HQ:Hid (dg x k=48+L / T):=by rw[U];exact Z.o
  have HM:Hid (x % 10 ^ (9 - (k+1))=L % T):=by rw[F.o];exact V.symm
  have d0:((T:Int)==0)=false:=by rw[Jd];omega
  have d2:(L:Int) / (T:Int)<10:=by
   have:((L / T:Nat):Int)<10:=by omega
   simpa using this
  have d3:0<=(L:Int) / (T:Int):=Of (by omega) (by omega);clear e1 U V e4 I hL Z F
  go_wp2_with (at_builtin;refine wpList_append_fits _ rfl _ _ 22 rfl base 5 i0 1 underlying22 K b3 g (n+k) cap _ rfl (D.alloc _) ⟨wr.heap.size,0,none⟩ 1 1 [_] rfl rfl (cell_one_new _ _ _) ?c1 ?c2 ?_)
  case c1=>first|rfl|(intro u hu;simp at hu;subst hu;rfl)
  case c2=>omega
  intro w1 E j;have J:w.grownBy w1 (some g):=M7 (M7 G (World.grownBy_alloc wr _ _)) j;have Y:w1.cell? ⟨7,k,none⟩=some (.int .u32 (T:Nat)):=j.cell (a:=⟨7,k,none⟩) (by rw[Jk _ _ _ (Zb _ _ d)];exact d) (by simp;omega);have a7:Hid (w1.ownsRow base 5 1 (.slice (some ⟨g,0,none⟩) (n+(k+1)) cap) (n+(k+1)) (xs++Lt (Gl x (k+1)))):=by
   unfold Hid
   rw[IL,I2,<-Yo,HQ.o]
   simpa[<-Nat.add_assoc] using E
  clear E j D d
  go_wp2
  go_roundw
  case rel=>exact⟨k+1,by omega,by go_num,by rw[HM.o];exact O5 (by simp),rfl,a7.o,J⟩
  simp[intOf];omega
 obtain rfl:k=9:=by omega
 go_wp2
 go_ret
 exact⟨rfl,D,G⟩
end Go.Proofs.YtjjgilacnocigaaGreatDoor.Q
namespace Go.Proofs.YtjjgilacnocigaaGreatDoor.Q
open RowKit Shelf Proofs.Tryz
attribute [local go_sem] Oper.semAt_some
def Hi (l:List Nat):List Nat:=l.reverse.flatMap (fun x=>Gl x 9)
def Ot (l:List Nat):List UInt8:=l.map UInt8.ofNat
def Kq (l:List UInt8):ByteArray:=⟨l.toArray⟩
def textD (l:List Nat):List UInt8:=Nj (Ot (Hi l))
def Pj (neg:Bool)(l:List Nat):ByteArray:=if neg then Kq (45::textD l) else Kq (textD l)
def Le (neg:Bool)(l:List Nat):ByteArray:=if 2500<(textD l).length then Kq [] else if neg then Kq (45::textD l) else Kq (textD l)
theorem Mq {w:World}(h:LT w):7<w.heap.size:=Zb w ⟨7,0,none⟩ (h 0 (by decide))
theorem YO (x k:Nat):(Gl x k).length=k:=by simp[Gl]
theorem Io (l:List Nat):(Hi l).length=9*l.length:=by
 unfold Hi;rw[List.length_flatMap];simp only[YO];rw[List.map_const',List.sum_replicate_nat];simp;omega
theorem Wz (l:List Nat):∀ x∈Hi l,x<256:=by
 intro x d;unfold Hi at d;rw[List.mem_flatMap] at d;obtain⟨y,_,D⟩:=d;unfold Gl at D;rw[Z5] at D;obtain⟨j,_,rfl⟩:=D;unfold dg;omega
theorem QP (l:List Nat)(h:Kx l):(R5 (bk l h) l.length).flatMap (fun x:Lb=>Gl x.1.2 9)=Hi l:=by
 unfold Hi;have e:(R5 (bk l h) l.length).map (fun x:Lb=>x.1.2)=l.reverse:=by
  apply List.ext_getElem
  ·simp[R5]
  intro i d j;simp only[R5,Yq,List.length_range] at d;simp only[R5,Vo,List.getElem_range,bk,List.getElem_reverse];rw[Ji,Jl (by omega)];rfl
 rw[<-e,List.flatMap_map]
theorem IU (t:List UInt8):(⟨#[45]⟩:ByteArray)++Kq t=Kq (45::t):=by
 apply ByteArray.ext;simp[Kq]
theorem Kf (l:List UInt8):(Kq l).size=l.length:=by simp[Kq,ByteArray.size]
theorem Gj (base:Nat)(W:World)(g n cap:Nat)(ns:List Nat)(h:W.ownsRow base 5 1 (.slice (some ⟨g,0,none⟩) n cap) n (Lt ns))(hlt:∀ x∈ns,x<256)(hn:ns.length=n) :
 (convert 22 9 (.slice (some ⟨g,0,none⟩) n cap)).run prog W=.ok (.string (Kq (Ot ns))) W:=by
 have hl:(Ot ns).length=n:=by simp[Ot,hn]
 have:=run_convert_bytes_back (P:=prog) W 22 9 5 ⟨g,0,none⟩ cap (Ot ns) underlying22 underlying5 underlying9 (fun j hj=>by
  rw[hl] at hj;have d:j<ns.length:=by omega
  have:=h.cells (g:=g) rfl j (.int .u8 (ns[j]:Nat)) (by simp[Lt,List.getElem?_eq_getElem d]);rw[this];have D:=hlt ns[j] (Yl _);simp only[Ot,Vo]
  congr 2
  rw[UInt8.toNat_ofNat_of_lt' (by simpa using D)])
 rw[hl] at this;exact this
theorem G2 (n:Bool)(a:Option Addr)(l c:Nat)(w:World) :
 Calls prog 87 #[.agg #[.bool n,.slice a l c]] w fun e w'=>e=.returned (.bool ((l:Int)==0))/\w'=w.alloc (.cells #[.bool n,.slice a l c] 85):=by
 go_in
 go_wp2
 go_ret
 exact⟨rfl,rfl⟩
theorem At (n:Bool)(a:Option Addr)(c:Nat)(w:World) :
 Calls prog 173 #[.agg #[.bool n,.slice a 0 c]] w fun e w'=>e=.returned (.string ⟨#[48]⟩)/\Up w w':=by
 go_in
 go_wp2_with (go_at_call 87;refine (G2 _ _ _ _ _).mono ?_;rintro e w' ⟨rfl,rfl⟩)
 go_ret
 exact⟨rfl,(Oo _ _).alloc (by simp) _⟩
theorem T6 (B:Nat)(neg:Bool)(v:Value)(l:List Nat)(w:World)(hI:Kn B w v l)(hne:0<l.length)(hlen:l.length<=600)(hLT:LT w) :
 Calls prog 173 #[.agg #[.bool neg,v]] w fun e w'=>e=.returned (.string (Pj neg l))/\Up w w':=by
 obtain⟨a,cap,rfl,hl,c8,d3,hr⟩:=hI;obtain⟨i0,d2,f5,f7,f8⟩:=info_parts info_u8;have hz:((l.length:Int)==0)=false:=by rw[Jd];omega
 have HR:=Hd hr;clear hr;refine (callsIn_wide (n:=3)).1 ?_;refine callsIn_of_wp_marks func173 rfl trivial ?_ rfl;simp only[ntmps173,Vh,J8,Zo,Nat.reduceAdd,Nat.reduceSub,Ue,Uf,U7,Ul,Zv,Yf]
 gi_wp2_with (first
  | (refine⟨trivial,?_⟩;gi_at_call 87;refine (callsIn_wide.2 (G2 _ _ _ _ _)).mono ?_;rintro e w' ⟨rfl,rfl⟩)
  | (gi_at_make;refine wpListIn_make_own _ rfl _ _ 22 rfl (w.heap.size+2) 5 i0 (.int .u8 0) 1 underlying22 d2 f5 f7 .i64 .i64 _ (l.length*9) rfl rfl ?m1 ?m2 ?m3 ?m4 ?_))
 case m1=>omega
 case m2=>rw[f8];omega
 case m3=>unfold maxLen;omega
 case m4=>simp
 intro E O V;have i1:w.heap.size+2<E.heap.size:=by
  have:=(O.lt _ rfl).2;exact this
 have e6:w.heap.size<E.heap.size:=by omega
 have d5:E.cell? ⟨w.heap.size,0,none⟩=some (.bool neg):=V.cell (a:=⟨w.heap.size,0,none⟩) (by rw[Jk _ _ _ (by simp),Jg _ _ _ _ rfl];rfl) (by simp);have e9:E.cell? ⟨w.heap.size,1,none⟩=some (.slice a l.length cap):=V.cell (a:=⟨w.heap.size,1,none⟩) (by rw[Jk _ _ _ (by simp),Jg _ _ _ _ rfl];rfl) (by simp);have c7:Up w E:=(((Jj _ w).alloc O1 _).alloc (by simp) _).grown V (by simp;omega) (fun k h=>by cases h);clear V
 gi_wp2_with (refine⟨trivial,?_⟩;gi_at_call 218;refine (NM Fence.wide _ trivial rfl _ _ _ _).mono ?_;rintro e w' ⟨rfl,rfl⟩)
 have bP:=Boxed.new E 22 (.slice (some ⟨w.heap.size+1+1,0,none⟩) 0 (l.length*9));have bN:=Boxed.new (E.alloc (.cells #[.slice (some ⟨w.heap.size+1+1,0,none⟩) 0 (l.length*9)] 22)) 70 (.slice a l.length cap);rw[J4] at bN;have b3:Up w ((E.alloc (.cells #[.slice (some ⟨w.heap.size+1+1,0,none⟩) 0 (l.length*9)] 22)).alloc (.cells #[.slice a l.length cap] 70)):=(c7.alloc (by omega) _).alloc (by simp;omega) _;have d4:l=[]∨∃ b off,a=some ⟨b,off,none⟩/\b<w.heap.size/\∀ i,i<l.length->((E.alloc (.cells #[.slice (some ⟨w.heap.size+1+1,0,none⟩) 0 (l.length*9)] 22)).alloc (.cells #[.slice a l.length cap] 70)).cell? ⟨b,off+i,none⟩=some (.int .u32 (l.getD i 0:Nat)):=by
  rcases HR.o with h|⟨b,off,e,_,hb,hc⟩
  ·exact .inl h
  exact .inr ⟨b,off,e,hb,fun i hi=>(b3.cell (p:=⟨b,off+i,none⟩) hb).trans (hc i hi)⟩
 have d1:((E.alloc (.cells #[.slice (some ⟨w.heap.size+1+1,0,none⟩) 0 (l.length*9)] 22)).alloc (.cells #[.slice a l.length cap] 70)).cell? ⟨w.heap.size,0,none⟩=some (.bool neg):=by rw[Jk _ _ _ (by simp;omega),Jk _ _ _ e6];exact d5
 refine wpIn_rangeFunc_ownG rfl (by decide) (gf:=235) (lb:=#[.pointer (some ⟨E.heap.size+1,0,none⟩)]) rfl trivial (enters_of func235 (by kernel_rfl) rfl)
  (Mn Fence.wide 2 trivial rfl (by decide) (E.heap.size+1) w.heap.size _ l d3 _ (by simp) (by simp;omega) bN.cell ⟨a,cap,rfl,hl,c8,d4⟩)
  AT (WN (by simp;omega) (by simp)) (Jj _ _) (fun _=>rfl)
  (fun pre W=>((∃ v,Boxed W E.heap.size 22 v/\W.ownsRow (w.heap.size+2) 5 1 v (9*pre.length) (Lt (pre.flatMap (fun x:Lb=>Gl x.1.2 9)))/\v=.slice (some ⟨w.heap.size+1+1,0,none⟩) (9*pre.length) (l.length*9))/\W.cell? ⟨w.heap.size,0,none⟩=some (.bool neg)/\E.heap.size+2<=W.heap.size)/\Up w W)
  (fun _ _ _=>False)
  (OwnFrom.and (OwnFrom.and (Own.from (holdsRow_own (w.heap.size+2) E.heap.size 22 5 1 (fun pre:List Lb=>9*pre.length) (fun pre=>Lt (pre.flatMap (fun x:Lb=>Gl x.1.2 9))) (fun pre v=>v=.slice (some ⟨w.heap.size+1+1,0,none⟩) (9*pre.length) (l.length*9))) _)
    (Own.from (fun s A B row hs hg hr=>⟨cell_kept hs.1 hg hr,Yt hs.2 hg.size⟩) _)) (ownFrom_below O1 (by simp;omega)))
  (fun _ _ _ _ _ hs _ _=>hs)
  ⟨⟨⟨_,bP.alloc _,(O.alloc _).alloc _,rfl⟩,d1,by simp⟩,b3⟩
  (fun x=>{ tmps:=#[.agg #[.bool neg,.slice a l.length cap],.pointer (some ⟨w.heap.size,0,none⟩),.string ⟨#[]⟩,.pointer (some ⟨E.heap.size,0,none⟩),undef,.int .u32 (x.1.2:Nat),undef,.agg #[.bool neg,.slice a l.length cap],.bool false,.pointer (some ⟨w.heap.size,1,none⟩),.slice a l.length cap,.int .i64 l.length,.int .i64 (l.length*9),.slice (some ⟨w.heap.size+1+1,0,none⟩) 0 (l.length*9),.pointer (some ⟨w.heap.size,1,none⟩),.slice a l.length cap,.func (.func 235) #[] #[.pointer (some ⟨E.heap.size+1,0,none⟩)],.int .i64 x.1.1,.int .u32 (x.1.2:Nat),undef,undef,undef,undef,undef,undef,undef,undef,undef,undef,undef],defers:=[] }) ?assign ?body ?done ?stop
 case assign=>
  intro lx x W K hK
  gi_wp2
  exact hK
 case body=>
  rintro lx pre x W ⟨⟨⟨v,hv,F,rfl⟩,d0,e7⟩,hB⟩ h9;have hx:=x.2;have e8:=hv.cell;have e5:7<w.heap.size:=Mq hLT;have a7:LT W:=fun j hj=>(hB.cell (p:=⟨7,j,none⟩) e5).trans (hLT j hj);have d7:=Hd a7;have H:=Hd F;have HV:=Hd hv;clear F hv a7
  gi_wp2
  refine⟨trivial,?_⟩;refine (CallsIn.inRound lx (callsIn_wide.2 (Mk (w.heap.size+2) (w.heap.size+1+1) (9*pre.length) (l.length*9) x.1.2 _ W H.o d7.o (by omega) hx (by omega)))).mono ?_;rintro e w2 ⟨rfl,T,I⟩;have Z:=HV.o.kept I (HV.o.not_row (by decide) H.o);have h6:=Z.cell;have h8:=Z.frozen;have b8:=Hd Z;have b7:=Hd T;have G:=Hd I;clear Z T I
  gi_wp2
  have b4:(pre++[x]).length=pre.length+1:=by simp
  have J:9*(pre++[x]).length=9*pre.length+9:=by rw[b4];omega
  have Y:=grownBy_setCell' w2 E.heap.size (.slice (some ⟨w.heap.size+1+1,0,none⟩) (9*pre.length+9) (l.length*9));refine⟨KeepsOthers.from ((KeepsOthers.of_grownBy G.o fun j o ej hj=>?_).trans (KeepsOthers.setCell _ _ _)) _,⟨?_,?_⟩,⟨⟨_,b8.o.set _,?_,?_⟩,?_,?_⟩,?_⟩
  ·rcases H.o.2 with⟨e,_⟩|⟨g,g1,cur,e,_,e4,_⟩
   ·cases e
   simp only[Value.slice.injEq,Option.some.injEq,Addr.mk.injEq,and_true] at e;obtain⟨rfl,_⟩:=e
   cases ej
   rw[e4] at hj;cases hj;rfl
  ·exact (((Jj w.heap.size W).grown G.o hB.size (fun k e=>by cases e;omega)).setCell (p:=⟨E.heap.size,0,none⟩) (by show w.heap.size<=E.heap.size;omega) _)
  ·have e1:w2.heap[E.heap.size+1]? = W.heap[E.heap.size+1]? := G.o.block _ (by omega) (by simp;omega);have e2:=J1 w2 ⟨E.heap.size,0,none⟩ (.slice (some ⟨w.heap.size+1+1,0,none⟩) (9*pre.length+9) (l.length*9)) (E.heap.size+1) (Nat.succ_ne_self _);exact Zg (e2.trans e1)
  ·rw[J,Od];have:=b7.o.kept Y (.inr (b8.o.not_row (by decide) b7.o).symm)
   simpa[Lt] using this
  ·rw[J]
  ·exact (Zg ((J1 w2 ⟨E.heap.size,0,none⟩ _ w.heap.size (by show w.heap.size≠E.heap.size;omega)).trans (G.o.block _ (by omega) (by simp;omega)))).trans d0
  ·have:=G.o.size;simp;omega
  exact (hB.grown G.o hB.size (fun k e=>by cases e;omega)).setCell (p:=⟨E.heap.size,0,none⟩) (by show w.heap.size<=E.heap.size;omega) _
 case done=>
  rintro D ys W hD rfl ⟨⟨⟨v,hv,F,rfl⟩,d0,e7⟩,hB⟩ hK;rw[QP l d3,R6] at F;rw[R6] at hv;have e8:=hv.cell;have e0:=Gj _ _ _ _ _ _ F (Wz l) (Io l);have b5:(Kq (Ot (Hi l))).size<=maxLen:=by rw[Kf,Ot,Yq,Io];unfold maxLen;omega
  have HD:Hid (D7 (Kq (Ot (Hi l)))=Kq (textD l)):=rfl;obtain⟨d,hd⟩:=O2 (Kq (textD l));have U:=Hd hd;have h7:d.size<=6000:=by
   rw[<-hd,Kf];have h1:(textD l).length<=(Ot (Hi l)).length:=by unfold textD Nj;exact (U4 _).length_le
   rw[Ot,Yq,Io] at h1;omega
  have a6:Hid (Up w (W.putObj D (.deferred none))):=hB.trans (belowK_b (w:=w) O1 W D _ _ (by simp at hD;omega) hK rfl rfl);clear F hv O bP bN b3 d4 d1 hd c7 d5 e9;have c6:=Hd hK;clear hK hB;have HS:Hid (d.size=(textD l).length):=by rw[<-U.o];exact Kf _
  gi_wp2
  refine⟨trivial,?_⟩;refine (callsIn_wide.2 (Wd _ _ b5)).mono ?_;rintro e w' ⟨rfl,i6⟩;subst w';rw[HD.o,U.o]
  cases neg
  ·have HT:Hid (Pj false l=d):=U.o
   gi_wp2
   refine⟨by simp,.inl ⟨_,_,rfl,run_takeDeferred c6.o,?_⟩⟩;exact⟨_,results_tmp rfl _ _ _,by rw[HT.o];rfl,a6.o⟩
  have HT:Hid (Pj true l=Kq (45::textD l)):=rfl;have HC:Hid ((⟨#[45]⟩:ByteArray)++d=Kq (45::textD l)):=by rw[<-U.o];exact IU _
  gi_wp2
  refine⟨by simp,.inl ⟨_,_,rfl,run_takeDeferred c6.o,?_⟩⟩;exact⟨_,results_tmp rfl _ _ _,by rw[HT.o,<-HC.o];rfl,a6.o⟩
 rintro D c pre W _ _ h _;exact h.elim
theorem NX (l:List Nat):∀ c∈textD l,c≠45:=by
 intro c G;have d:c∈Ot (Hi l):=(U4 _).subset G;unfold Ot Hi at d;rw[Z5] at d;obtain⟨x,E,rfl⟩:=d;rw[List.mem_flatMap] at E;obtain⟨y,_,D⟩:=E;unfold Gl at D;rw[Z5] at D;obtain⟨j,_,rfl⟩:=D;unfold dg;intro h;have F:=congrArg UInt8.toNat h;rw[UInt8.toNat_ofNat_of_lt' (by simp[UInt8.size];omega)] at F;have:(45:UInt8).toNat=45:=rfl;omega
theorem RC (neg:Bool)(l:List Nat):(dgs (Pj neg l)).size=(textD l).length:=by
 cases neg
 ·have h:Ki (Kq (textD l))=false:=by
   unfold Ki;rw[Je]
   cases d:textD l with
   | nil=>rfl
   | cons c r=>
     have:=NX l c (by rw[d];exact List.mem_cons_self ..);simp[Kq,this]
  show (dgs (Kq (textD l))).size=_
  rw[Xh _ h,Kf]
 have h:Ki (Kq (45::textD l))=true:=by
  unfold Ki;rw[Je];simp[Kq]
 show (dgs (Kq (45::textD l))).size=_
 rw[Xg _ h,Yj,Kf];simp
theorem RM (n:Bool)(a:Option Addr)(c:Nat)(w:World) :
 Calls prog 135 #[.agg #[.bool n,.slice a 0 c]] w fun e w'=>e=.returned (.string ⟨#[48]⟩)/\Up w w':=by
 have j:dgs ⟨#[48]⟩=⟨#[48]⟩:=by kernel_rfl
 have E:=Hd j;clear j
 go_in
 go_wp2_with (first
  | (go_at_call 173;refine (At _ _ _ _).mono ?_;rintro e F ⟨rfl,d⟩;have D:Hid (Up w F):=(Oo _ _).trans (d.mono (by simp));clear d)
  | (go_at_call 127;refine (Hn _ _ (by decide)).mono ?_;rintro e G ⟨rfl,H⟩;subst G;rw[E.o]))
 go_ret
 exact⟨rfl,D.o⟩
theorem LX (B:Nat)(neg:Bool)(v:Value)(l:List Nat)(w:World)(hI:Kn B w v l)(hne:0<l.length)(hlen:l.length<=600)(hLT:LT w) :
 Calls prog 135 #[.agg #[.bool neg,v]] w fun e w'=>e=.returned (.string (Le neg l))/\Up w w':=by
 have I:Hid (∀ o,Calls prog 173 #[.agg #[.bool neg,v]] (w.alloc o) fun e w'=>e=.returned (.string (Pj neg l))/\Below (w.alloc o).heap.size (w.alloc o) w'):=fun o=>T6 B neg v l _ (hI.bl (Oo _ _)) hne hlen (fun j hj=>((Oo _ _).cell (p:=⟨7,j,none⟩) (Mq hLT)).trans (hLT j hj));obtain⟨a,cap,rfl,hl,O,G,hr⟩:=hI;have H:=RC neg l;have h6:(textD l).length<=6000:=by
  have Z:(textD l).length<=(Ot (Hi l)).length:=by unfold textD Nj;exact (U4 _).length_le
  rw[Ot,Yq,Io] at Z;omega
 have U:(Pj neg l).size<=maxLen:=by
  have h2:(Pj neg l).size<=6001:=by
   unfold Pj;split<;>rw[Kf]
   ·simp;omega
   omega
  unfold maxLen;omega
 have d:Hid (Le neg l=if 2500<(textD l).length then Kq [] else Pj neg l):=rfl;generalize Pj neg l=T at H U I d;generalize (textD l).length=n at H h6 d;obtain⟨D,F⟩:=O2 (dgs T);rw[F] at H;have Y:=Hd F;clear F hr G
 by_cases E:2500<n
 case' pos=>
  have z:decide (2500<(D.size:Int))=true:=dT (by omega)
  have J:Hid (Le neg l=Kq []):=d.o.trans (if_pos E)
 case' neg=>
  have z:decide (2500<(D.size:Int))=false:=dF (by omega)
  have J:Hid (Le neg l=T):=d.o.trans (if_neg E)
 all_goals
  go_in
  go_wp2_with (first
   | (go_at_call 173;refine (I.o _).mono ?_;rintro e w1 ⟨rfl,K⟩;have V:Hid (Up w w1):=(Oo _ _).trans (K.mono (by simp));clear K)
   | (go_at_call 127;refine (Hn _ _ U).mono ?_;rintro e w2 ⟨rfl,hw⟩;subst w2;rw[Y.o]))
  go_ret
  exact⟨by rw[J.o];rfl,V.o⟩
end Go.Proofs.YtjjgilacnocigaaGreatDoor.Q
namespace Go.Proofs.YtjjgilacnocigaaGreatDoor.Q
open ChangeShapes WideShapes ChangeAt RowKit Proofs.Tryz
variable {R:Nat}{w w':World}
theorem O9 (l:List Nat):val (Ov l)=val l:=by
 induction hn:l.length generalizing l with
 | zero=>rw[Jo hn];rfl
 | succ n ih=>
   have d:l≠[]:=by intro h;rw[h] at hn;simp at hn
   rw[<-Zu d]
   by_cases j:l.getLast d=0
   ·rw[j,Gw,Xu,ih _ (by simp[hn])];omega
   rw[Np _ _ j]
theorem F6 (x:Nat)(l:List Nat)(h:Oq (x::l)):Oq l:=by
 intro d;have:=h (by simp)
 rwa [List.getLast_cons d] at this
theorem AK (a b:List Nat)(ha:Kx a)(hb:Kx b)(ta:Oq a)(tb:Oq b)(h:val a=val b):a=b:=by
 induction a generalizing b with
 | nil=>
   by_cases d:b=[]
   ·rw[d]
   have:=Gp b tb d;rw[<-h] at this;simp[val] at this
 | cons x a ih=>
   cases b with
   | nil=>
     have:=Gp (x::a) ta (by simp);rw[h] at this;simp[val] at this
   | cons y b=>
     have E:=ha x (by simp);have F:=hb y (by simp);simp only[val] at h;have j:x=y:=by omega
     have D:val a=val b:=by omega
     rw[j,ih b (fun z hz=>ha z (by simp[hz])) (fun z hz=>hb z (by simp[hz])) (F6 x a ta) (F6 y b tb) D]
def wl (n k:Nat):List Nat:=(List.range k).map (fun i=>n / 1000000000 ^ i % 1000000000)
theorem Ww (n k:Nat):wl n (k+1)=wl n k++[n / 1000000000 ^ k % 1000000000]:=by simp[wl,List.range_succ]
theorem Fm (n k:Nat):(wl n k).length=k:=by simp[wl]
theorem JX (n k:Nat):Kx (wl n k):=by
 intro x d;unfold wl at d;rw[Z5] at d;obtain⟨i,_,rfl⟩:=d;exact Zy _ (by decide)
theorem WY (n k:Nat):val (wl n k)+1000000000 ^ k*(n / 1000000000 ^ k)=n:=by
 induction k with
 | zero=>simp[wl,val]
 | succ k ih=>
   rw[Ww,Xu,Fm,Ju,<-Vf];have d:=U0 (n / 1000000000 ^ k) 1000000000;have j:1000000000 ^ k*(n / 1000000000 ^ k)=1000000000 ^ k*(1000000000*(n / 1000000000 ^ k / 1000000000)+n / 1000000000 ^ k % 1000000000):=by rw[d]
   rw[Yi,<-Y5] at j;omega
def Cb (neg:Bool)(l:List Nat):ByteArray:=if l.length=0 then Kq [48] else Le neg l
theorem UY (B:Nat)(neg:Bool)(v:Value)(l:List Nat)(w:World)(hI:Kn B w v l)(hlen:l.length<=600)(hLT:LT w) :
 Calls prog 135 #[.agg #[.bool neg,v]] w fun e w'=>e=.returned (.string (Cb neg l))/\Up w w':=by
 by_cases h:l.length=0
 ·obtain⟨a,cap,rfl,_⟩:=hI;rw[h];refine (RM neg a cap w).mono ?_;rintro e w' ⟨rfl,d⟩;exact⟨by unfold Cb;rw[if_pos h];rfl,d⟩
 refine (LX B neg v l w hI (by omega) hlen hLT).mono ?_;rintro e w' ⟨rfl,d⟩;exact⟨by unfold Cb;rw[if_neg h],d⟩
theorem LT.bl (h:LT w)(hb:Up w w'):LT w':=fun j hj=>(hb.cell (p:=⟨7,j,none⟩) (Mq h)).trans (h j hj)
theorem Hv (L A:List Nat)(k j:Nat)(h:L.drop k=A.drop k)(hj:k<=j):L.getD j 0=A.getD j 0:=by
 have e:∀ M:List Nat,M.getD j 0=(M.drop k).getD (j - k) 0:=fun M=>by rw[Ji,Ji,Vl,Nat.add_sub_cancel' hj]
 rw[e L,e A,h]
theorem Xx (L:List Nat)(k j x:Nat)(h:k≠j):(L.set k x).getD j 0=L.getD j 0:=by
 rw[Ji,Ji,List.getElem?_set_ne h]
theorem N5 (n:Nat):val (List.replicate n 0)=0:=by
 induction n with
 | zero=>rfl
 | succ n ih=>simp[List.replicate_succ,val,ih]
theorem ZF (V VN VL Va Vb P Q c x:Nat)(h0:V=Va*Vb)(h1:VL+Q*c=V+P*(x*Vb))(h2:VN+Q*0=VL+Q*c):VN=(Va+P*x)*Vb:=by
 rw[Zq,Y5,<-h0];omega
theorem T8 (B:Nat)(va vb:Value)(a b:List Nat)(w:World)(ha:Kn B w va a)(hb:Kn B w vb b)(hla:a.length<=100000)(hlb:b.length<=100000) :
 Calls prog 182 #[va,vb] w fun e w'=>∃ v L,e=.returned v/\Kn w.heap.size w' v L/\val L=val a*val b/\L.length<=a.length+b.length/\Oq L/\Up w w':=by
 obtain⟨i0,b7,e1,e2,e3⟩:=info_parts info_u32;obtain⟨pa,ca,rfl,_⟩:=id ha;obtain⟨pb,cb,rfl,_⟩:=id hb;obtain⟨_,_,_,a7,F⟩:=ha.cells;obtain⟨_,_,_,b3,b4⟩:=hb.cells;have HA:=Hd F;have HB:=Hd b4;clear F b4 ha hb
 go_in
 go_wp2_with (at_make;refine wpList_make_full _ rfl _ _ 70 rfl w.heap.size 127 i0 (.int .u32 0) 1 underlying70 b7 e1 e2 .i64 .i64 _ _ (a.length+b.length) rfl rfl ?m0 ?m1 ?m2 ?m3 ?m4 ?_)
 try (case m0=>first|rfl|omega)
 try (case m1=>first|rfl|omega)
 try (case m2=>(first|omega|(rw[e3];omega)))
 try (case m3=>(unfold maxLen;omega))
 try (case m4=>exact O1)
 intro w1 E b5
 first|rw[Ee] at E|rw[K7] at E
 have J:Kv w1 w.heap.size (List.replicate (a.length+b.length) 0):=(Kt E).tail;have a6:Up w w1:=(Jj _ _).grown b5 O1 (fun k h=>by cases h);clear E b5
 go_wp2
 go_loopw [16] (fun iv wr=>∃ (i:Nat) (L:List Nat),i<=a.length/\L.length=a.length+b.length/\Kx L/\Kv wr w.heap.size L/\(∀ j,i+b.length<=j->L.getD j 0=0)/\iv=.int .i64 i /\
  val L=val (a.take i)*val b/\Up w wr) (fun iv _=>a.length - (intOf iv).toNat)
 case atStart=>exact⟨0,_,by omega,by simp,fun x hx=>by rw[Yu hx];omega,J,fun j hj=>by simp[List.getD_eq_getElem?_getD,List.getElem?_replicate];split<;>rfl,rfl,by simp[N5,val],a6⟩
 clear J a6;obtain⟨i,L,hi,d7,D,J,T,rfl,d,Z⟩:=hrel
 by_cases b6:i<a.length
 ·obtain⟨ba,oa,rfl,b8,F⟩:=HA.o i b6;rw[<-Z.cell (p:=⟨ba,oa+i,none⟩) b8] at F;have c6:=Kk a a7 i b6;have V:Hid (val (a.take (i+1))=val (a.take i)+1000000000 ^ i*a.getD i 0):=Oz a i;obtain⟨x,hx⟩:=O2 (a.getD i 0);rw[hx] at F c6 V;have HR:=Hd J;have Y:=Hd T;have HV:=Hd d;have U:=Hd Z;have d2:=Hd D;clear J T d Z D hx
  go_wp2_with fail
  refine (Xm w.heap.size i _ x _ pb cb L b _ HR.o d2.o (by omega) (by omega) b3 rfl (by omega) c6 ?_).mono ?_
  ·intro k hk;obtain⟨c,c7,e,hc,e0⟩:=HB.o k hk;exact⟨c,c7,e,hc,by rw[U.o.cell (p:=⟨c,c7+k,none⟩) hc];exact e0⟩
  rintro e w3 ⟨c,N,rfl,G,d8,I,K,hc,b9,a8⟩;have d9:=G.cell (i+b.length) (by omega);have g3:=G.frozen (i+b.length);have h0:N.getD (i+b.length) 0=0:=(Hv N L (i+b.length) _ K O1).trans (Y.o _ O1);have O:=Rz N (i+b.length) c (by omega);rw[h0] at O;have d5:Hid (val (N.set (i+b.length) c)=val (a.take (i+1))*val b):=by
   unfold Hid
   rw[V.o];exact ZF _ _ _ _ _ _ _ c x HV.o b9 O
  have d3:Hid (Kv (w3.setCell ⟨w.heap.size,i+b.length,none⟩ (.int .u32 (c:Nat))) w.heap.size (N.set (i+b.length) c)):=G.set _ _ (by omega);have d0:Hid (Up w (w3.setCell ⟨w.heap.size,i+b.length,none⟩ (.int .u32 (c:Nat)))):=(U.o.trans a8).setCell O1 _;have H:Hid (Kx (N.set (i+b.length) c)/\(N.set (i+b.length) c).length=a.length+b.length):=⟨Kp N I _ _ (by omega),by simp;omega⟩;have d6:Hid (∀ j,i+1+b.length<=j->(N.set (i+b.length) c).getD j 0=0):=fun j hj=>by
   rw[Xx _ _ _ _ (by omega),Hv N L (i+b.length) j K (by omega)];exact Y.o j (by omega)
  have g2:c<1000000000:=by omega
  clear G d8 I K hc b9 a8 h0 O
  go_wp2
  go_roundw
  case rel=>exact⟨i+1,N.set (i+b.length) c,by omega,H.o.2,H.o.1,d3.o,d6.o,by go_num,d5.o,d0.o⟩
  simp[intOf];omega
 obtain rfl:i=a.length:=by omega
 rw[Jf O1] at d;have hI:Kn w.heap.size wr (.slice (some ⟨w.heap.size,0,none⟩) (a.length+b.length) (a.length+b.length)) L:=by
  have h:=J.isL (B:=w.heap.size) (cap:=a.length+b.length) O1 D (by omega) (by unfold maxLen;omega);rw[d7] at h;exact h
 have HI:=Hd hI;have HT:Hid (val (Ov L)=val a*val b/\(Ov L).length<=a.length+b.length/\Oq (Ov L)):=⟨by rw[O9];exact d,by have:=Kl L;omega,O8 _⟩;have d1:=Hd Z;clear d J Z D T hI
 go_wp2_with fail
 refine (E6 w.heap.size _ L _ HI.o).mono ?_;rintro e w5 ⟨v,rfl,hcut,rfl⟩;have HW:Hid (Kn w.heap.size w5 v (Ov L)):=hcut _ _ HI.o;obtain⟨pv,cv,hv,_⟩:=HW.o;subst hv;clear hcut
 go_wp2
 go_ret
 exact⟨_,_,rfl,HW.o,HT.o.1,HT.o.2.1,HT.o.2.2,d1.o⟩
theorem AG (n k:Nat)(h0:n / 1000000000 ^ k=0)(h1:k=0∨n / 1000000000 ^ (k - 1)≠0):Oq (wl n k):=by
 intro d
 cases k with
 | zero=>exact absurd rfl d
 | succ k=>
   have j:n / 1000000000 ^ k≠0:=by
    rcases h1 with h|h
    ·omega
    rwa [Vm] at h
   have e:(wl n (k+1)).getLast d=n / 1000000000 ^ k % 1000000000:=by simp[Ww]
   rw[e];rw[Ju,<-Vf] at h0;omega
theorem As (n:Nat)(w:World)(hn:n<18446744073709551616) :
 Calls prog 168 #[.int .u64 (n:Nat)] w fun e w'=>∃ v k,e=.returned v/\k<=3/\Kn w.heap.size w' v (wl n k)/\val (wl n k)=n/\(n / 1000000000 ^ k=0/\(k=0∨n / 1000000000 ^ (k - 1)≠0))/\Up w w':=by
 obtain⟨i0,H,V,Y,Z⟩:=info_parts info_u32;have HN:=Hd hn;clear hn
 go_in
 go_wp2
 go_loopw [0,3] (fun q v wr=>∃ k:Nat,(k<=3/\(k=0∨n / 1000000000 ^ (k - 1)≠0))/\q=.int .u64 (n / 1000000000 ^ k:Nat) /\
  wr.ownsRow w.heap.size 127 1 v k ((wl n k).map (fun x=>Value.int .u32 (x:Nat)))/\Up w wr) (fun q _ _=>(intOf q).toNat)
 case atStart=>exact⟨0,⟨by omega,.inl rfl⟩,O5 (by simp),Vi _ _ _ _,Jj _ _⟩
 obtain⟨k,⟨hk,I⟩,rfl,d,F⟩:=hrel;have J:=Hd I;clear I;obtain⟨q,hq⟩:=O2 (n / 1000000000 ^ k);have E:=Hd hq;rw[hq];clear hq
 by_cases G:q=0
 ·have HV:Hid (val (wl n k)=n):=by
   unfold Hid
   have:=WY n k;rw[E.o,G] at this
   simpa using this
  have hL:Kn w.heap.size wr u3 (wl n k):=Xq (e:=127) (by rw[Fm];exact d) (JX n k);have HL:=Hd hL;have HB:=Hd F;have O:Hid (n / 1000000000 ^ k=0):=E.o.trans G;clear hL d F;subst G
  go_wp2
  go_ret
  exact⟨_,k,rfl,hk,HL.o,HV.o,⟨O.o,J.o⟩,HB.o⟩
 have d0:k<3:=by
  apply Classical.byContradiction;intro hc;obtain rfl:k=3:=by omega
  have:=E.o;have h3:(1000000000:Nat) ^ 3=1000000000000000000000000000:=by decide
  rw[h3] at this;have:=HN.o;omega
 obtain⟨x,U⟩:∃ x:Int,(q:Int)=x:=⟨_,rfl⟩;have HX:=Hd U;rw[U];have x0:0<x:=by omega
 have x1:x<18446744073709551616:=by
  have h1:=Nat.div_le_self n (1000000000 ^ k);rw[E.o] at h1;have:=HN.o;omega
 have HM:Hid (x % 1000000000=(n / 1000000000 ^ k % 1000000000:Nat)):=by unfold Hid;rw[E.o,<-HX.o];rfl
 have HD:Hid (x / 1000000000=(n / 1000000000 ^ (k+1):Nat)):=by
  unfold Hid
  rw[Ju,<-Vf,E.o,<-HX.o];rfl
 have K:Hid (n / 1000000000 ^ k≠0):=by unfold Hid;rw[E.o];exact G
 clear U G
 go_wp2_with (at_builtin;refine wpList_append_own _ rfl _ _ 70 rfl w.heap.size 127 i0 (.int .u32 0) 1 4 underlying70 H V Y Z rfl (by decide) _ _ _ rfl (d.alloc _) ⟨wr.heap.size,0,none⟩ 1 1 [_] rfl rfl (cell_one_new _ _ _) ?c2 ?c3 ?c4 ?c5 ?_)
 case c2=>first|rfl|(intro u hu;simp at hu;subst hu;rfl)
 case c3=>unfold maxLen;omega
 case c4=>omega
 case c5=>have:=F.size;simp;omega
 intro v' w1 D j _;have T:Up w w1:=(F.alloc F.size _).grown j (by have:=F.size;simp;omega) (fun q hq=>(d.lt q hq).1);have HO:Hid (w1.ownsRow w.heap.size 127 1 v' (k+1) ((wl n (k+1)).map (fun x=>Value.int .u32 (x:Nat)))):=by
  unfold Hid
  rw[Ww,Zc,Vc,Vs,<-HM.o];exact D
 clear j d F D
 go_wp2
 go_roundw
 case rel=>exact⟨k+1,⟨by omega,.inr (by rw[Vm];exact K.o)⟩,O5 HD.o,HO.o,T⟩
 simp[intOf];omega
theorem Q5 (n:Nat)(w:World)(hn:n<18446744073709551616) :
 Calls prog 168 #[.int .u64 (n:Nat)] w fun e w'=>∃ v t,e=.returned v/\Kn w.heap.size w' v t/\Oq t/\val t=n/\t.length<=3/\Up w w':=by
 refine (As n w hn).mono ?_;rintro e w' ⟨v,k,rfl,F,D,G,⟨d,j⟩,E⟩;exact⟨v,_,rfl,D,AG n k d j,G,by rw[Fm];exact F,E⟩
structure Only (R:Nat)(w w':World):Prop where
 bl:Below R w w'
 block:∀ k,k<w.heap.size->k≠R->w'.heap[k]? = w.heap[k]?
theorem Only.refl (R:Nat)(w:World):Only R w w:=⟨Jj _ _,fun _ _ _=>rfl⟩
theorem Only.trans {a b c:World}(h:Only R a b)(k:Only R b c):Only R a c:=
 ⟨h.bl.trans k.bl,fun i hi hn=>(k.block i (Js hi h.bl.size) hn).trans (h.block i hi hn)⟩
theorem Only.of (h:Up w w')(hR:R<=w.heap.size):Only R w w':=⟨h.mono hR,fun k hk _=>h.block k hk⟩
theorem Only.setCell (h:Only R w w')(i:Nat)(u:Value):Only R w (w'.setCell ⟨R,i,none⟩ u):=
 ⟨h.bl.setCell O1 u,fun k hk hn=>by
  refine Eq.trans ?_ (h.block k hk hn)
  show (w'.heap.modify R _)[k]? = _
  rw[U3,if_neg (fun e=>hn e.symm)]⟩
theorem Only.cell (h:Only R w w'){p:Addr}(hp:p.block<w.heap.size)(hn:p.block≠R):w'.cell? p=w.cell? p:=by
 unfold World.cell?;rw[h.block _ hp hn]
theorem Only.rowT {D:Nat}{l:List Nat}(h:Only R w w')(hD:D≠R)(hr:Kv w D l):Kv w' D l:=by
 have d:=hr.lt;obtain⟨t,hr⟩:=hr;exact⟨t,(h.block D d hD).trans hr⟩
theorem IT (L:List Nat)(off i x:Nat):(L.set (off+i) x).drop off=(L.drop off).set i x:=by
 rw[List.drop_set,if_neg (by omega),Nat.add_sub_cancel_left]
theorem Iw (A:List Nat)(off i:Nat):(A.drop off).getD i 0=A.getD (off+i) 0:=by
 rw[Ji,Ji,Vl]
theorem Px (L A:List Nat)(off i x:Nat)(h:L.take off=A.take off):(L.set (off+i) x).take off=A.take off:=by
 rw[List.take_set_of_le (by omega),h]
theorem Xl (L:List Nat)(off i x:Nat)(hi:off+i<L.length):val (((L.set (off+i) x).drop off).take (i+1))=val ((L.drop off).take i)+1000000000 ^ i*x:=by
 rw[IT,Ky _ _ _ (by simp;omega)]
theorem Hg (A:List Nat)(off i:Nat):val ((A.drop off).take (i+1))=val ((A.drop off).take i)+1000000000 ^ i*A.getD (off+i) 0:=by
 rw[Oz,Iw]
theorem Ll (R off cap f:Nat)(pb:Option Addr)(cb:Nat)(A b:List Nat)(w:World)(hR:Kv w R A)(hAok:Kx A)(hn:off+b.length<=A.length)(hA:A.length<=1000000)(hbok:Kx b)(hf:f<=1000000000)
 (hcb:∀ i,i<b.length->∃ c off,pb=some ⟨c,off,none⟩/\(c<w.heap.size/\c≠R)/\w.cell? ⟨c,off+i,none⟩=some (.int .u32 (b.getD i 0:Nat))) :
 Calls prog 217 #[.slice (some ⟨R,off,none⟩) b.length cap,.slice pb b.length cb,.int .u64 (f:Nat)] w fun e w'=>∃ c L,e=.returned (.int .u64 (c:Nat))/\Kv w' R L/\L.length=A.length/\Kx L/\L.drop (off+b.length)=A.drop (off+b.length)/\L.take off=A.take off/\c<=f /\
  val ((L.drop off).take b.length)+f*val b=val ((A.drop off).take b.length)+1000000000 ^ b.length*c/\Only R w w':=by
 have HB:=Hd hcb;clear hcb
 go_in
 go_wp2
 go_loopw [7,12] (fun cv iv wr=>∃ (i c:Nat) (L:List Nat),i<=b.length/\c<=f/\L.length=A.length/\Kx L/\Kv wr R L/\L.drop (off+i)=A.drop (off+i)/\L.take off=A.take off/\cv=.int .u64 (c:Nat)/\iv=.int .i64 i /\
  val ((L.drop off).take i)+f*val (b.take i)=val ((A.drop off).take i)+1000000000 ^ i*c/\Only R w wr) (fun _ iv _=>b.length - (intOf iv).toNat)
 case atStart=>exact⟨0,0,A,by omega,by omega,rfl,hAok,hR,rfl,rfl,rfl,rfl,by simp[val],Only.refl _ _⟩
 clear hR;obtain⟨i,c,L,hi,c6,b9,D,hR,I,J,rfl,rfl,j,Z⟩:=hrel;have hc:c<=1000000000:=by omega
 by_cases d2:i<b.length
 ·have H:=hR.cell (off+i) (by omega);have hx:=Qo L A (off+i) I;have c7:=Kk A hAok (off+i) (by omega);rw[hx] at H;clear hx;obtain⟨x,hx⟩:=O2 (A.getD (off+i) 0);rw[hx] at c7 H;obtain⟨bb,ob,rfl,a8,hcb⟩:=HB.o i d2;rw[<-Z.cell (p:=⟨bb,ob+i,none⟩) a8.1 a8.2] at hcb;have c8:=Kk b hbok i d2;obtain⟨y,hy⟩:=O2 (b.getD i 0);rw[hy] at hcb c8;obtain⟨F,hF⟩:=O2 (f*y);have d1:F<=f*999999999:=by rw[<-hF];exact Jz f (by omega)
  obtain⟨X,hX⟩:∃ X:Int,(x:Int)=X:=⟨_,rfl⟩;have V:=Hd hX;have x1:0<=X:=by omega
  have x2:X<1000000000:=by omega
  rw[hX] at H;obtain⟨C,hC⟩:∃ C:Int,(c:Int)=C:=⟨_,rfl⟩;have HC:=Hd hC;have c1:0<=C:=by omega
  have c2:C<=1000000000:=by omega
  rw[hC];obtain⟨G,hG⟩:∃ G:Int,(f:Int)=G:=⟨_,rfl⟩;rw[hG];obtain⟨Y,hY⟩:∃ Y:Int,(y:Int)=Y:=⟨_,rfl⟩;have T:(F:Int)=G*Y:=by rw[<-hF,<-hG,<-hY];rfl
  have E:=Hd T;have g1:0<=G*Y:=by rw[<-T];omega
  have g2:G*Y<=999999999000000000:=by rw[<-T];omega
  have y1:0<=Y:=by omega
  have y2:Y<1000000000:=by omega
  rw[hY] at hcb
  by_cases a6:x<(c+F) % 1000000000
  ·skip
   have U:=G6 (1000000000 ^ i) _ _ _ c x y (x+1000000000 - (c+F) % 1000000000) ((c+F) / 1000000000+1) f j (by rw[hF];omega);have b8:Hid (val (((L.set (off+i) (x+1000000000 - (c+F) % 1000000000)).drop off).take (i+1))+f*val (b.take (i+1))=val ((A.drop off).take (i+1))+1000000000 ^ (i+1)*((c+F) / 1000000000+1)):=by
    unfold Hid
    rw[Xl L off i _ (by omega),Hg,Oz,hx,hy,Ju];exact U
   have d8:=hR.frozen (off+i);have b7:Hid (∀ (u:Nat) (v:Int) (hv:v=(((x+1000000000 - (c+F) % 1000000000):Nat):Int)),Kv ((wr.setCell ⟨R,off+i,none⟩ (.int .u32 (X+1000000000))).setCell ⟨R,off+i,none⟩ (.int .u32 v)) R (L.set (off+i) (x+1000000000 - (c+F) % 1000000000))):=fun u v hv=>by
    have e:X+1000000000=((x+1000000000:Nat):Int):=by have:=V.o;omega
    have h:=(hR.set (off+i) (x+1000000000) (by omega)).set (off+i) (x+1000000000 - (c+F) % 1000000000) (by simp;omega);rw[Ok] at h;rw[hv,e];exact h
   have b6:Hid (∀ v:Int,v=(((x+1000000000 - (c+F) % 1000000000):Nat):Int)->Kv (wr.setCell ⟨R,off+i,none⟩ (.int .u32 v)) R (L.set (off+i) (x+1000000000 - (c+F) % 1000000000))):=fun v hv=>by
    rw[hv];exact hR.set (off+i) _ (by omega)
   have K:Hid (∀ u v,Only R w (wr.setCell ⟨R,off+i,none⟩ u)/\Only R w ((wr.setCell ⟨R,off+i,none⟩ u).setCell ⟨R,off+i,none⟩ v)):=fun u v=>⟨Z.setCell _ u,(Z.setCell _ u).setCell _ v⟩;have b5:Hid (Kx (L.set (off+i) (x+1000000000 - (c+F) % 1000000000))):=Kp L D (off+i) _ (by omega);have O:Hid ((L.set (off+i) (x+1000000000 - (c+F) % 1000000000)).drop (off+(i+1))=A.drop (off+(i+1))/\(L.set (off+i) (x+1000000000 - (c+F) % 1000000000)).take off=A.take off):=⟨Kb L A (off+i) _ I,Px L A off i _ J⟩;have b4:Hid (((c+F) / 1000000000+1)<=f):=by
    unfold Hid
    omega
   have t1:X<(C+G*Y) % 1000000000:=by have:=V.o;have:=HC.o;have:=E.o;omega
   have d:Hid _:=a6;clear U j hx hy hR Z D I J hX c7 a6 hC hG hY T c8 hF d1 hc c6
   go_wp2
   go_roundw
   case rel=>
    refine⟨i+1,((c+F) / 1000000000+1),L.set (off+i) (x+1000000000 - (c+F) % 1000000000),by omega,b4.o,by simp[b9],b5.o,?_,O.o.1,O.o.2,?_,by go_num,b8.o,?_⟩
    ·have key:∀ v:Int,v=(((x+1000000000 - (c+F) % 1000000000):Nat):Int)->v=(((x+1000000000 - (c+F) % 1000000000):Nat):Int):=fun _ h=>h
     first
      | exact b6.o _ (key _ (by have:=V.o;have:=HC.o;have:=d.o;have:=E.o;omega))
      | exact b7.o 0 _ (key _ (by have:=V.o;have:=HC.o;have:=d.o;have:=E.o;omega))
    ·congr 1;have:=V.o;have:=HC.o;have:=d.o;have:=E.o;omega
    first|exact (K.o _ (.bool true)).1|exact (K.o _ _).2
   simp[intOf];omega
  skip
  have U:=G6 (1000000000 ^ i) _ _ _ c x y (x - (c+F) % 1000000000) ((c+F) / 1000000000) f j (by rw[hF];omega);have b8:Hid (val (((L.set (off+i) (x - (c+F) % 1000000000)).drop off).take (i+1))+f*val (b.take (i+1))=val ((A.drop off).take (i+1))+1000000000 ^ (i+1)*((c+F) / 1000000000)):=by
   unfold Hid
   rw[Xl L off i _ (by omega),Hg,Oz,hx,hy,Ju];exact U
  have d8:=hR.frozen (off+i);have b7:Hid (∀ (u:Nat) (v:Int) (hv:v=(((x - (c+F) % 1000000000):Nat):Int)),Kv ((wr.setCell ⟨R,off+i,none⟩ (.int .u32 (X+1000000000))).setCell ⟨R,off+i,none⟩ (.int .u32 v)) R (L.set (off+i) (x - (c+F) % 1000000000))):=fun u v hv=>by
   have e:X+1000000000=((x+1000000000:Nat):Int):=by have:=V.o;omega
   have h:=(hR.set (off+i) (x+1000000000) (by omega)).set (off+i) (x - (c+F) % 1000000000) (by simp;omega);rw[Ok] at h;rw[hv,e];exact h
  have b6:Hid (∀ v:Int,v=(((x - (c+F) % 1000000000):Nat):Int)->Kv (wr.setCell ⟨R,off+i,none⟩ (.int .u32 v)) R (L.set (off+i) (x - (c+F) % 1000000000))):=fun v hv=>by
   rw[hv];exact hR.set (off+i) _ (by omega)
  have K:Hid (∀ u v,Only R w (wr.setCell ⟨R,off+i,none⟩ u)/\Only R w ((wr.setCell ⟨R,off+i,none⟩ u).setCell ⟨R,off+i,none⟩ v)):=fun u v=>⟨Z.setCell _ u,(Z.setCell _ u).setCell _ v⟩;have b5:Hid (Kx (L.set (off+i) (x - (c+F) % 1000000000))):=Kp L D (off+i) _ (by omega);have O:Hid ((L.set (off+i) (x - (c+F) % 1000000000)).drop (off+(i+1))=A.drop (off+(i+1))/\(L.set (off+i) (x - (c+F) % 1000000000)).take off=A.take off):=⟨Kb L A (off+i) _ I,Px L A off i _ J⟩;have b4:Hid (((c+F) / 1000000000)<=f):=by
   unfold Hid
   omega
  have t1:(C+G*Y) % 1000000000<=X:=by have:=V.o;have:=HC.o;have:=E.o;omega
  have d:Hid _:=a6;clear U j hx hy hR Z D I J hX c7 a6 hC hG hY T c8 hF d1 hc c6
  go_wp2
  go_roundw
  case rel=>
   refine⟨i+1,((c+F) / 1000000000),L.set (off+i) (x - (c+F) % 1000000000),by omega,b4.o,by simp[b9],b5.o,?_,O.o.1,O.o.2,?_,by go_num,b8.o,?_⟩
   ·have key:∀ v:Int,v=(((x - (c+F) % 1000000000):Nat):Int)->v=(((x - (c+F) % 1000000000):Nat):Int):=fun _ h=>h
    first
     | exact b6.o _ (key _ (by have:=V.o;have:=HC.o;have:=d.o;have:=E.o;omega))
     | exact b7.o 0 _ (key _ (by have:=V.o;have:=HC.o;have:=d.o;have:=E.o;omega))
   ·congr 1;have:=V.o;have:=HC.o;have:=d.o;have:=E.o;omega
   first|exact (K.o _ (.bool true)).1|exact (K.o _ _).2
  simp[intOf];omega
 obtain rfl:i=b.length:=by omega
 rw[Jf (Nat.le_refl b.length)] at j;have HE:Hid (Kv wr R L/\L.length=A.length/\Kx L/\L.drop (off+b.length)=A.drop (off+b.length)/\L.take off=A.take off/\val ((L.drop off).take b.length)+f*val b=val ((A.drop off).take b.length)+1000000000 ^ b.length*c/\Only R w wr):=⟨hR,b9,D,I,J,j,Z⟩;clear j hR Z D I J
 go_wp2
 go_ret
 obtain⟨e1,e2,e3,e4,e5,e6,e7⟩:=HE.o;exact⟨c,L,rfl,e1,e2,e3,e4,e5,c6,e6,e7⟩
theorem Ap (R off cap:Nat)(pb:Option Addr)(cb:Nat)(A b:List Nat)(w:World)(hR:Kv w R A)(hAok:Kx A)(hn:off+b.length<=A.length)(hA:A.length<=1000000)(hbok:Kx b)
 (hcb:∀ i,i<b.length->∃ c off,pb=some ⟨c,off,none⟩/\(c<w.heap.size/\c≠R)/\w.cell? ⟨c,off+i,none⟩=some (.int .u32 (b.getD i 0:Nat))) :
 Calls prog 215 #[.slice (some ⟨R,off,none⟩) b.length cap,.slice pb b.length cb] w fun e w'=>∃ c L,e=.returned (.int .u32 (c:Nat))/\Kv w' R L/\L.length=A.length/\Kx L/\L.drop (off+b.length)=A.drop (off+b.length)/\L.take off=A.take off/\c<=1 /\
  val ((L.drop off).take b.length)+1000000000 ^ b.length*c=val ((A.drop off).take b.length)+val b/\Only R w w':=by
 have HB:=Hd hcb;clear hcb
 go_in
 go_wp2
 go_loopw [5,10] (fun cv iv wr=>∃ (i c:Nat) (L:List Nat),i<=b.length/\c<=1/\L.length=A.length/\Kx L/\Kv wr R L/\L.drop (off+i)=A.drop (off+i)/\L.take off=A.take off/\cv=.int .u32 (c:Nat)/\iv=.int .i64 i /\
  val ((L.drop off).take i)+1000000000 ^ i*c=val ((A.drop off).take i)+val (b.take i)/\Only R w wr) (fun _ iv _=>b.length - (intOf iv).toNat)
 case atStart=>exact⟨0,0,A,by omega,by omega,rfl,hAok,hR,rfl,rfl,rfl,rfl,by simp[val],Only.refl _ _⟩
 clear hR;obtain⟨i,c,L,hi,hc,a7,j,hR,E,F,rfl,rfl,d,hB⟩:=hrel
 by_cases b4:i<b.length
 ·have D:=hR.cell (off+i) (by omega);have O:=Qo L A (off+i) E;have a8:=Kk A hAok (off+i) (by omega);rw[O] at D;clear O;obtain⟨x,O⟩:=O2 (A.getD (off+i) 0);rw[O] at a8 D;obtain⟨bb,ob,rfl,K,hcb⟩:=HB.o i b4;rw[<-hB.cell (p:=⟨bb,ob+i,none⟩) K.1 K.2] at hcb;have b3:=Kk b hbok i b4;obtain⟨y,hy⟩:=O2 (b.getD i 0);rw[hy] at hcb b3;obtain⟨X,hX⟩:∃ X:Int,(x:Int)=X:=⟨_,rfl⟩;have HX:=Hd hX;have x1:0<=X:=by omega
  have x2:X<1000000000:=by omega
  rw[hX] at D;obtain⟨C,hC⟩:∃ C:Int,(c:Int)=C:=⟨_,rfl⟩;have HC:=Hd hC;have c1:0<=C:=by omega
  have c2:C<=1:=by omega
  rw[hC];obtain⟨Y,hY⟩:∃ Y:Int,(y:Int)=Y:=⟨_,rfl⟩;have HY:=Hd hY;have y1:0<=Y:=by omega
  have y2:Y<1000000000:=by omega
  rw[hY] at hcb
  by_cases J:1000000000<=x+c+y
  ·skip
   have I:=Ij (1000000000 ^ i) _ _ _ c x y (x+c+y - 1000000000) 1 d (by omega);have Z:Hid (val (((L.set (off+i) (x+c+y - 1000000000)).drop off).take (i+1))+1000000000 ^ (i+1)*1=val ((A.drop off).take (i+1))+val (b.take (i+1))):=by
    unfold Hid
    rw[Xl L off i _ (by omega),Hg,Oz,O,hy,Ju];exact I
   have c8:=hR.frozen (off+i);have V:Hid (∀ v:Int,v=(((x+c+y - 1000000000):Nat):Int)->Kv (wr.setCell ⟨R,off+i,none⟩ (.int .u32 v)) R (L.set (off+i) (x+c+y - 1000000000))):=fun v hv=>by
    rw[hv];exact hR.set (off+i) _ (by omega)
   have T:Hid (∀ u,Only R w (wr.setCell ⟨R,off+i,none⟩ u)):=fun u=>hB.setCell _ u;have U:Hid (Kx (L.set (off+i) (x+c+y - 1000000000))):=Kp L j (off+i) _ (by omega);have G:Hid ((L.set (off+i) (x+c+y - 1000000000)).drop (off+(i+1))=A.drop (off+(i+1))/\(L.set (off+i) (x+c+y - 1000000000)).take off=A.take off):=⟨Kb L A (off+i) _ E,Px L A off i _ F⟩;have t1:1000000000<=X+C+Y:=by have:=HX.o;have:=HC.o;have:=HY.o;omega
   have H:Hid _:=J;clear I d O hy hR hB j E F hX a8 J hC hY b3
   go_wp2
   go_roundw
   case rel=>exact⟨i+1,1,L.set (off+i) (x+c+y - 1000000000),by omega,by omega,by simp[a7],U.o,V.o _ (by have:=H.o;have:=HX.o;have:=HC.o;have:=HY.o;omega),G.o.1,G.o.2,rfl,by go_num,Z.o,T.o _⟩
   simp[intOf];omega
  skip
  have I:=Ij (1000000000 ^ i) _ _ _ c x y (x+c+y) 0 d (by omega);have Z:Hid (val (((L.set (off+i) (x+c+y)).drop off).take (i+1))+1000000000 ^ (i+1)*0=val ((A.drop off).take (i+1))+val (b.take (i+1))):=by
   unfold Hid
   rw[Xl L off i _ (by omega),Hg,Oz,O,hy,Ju];exact I
  have c8:=hR.frozen (off+i);have V:Hid (∀ v:Int,v=(((x+c+y):Nat):Int)->Kv (wr.setCell ⟨R,off+i,none⟩ (.int .u32 v)) R (L.set (off+i) (x+c+y))):=fun v hv=>by
   rw[hv];exact hR.set (off+i) _ (by omega)
  have T:Hid (∀ u,Only R w (wr.setCell ⟨R,off+i,none⟩ u)):=fun u=>hB.setCell _ u;have U:Hid (Kx (L.set (off+i) (x+c+y))):=Kp L j (off+i) _ (by omega);have G:Hid ((L.set (off+i) (x+c+y)).drop (off+(i+1))=A.drop (off+(i+1))/\(L.set (off+i) (x+c+y)).take off=A.take off):=⟨Kb L A (off+i) _ E,Px L A off i _ F⟩;have t1:X+C+Y<1000000000:=by have:=HX.o;have:=HC.o;have:=HY.o;omega
  have H:Hid _:=J;clear I d O hy hR hB j E F hX a8 J hC hY b3
  go_wp2
  go_roundw
  case rel=>exact⟨i+1,0,L.set (off+i) (x+c+y),by omega,by omega,by simp[a7],U.o,V.o _ (by have:=H.o;have:=HX.o;have:=HC.o;have:=HY.o;omega),G.o.1,G.o.2,rfl,by go_num,Z.o,T.o _⟩
  simp[intOf];omega
 obtain rfl:i=b.length:=by omega
 rw[Jf (Nat.le_refl b.length)] at d;have HE:Hid (Kv wr R L/\L.length=A.length/\Kx L/\L.drop (off+b.length)=A.drop (off+b.length)/\L.take off=A.take off/\val ((L.drop off).take b.length)+1000000000 ^ b.length*c=val ((A.drop off).take b.length)+val b/\Only R w wr):=⟨hR,a7,j,E,F,d,hB⟩;clear d hR hB j E F
 go_wp2
 go_ret
 obtain⟨e1,e2,e3,e4,e5,e6,e7⟩:=HE.o;exact⟨c,L,rfl,e1,e2,e3,e4,e5,hc,e6,e7⟩
theorem QZ (P VL VN c m x Va d c' F:Nat)(h:VL+P*c=Va*m)(hs:VN+P*0=VL+P*d)(hF:x*m=F)(hd:d+1000000000*c'=F+c):VN+P*1000000000*c'=(Va+P*x)*m:=by
 have j:P*(d+1000000000*c')=P*(F+c):=by rw[hd]
 have D:(Va+P*x)*m=Va*m+P*(x*m):=by grind
 rw[D,<-h,hF];rw[Yi,Yi,<-Y5] at j;omega
theorem Qj (B:Nat)(va:Value)(a:List Nat)(m:Nat)(w:World)(ha:Kn B w va a)(hla:a.length<=100000)(hm:m<1000000000) :
 Calls prog 185 #[va,.int .u64 (m:Nat)] w fun e w'=>∃ v L,e=.returned v/\Kn w.heap.size w' v L/\Oq L/\val L=val a*m/\L.length<=a.length+1/\Up w w':=by
 obtain⟨i0,c8,e5,e6,e7⟩:=info_parts info_u32;obtain⟨pa,ca,rfl,_⟩:=id ha;obtain⟨_,_,_,b8,J⟩:=ha.cells;have HA:=Hd J;clear J ha
 go_in
 go_wp2_with (at_make;refine wpList_make_full _ rfl _ _ 70 rfl w.heap.size 127 i0 (.int .u32 0) 1 underlying70 c8 e5 e6 .i64 .i64 _ _ (a.length+1) rfl rfl (by first|rfl|omega) (by first|rfl|omega) (by first|omega|(rw[e7];omega)) (by unfold maxLen;omega) O1 ?_)
 intro w1 E c6
 first|rw[Ee] at E|rw[K7] at E
 have T:Kv w1 w.heap.size (List.replicate (a.length+1) 0):=(Kt E).tail;have b6:Up w w1:=(Jj _ _).grown c6 O1 (fun k h=>by cases h);clear E c6
 go_wp2
 go_loopw [6,16] (fun cv iv wr=>∃ (i c:Nat) (L:List Nat),i<=a.length/\c<=m/\L.length=a.length+1/\Kx L/\Kv wr w.heap.size L/\(∀ j,i<=j->L.getD j 0=0)/\cv=.int .u64 (c:Nat)/\iv=.int .i64 i /\
  val L+1000000000 ^ i*c=val (a.take i)*m/\Up w wr) (fun _ iv _=>a.length - (intOf iv).toNat)
 case atStart=>exact⟨0,0,_,by omega,by omega,by simp,fun x hx=>by rw[Yu hx];omega,T,fun j hj=>by simp[List.getD_eq_getElem?_getD,List.getElem?_replicate];split<;>rfl,rfl,rfl,by simp[N5,val],b6⟩
 clear T b6;obtain⟨i,c,L,hi,e4,b7,D,T,U,rfl,rfl,H,hB⟩:=hrel
 by_cases c7:i<a.length
 ·obtain⟨ba,oa,rfl,d0,J⟩:=HA.o i c7;rw[<-hB.cell (p:=⟨ba,oa+i,none⟩) d0] at J;have d1:=Kk a b8 i c7;have a6:=Oz a i;obtain⟨x,hx⟩:=O2 (a.getD i 0);rw[hx] at J d1 a6;obtain⟨F,hF⟩:=O2 (x*m);have e0:F<=999999999*m:=by rw[<-hF];exact Yc m (by omega)
  have K:=Rz L i ((F+c) % 1000000000) (by omega);rw[U i O1] at K;have d6:Hid (val (L.set i ((F+c) % 1000000000))+1000000000 ^ (i+1)*((F+c) / 1000000000)=val (a.take (i+1))*m):=by
   unfold Hid
   rw[a6,Ju];exact QZ _ _ _ c m x _ _ _ F H K hF (by omega)
  have d:=T.cell i (by omega);have b9:=T.frozen i;have I:Hid (∀ v:Int,v=(((F+c) % 1000000000:Nat):Int)->Kv (wr.setCell ⟨w.heap.size,i,none⟩ (.int .u32 v)) w.heap.size (L.set i ((F+c) % 1000000000))):=fun v hv=>by
   rw[hv];exact T.set i _ (by omega)
  have O:Hid (∀ u,Up w (wr.setCell ⟨w.heap.size,i,none⟩ u)):=fun u=>hB.setCell O1 u;have b4:Hid (Kx (L.set i ((F+c) % 1000000000))/\(L.set i ((F+c) % 1000000000)).length=a.length+1):=⟨Kp L D i _ (Zy _ (by decide)),by simp[b7]⟩;have HZ:Hid (∀ j,i+1<=j->(L.set i ((F+c) % 1000000000)).getD j 0=0):=fun j hj=>by
   rw[Xx _ _ _ _ (by omega)];exact U j (by omega)
  have d4:Hid ((F+c) / 1000000000<=m):=by unfold Hid;omega
  clear H hx T hB D U K a6;obtain⟨X,hX⟩:∃ X:Int,(x:Int)=X:=⟨_,rfl⟩;have x1:0<=X:=by omega
  have x2:X<1000000000:=by omega
  rw[hX] at J;obtain⟨C,hC⟩:∃ C:Int,(c:Int)=C:=⟨_,rfl⟩;have HC:=Hd hC;have c1:0<=C:=by omega
  have c2:C<1000000000:=by omega
  rw[hC];obtain⟨G,hG⟩:∃ G:Int,(m:Int)=G:=⟨_,rfl⟩;rw[hG];have Y:(F:Int)=X*G:=by rw[<-hF,<-hG,<-hX];rfl
  have b3:=Hd Y;have g1:0<=X*G:=by rw[<-Y];omega
  have g2:X*G<=999999999000000000:=by rw[<-Y];omega
  clear hX d1 hC hG Y hF e0 e4
  go_wp2
  go_roundw
  case rel=>exact⟨i+1,(F+c) / 1000000000,L.set i ((F+c) % 1000000000),by omega,d4.o,b4.o.2,b4.o.1,I.o _ (by have:=HC.o;have:=b3.o;omega),HZ.o,(by congr 1;have:=HC.o;have:=b3.o;omega),by go_num,d6.o,O.o _⟩
  simp[intOf];omega
 obtain rfl:i=a.length:=by omega
 rw[Jf O1] at H;have K:=Rz L a.length c (by omega);rw[U _ O1] at K;have d:=T.cell a.length (by omega);have b9:=T.frozen a.length;obtain⟨N,hN⟩:=O2 (L.set a.length c);have V:Hid (val N=val a*m/\Kx N/\N.length=a.length+1):=by
  rw[<-hN];exact⟨by omega,Kp L D _ _ (by omega),by simp[b7]⟩
 have I:Hid (Kv (wr.setCell ⟨w.heap.size,a.length,none⟩ (.int .u32 (c:Nat))) w.heap.size N):=by rw[<-hN];exact T.set _ _ (by omega)
 have O:Hid (Up w (wr.setCell ⟨w.heap.size,a.length,none⟩ (.int .u32 (c:Nat)))):=hB.setCell O1 _;have g4:c<1000000000:=by omega
 clear H K T hB D U hN;obtain⟨W3,Z⟩:=O2 (wr.setCell ⟨w.heap.size,a.length,none⟩ (.int .u32 (c:Nat)));have d7:=Hd Z;rw[Z] at I O;clear Z
 go_wp2
 rw[d7.o];clear d b9;have HI:Hid (∀ k,k<=a.length+1->Ov N=N.take k->Kn w.heap.size W3 (.slice (some ⟨w.heap.size,0,none⟩) k (a.length+1)) (Ov N)):=fun k hk he=>by
  have hl:(Ov N).length=k:=by rw[he,Jm];have:=V.o.2.2;omega
  refine⟨_,a.length+1,by rw[hl],by omega,by unfold maxLen;omega,Ed N V.o.2.1,.inr ⟨w.heap.size,0,rfl,O1,I.o.lt,fun i hi=>?_⟩⟩;rw[Y3,I.o.cell i (by have:=V.o.2.2;omega),Qd N i hi]
 have HT:Hid (Oq (Ov N)/\val (Ov N)=val a*m/\(Ov N).length<=a.length+1):=⟨O8 _,by rw[O9];exact V.o.1,by have:=Kl N;have:=V.o.2.2;omega⟩
 go_loop [9] (fun n=>∃ k:Nat,k<=a.length+1/\n=.int .i64 k/\Ov (N.take k)=Ov N) (fun n=>(intOf n).toNat)
 case atStart=>exact⟨a.length+1,O1,O5 (by omega),by rw[Jf (by have:=V.o.2.2;omega)]⟩
 obtain⟨k,hk,rfl,hp⟩:=hrel;have HP:=Hd hp;clear hp
 cases k with
 | zero=>
   have HE:Hid (Kn w.heap.size W3 (.slice (some ⟨w.heap.size,0,none⟩) 0 (a.length+1)) (Ov N)):=HI.o 0 (by omega) (by rw[<-HP.o];rfl)
   go_wp2
   go_ret
   exact⟨_,rfl,_,HE.o,HT.o.1,HT.o.2.1,HT.o.2.2,O.o⟩
 | succ j=>
   have d:=I.o.cell j (by have:=V.o.2.2;omega);obtain⟨x,hx⟩:=O2 (N.getD j 0);rw[hx] at d;have HX:=Hd hx;clear hx
   by_cases h0:x=0
   ·have hz:((x:Int)==0)=true:=by rw[Jw];omega
    have HE:Hid (Ov (N.take j)=Ov N):=by rw[<-Ew N j (by have:=V.o.2.2;omega) (by rw[HX.o,h0])];exact HP.o
    clear h0
    go_wp2
    go_round
    case rel=>exact⟨j,by omega,O5 (by omega),HE.o⟩
    simp[intOf]
   have hz:((x:Int)==0)=false:=by rw[Jd];omega
   have HE:Hid (Kn w.heap.size W3 (.slice (some ⟨w.heap.size,0,none⟩) (j+1) (a.length+1)) (Ov N)):=HI.o (j+1) hk (HP.o.symm.trans (Nu N j (by have:=V.o.2.2;omega) (by rw[HX.o];exact h0)));clear h0
   go_wp2
   go_ret
   exact⟨_,rfl,_,HE.o,HT.o.1,HT.o.2.1,HT.o.2.2,O.o⟩
theorem Br (B:Nat)(va vb:Value)(a b:List Nat)(w:World)(ha:Kn B w va a)(hb:Kn B w vb b)(hla:a.length<=1000000)(hlb:b.length<=a.length)(hle:val b<=val a) :
 Calls prog 186 #[va,vb] w fun e w'=>∃ L,e=.returned (.slice (some ⟨w.heap.size,0,none⟩) a.length a.length)/\Kn w.heap.size w' (.slice (some ⟨w.heap.size,0,none⟩) a.length a.length) L/\val L+val b=val a/\L.length=a.length/\Up w w':=by
 obtain⟨i0,b7,d3,d4,d5⟩:=info_parts info_u32;obtain⟨pa,ca,rfl,_⟩:=id ha;obtain⟨pb,cb,rfl,_⟩:=id hb;obtain⟨_,_,_,a7,U⟩:=ha.cells;obtain⟨_,_,_,a8,V⟩:=hb.cells;have HA:=Hd U;have HB:=Hd V;have c8:=Hd hle;clear U V ha hb hle
 go_in
 go_wp2_with (at_make;refine wpList_make_full _ rfl _ _ 70 rfl w.heap.size 127 i0 (.int .u32 0) 1 underlying70 b7 d3 d4 .i64 .i64 _ _ a.length rfl rfl ?m0 ?m1 ?m2 ?m3 ?m4 ?_)
 try (case m0=>first|rfl|omega)
 try (case m1=>first|rfl|omega)
 try (case m2=>(first|omega|(rw[d5];omega)))
 try (case m3=>(unfold maxLen;omega))
 try (case m4=>exact O1)
 intro w1 K b4
 first|rw[Ee] at K|rw[K7] at K
 have E:Hh w1 w.heap.size (List.replicate a.length 0):=Kt K;have a6:Up w w1:=(Jj _ _).grown b4 O1 (fun k h=>by cases h);clear K b4
 go_wp2
 go_loopw [6,14] (fun cv iv wr=>∃ (i c:Nat) (L:List Nat),i<=a.length/\c<=1/\L.length=a.length/\Kx L/\Hh wr w.heap.size L/\cv=.int .i64 (c:Nat)/\iv=.int .i64 i /\
  val (L.take i)+val (b.take i)=val (a.take i)+1000000000 ^ i*c/\Up w wr) (fun _ iv _=>a.length - (intOf iv).toNat)
 case atStart=>exact⟨0,0,_,by omega,by omega,by simp,fun x hx=>by rw[Yu hx];omega,E,rfl,rfl,by simp[val],a6⟩
 clear E a6;obtain⟨i,c,L,hi,hc,O,d,E,rfl,rfl,j,T⟩:=hrel
 by_cases b6:i<a.length
 ·obtain⟨ba,oa,rfl,b8,U⟩:=HA.o i b6;rw[<-T.cell (p:=⟨ba,oa+i,none⟩) b8] at U;have d1:=Kk a a7 i b6;obtain⟨x,hx⟩:=O2 (a.getD i 0);rw[hx] at U d1
  by_cases b5:i<b.length
  ·obtain⟨bb,ob,rfl,b9,V⟩:=HB.o i b5;rw[<-T.cell (p:=⟨bb,ob+i,none⟩) b9] at V;have d2:=Kk b a8 i b5;obtain⟨y,hy⟩:=O2 (b.getD i 0);rw[hy] at V d2
   by_cases b3:x<c+y
   ·have D:=Iu (1000000000 ^ i) _ _ _ c x y (x+1000000000 - c - y) 1 j (by omega);have I:Hid (val ((L.set i (x+1000000000 - c - y)).take (i+1))+val (b.take (i+1))=val (a.take (i+1))+1000000000 ^ (i+1)*1):=by
     unfold Hid
     rw[Ky L i _ (by omega),Oz,Oz,hx,hy,Ju];exact D
    have J:=E.cell i (by omega);have Z:=E.frozen i;have H:Hid (Hh (wr.setCell ⟨w.heap.size,i,none⟩ (.int .u32 (((x+1000000000 - c - y):Nat):Int))) w.heap.size (L.set i (x+1000000000 - c - y))):=E.set i _;have F:Hid (∀ u,Up w (wr.setCell ⟨w.heap.size,i,none⟩ u)):=fun u=>T.setCell O1 u;have G:Hid (Kx (L.set i (x+1000000000 - c - y))):=Kp L d i _ (by omega);clear D j hx hy E T d
    go_wp2
    go_roundw
    case rel=>
     refine⟨i+1,1,L.set i (x+1000000000 - c - y),by omega,by omega,by simp[O],G.o,?_,rfl,by go_num,I.o,F.o _⟩;have h:=H.o;rw[show ((((x+1000000000 - c - y)):Nat):Int)=_ from ?_] at h
     ·exact h
     omega
    simp[intOf];omega
   have D:=Iu (1000000000 ^ i) _ _ _ c x y (x - c - y) 0 j (by omega);have I:Hid (val ((L.set i (x - c - y)).take (i+1))+val (b.take (i+1))=val (a.take (i+1))+1000000000 ^ (i+1)*0):=by
    unfold Hid
    rw[Ky L i _ (by omega),Oz,Oz,hx,hy,Ju];exact D
   have J:=E.cell i (by omega);have Z:=E.frozen i;have H:Hid (Hh (wr.setCell ⟨w.heap.size,i,none⟩ (.int .u32 (((x - c - y):Nat):Int))) w.heap.size (L.set i (x - c - y))):=E.set i _;have F:Hid (∀ u,Up w (wr.setCell ⟨w.heap.size,i,none⟩ u)):=fun u=>T.setCell O1 u;have G:Hid (Kx (L.set i (x - c - y))):=Kp L d i _ (by omega);clear D j hx hy E T d
   go_wp2
   go_roundw
   case rel=>
    refine⟨i+1,0,L.set i (x - c - y),by omega,by omega,by simp[O],G.o,?_,rfl,by go_num,I.o,F.o _⟩;have h:=H.o;rw[show ((((x - c - y)):Nat):Int)=_ from ?_] at h
    ·exact h
    omega
   simp[intOf];omega
  have Y:b.getD i 0=0:=by rw[Ji,Yv (by omega)];rfl
  by_cases b3:x<c
  ·have D:=Iu (1000000000 ^ i) _ _ _ c x 0 (x+1000000000 - c) 1 j (by omega);have I:Hid (val ((L.set i (x+1000000000 - c)).take (i+1))+val (b.take (i+1))=val (a.take (i+1))+1000000000 ^ (i+1)*1):=by
    unfold Hid
    rw[Ky L i _ (by omega),Oz,Oz,hx,Y,Ju];exact D
   have J:=E.cell i (by omega);have Z:=E.frozen i;have H:Hid (Hh (wr.setCell ⟨w.heap.size,i,none⟩ (.int .u32 (((x+1000000000 - c):Nat):Int))) w.heap.size (L.set i (x+1000000000 - c))):=E.set i _;have F:Hid (∀ u,Up w (wr.setCell ⟨w.heap.size,i,none⟩ u)):=fun u=>T.setCell O1 u;have G:Hid (Kx (L.set i (x+1000000000 - c))):=Kp L d i _ (by omega);clear D j hx Y E T d
   go_wp2
   go_roundw
   case rel=>
    refine⟨i+1,1,L.set i (x+1000000000 - c),by omega,by omega,by simp[O],G.o,?_,rfl,by go_num,I.o,F.o _⟩;have h:=H.o;rw[show ((((x+1000000000 - c)):Nat):Int)=_ from ?_] at h
    ·exact h
    omega
   simp[intOf];omega
  have D:=Iu (1000000000 ^ i) _ _ _ c x 0 (x - c) 0 j (by omega);have I:Hid (val ((L.set i (x - c)).take (i+1))+val (b.take (i+1))=val (a.take (i+1))+1000000000 ^ (i+1)*0):=by
   unfold Hid
   rw[Ky L i _ (by omega),Oz,Oz,hx,Y,Ju];exact D
  have J:=E.cell i (by omega);have Z:=E.frozen i;have H:Hid (Hh (wr.setCell ⟨w.heap.size,i,none⟩ (.int .u32 (((x - c):Nat):Int))) w.heap.size (L.set i (x - c))):=E.set i _;have F:Hid (∀ u,Up w (wr.setCell ⟨w.heap.size,i,none⟩ u)):=fun u=>T.setCell O1 u;have G:Hid (Kx (L.set i (x - c))):=Kp L d i _ (by omega);clear D j hx Y E T d
  go_wp2
  go_roundw
  case rel=>
   refine⟨i+1,0,L.set i (x - c),by omega,by omega,by simp[O],G.o,?_,rfl,by go_num,I.o,F.o _⟩;have h:=H.o;rw[show ((((x - c)):Nat):Int)=_ from ?_] at h
   ·exact h
   omega
  simp[intOf];omega
 obtain rfl:i=a.length:=by omega
 have hE:=Wr (1000000000 ^ a.length) c _ _ _ j (by rw[Jf (by omega)];exact Gr L d _ (by omega)) (by rw[Jf (by omega),Jf (by omega)];exact c8.o);rw[Jf (by omega),Jf (by omega),Jf (by omega)] at hE;have HE:=Hd hE;have HL:Hid (Kn w.heap.size wr (.slice (some ⟨w.heap.size,0,none⟩) a.length a.length) L):=by
  have:=E.isL (B:=w.heap.size) (cap:=a.length) O1 d (by omega) (by unfold maxLen;omega);rw[O] at this;exact this
 have c7:=Hd T;clear hE j E T d
 go_wp2
 go_ret
 exact⟨L,rfl,HL.o,HE.o,O,c7.o⟩
end Go.Proofs.YtjjgilacnocigaaGreatDoor.Q
