import Derived.Test.YtipgjenolpofpaaGreatDoorP03
set_option maxRecDepth 100000
set_option maxHeartbeats 8000000
namespace Go.Proofs.YtipgjenolpofpaaGreatDoor.Q
open ChangeShapes WideShapes ChangeAt RowKit Proofs.Tryz
theorem EM (P s:Nat):P*(s % 1000000000)+P*1000000000*(s / 1000000000)=P*s:=by
 rw[Yt,<-Yf,Nat.add_comm,Uc]
theorem Ka (n:Nat):(madeCells #[Value.int .u32 0] n).toList=Nx (List.replicate n 0):=by
 rw[toList_madeCells_one];simp[Nx]
theorem O9 (t:List Nat)(h:okL t)(i:Nat)(hi:i<t.length):t.getD i 0<1000000000:=by
 rw[Jk,Jf hi];exact h _ (Jw _)
theorem Im (P A Bv La c x y:Nat)(h:La+P*c=A+Bv):La+P*((c+x+y) % 1000000000)+P*1000000000*((c+x+y) / 1000000000)=A+P*x+(Bv+P*y):=by
 have d:=EM P (c+x+y);rw[Yf,Yf] at d;omega
theorem VJ (P Q c A Bv V:Nat)(hQ:Q=P*1000000000)(h:V+Q*c=A+Bv)(hA:A<P)(hB:Bv<P):V=A+Bv:=by
 cases c with
 | zero=>rw[Z9] at h;omega
 | succ c=>
   rw[Nat.mul_succ] at h;generalize Q*c=X at h;omega
theorem N1 (a:List Nat)(h:okL a)(n:Nat)(hn:a.length<=n):val a<1000000000 ^ n:=Jz (Gu a h) (Yx (by decide) hn)
theorem YU (B:Nat)(va vb:Value)(a b:List Nat)(w:World)(ha:U1 B w va a)(hb:U1 B w vb b)(hla:a.length<=1000000)(hlb:b.length<=1000000) :
 Calls prog 168 #[va,vb] w fun e w'=>∃ v L,e=.returned v/\U1 w.heap.size w' v L/\val L=val a+val b/\Up w w':=by
 obtain⟨i0,d5,e1,e2,e3⟩:=info_parts info_u32;obtain⟨pa,ca,rfl,_⟩:=id ha;obtain⟨pb,cb,rfl,_⟩:=id hb;obtain⟨_,_,_,b4,V⟩:=ha.cells;obtain⟨_,_,_,b5,Y⟩:=hb.cells;have HA:=Hd V;have HB:=Hd Y;clear V Y ha hb
 by_cases hl:a.length<b.length
 ·have z:decide ((a.length:Int)<b.length)=true:=dT (by omega)
  go_in
  go_wp2_with (at_make;refine wpList_make_full _ rfl _ _ 121 rfl w.heap.size 154 i0 (.int .u32 0) 1 underlying121 d5 e1 e2 .i64 .i64 _ _ (b.length+1) rfl rfl ?pm0 ?pm1 ?pm2 ?pm3 ?pm4 ?_)
  try (case pm0=>omega)
  try (case pm1=>omega)
  try (case pm2=>(first|omega|(rw[e3];omega)))
  try (case pm3=>(unfold maxLen;omega))
  try (case pm4=>exact Of)
  intro w1 J c8
  first|rw[K8] at J|rw[Ka] at J
  have I:Gw w1 w.heap.size (List.replicate (b.length+1) 0):=Kp J;have b9:Up w w1:=(Jh _ _).grown c8 Of (fun k h=>by cases h);clear J c8
  go_wp2
  go_loopw [7,8] (fun cv iv wr=>∃ (i c:Nat) (L:List Nat),i<=b.length+1/\c<=1/\L.length=b.length+1/\okL L/\Gw wr w.heap.size L/\cv=.int .u64 (c:Nat)/\iv=.int .i64 i /\
   val (L.take i)+1000000000 ^ i*c=val (a.take i)+val (b.take i)/\Up w wr) (fun _ iv _=>b.length+1 - (intOf iv).toNat)
  case atStart=>exact⟨0,0,_,by omega,by omega,by simp,fun x hx=>by rw[Yq hx];omega,I,rfl,rfl,by simp[val],b9⟩
  clear I b9;obtain⟨i,c,L,hi,hc,a8,j,I,rfl,rfl,A,U⟩:=hrel
  by_cases f8:i<=b.length
  ·by_cases b8:i<a.length
   ·by_cases b3:i<b.length
    ·obtain⟨ba,oa,rfl,b6,V⟩:=HA.o i b8;rw[<-U.cell (p:=⟨ba,oa+i,none⟩) b6] at V;have d2:=O9 a b4 i b8;obtain⟨bb,ob,rfl,b7,Y⟩:=HB.o i b3;rw[<-U.cell (p:=⟨bb,ob+i,none⟩) b7] at Y;have d4:=O9 b b5 i b3;have d:=Im (1000000000 ^ i) _ _ _ c (a.getD i 0) (b.getD i 0) A;rw[<-Ok,<-Ok] at d;obtain⟨x,hx⟩:=O1 (a.getD i 0);rw[hx] at V d2 d;obtain⟨y,hy⟩:=O1 (b.getD i 0);rw[hy] at Y d4 d;have G:Hid (val ((L.set i ((c+x+y) % 1000000000)).take (i+1))+1000000000 ^ (i+1)*((c+x+y) / 1000000000)=val (a.take (i+1))+val (b.take (i+1))):=by
      unfold Hid
      rw[O2 L i _ (by omega),J5];exact d
     clear d A hx hy;obtain⟨s,hs⟩:=O1 (c+x+y);have d0:s<2000000000:=by omega
     rw[hs] at G;have Z:=I.cell i (by omega);have c6:=I.frozen i;have O:Hid (Gw (wr.setCell ⟨w.heap.size,i,none⟩ (.int .u32 ((s % 1000000000:Nat):Int))) w.heap.size (L.set i (s % 1000000000))):=I.set i _;have K:Hid (∀ u,Up w (wr.setCell ⟨w.heap.size,i,none⟩ u)):=fun u=>U.setCell Of u;have M:Hid (okL (L.set i (s % 1000000000))):=U4 L j i _ (Zx _ (by decide));have E:=Hd hs;clear I U hs j
     go_wp2
     go_roundw
     case rel=>
      refine⟨i+1,s / 1000000000,L.set i (s % 1000000000),by omega,by omega,by simp[a8],M.o,?_,Ob (by rw[<-E.o];simp),by go_num,G.o,K.o _⟩;have h:=O.o;rw[<-E.o] at h ⊢
      simpa using h
     simp[intOf];omega
    exfalso;omega
   by_cases b3:i<b.length
   ·have d1:a.getD i 0=0:=by rw[Jk,Yj (by omega)];rfl
    obtain⟨bb,ob,rfl,b7,Y⟩:=HB.o i b3;rw[<-U.cell (p:=⟨bb,ob+i,none⟩) b7] at Y;have d4:=O9 b b5 i b3;have d:=Im (1000000000 ^ i) _ _ _ c (a.getD i 0) (b.getD i 0) A;rw[<-Ok,<-Ok] at d;rw[d1,Z8] at d;obtain⟨y,hy⟩:=O1 (b.getD i 0);rw[hy] at Y d4 d;have G:Hid (val ((L.set i ((c+y) % 1000000000)).take (i+1))+1000000000 ^ (i+1)*((c+y) / 1000000000)=val (a.take (i+1))+val (b.take (i+1))):=by
     unfold Hid
     rw[O2 L i _ (by omega),J5];exact d
    clear d A hy;obtain⟨s,hs⟩:=O1 (c+y);have d0:s<2000000000:=by omega
    rw[hs] at G;have Z:=I.cell i (by omega);have c6:=I.frozen i;have O:Hid (Gw (wr.setCell ⟨w.heap.size,i,none⟩ (.int .u32 ((s % 1000000000:Nat):Int))) w.heap.size (L.set i (s % 1000000000))):=I.set i _;have K:Hid (∀ u,Up w (wr.setCell ⟨w.heap.size,i,none⟩ u)):=fun u=>U.setCell Of u;have M:Hid (okL (L.set i (s % 1000000000))):=U4 L j i _ (Zx _ (by decide));have E:=Hd hs;clear I U hs j
    go_wp2
    go_roundw
    case rel=>
     refine⟨i+1,s / 1000000000,L.set i (s % 1000000000),by omega,by omega,by simp[a8],M.o,?_,Ob (by rw[<-E.o];simp),by go_num,G.o,K.o _⟩;have h:=O.o;rw[<-E.o] at h ⊢
     simpa using h
    simp[intOf];omega
   have d1:a.getD i 0=0:=by rw[Jk,Yj (by omega)];rfl
   have d3:b.getD i 0=0:=by rw[Jk,Yj (by omega)];rfl
   have d:=Im (1000000000 ^ i) _ _ _ c (a.getD i 0) (b.getD i 0) A;rw[<-Ok,<-Ok] at d;rw[d1,Z8] at d;rw[d3,Z8] at d;have G:Hid (val ((L.set i ((c) % 1000000000)).take (i+1))+1000000000 ^ (i+1)*((c) / 1000000000)=val (a.take (i+1))+val (b.take (i+1))):=by
    unfold Hid
    rw[O2 L i _ (by omega),J5];exact d
   clear d A;obtain⟨s,hs⟩:=O1 c;have d0:s<2000000000:=by omega
   rw[hs] at G;have Z:=I.cell i (by omega);have c6:=I.frozen i;have O:Hid (Gw (wr.setCell ⟨w.heap.size,i,none⟩ (.int .u32 ((s % 1000000000:Nat):Int))) w.heap.size (L.set i (s % 1000000000))):=I.set i _;have K:Hid (∀ u,Up w (wr.setCell ⟨w.heap.size,i,none⟩ u)):=fun u=>U.setCell Of u;have M:Hid (okL (L.set i (s % 1000000000))):=U4 L j i _ (Zx _ (by decide));have E:=Hd hs;clear I U hs j
   go_wp2
   go_roundw
   case rel=>
    refine⟨i+1,s / 1000000000,L.set i (s % 1000000000),by omega,by omega,by simp[a8],M.o,?_,Ob (by rw[<-E.o];simp),by go_num,G.o,K.o _⟩;have h:=O.o;rw[<-E.o] at h ⊢
    simpa using h
   simp[intOf];omega
  obtain rfl:i=b.length+1:=by omega
  have hE:=VJ (1000000000 ^ (b.length)) _ c _ _ _ (J5 ..) A (by rw[Jn (by omega)];exact N1 a b4 _ (by omega)) (by rw[Jn (by omega)];exact N1 b b5 _ (by omega));rw[Jn (by omega),Jn (by omega),Jn (by omega)] at hE;have HE:=Hd hE;have HL:Hid (U1 w.heap.size wr (.slice (some ⟨w.heap.size,0,none⟩) (b.length+1) (b.length+1)) L):=by
   have:=I.isL (B:=w.heap.size) (cap:=b.length+1) Of j (by omega) (by unfold maxLen;omega);rw[a8] at this;exact this
  have d7:=Hd U;clear hE A I U j
  go_wp2
  go_ret
  exact⟨_,L,rfl,HL.o,HE.o,d7.o⟩
 have z:decide ((a.length:Int)<b.length)=false:=dF (by omega)
 go_in
 go_wp2_with (at_make;refine wpList_make_full _ rfl _ _ 121 rfl w.heap.size 154 i0 (.int .u32 0) 1 underlying121 d5 e1 e2 .i64 .i64 _ _ (a.length+1) rfl rfl ?qm0 ?qm1 ?qm2 ?qm3 ?qm4 ?_)
 try (case qm0=>omega)
 try (case qm1=>omega)
 try (case qm2=>(first|omega|(rw[e3];omega)))
 try (case qm3=>(unfold maxLen;omega))
 try (case qm4=>exact Of)
 intro w1 J c8
 first|rw[K8] at J|rw[Ka] at J
 have I:Gw w1 w.heap.size (List.replicate (a.length+1) 0):=Kp J;have b9:Up w w1:=(Jh _ _).grown c8 Of (fun k h=>by cases h);clear J c8
 go_wp2
 go_loopw [7,8] (fun cv iv wr=>∃ (i c:Nat) (L:List Nat),i<=a.length+1/\c<=1/\L.length=a.length+1/\okL L/\Gw wr w.heap.size L/\cv=.int .u64 (c:Nat)/\iv=.int .i64 i /\
  val (L.take i)+1000000000 ^ i*c=val (a.take i)+val (b.take i)/\Up w wr) (fun _ iv _=>a.length+1 - (intOf iv).toNat)
 case atStart=>exact⟨0,0,_,by omega,by omega,by simp,fun x hx=>by rw[Yq hx];omega,I,rfl,rfl,by simp[val],b9⟩
 clear I b9;obtain⟨i,c,L,hi,hc,a8,j,I,rfl,rfl,A,U⟩:=hrel
 by_cases f8:i<=a.length
 ·by_cases b8:i<a.length
  ·by_cases b3:i<b.length
   ·obtain⟨ba,oa,rfl,b6,V⟩:=HA.o i b8;rw[<-U.cell (p:=⟨ba,oa+i,none⟩) b6] at V;have d2:=O9 a b4 i b8;obtain⟨bb,ob,rfl,b7,Y⟩:=HB.o i b3;rw[<-U.cell (p:=⟨bb,ob+i,none⟩) b7] at Y;have d4:=O9 b b5 i b3;have d:=Im (1000000000 ^ i) _ _ _ c (a.getD i 0) (b.getD i 0) A;rw[<-Ok,<-Ok] at d;obtain⟨x,hx⟩:=O1 (a.getD i 0);rw[hx] at V d2 d;obtain⟨y,hy⟩:=O1 (b.getD i 0);rw[hy] at Y d4 d;have G:Hid (val ((L.set i ((c+x+y) % 1000000000)).take (i+1))+1000000000 ^ (i+1)*((c+x+y) / 1000000000)=val (a.take (i+1))+val (b.take (i+1))):=by
     unfold Hid
     rw[O2 L i _ (by omega),J5];exact d
    clear d A hx hy;obtain⟨s,hs⟩:=O1 (c+x+y);have d0:s<2000000000:=by omega
    rw[hs] at G;have Z:=I.cell i (by omega);have c6:=I.frozen i;have O:Hid (Gw (wr.setCell ⟨w.heap.size,i,none⟩ (.int .u32 ((s % 1000000000:Nat):Int))) w.heap.size (L.set i (s % 1000000000))):=I.set i _;have K:Hid (∀ u,Up w (wr.setCell ⟨w.heap.size,i,none⟩ u)):=fun u=>U.setCell Of u;have M:Hid (okL (L.set i (s % 1000000000))):=U4 L j i _ (Zx _ (by decide));have E:=Hd hs;clear I U hs j
    go_wp2
    go_roundw
    case rel=>
     refine⟨i+1,s / 1000000000,L.set i (s % 1000000000),by omega,by omega,by simp[a8],M.o,?_,Ob (by rw[<-E.o];simp),by go_num,G.o,K.o _⟩;have h:=O.o;rw[<-E.o] at h ⊢
     simpa using h
    simp[intOf];omega
   obtain⟨ba,oa,rfl,b6,V⟩:=HA.o i b8;rw[<-U.cell (p:=⟨ba,oa+i,none⟩) b6] at V;have d2:=O9 a b4 i b8;have d3:b.getD i 0=0:=by rw[Jk,Yj (by omega)];rfl
   have d:=Im (1000000000 ^ i) _ _ _ c (a.getD i 0) (b.getD i 0) A;rw[<-Ok,<-Ok] at d;rw[d3,Z8] at d;obtain⟨x,hx⟩:=O1 (a.getD i 0);rw[hx] at V d2 d;have G:Hid (val ((L.set i ((c+x) % 1000000000)).take (i+1))+1000000000 ^ (i+1)*((c+x) / 1000000000)=val (a.take (i+1))+val (b.take (i+1))):=by
    unfold Hid
    rw[O2 L i _ (by omega),J5];exact d
   clear d A hx;obtain⟨s,hs⟩:=O1 (c+x);have d0:s<2000000000:=by omega
   rw[hs] at G;have Z:=I.cell i (by omega);have c6:=I.frozen i;have O:Hid (Gw (wr.setCell ⟨w.heap.size,i,none⟩ (.int .u32 ((s % 1000000000:Nat):Int))) w.heap.size (L.set i (s % 1000000000))):=I.set i _;have K:Hid (∀ u,Up w (wr.setCell ⟨w.heap.size,i,none⟩ u)):=fun u=>U.setCell Of u;have M:Hid (okL (L.set i (s % 1000000000))):=U4 L j i _ (Zx _ (by decide));have E:=Hd hs;clear I U hs j
   go_wp2
   go_roundw
   case rel=>
    refine⟨i+1,s / 1000000000,L.set i (s % 1000000000),by omega,by omega,by simp[a8],M.o,?_,Ob (by rw[<-E.o];simp),by go_num,G.o,K.o _⟩;have h:=O.o;rw[<-E.o] at h ⊢
    simpa using h
   simp[intOf];omega
  by_cases b3:i<b.length
  ·exfalso;omega
  have d1:a.getD i 0=0:=by rw[Jk,Yj (by omega)];rfl
  have d3:b.getD i 0=0:=by rw[Jk,Yj (by omega)];rfl
  have d:=Im (1000000000 ^ i) _ _ _ c (a.getD i 0) (b.getD i 0) A;rw[<-Ok,<-Ok] at d;rw[d1,Z8] at d;rw[d3,Z8] at d;have G:Hid (val ((L.set i ((c) % 1000000000)).take (i+1))+1000000000 ^ (i+1)*((c) / 1000000000)=val (a.take (i+1))+val (b.take (i+1))):=by
   unfold Hid
   rw[O2 L i _ (by omega),J5];exact d
  clear d A;obtain⟨s,hs⟩:=O1 c;have d0:s<2000000000:=by omega
  rw[hs] at G;have Z:=I.cell i (by omega);have c6:=I.frozen i;have O:Hid (Gw (wr.setCell ⟨w.heap.size,i,none⟩ (.int .u32 ((s % 1000000000:Nat):Int))) w.heap.size (L.set i (s % 1000000000))):=I.set i _;have K:Hid (∀ u,Up w (wr.setCell ⟨w.heap.size,i,none⟩ u)):=fun u=>U.setCell Of u;have M:Hid (okL (L.set i (s % 1000000000))):=U4 L j i _ (Zx _ (by decide));have E:=Hd hs;clear I U hs j
  go_wp2
  go_roundw
  case rel=>
   refine⟨i+1,s / 1000000000,L.set i (s % 1000000000),by omega,by omega,by simp[a8],M.o,?_,Ob (by rw[<-E.o];simp),by go_num,G.o,K.o _⟩;have h:=O.o;rw[<-E.o] at h ⊢
   simpa using h
  simp[intOf];omega
 obtain rfl:i=a.length+1:=by omega
 have hE:=VJ (1000000000 ^ (a.length)) _ c _ _ _ (J5 ..) A (by rw[Jn (by omega)];exact N1 a b4 _ (by omega)) (by rw[Jn (by omega)];exact N1 b b5 _ (by omega));rw[Jn (by omega),Jn (by omega),Jn (by omega)] at hE;have HE:=Hd hE;have HL:Hid (U1 w.heap.size wr (.slice (some ⟨w.heap.size,0,none⟩) (a.length+1) (a.length+1)) L):=by
  have:=I.isL (B:=w.heap.size) (cap:=a.length+1) Of j (by omega) (by unfold maxLen;omega);rw[a8] at this;exact this
 have d7:=Hd U;clear hE A I U j
 go_wp2
 go_ret
 exact⟨_,L,rfl,HL.o,HE.o,d7.o⟩
theorem Hf (P A Bv La c x y d c':Nat)(h:La+P*c=A+Bv)(hd:d+1000000000*c'=x+c+y):La+P*d+P*1000000000*c'=A+P*x+(Bv+P*y):=by
 have j:P*(d+1000000000*c')=P*(x+c+y):=by rw[hd]
 rw[Yf,Yf,Yf,<-Yt] at j;omega
theorem Wx (L A:List Nat)(i n:Nat)(hi:i<=n)(hl:L.length=A.length)(hd:L.drop i=A.drop i)(V:Nat)(h:val (L.take i)=val (A.take i)+V):val (L.take n)=val (A.take n)+V:=by
 have d:∀ X:List Nat,i<=X.length->val (X.take n)=val (X.take i)+1000000000 ^ i*val ((X.drop i).take (n - i)):=fun X hX=>by
  have j:X.take n=X.take i++(X.drop i).take (n - i):=by rw[show n=i+(n - i) by omega,List.take_add];simp
  rw[j,Rh,J4,Zi hX]
 by_cases hX:i<=A.length
 ·rw[d L (by omega),d A hX,hd,h];omega
 rw[Jn (by omega),Jn (by omega)] at h ⊢;exact h
theorem Kx (L A:List Nat)(i x:Nat)(h:L.drop i=A.drop i):(L.set i x).drop (i+1)=A.drop (i+1):=by
 rw[List.drop_set_of_lt (by omega),<-Zu,<-Zu,h]
theorem Iw (L A:List Nat)(i:Nat)(h:L.drop i=A.drop i):L.getD i 0=A.getD i 0:=by
 have d:∀ X:List Nat,X.getD i 0=(X.drop i).getD 0 0:=fun X=>by simp[List.getD_eq_getElem?_getD]
 rw[d L,d A,h]
theorem Dn (R n cap:Nat)(vb:Value)(pb:Option Addr)(cb:Nat)(A b:List Nat)(w:World)(hR:Gw w R A)(hAok:okL A)(hn:n<=A.length)(hA:A.length<=1000000)(hbn:b.length<=n)(hbok:okL b)
 (hvb:vb=.slice pb b.length cb) (hcap:n<=cap)
 (hcb:∀ i,i<b.length->∃ c off,pb=some ⟨c,off,none⟩/\c<R/\w.cell? ⟨c,off+i,none⟩=some (.int .u32 (b.getD i 0:Nat))) :
 Calls prog 232 #[.slice (some ⟨R,0,none⟩) n cap,vb] w fun e w'=>∃ c L,e=.returned (.int .u32 (c:Nat))/\Gw w' R L/\L.length=A.length/\okL L/\L.drop n=A.drop n/\c<=1 /\
  val (L.take n)+1000000000 ^ n*c=val (A.take n)+val b/\Below R w w':=by
 subst hvb;have HB:=Hd hcb;clear hcb
 go_in
 go_wp2
 go_loopw [5,10] (fun cv iv wr=>∃ (i c:Nat) (L:List Nat),i<=n/\c<=1/\L.length=A.length/\okL L/\Gw wr R L/\L.drop i=A.drop i/\cv=.int .u32 (c:Nat)/\iv=.int .i64 i /\
  val (L.take i)+1000000000 ^ i*c=val (A.take i)+val (b.take i)/\Below R w wr) (fun _ iv _=>n - (intOf iv).toNat)
 case atStart=>exact⟨0,0,A,by omega,by omega,rfl,hAok,hR,rfl,rfl,rfl,by simp[val],Jh _ _⟩
 clear hR;obtain⟨i,c,L,hi,hc,a7,j,hR,E,rfl,rfl,d,hB⟩:=hrel
 by_cases g2:i<n
 ·have G:=hR.cell i (by omega);have hx:=Iw L A i E;have b5:=O9 A hAok i (by omega);rw[hx] at G;clear hx;obtain⟨x,hx⟩:=O1 (A.getD i 0);rw[hx] at b5 G
  by_cases d0:i<b.length
  ·obtain⟨bb,ob,rfl,d1,hcb⟩:=HB.o i d0;rw[<-hB.cell (p:=⟨bb,ob+i,none⟩) d1] at hcb;have c8:=O9 b hbok i d0;obtain⟨y,hy⟩:=O1 (b.getD i 0);rw[hy] at hcb c8
   by_cases hov:1000000000<=x+c+y
   ·skip
    have J:=Hf (1000000000 ^ i) _ _ _ c x y (x+c+y - 1000000000) 1 d (by omega);have Z:Hid (val ((L.set i (x+c+y - 1000000000)).take (i+1))+1000000000 ^ (i+1)*1=val (A.take (i+1))+val (b.take (i+1))):=by
     unfold Hid
     rw[O2 L i _ (by omega),Ok,Ok,hx,hy,J5];exact J
    have c6:=hR.frozen i;have V:Hid (Gw (wr.setCell ⟨R,i,none⟩ (.int .u32 (((x+c+y - 1000000000):Nat):Int))) R (L.set i (x+c+y - 1000000000))):=hR.set i _;have K:Hid (∀ u,Below R w (wr.setCell ⟨R,i,none⟩ u)):=fun u=>hB.setCell Of u;have O:Hid (okL (L.set i (x+c+y - 1000000000))):=U4 L j i _ (by omega);have M:Hid ((L.set i (x+c+y - 1000000000)).drop (i+1)=A.drop (i+1)):=Kx L A i _ E;clear J d hx hy hR hB j E;obtain⟨X,hX⟩:∃ X:Int,(x:Int)=X:=⟨_,rfl⟩;have HX:=Hd hX;have x1:0<=X:=by omega
    have x2:X<1000000000:=by omega
    rw[hX] at G;obtain⟨C,hC⟩:∃ C:Int,(c:Int)=C:=⟨_,rfl⟩;have HC:=Hd hC;have c1:0<=C:=by omega
    have c2:C<=1:=by omega
    rw[hC];obtain⟨Y,hY⟩:∃ Y:Int,(y:Int)=Y:=⟨_,rfl⟩;have HY:=Hd hY;have y1:0<=Y:=by omega
    have y2:Y<1000000000:=by omega
    rw[hY] at hcb;have t1:1000000000<=X+C+Y:=by omega
    have U:=(id hov:_);have I:Hid _:=hov;clear hX b5 hov hC hY c8 U
    go_wp2
    go_roundw
    case rel=>
     refine⟨i+1,1,L.set i (x+c+y - 1000000000),by omega,by omega,by simp[a7],O.o,?_,M.o,rfl,by go_num,Z.o,K.o _⟩;have h:=V.o;rw[show ((((x+c+y - 1000000000)):Nat):Int)=_ from ?_] at h
     ·exact h
     have:=I.o;have:=HX.o;have:=HC.o;have:=HY.o;omega
    simp[intOf];omega
   skip
   have J:=Hf (1000000000 ^ i) _ _ _ c x y (x+c+y) 0 d (by omega);have Z:Hid (val ((L.set i (x+c+y)).take (i+1))+1000000000 ^ (i+1)*0=val (A.take (i+1))+val (b.take (i+1))):=by
    unfold Hid
    rw[O2 L i _ (by omega),Ok,Ok,hx,hy,J5];exact J
   have c6:=hR.frozen i;have V:Hid (Gw (wr.setCell ⟨R,i,none⟩ (.int .u32 (((x+c+y):Nat):Int))) R (L.set i (x+c+y))):=hR.set i _;have K:Hid (∀ u,Below R w (wr.setCell ⟨R,i,none⟩ u)):=fun u=>hB.setCell Of u;have O:Hid (okL (L.set i (x+c+y))):=U4 L j i _ (by omega);have M:Hid ((L.set i (x+c+y)).drop (i+1)=A.drop (i+1)):=Kx L A i _ E;clear J d hx hy hR hB j E;obtain⟨X,hX⟩:∃ X:Int,(x:Int)=X:=⟨_,rfl⟩;have HX:=Hd hX;have x1:0<=X:=by omega
   have x2:X<1000000000:=by omega
   rw[hX] at G;obtain⟨C,hC⟩:∃ C:Int,(c:Int)=C:=⟨_,rfl⟩;have HC:=Hd hC;have c1:0<=C:=by omega
   have c2:C<=1:=by omega
   rw[hC];obtain⟨Y,hY⟩:∃ Y:Int,(y:Int)=Y:=⟨_,rfl⟩;have HY:=Hd hY;have y1:0<=Y:=by omega
   have y2:Y<1000000000:=by omega
   rw[hY] at hcb;have t1:X+C+Y<1000000000:=by omega
   have U:=(id hov:_);have I:Hid _:=hov;clear hX b5 hov hC hY c8 U
   go_wp2
   go_roundw
   case rel=>
    refine⟨i+1,0,L.set i (x+c+y),by omega,by omega,by simp[a7],O.o,?_,M.o,rfl,by go_num,Z.o,K.o _⟩;have h:=V.o;rw[show ((((x+c+y)):Nat):Int)=_ from ?_] at h
    ·exact h
    have:=I.o;have:=HX.o;have:=HC.o;have:=HY.o;omega
   simp[intOf];omega
  have hy:b.getD i 0=0:=by rw[Jk,Yj (by omega)];rfl
  by_cases e7:c=0
  ·subst e7;have hE:=Wx L A i n hi a7 E (val b) (by rw[Z9,Z8,Jn (show b.length<=i by omega)] at d;exact d);have HE:Hid (∃ c' L',Gw wr R L'/\L'.length=A.length/\okL L'/\L'.drop n=A.drop n/\c'=0/\val (L'.take n)+1000000000 ^ n*c'=val (A.take n)+val b):=⟨0,L,hR,a7,j,by rw[show n=i+(n - i) by omega,<-Zu,<-Zu,E],rfl,by rw[hE];omega⟩;have d2:=Hd hB;clear hE d hR hB j E hx hy
   go_wp2
   go_ret
   obtain⟨c',L',e1,e2,e3,e4,rfl,e5⟩:=HE.o;exact⟨0,L',rfl,e1,e2,e3,e4,by omega,e5,d2.o⟩
  obtain rfl:c=1:=by omega
  by_cases hov:1000000000<=x+1
  ·skip
   have J:=Hf (1000000000 ^ i) _ _ _ 1 x 0 (x+1 - 1000000000) 1 d (by omega);have Z:Hid (val ((L.set i (x+1 - 1000000000)).take (i+1))+1000000000 ^ (i+1)*1=val (A.take (i+1))+val (b.take (i+1))):=by
    unfold Hid
    rw[O2 L i _ (by omega),Ok,Ok,hx,hy,J5];exact J
   have c6:=hR.frozen i;have V:Hid (Gw (wr.setCell ⟨R,i,none⟩ (.int .u32 (((x+1 - 1000000000):Nat):Int))) R (L.set i (x+1 - 1000000000))):=hR.set i _;have K:Hid (∀ u,Below R w (wr.setCell ⟨R,i,none⟩ u)):=fun u=>hB.setCell Of u;have O:Hid (okL (L.set i (x+1 - 1000000000))):=U4 L j i _ (by omega);have M:Hid ((L.set i (x+1 - 1000000000)).drop (i+1)=A.drop (i+1)):=Kx L A i _ E;clear J d hx hy hR hB j E;obtain⟨X,hX⟩:∃ X:Int,(x:Int)=X:=⟨_,rfl⟩;have HX:=Hd hX;have x1:0<=X:=by omega
   have x2:X<1000000000:=by omega
   rw[hX] at G;have t1:1000000000<=X+1:=by omega
   have U:=(id hov:_);have I:Hid _:=hov;clear hX b5 hov U
   go_wp2
   go_roundw
   case rel=>
    refine⟨i+1,1,L.set i (x+1 - 1000000000),by omega,by omega,by simp[a7],O.o,?_,M.o,rfl,by go_num,Z.o,K.o _⟩;have h:=V.o;rw[show ((((x+1 - 1000000000)):Nat):Int)=_ from ?_] at h
    ·exact h
    have:=I.o;have:=HX.o;omega
   simp[intOf];omega
  skip
  have J:=Hf (1000000000 ^ i) _ _ _ 1 x 0 (x+1) 0 d (by omega);have Z:Hid (val ((L.set i (x+1)).take (i+1))+1000000000 ^ (i+1)*0=val (A.take (i+1))+val (b.take (i+1))):=by
   unfold Hid
   rw[O2 L i _ (by omega),Ok,Ok,hx,hy,J5];exact J
  have c6:=hR.frozen i;have V:Hid (Gw (wr.setCell ⟨R,i,none⟩ (.int .u32 (((x+1):Nat):Int))) R (L.set i (x+1))):=hR.set i _;have K:Hid (∀ u,Below R w (wr.setCell ⟨R,i,none⟩ u)):=fun u=>hB.setCell Of u;have O:Hid (okL (L.set i (x+1))):=U4 L j i _ (by omega);have M:Hid ((L.set i (x+1)).drop (i+1)=A.drop (i+1)):=Kx L A i _ E;clear J d hx hy hR hB j E;obtain⟨X,hX⟩:∃ X:Int,(x:Int)=X:=⟨_,rfl⟩;have HX:=Hd hX;have x1:0<=X:=by omega
  have x2:X<1000000000:=by omega
  rw[hX] at G;have t1:X+1<1000000000:=by omega
  have U:=(id hov:_);have I:Hid _:=hov;clear hX b5 hov U
  go_wp2
  go_roundw
  case rel=>
   refine⟨i+1,0,L.set i (x+1),by omega,by omega,by simp[a7],O.o,?_,M.o,rfl,by go_num,Z.o,K.o _⟩;have h:=V.o;rw[show ((((x+1)):Nat):Int)=_ from ?_] at h
   ·exact h
   have:=I.o;have:=HX.o;omega
  simp[intOf];omega
 obtain rfl:i=n:=by omega
 rw[Jn (show b.length<=i by omega)] at d;have HE:Hid (Gw wr R L/\L.length=A.length/\okL L/\L.drop i=A.drop i/\val (L.take i)+1000000000 ^ i*c=val (A.take i)+val b/\Below R w wr):=⟨hR,a7,j,E,d,hB⟩;clear d hR hB j E
 go_wp2
 go_ret
 obtain⟨e1,e2,e3,e4,e5,e6⟩:=HE.o;exact⟨c,L,rfl,e1,e2,e3,e4,hc,e5,e6⟩
def O7 (w:World)(R:Nat)(l:List Nat):Prop:=∃ tail:List Value,w.heap[R]? = some (.cells (Nx l++tail).toArray 154 (0,0))
theorem Gw.tail {w:World}{R:Nat}{l:List Nat}(h:Gw w R l):O7 w R l:=⟨[],by rw[List.append_nil];exact h⟩
theorem O7.lt {w:World}{R:Nat}{l:List Nat}(h:O7 w R l):R<w.heap.size:=by
 obtain⟨t,h⟩:=h;exact (J1.1 h).1
theorem O7.cell {w:World}{R:Nat}{l:List Nat}(h:O7 w R l)(i:Nat)(hi:i<l.length):w.cell? ⟨R,i,none⟩=some (.int .u32 (l.getD i 0:Nat)):=by
 obtain⟨t,h⟩:=h;simp[World.cell?,h,List.getElem?_append,hi,List.getD_eq_getElem?_getD]
theorem O7.frozen {w:World}{R:Nat}{l:List Nat}(h:O7 w R l)(i:Nat):w.frozen? ⟨R,i,none⟩=false:=by
 obtain⟨t,h⟩:=h;simp[World.frozen?,h]
theorem O7.set {w:World}{R:Nat}{l:List Nat}(h:O7 w R l)(i x:Nat)(hi:i<l.length):O7 (w.setCell ⟨R,i,none⟩ (.int .u32 (x:Nat))) R (l.set i x):=by
 obtain⟨t,h⟩:=h;refine⟨t,?_⟩;obtain⟨d,j⟩:=J1.1 h
 show (w.heap.modify R _)[R]? = _
 rw[Vk (by rw[Z1];exact d),Vl,j];simp[Nx,List.map_set,hi]
theorem O7.isL {w:World}{R B cap:Nat}{l:List Nat}(h:O7 w R l)(hB:B<=R)(hok:okL l)(hc:l.length<=cap)(hm:cap<=maxLen):U1 B w (.slice (some ⟨R,0,none⟩) l.length cap) l:=
 ⟨_,cap,rfl,hc,hm,hok,.inr ⟨R,0,rfl,hB,h.lt,fun i hi=>by rw[Y4];exact h.cell i hi⟩⟩
theorem Cn (l:List Nat)(j x:Nat)(hj:j<l.length):val (l.set j x)+1000000000 ^ j*l.getD j 0=val l+1000000000 ^ j*x:=by
 induction l generalizing j with
 | nil=>simp at hj
 | cons y l ih=>
   cases j with
   | zero=>simp[val];omega
   | succ j=>
     have h:=ih j (by simpa using hj);simp only[Jd,val,List.getD_cons_succ,J5,Yy _ 1000000000,Yt];omega
theorem ZL (P VL VN VA K c x F d c':Nat)(h:VL+P*c=VA+K)(hs:VN+P*x=VL+P*d)(hd:d+1000000000*c'=c+F+x):VN+P*1000000000*c'=VA+(K+P*F):=by
 have j:P*(d+1000000000*c')=P*(c+F+x):=by rw[hd]
 rw[Yf,Yf,Yf,<-Yt] at j;omega
theorem GO (off i f v y:Nat):1000000000 ^ off*(f*(v+1000000000 ^ i*y))=1000000000 ^ off*(f*v)+1000000000 ^ (off+i)*(f*y):=by
 rw[Yf,Yf,Nat.pow_add,Nat.mul_left_comm f,Yt]
theorem Qa (R off cap f:Nat)(vb:Value)(pb:Option Addr)(cb:Nat)(A b:List Nat)(w:World)(hR:O7 w R A)(hAok:okL A)(hn:off+b.length<=A.length)(hA:A.length<=1000000)(hbok:okL b)
 (hvb:vb=.slice pb b.length cb) (_hcap:b.length<=cap) (hf:f<1000000000)
 (hcb:∀ i,i<b.length->∃ c off,pb=some ⟨c,off,none⟩/\c<R/\w.cell? ⟨c,off+i,none⟩=some (.int .u32 (b.getD i 0:Nat))) :
 Calls prog 244 #[.slice (some ⟨R,off,none⟩) b.length cap,vb,.int .u64 (f:Nat)] w fun e w'=>∃ c L,e=.returned (.int .u32 (c:Nat))/\O7 w' R L/\L.length=A.length/\okL L/\L.drop (off+b.length)=A.drop (off+b.length)/\c<=f /\
  val L+1000000000 ^ (off+b.length)*c=val A+1000000000 ^ off*(f*val b)/\Below R w w':=by
 subst hvb;have HB:=Hd hcb;clear hcb
 go_in
 go_wp2
 go_loopw [7,12] (fun cv iv wr=>∃ (i c:Nat) (L:List Nat),i<=b.length/\c<=f/\L.length=A.length/\okL L/\O7 wr R L/\L.drop (off+i)=A.drop (off+i)/\cv=.int .u64 (c:Nat)/\iv=.int .i64 i /\
  val L+1000000000 ^ (off+i)*c=val A+1000000000 ^ off*(f*val (b.take i))/\Below R w wr) (fun _ iv _=>b.length - (intOf iv).toNat)
 case atStart=>exact⟨0,0,A,by omega,by omega,rfl,hAok,hR,rfl,rfl,rfl,by simp[val],Jh _ _⟩
 clear hR;obtain⟨i,c,L,hi,V,U,d,hR,J,rfl,rfl,j,O⟩:=hrel
 by_cases Z:i<b.length
 ·have E:=hR.cell (off+i) (by omega);have b3:=O9 L d (off+i) (by omega);obtain⟨x,hx⟩:=O1 (L.getD (off+i) 0);rw[hx] at b3 E;obtain⟨bb,ob,rfl,a7,hcb⟩:=HB.o i Z;rw[<-O.cell (p:=⟨bb,ob+i,none⟩) a7] at hcb;have b4:=O9 b hbok i Z;obtain⟨y,hy⟩:=O1 (b.getD i 0);rw[hy] at hcb b4;obtain⟨F,hF⟩:=O1 (f*y);have d1:F<=f*999999999:=by rw[<-hF];exact J8 f (by omega)
  have K:=Cn L (off+i) ((c+F+x) % 1000000000) (by omega);rw[hx] at K;have a8:=ZL (1000000000 ^ (off+i)) _ _ _ _ c x F ((c+F+x) % 1000000000) ((c+F+x) / 1000000000) j K (by omega);have c8:Hid (val (L.set (off+i) ((c+F+x) % 1000000000))+1000000000 ^ (off+(i+1))*((c+F+x) / 1000000000)=val A+1000000000 ^ off*(f*val (b.take (i+1)))):=by
   unfold Hid
   rw[Ok,hy,GO,hF,<-Uo,J5];exact a8
  have g3:=hR.frozen (off+i);have c6:Hid (O7 (wr.setCell ⟨R,off+i,none⟩ (.int .u32 ((((c+F+x) % 1000000000):Nat):Int))) R (L.set (off+i) ((c+F+x) % 1000000000))):=hR.set (off+i) _ (by omega);have b6:Hid (∀ u,Below R w (wr.setCell ⟨R,off+i,none⟩ u)):=fun u=>O.setCell Of u;have b9:Hid (okL (L.set (off+i) ((c+F+x) % 1000000000))):=U4 L d (off+i) _ (Zx _ (by decide));have b8:Hid ((L.set (off+i) ((c+F+x) % 1000000000)).drop (off+(i+1))=A.drop (off+(i+1))):=Kx L A (off+i) _ J;have b7:Hid ((c+F+x) / 1000000000<=f):=by
   unfold Hid
   omega
  clear a8 j hx hy hR O d J K;obtain⟨X,hX⟩:∃ X:Int,(x:Int)=X:=⟨_,rfl⟩;have HX:=Hd hX;have x1:0<=X:=by omega
  have x2:X<1000000000:=by omega
  rw[hX] at E;obtain⟨C,hC⟩:∃ C:Int,(c:Int)=C:=⟨_,rfl⟩;have HC:=Hd hC;have c1:0<=C:=by omega
  have c2:C<1000000000:=by omega
  rw[hC];obtain⟨G,hG⟩:∃ G:Int,(f:Int)=G:=⟨_,rfl⟩;rw[hG];obtain⟨Y,hY⟩:∃ Y:Int,(y:Int)=Y:=⟨_,rfl⟩;have I:(F:Int)=G*Y:=by rw[<-hF,<-hG,<-hY];rfl
  have M:=Hd I;have g1:0<=G*Y:=by rw[<-I];omega
  have g2:G*Y<=999999999000000000:=by rw[<-I];omega
  have y1:0<=Y:=by omega
  have y2:Y<1000000000:=by omega
  rw[hY] at hcb;clear hX b3 hC hG hY I b4 hF d1 V
  go_wp2
  go_roundw
  case rel=>
   refine⟨i+1,(c+F+x) / 1000000000,L.set (off+i) ((c+F+x) % 1000000000),by omega,b7.o,by simp[U],b9.o,?_,b8.o,?_,by go_num,c8.o,b6.o _⟩
   ·have h:=c6.o;rw[show ((((c+F+x) % 1000000000):Nat):Int)=_ from ?_] at h
    ·exact h
    have:=HX.o;have:=HC.o;have:=M.o;omega
   congr 1;have:=HX.o;have:=HC.o;have:=M.o;omega
  simp[intOf];omega
 obtain rfl:i=b.length:=by omega
 rw[Jn Of] at j;have HE:Hid (O7 wr R L/\L.length=A.length/\okL L/\L.drop (off+b.length)=A.drop (off+b.length)/\val L+1000000000 ^ (off+b.length)*c=val A+1000000000 ^ off*(f*val b)/\Below R w wr):=⟨hR,U,d,J,j,O⟩;clear j hR O d J
 go_wp2
 go_ret
 obtain⟨e1,e2,e3,e4,e5,e6⟩:=HE.o;exact⟨c,L,rfl,e1,e2,e3,e4,V,e5,e6⟩
theorem Gn (P A Bv La c x y d c' f:Nat)(h:La+f*Bv=A+P*c)(hd:d+(c+f*y)=x+1000000000*c'):La+P*d+f*(Bv+P*y)=A+P*x+P*1000000000*c':=by
 have j:P*(d+(c+f*y))=P*(x+1000000000*c'):=by rw[hd]
 rw[Yf,Yf,Yf,<-Yt,<-Yt] at j;rw[Yf,<-Yt,Yy f P];omega
theorem L8 (R n cap f:Nat)(vb:Value)(pb:Option Addr)(cb:Nat)(A b:List Nat)(w:World)(hR:O7 w R A)(hAok:okL A)(hn:n<=A.length)(hA:A.length<=1000000)(hbn:b.length<=n)(hbok:okL b)
 (hvb:vb=.slice pb b.length cb) (hcap:n<=cap) (hf:f<=1000000000)
 (hcb:∀ i,i<b.length->∃ c off,pb=some ⟨c,off,none⟩/\c<R/\w.cell? ⟨c,off+i,none⟩=some (.int .u32 (b.getD i 0:Nat))) :
 Calls prog 234 #[.slice (some ⟨R,0,none⟩) n cap,vb,.int .u64 (f:Nat)] w fun e w'=>∃ c L,e=.returned (.int .u64 (c:Nat))/\O7 w' R L/\L.length=A.length/\okL L/\L.drop n=A.drop n/\c<=f /\
  val (L.take n)+f*val b=val (A.take n)+1000000000 ^ n*c/\Below R w w':=by
 subst hvb;have HB:=Hd hcb;clear hcb
 go_in
 go_wp2
 go_loopw [7,12] (fun cv iv wr=>∃ (i c:Nat) (L:List Nat),i<=n/\c<=f/\L.length=A.length/\okL L/\O7 wr R L/\L.drop i=A.drop i/\cv=.int .u64 (c:Nat)/\iv=.int .i64 i /\
  val (L.take i)+f*val (b.take i)=val (A.take i)+1000000000 ^ i*c/\Below R w wr) (fun _ iv _=>n - (intOf iv).toNat)
 case atStart=>exact⟨0,0,A,by omega,by omega,rfl,hAok,hR,rfl,rfl,rfl,by simp[val],Jh _ _⟩
 clear hR;obtain⟨i,c,L,hi,d2,b5,E,hR,I,rfl,rfl,d,V⟩:=hrel;have hc:c<=1000000000:=by omega
 by_cases h6:i<n
 ·have J:=hR.cell i (by omega);have hx:=Iw L A i I;have d3:=O9 A hAok i (by omega);rw[hx] at J;clear hx;obtain⟨x,hx⟩:=O1 (A.getD i 0);rw[hx] at d3 J
  by_cases e7:i<b.length
  ·obtain⟨bb,ob,rfl,e8,hcb⟩:=HB.o i e7;rw[<-V.cell (p:=⟨bb,ob+i,none⟩) e8] at hcb;have d9:=O9 b hbok i e7;obtain⟨y,hy⟩:=O1 (b.getD i 0);rw[hy] at hcb d9;obtain⟨F,hF⟩:=O1 (f*y);have e0:F<=f*999999999:=by rw[<-hF];exact J8 f (by omega)
   by_cases U:x<(c+F) % 1000000000
   ·skip
    have M:=Gn (1000000000 ^ i) _ _ _ c x y (x+1000000000 - (c+F) % 1000000000) ((c+F) / 1000000000+1) f d (by rw[hF];omega);have b3:Hid (val ((L.set i (x+1000000000 - (c+F) % 1000000000)).take (i+1))+f*val (b.take (i+1))=val (A.take (i+1))+1000000000 ^ (i+1)*((c+F) / 1000000000+1)):=by
     unfold Hid
     rw[O2 L i _ (by omega),Ok,Ok,hx,hy,J5];exact M
    have d8:=hR.frozen i;have d1:Hid (∀ u:Nat,O7 ((wr.setCell ⟨R,i,none⟩ (.int .u32 (u:Nat))).setCell ⟨R,i,none⟩ (.int .u32 (((x+1000000000 - (c+F) % 1000000000):Nat):Int))) R (L.set i (x+1000000000 - (c+F) % 1000000000))):=fun u=>by
     have h:=(hR.set i u (by omega)).set i (x+1000000000 - (c+F) % 1000000000) (by simp;omega);rw[Ux] at h;exact h
    have d0:Hid (O7 (wr.setCell ⟨R,i,none⟩ (.int .u32 (((x+1000000000 - (c+F) % 1000000000):Nat):Int))) R (L.set i (x+1000000000 - (c+F) % 1000000000))):=hR.set i _ (by omega);have K:Hid (∀ u v,Below R w (wr.setCell ⟨R,i,none⟩ u)/\Below R w ((wr.setCell ⟨R,i,none⟩ u).setCell ⟨R,i,none⟩ v)):=fun u v=>⟨V.setCell Of u,(V.setCell Of u).setCell Of v⟩;have a8:Hid (okL (L.set i (x+1000000000 - (c+F) % 1000000000))):=U4 L E i _ (by omega);have a7:Hid ((L.set i (x+1000000000 - (c+F) % 1000000000)).drop (i+1)=A.drop (i+1)):=Kx L A i _ I;have Z:Hid ((c+F) / 1000000000+1<=f):=by
     unfold Hid
     omega
    clear M d hx hy hR V E I;obtain⟨X,hX⟩:∃ X:Int,(x:Int)=X:=⟨_,rfl⟩;have HX:=Hd hX;have x1:0<=X:=by omega
    have x2:X<1000000000:=by omega
    rw[hX] at J;obtain⟨C,hC⟩:∃ C:Int,(c:Int)=C:=⟨_,rfl⟩;have HC:=Hd hC;have c1:0<=C:=by omega
    have c2:C<=1000000000:=by omega
    rw[hC];obtain⟨G,hG⟩:∃ G:Int,(f:Int)=G:=⟨_,rfl⟩;rw[hG];obtain⟨Y,hY⟩:∃ Y:Int,(y:Int)=Y:=⟨_,rfl⟩;have O:(F:Int)=G*Y:=by rw[<-hF,<-hG,<-hY];rfl
    have b8:=Hd O;have g1:0<=G*Y:=by rw[<-O];omega
    have g2:G*Y<=999999999000000000:=by rw[<-O];omega
    have y1:0<=Y:=by omega
    have y2:Y<1000000000:=by omega
    rw[hY] at hcb;have t1:X<(C+G*Y) % 1000000000:=by omega
    have j:Hid _:=U;clear hX d3 U hC hG hY O d9 hF e0 hc d2
    go_wp2
    go_roundw
    case rel=>
     refine⟨i+1,(c+F) / 1000000000+1,L.set i (x+1000000000 - (c+F) % 1000000000),by omega,Z.o,by simp[b5],a8.o,?_,a7.o,?_,by go_num,b3.o,?_⟩
     ·have h:=d1.o (x+1000000000);rw[show ((((x+1000000000 - (c+F) % 1000000000)):Nat):Int)=_ from ?_,show (((x+1000000000:Nat)):Int)=_ from ?_] at h
      ·exact h
      ·have:=HX.o;have:=HC.o;have:=j.o;have:=b8.o;  omega
      have:=HX.o;have:=HC.o;have:=j.o;have:=b8.o;  omega
     ·congr 1;have:=HX.o;have:=HC.o;have:=j.o;have:=b8.o;  omega
     first|exact (K.o _ (.bool true)).1|exact (K.o _ _).2
    simp[intOf];omega
   skip
   have M:=Gn (1000000000 ^ i) _ _ _ c x y (x - (c+F) % 1000000000) ((c+F) / 1000000000) f d (by rw[hF];omega);have b3:Hid (val ((L.set i (x - (c+F) % 1000000000)).take (i+1))+f*val (b.take (i+1))=val (A.take (i+1))+1000000000 ^ (i+1)*((c+F) / 1000000000)):=by
    unfold Hid
    rw[O2 L i _ (by omega),Ok,Ok,hx,hy,J5];exact M
   have d8:=hR.frozen i;have d1:Hid (∀ u:Nat,O7 ((wr.setCell ⟨R,i,none⟩ (.int .u32 (u:Nat))).setCell ⟨R,i,none⟩ (.int .u32 (((x - (c+F) % 1000000000):Nat):Int))) R (L.set i (x - (c+F) % 1000000000))):=fun u=>by
    have h:=(hR.set i u (by omega)).set i (x - (c+F) % 1000000000) (by simp;omega);rw[Ux] at h;exact h
   have d0:Hid (O7 (wr.setCell ⟨R,i,none⟩ (.int .u32 (((x - (c+F) % 1000000000):Nat):Int))) R (L.set i (x - (c+F) % 1000000000))):=hR.set i _ (by omega);have K:Hid (∀ u v,Below R w (wr.setCell ⟨R,i,none⟩ u)/\Below R w ((wr.setCell ⟨R,i,none⟩ u).setCell ⟨R,i,none⟩ v)):=fun u v=>⟨V.setCell Of u,(V.setCell Of u).setCell Of v⟩;have a8:Hid (okL (L.set i (x - (c+F) % 1000000000))):=U4 L E i _ (by omega);have a7:Hid ((L.set i (x - (c+F) % 1000000000)).drop (i+1)=A.drop (i+1)):=Kx L A i _ I;have Z:Hid ((c+F) / 1000000000<=f):=by
    unfold Hid
    omega
   clear M d hx hy hR V E I;obtain⟨X,hX⟩:∃ X:Int,(x:Int)=X:=⟨_,rfl⟩;have HX:=Hd hX;have x1:0<=X:=by omega
   have x2:X<1000000000:=by omega
   rw[hX] at J;obtain⟨C,hC⟩:∃ C:Int,(c:Int)=C:=⟨_,rfl⟩;have HC:=Hd hC;have c1:0<=C:=by omega
   have c2:C<=1000000000:=by omega
   rw[hC];obtain⟨G,hG⟩:∃ G:Int,(f:Int)=G:=⟨_,rfl⟩;rw[hG];obtain⟨Y,hY⟩:∃ Y:Int,(y:Int)=Y:=⟨_,rfl⟩;have O:(F:Int)=G*Y:=by rw[<-hF,<-hG,<-hY];rfl
   have b8:=Hd O;have g1:0<=G*Y:=by rw[<-O];omega
   have g2:G*Y<=999999999000000000:=by rw[<-O];omega
   have y1:0<=Y:=by omega
   have y2:Y<1000000000:=by omega
   rw[hY] at hcb;have t1:(C+G*Y) % 1000000000<=X:=by omega
   have j:Hid _:=U;clear hX d3 U hC hG hY O d9 hF e0 hc d2
   go_wp2
   go_roundw
   case rel=>
    refine⟨i+1,(c+F) / 1000000000,L.set i (x - (c+F) % 1000000000),by omega,Z.o,by simp[b5],a8.o,?_,a7.o,?_,by go_num,b3.o,?_⟩
    ·have h:=d0.o;rw[show ((((x - (c+F) % 1000000000)):Nat):Int)=_ from ?_] at h
     ·exact h
     have:=HX.o;have:=HC.o;have:=j.o;have:=b8.o;  omega
    ·congr 1;have:=HX.o;have:=HC.o;have:=j.o;have:=b8.o;  omega
    first|exact (K.o _ (.bool true)).1|exact (K.o _ _).2
   simp[intOf];omega
  have hy:b.getD i 0=0:=by rw[Jk,Yj (by omega)];rfl
  by_cases d7:c=0
  ·subst d7;have hE:val (L.take n)+f*val b=val (A.take n):=by
    rw[Z9,Z8,Jn (show b.length<=i by omega)] at d;exact (Wx A L i n hi b5.symm I.symm (f*val b) d.symm).symm
   have HE:Hid (O7 wr R L/\L.length=A.length/\okL L/\L.drop n=A.drop n/\val (L.take n)+f*val b=val (A.take n)+1000000000 ^ n*0/\Below R w wr):=⟨hR,b5,E,by rw[show n=i+(n - i) by omega,<-Zu,<-Zu,I],by rw[hE,Z9,Z8],V⟩;clear hE d hR V E I hx hy
   go_wp2
   go_ret
   obtain⟨e1,e2,e3,e4,e5,e6⟩:=HE.o;exact⟨0,L,rfl,e1,e2,e3,e4,by omega,e5,e6⟩
  by_cases U:x<c % 1000000000
  ·skip
   have M:=Gn (1000000000 ^ i) _ _ _ c x 0 (x+1000000000 - c % 1000000000) (c / 1000000000+1) f d (by rw[Z9];omega);have b3:Hid (val ((L.set i (x+1000000000 - c % 1000000000)).take (i+1))+f*val (b.take (i+1))=val (A.take (i+1))+1000000000 ^ (i+1)*(c / 1000000000+1)):=by
    unfold Hid
    rw[O2 L i _ (by omega),Ok,Ok,hx,hy,J5];exact M
   have d8:=hR.frozen i;have d1:Hid (∀ u:Nat,O7 ((wr.setCell ⟨R,i,none⟩ (.int .u32 (u:Nat))).setCell ⟨R,i,none⟩ (.int .u32 (((x+1000000000 - c % 1000000000):Nat):Int))) R (L.set i (x+1000000000 - c % 1000000000))):=fun u=>by
    have h:=(hR.set i u (by omega)).set i (x+1000000000 - c % 1000000000) (by simp;omega);rw[Ux] at h;exact h
   have d0:Hid (O7 (wr.setCell ⟨R,i,none⟩ (.int .u32 (((x+1000000000 - c % 1000000000):Nat):Int))) R (L.set i (x+1000000000 - c % 1000000000))):=hR.set i _ (by omega);have K:Hid (∀ u v,Below R w (wr.setCell ⟨R,i,none⟩ u)/\Below R w ((wr.setCell ⟨R,i,none⟩ u).setCell ⟨R,i,none⟩ v)):=fun u v=>⟨V.setCell Of u,(V.setCell Of u).setCell Of v⟩;have a8:Hid (okL (L.set i (x+1000000000 - c % 1000000000))):=U4 L E i _ (by omega);have a7:Hid ((L.set i (x+1000000000 - c % 1000000000)).drop (i+1)=A.drop (i+1)):=Kx L A i _ I;have Z:Hid (c / 1000000000+1<=f):=by
    unfold Hid
    omega
   clear M d hx hy hR V E I;obtain⟨X,hX⟩:∃ X:Int,(x:Int)=X:=⟨_,rfl⟩;have HX:=Hd hX;have x1:0<=X:=by omega
   have x2:X<1000000000:=by omega
   rw[hX] at J;obtain⟨C,hC⟩:∃ C:Int,(c:Int)=C:=⟨_,rfl⟩;have HC:=Hd hC;have c1:0<=C:=by omega
   have c2:C<=1000000000:=by omega
   rw[hC];obtain⟨G,hG⟩:∃ G:Int,(f:Int)=G:=⟨_,rfl⟩;rw[hG];have t1:X<C % 1000000000:=by omega
   have j:Hid _:=U;have t2:0<C:=by omega
   clear hX d3 U hC hG d7 hc d2
   go_wp2
   go_roundw
   case rel=>
    refine⟨i+1,c / 1000000000+1,L.set i (x+1000000000 - c % 1000000000),by omega,Z.o,by simp[b5],a8.o,?_,a7.o,?_,by go_num,b3.o,?_⟩
    ·have h:=d1.o (x+1000000000);rw[show ((((x+1000000000 - c % 1000000000)):Nat):Int)=_ from ?_,show (((x+1000000000:Nat)):Int)=_ from ?_] at h
     ·exact h
     ·have:=HX.o;have:=HC.o;have:=j.o;  omega
     have:=HX.o;have:=HC.o;have:=j.o;  omega
    ·congr 1;have:=HX.o;have:=HC.o;have:=j.o;  omega
    first|exact (K.o _ (.bool true)).1|exact (K.o _ _).2
   simp[intOf];omega
  skip
  have M:=Gn (1000000000 ^ i) _ _ _ c x 0 (x - c % 1000000000) (c / 1000000000) f d (by rw[Z9];omega);have b3:Hid (val ((L.set i (x - c % 1000000000)).take (i+1))+f*val (b.take (i+1))=val (A.take (i+1))+1000000000 ^ (i+1)*(c / 1000000000)):=by
   unfold Hid
   rw[O2 L i _ (by omega),Ok,Ok,hx,hy,J5];exact M
  have d8:=hR.frozen i;have d1:Hid (∀ u:Nat,O7 ((wr.setCell ⟨R,i,none⟩ (.int .u32 (u:Nat))).setCell ⟨R,i,none⟩ (.int .u32 (((x - c % 1000000000):Nat):Int))) R (L.set i (x - c % 1000000000))):=fun u=>by
   have h:=(hR.set i u (by omega)).set i (x - c % 1000000000) (by simp;omega);rw[Ux] at h;exact h
  have d0:Hid (O7 (wr.setCell ⟨R,i,none⟩ (.int .u32 (((x - c % 1000000000):Nat):Int))) R (L.set i (x - c % 1000000000))):=hR.set i _ (by omega);have K:Hid (∀ u v,Below R w (wr.setCell ⟨R,i,none⟩ u)/\Below R w ((wr.setCell ⟨R,i,none⟩ u).setCell ⟨R,i,none⟩ v)):=fun u v=>⟨V.setCell Of u,(V.setCell Of u).setCell Of v⟩;have a8:Hid (okL (L.set i (x - c % 1000000000))):=U4 L E i _ (by omega);have a7:Hid ((L.set i (x - c % 1000000000)).drop (i+1)=A.drop (i+1)):=Kx L A i _ I;have Z:Hid (c / 1000000000<=f):=by
   unfold Hid
   omega
  clear M d hx hy hR V E I;obtain⟨X,hX⟩:∃ X:Int,(x:Int)=X:=⟨_,rfl⟩;have HX:=Hd hX;have x1:0<=X:=by omega
  have x2:X<1000000000:=by omega
  rw[hX] at J;obtain⟨C,hC⟩:∃ C:Int,(c:Int)=C:=⟨_,rfl⟩;have HC:=Hd hC;have c1:0<=C:=by omega
  have c2:C<=1000000000:=by omega
  rw[hC];obtain⟨G,hG⟩:∃ G:Int,(f:Int)=G:=⟨_,rfl⟩;rw[hG];have t1:C % 1000000000<=X:=by omega
  have j:Hid _:=U;have t2:0<C:=by omega
  clear hX d3 U hC hG d7 hc d2
  go_wp2
  go_roundw
  case rel=>
   refine⟨i+1,c / 1000000000,L.set i (x - c % 1000000000),by omega,Z.o,by simp[b5],a8.o,?_,a7.o,?_,by go_num,b3.o,?_⟩
   ·have h:=d0.o;rw[show ((((x - c % 1000000000)):Nat):Int)=_ from ?_] at h
    ·exact h
    have:=HX.o;have:=HC.o;have:=j.o;  omega
   ·congr 1;have:=HX.o;have:=HC.o;have:=j.o;  omega
   first|exact (K.o _ (.bool true)).1|exact (K.o _ _).2
  simp[intOf];omega
 obtain rfl:i=n:=by omega
 rw[Jn (show b.length<=i by omega)] at d;have HE:Hid (O7 wr R L/\L.length=A.length/\okL L/\L.drop i=A.drop i/\val (L.take i)+f*val b=val (A.take i)+1000000000 ^ i*c/\Below R w wr):=⟨hR,b5,E,I,d,V⟩;clear d hR V E I
 go_wp2
 go_ret
 obtain⟨e1,e2,e3,e4,e5,e6⟩:=HE.o;exact⟨c,L,rfl,e1,e2,e3,e4,d2,e5,e6⟩
theorem Hz (P A Bv La c x y d c':Nat)(h:La+Bv=A+P*c)(hd:d+c+y=x+1000000000*c'):La+P*d+(Bv+P*y)=A+P*x+P*1000000000*c':=by
 have j:P*(d+c+y)=P*(x+1000000000*c'):=by rw[hd]
 rw[Yf,Yf,Yf,<-Yt] at j;omega
theorem Ad (P c A Bv V:Nat)(h:V+Bv=A+P*c)(hV:V<P)(hB:Bv<=A):V+Bv=A:=by
 cases c with
 | zero=>rw[Z9] at h;omega
 | succ c=>
   rw[Nat.mul_succ] at h;generalize P*c=X at h;omega
theorem Fo (B:Nat)(va vb:Value)(a b:List Nat)(w:World)(ha:U1 B w va a)(hb:U1 B w vb b)(hla:a.length<=1000000)(hlb:b.length<=a.length)(hle:val b<=val a) :
 Calls prog 166 #[va,vb] w fun e w'=>∃ v L,e=.returned v/\U1 w.heap.size w' v L/\val L+val b=val a/\Up w w':=by
 obtain⟨i0,c6,d7,d8,d9⟩:=info_parts info_u32;obtain⟨pa,ca,rfl,_⟩:=id ha;obtain⟨pb,cb,rfl,_⟩:=id hb;obtain⟨_,_,_,b4,Y⟩:=ha.cells;obtain⟨_,_,_,b5,Z⟩:=hb.cells;have HA:=Hd Y;have HB:=Hd Z;have d3:=Hd hle;clear Y Z ha hb hle
 go_in
 go_wp2_with (at_make;refine wpList_make_full _ rfl _ _ 121 rfl w.heap.size 154 i0 (.int .u32 0) 1 underlying121 c6 d7 d8 .i64 .i64 _ _ a.length rfl rfl ?m0 ?m1 ?m2 ?m3 ?m4 ?_)
 try (case m0=>first|rfl|omega)
 try (case m1=>first|rfl|omega)
 try (case m2=>(first|omega|(rw[d9];omega)))
 try (case m3=>(unfold maxLen;omega))
 try (case m4=>exact Of)
 intro w1 O b7
 first|rw[K8] at O|rw[Ka] at O
 have E:Gw w1 w.heap.size (List.replicate a.length 0):=Kp O;have b3:Up w w1:=(Jh _ _).grown b7 Of (fun k h=>by cases h);clear O b7
 go_wp2
 go_loopw [6,14] (fun cv iv wr=>∃ (i c:Nat) (L:List Nat),i<=a.length/\c<=1/\L.length=a.length/\okL L/\Gw wr w.heap.size L/\cv=.int .i64 (c:Nat)/\iv=.int .i64 i /\
  val (L.take i)+val (b.take i)=val (a.take i)+1000000000 ^ i*c/\Up w wr) (fun _ iv _=>a.length - (intOf iv).toNat)
 case atStart=>exact⟨0,0,_,by omega,by omega,by simp,fun x hx=>by rw[Yq hx];omega,E,rfl,rfl,by simp[val],b3⟩
 clear E b3;obtain⟨i,c,L,hi,hc,V,d,E,rfl,rfl,j,U⟩:=hrel
 by_cases b9:i<a.length
 ·obtain⟨ba,oa,rfl,c8,Y⟩:=HA.o i b9;rw[<-U.cell (p:=⟨ba,oa+i,none⟩) c8] at Y;have d5:=O9 a b4 i b9;obtain⟨x,hx⟩:=O1 (a.getD i 0);rw[hx] at Y d5
  by_cases b8:i<b.length
  ·obtain⟨bb,ob,rfl,d0,Z⟩:=HB.o i b8;rw[<-U.cell (p:=⟨bb,ob+i,none⟩) d0] at Z;have d6:=O9 b b5 i b8;obtain⟨y,hy⟩:=O1 (b.getD i 0);rw[hy] at Z d6
   by_cases b6:x<c+y
   ·have A:=Hz (1000000000 ^ i) _ _ _ c x y (x+1000000000 - c - y) 1 j (by omega);have K:Hid (val ((L.set i (x+1000000000 - c - y)).take (i+1))+val (b.take (i+1))=val (a.take (i+1))+1000000000 ^ (i+1)*1):=by
     unfold Hid
     rw[O2 L i _ (by omega),Ok,Ok,hx,hy,J5];exact A
    have M:=E.cell i (by omega);have a8:=E.frozen i;have J:Hid (Gw (wr.setCell ⟨w.heap.size,i,none⟩ (.int .u32 (((x+1000000000 - c - y):Nat):Int))) w.heap.size (L.set i (x+1000000000 - c - y))):=E.set i _;have G:Hid (∀ u,Up w (wr.setCell ⟨w.heap.size,i,none⟩ u)):=fun u=>U.setCell Of u;have I:Hid (okL (L.set i (x+1000000000 - c - y))):=U4 L d i _ (by omega);clear A j hx hy E U d
    go_wp2
    go_roundw
    case rel=>
     refine⟨i+1,1,L.set i (x+1000000000 - c - y),by omega,by omega,by simp[V],I.o,?_,rfl,by go_num,K.o,G.o _⟩;have h:=J.o;rw[show ((((x+1000000000 - c - y)):Nat):Int)=_ from ?_] at h
     ·exact h
     omega
    simp[intOf];omega
   have A:=Hz (1000000000 ^ i) _ _ _ c x y (x - c - y) 0 j (by omega);have K:Hid (val ((L.set i (x - c - y)).take (i+1))+val (b.take (i+1))=val (a.take (i+1))+1000000000 ^ (i+1)*0):=by
    unfold Hid
    rw[O2 L i _ (by omega),Ok,Ok,hx,hy,J5];exact A
   have M:=E.cell i (by omega);have a8:=E.frozen i;have J:Hid (Gw (wr.setCell ⟨w.heap.size,i,none⟩ (.int .u32 (((x - c - y):Nat):Int))) w.heap.size (L.set i (x - c - y))):=E.set i _;have G:Hid (∀ u,Up w (wr.setCell ⟨w.heap.size,i,none⟩ u)):=fun u=>U.setCell Of u;have I:Hid (okL (L.set i (x - c - y))):=U4 L d i _ (by omega);clear A j hx hy E U d
   go_wp2
   go_roundw
   case rel=>
    refine⟨i+1,0,L.set i (x - c - y),by omega,by omega,by simp[V],I.o,?_,rfl,by go_num,K.o,G.o _⟩;have h:=J.o;rw[show ((((x - c - y)):Nat):Int)=_ from ?_] at h
    ·exact h
    omega
   simp[intOf];omega
  have a7:b.getD i 0=0:=by rw[Jk,Yj (by omega)];rfl
  by_cases b6:x<c
  ·have A:=Hz (1000000000 ^ i) _ _ _ c x 0 (x+1000000000 - c) 1 j (by omega);have K:Hid (val ((L.set i (x+1000000000 - c)).take (i+1))+val (b.take (i+1))=val (a.take (i+1))+1000000000 ^ (i+1)*1):=by
    unfold Hid
    rw[O2 L i _ (by omega),Ok,Ok,hx,a7,J5];exact A
   have M:=E.cell i (by omega);have a8:=E.frozen i;have J:Hid (Gw (wr.setCell ⟨w.heap.size,i,none⟩ (.int .u32 (((x+1000000000 - c):Nat):Int))) w.heap.size (L.set i (x+1000000000 - c))):=E.set i _;have G:Hid (∀ u,Up w (wr.setCell ⟨w.heap.size,i,none⟩ u)):=fun u=>U.setCell Of u;have I:Hid (okL (L.set i (x+1000000000 - c))):=U4 L d i _ (by omega);clear A j hx a7 E U d
   go_wp2
   go_roundw
   case rel=>
    refine⟨i+1,1,L.set i (x+1000000000 - c),by omega,by omega,by simp[V],I.o,?_,rfl,by go_num,K.o,G.o _⟩;have h:=J.o;rw[show ((((x+1000000000 - c)):Nat):Int)=_ from ?_] at h
    ·exact h
    omega
   simp[intOf];omega
  have A:=Hz (1000000000 ^ i) _ _ _ c x 0 (x - c) 0 j (by omega);have K:Hid (val ((L.set i (x - c)).take (i+1))+val (b.take (i+1))=val (a.take (i+1))+1000000000 ^ (i+1)*0):=by
   unfold Hid
   rw[O2 L i _ (by omega),Ok,Ok,hx,a7,J5];exact A
  have M:=E.cell i (by omega);have a8:=E.frozen i;have J:Hid (Gw (wr.setCell ⟨w.heap.size,i,none⟩ (.int .u32 (((x - c):Nat):Int))) w.heap.size (L.set i (x - c))):=E.set i _;have G:Hid (∀ u,Up w (wr.setCell ⟨w.heap.size,i,none⟩ u)):=fun u=>U.setCell Of u;have I:Hid (okL (L.set i (x - c))):=U4 L d i _ (by omega);clear A j hx a7 E U d
  go_wp2
  go_roundw
  case rel=>
   refine⟨i+1,0,L.set i (x - c),by omega,by omega,by simp[V],I.o,?_,rfl,by go_num,K.o,G.o _⟩;have h:=J.o;rw[show ((((x - c)):Nat):Int)=_ from ?_] at h
   ·exact h
   omega
  simp[intOf];omega
 obtain rfl:i=a.length:=by omega
 have hE:=Ad (1000000000 ^ a.length) c _ _ _ j (by rw[Jn (by omega)];exact N1 L d _ (by omega)) (by rw[Jn (by omega),Jn (by omega)];exact d3.o);rw[Jn (by omega),Jn (by omega),Jn (by omega)] at hE;have HE:=Hd hE;have HL:Hid (U1 w.heap.size wr (.slice (some ⟨w.heap.size,0,none⟩) a.length a.length) L):=by
  have:=E.isL (B:=w.heap.size) (cap:=a.length) Of d (by omega) (by unfold maxLen;omega);rw[V] at this;exact this
 have d2:=Hd U;clear hE j E U d
 go_wp2
 go_ret
 exact⟨_,L,rfl,HL.o,HE.o,d2.o⟩
def Pz (x k:Nat):List Nat:=(List.range k).map (fun j=>48+x / 10 ^ j % 10)
def revD (l:List Nat):List Nat:=l.flatMap (fun x=>Pz x 9)
theorem NF (x k:Nat):Pz x (k+1)=Pz x k++[48+x / 10 ^ k % 10]:=by simp[Pz,List.range_succ]
theorem T3 (x k:Nat):(Pz x k).length=k:=by simp[Pz]
theorem T1 (l:List Nat):(revD l).length=9*l.length:=by
 unfold revD;rw[List.length_flatMap];simp only[T3];rw[List.map_const',List.sum_replicate_nat];omega
theorem NC (l:List Nat)(x:Nat):revD (l++[x])=revD l++Pz x 9:=by simp[revD]
theorem QG (x:Nat):(Pz x 9).reverse=Ng x 9:=by
 simp[Pz,Ng,dg,tens,List.range_succ]
theorem T2 (l:List Nat):(revD l).reverse=Gv l:=by
 unfold revD Gv
 induction l with
 | nil=>rfl
 | cons x l ih=>rw[Uf,Vh,ih,Uh,V3,QG];simp
theorem DV (l:List Nat):∀ x∈revD l,x<256:=fun x hx=>Av l x (by rw[<-T2];simpa using hx)
def Rf (l:List Nat):List Nat:=(l.reverse.dropWhile (·==48))
theorem KN (D:List Nat)(j:Nat)(h:j<D.length)(h0:D.getD j 0=48):Rf (D.take (j+1))=Rf (D.take j):=by
 unfold Rf;rw[Yd h,Vh];have:D[j]=48:=by simpa[List.getD_eq_getElem?_getD,h] using h0
 simp[this]
theorem IP (D:List Nat)(j:Nat)(h:j<D.length)(h0:D.getD j 0≠48):Rf (D.take (j+1))=(D.take (j+1)).reverse:=by
 unfold Rf;rw[Yd h,Vh];have:D[j]≠48:=by simpa[List.getD_eq_getElem?_getD,h] using h0
 simp[this]
theorem A9 (l:List Nat)(h:∀ x∈l,x<256):Ee (Ow l)=Ow (l.dropWhile (·==48)):=by
 induction l with
 | nil=>rfl
 | cons x l ih=>
   have d:=h x (by simp);have e:(UInt8.ofNat x==48)=(x==48):=by
    rw[Yb,Yc,Yc];constructor
    ·intro e;have:=congrArg UInt8.toNat e;rw[UInt8.toNat_ofNat_of_lt' (by simpa using d)] at this;exact this
    rintro rfl;rfl
   unfold Ee Ow at *;simp only[Vy,Z4,e]
   split
   ·exact ih (fun y hy=>h y (by simp[hy]))
   rfl
theorem GX (l:List Nat):textD l=Ow (Rf (revD l)):=by
 unfold textD Rf;rw[A9 _ (Av l),T2]
def It (ng:Bool)(t:List Nat):ByteArray:=if t.length=0 then strB [48] else if ng then strB (45::textD t) else strB (textD t)
theorem XD {B:Nat}{w:World}{z0:Int}{zn:Bool}{za:Option Addr}{zl zc:Nat}{neg:Bool}{t:List Nat}(h:Nz B w (.agg #[.int .i64 z0,.bool zn,.slice za zl zc]) neg t):Tp z0 zn zl=U0 neg t:=by
 obtain⟨d,j,h3⟩:=h
 rcases h3 with⟨h3,v,e,p,c,rfl,_⟩|⟨h3,e⟩
 ·simp at e;obtain⟨_,rfl,_,rfl,_⟩:=e;unfold Tp U0;have:0<t.length:=by omega
  simp[this]
 simp at e;obtain⟨rfl,rfl,_,rfl,_⟩:=e;exact (Dt neg t h3 d j).symm
def Ev (s M q:Nat):Nat:=s+(M - q)
theorem Nc (s M:Nat):Ev s M M=s:=by unfold Ev;omega
theorem Fe (s M q:Nat)(h:q<M):Ev s M (q+1)+1=Ev s M q:=by unfold Ev;omega
def Nm (D:List Nat)(M q:Nat):List Value:=Lh ((D.take M).drop q).reverse
theorem Xr (D:List Nat)(M:Nat):Nm D M M=[]:=by unfold Nm;rw[Zj (List.length_take_le _ _)];rfl
theorem F7 (D:List Nat)(M q:Nat)(h:q<M)(hl:M<=D.length):Nm D M q=Nm D M (q+1)++[.int .u8 (D.getD q 0:Nat)]:=by
 unfold Nm;have d:q<(D.take M).length:=by rw[J4];omega
 rw[Vm d,List.getElem_take,Jk,Jf (by omega),Uh,Cq];rfl
theorem Qt (w:World)(v:Value)(t:TypeId)(g:Nat)(hg:w.heap.size=g):∀ j u,[v][j]? = some u->(w.alloc (.cells #[v] t)).cell? ((⟨g,0,none⟩:Addr).add j)=some u:=by
 subst hg;exact cell_one_new _ _ _
theorem YX (B:Nat)(z:Value)(neg:Bool)(t:List Nat)(w:World)(hz:Nz B w z neg t)(hBw:B<=w.heap.size)(hlen:t.length<=600) :
 Calls prog 123 #[z] w fun e w'=>e=.returned (.string (It (U0 neg t) t))/\Up w w':=by
 obtain⟨z0,zn,za,zl,zc,m5⟩:=hz.shape;subst m5;obtain⟨i0,V,i7,b7,i8⟩:=info_parts info_u8;obtain⟨W0,c8⟩:=O1 (w.alloc (.cells #[.int .i64 z0,.bool zn,.slice za zl zc] 123));have l3:=Hd c8;have h6:Up w W0:=by rw[<-c8];exact Oy _ _
 have o1:W0.heap.size=w.heap.size+1:=by rw[<-c8];simp
 have HZ:Hid (Nz B W0 (.agg #[.int .i64 z0,.bool zn,.slice za zl zc]) neg t):=hz.bl h6;have l1:=Hd h6;have HX:Hid (∀ W,Up W0 W->W.cell? ⟨w.heap.size,0,none⟩=some (.int .i64 z0)/\W.cell? ⟨w.heap.size,1,none⟩=some (.bool zn)/\W.cell? ⟨w.heap.size,2,none⟩=some (.slice za zl zc)):=fun W hW=>by
  refine⟨?_,?_,?_⟩
  ·rw[hW.cell (p:=⟨w.heap.size,0,none⟩) (by show w.heap.size<_;omega),<-c8,Jp _ _ _ _ rfl];rfl
  ·rw[hW.cell (p:=⟨w.heap.size,1,none⟩) (by show w.heap.size<_;omega),<-c8,Jp _ _ _ _ rfl];rfl
  rw[hW.cell (p:=⟨w.heap.size,2,none⟩) (by show w.heap.size<_;omega),<-c8,Jp _ _ _ _ rfl];rfl
 have j3:Hid (Tp z0 zn zl=U0 neg t):=XD hz;clear hz h6 c8
 go_in
 go_wp2_with fail
 rw[l3.o];refine (Ez B _ neg t _ HZ.o (by omega)).mono ?_;rintro e K ⟨v,rfl,hv,g3⟩;obtain⟨a,cap,rfl,hl,m9,l7,hr⟩:=hv;have n0:w.heap.size+1<=K.heap.size:=by have:=g3.size;omega
 have HC:Hid (∀ i,i<t.length->∃ b off,a=some ⟨b,off,none⟩/\b<K.heap.size/\K.cell? ⟨b,off+i,none⟩=some (.int .u32 (t.getD i 0:Nat))):=fun i hi=>by
  rcases hr with rfl|⟨b,off,rfl,_,hb,hc⟩
  ·simp at hi
  exact⟨b,off,rfl,hb,hc i hi⟩
 have d4:=Hd g3;have O:Hid (Up w K):=l1.o.trans (g3.mono (by omega));clear hr g3
 by_cases h0:t.length=0
 ·have HT:Hid (It (U0 neg t) t=strB [48]):=if_pos h0;have zz:((t.length:Int)==0)=true:=by rw[Yc];omega
  go_wp2
  go_ret
  exact⟨by rw[HT.o];rfl,O.o⟩
 have zz:((t.length:Int)==0)=false:=by rw[Jc];omega
 have HT:Hid (It (U0 neg t) t=if U0 neg t then strB (45::textD t) else strB (textD t)):=if_neg h0
 go_wp2_with (at_make;refine wpList_make_own _ rfl _ _ 127 rfl K.heap.size 5 i0 (.int .u8 0) 1 underlying127 V i7 b7 .i64 .i64 _ (9*t.length+1) rfl rfl ?m1 ?m2 ?m3 ?m4 ?_)
 case m1=>omega
 case m2=>rw[i8];omega
 case m3=>unfold maxLen;omega
 case m4=>exact Of
 intro w2 f9 g4;have j9:Up K w2:=(Jh _ _).grown g4 Of (fun k h=>by cases h);clear g4
 go_wp2
 go_loopw [4,23] (fun v i wr=>∃ j:Nat,j<=t.length/\i=.int .i64 j/\v=.slice (some ⟨K.heap.size,0,none⟩) (9*j) (9*t.length+1) /\
  wr.ownsRow K.heap.size 5 1 (.slice (some ⟨K.heap.size,0,none⟩) (9*j) (9*t.length+1)) (9*j) (Lh (revD (t.take j)))/\Up K wr) (fun _ i _=>t.length - (intOf i).toNat)
 case atStart=>exact⟨0,Jy _,rfl,rfl,f9,j9⟩
 clear f9 j9;obtain⟨j,hj,rfl,rfl,G,hB⟩:=hrel
 by_cases h7:j<t.length
 ·obtain⟨b,off,rfl,hb,U⟩:=HC.o j h7;have l9:=UG t l7 j;rw[<-hB.cell (p:=⟨b,off+j,none⟩) hb] at U;have j7:Hid (t.take (j+1)=t.take j++[t.getD j 0]):=by
   unfold Hid
   rw[Yd h7,Jk,Jf h7];rfl
  obtain⟨y,hy⟩:=O1 (t.getD j 0);rw[hy] at U l9 j7;obtain⟨P,hP⟩:=O1 (revD (t.take j));have HP:=Hd hP;rw[hP] at G;clear hy hP
  go_wp2
  go_loopw [4,6,7] (fun v x kk wr=>∃ k:Nat,k<=9/\kk=.int .i64 k/\x=.int .u32 (y / 10 ^ k:Nat)/\v=.slice (some ⟨K.heap.size,0,none⟩) (9*j+k) (9*t.length+1) /\
   wr.ownsRow K.heap.size 5 1 (.slice (some ⟨K.heap.size,0,none⟩) (9*j+k) (9*t.length+1)) (9*j+k) (Lh (P++Pz y k))/\Up K wr) (fun _ _ kk _=>9 - (intOf kk).toNat)
  case atStart=>exact⟨0,Jy _,rfl,Ob (by simp),rfl,by simpa[Pz] using G,hB⟩
  clear G hB U;rename_i wr0;obtain⟨k,hk,rfl,rfl,rfl,G,hB⟩:=hrel
  by_cases o0:k<9
  ·have hq:=Nat.div_le_self y (10 ^ k);have j6:Hid (y / 10 ^ (k+1)=y / 10 ^ k / 10):=by unfold Hid;rw[J5,Z3]
   have g9:=NF y k;obtain⟨q,k9⟩:=O1 (y / 10 ^ k);rw[k9] at hq j6 g9 ⊢;have j5:Hid (Pz y (k+1)=Pz y k++[48+q % 10]):=g9;clear k9 g9
   go_wp2_with (at_builtin;refine wpList_append_fits _ rfl _ _ 127 rfl K.heap.size 5 i0 1 underlying127 V b7 K.heap.size (9*j+k) (9*t.length+1) _ rfl (G.alloc _) ⟨wr.heap.size,0,none⟩ 1 1 [_] rfl rfl (cell_one_new _ _ _) ?c1 ?c2 ?_)
   case c1=>first|rfl|(intro u hu;simp at hu;subst hu;rfl)
   case c2=>omega
   intro w3 g0 g5;have l4:Up K w3:=(hB.alloc hB.size _).grown g5 (by have:=hB.size;simp;omega) (fun k e=>by cases e;exact Of);have l2:Hid (w3.ownsRow K.heap.size 5 1 (.slice (some ⟨K.heap.size,0,none⟩) (9*j+(k+1)) (9*t.length+1)) (9*j+(k+1)) (Lh (P++Pz y (k+1)))):=by
    unfold Hid
    rw[j5.o,<-List.append_assoc,Cq]
    simpa[<-Nat.add_assoc] using g0
   clear g0 g5 G hB
   go_wp2
   go_roundw
   case rel=>exact⟨k+1,by omega,by go_num,by rw[j6.o];exact Ob (by simp),rfl,l2.o,l4⟩
   simp[intOf];omega
  obtain rfl:k=9:=by omega
  have b8:Hid (wr.ownsRow K.heap.size 5 1 (.slice (some ⟨K.heap.size,0,none⟩) (9*(j+1)) (9*t.length+1)) (9*(j+1)) (Lh (revD (t.take (j+1))))):=by
   unfold Hid
   rw[j7.o,NC,HP.o];exact G
  clear G
  go_wp2
  go_roundw
  case rel=>exact⟨j+1,by omega,by go_num,rfl,b8.o,hB⟩
  simp[intOf];omega
 obtain rfl:j=t.length:=by omega
 generalize l6:wr=E at *;clear l6;rw[Yl] at G;have g6:=T1 t;have h1:=GX t;have e1:=DV t;obtain⟨D,hD⟩:=O1 (revD t);rw[hD] at G g6 h1 e1;have J:Hid (D.length=9*t.length):=g6;have d2:Hid (textD t=Ow (Rf D)):=h1;have a7:Hid (∀ x∈D,x<256):=e1;have e2:=Hd G;have g8:Hid (∀ W:World,W.ownsRow K.heap.size 5 1 (.slice (some ⟨K.heap.size,0,none⟩) (9*t.length) (9*t.length+1)) (9*t.length) (Lh D)->∀ i,i<9*t.length->W.cell? ⟨K.heap.size,i,none⟩=some (.int .u8 (D.getD i 0:Nat))):=fun W hW i hi=>by
  have:=hW.cells (g:=K.heap.size) rfl i (.int .u8 (D.getD i 0:Nat)) (by rw[Y1];simp[List.getD_eq_getElem?_getD,show i<D.length by omega])
  by_cases i0:i=0
  ·subst i0;simpa[Addr.add] using this
  simpa[Addr.add,i0] using this
 have d5:=Hd hB;clear G g6 h1 e1 hD hB
 go_wp2
 go_loop [8] (fun n=>∃ m:Nat,m<=9*t.length/\n=.int .i64 m/\Rf (D.take m)=Rf D) (fun n=>(intOf n).toNat)
 case atStart=>exact⟨9*t.length,Of,Ob (by omega),by rw[<-J.o,Yl]⟩
 obtain⟨m,hm,rfl,hp⟩:=hrel;have HP:=Hd hp;clear hp;obtain⟨ng,k8⟩:=O1 (U0 neg t);have a8:=Hd k8;clear k8
 cases m with
 | zero=>
   have HM:Hid (Rf D=(D.take 0).reverse):=HP.o.symm.trans rfl
   go_wp2_with (at_make;refine wpList_make_own _ rfl _ _ 127 rfl E.heap.size 5 i0 (.int .u8 0) 1 underlying127 V i7 b7 .i64 .i64 _ (0+1) rfl rfl ?am1 ?am2 ?am3 ?am4 ?_)
   try (case am1=>(omega))
   try (case am2=>(first|omega|(rw[i8];omega)))
   try (case am3=>(unfold maxLen;omega))
   try (case am4=>(exact Of))
   intro w4 Z b4;have c6:Up E w4:=(Jh _ _).grown b4 Of (fun k h=>by cases h);have i1:K.heap.size<E.heap.size:=(e2.o.lt _ rfl).2;have d9:Hid (Up W0 w4):=d4.o.trans ((d5.o.mono d4.o.size).trans (c6.mono (by have:=d4.o.size;omega)));obtain⟨c0,c1,c2⟩:=HX.o w4 d9.o;have b8:=Hd Z;have M:=Hd c6;clear b4 Z c6
   go_wp2_with fail
   refine (Er _ _ _ _ _ _).mono ?_;rintro e w' ⟨rfl,l8⟩;subst w';rw[j3.o,a8.o]
   cases ng
   ·have b9:Hid (It (U0 neg t) t=strB (Ow (D.take (0)).reverse)):=by rw[HT.o,a8.o,d2.o,HM.o];rfl
    have I:=b8.o.alloc (.cells #[.int .i64 z0,.bool zn,.slice za zl zc] 123);have A:Up E (w4.alloc (.cells #[.int .i64 z0,.bool zn,.slice za zl zc] 123)):=M.o.alloc M.o.size _;obtain⟨W5,e8⟩:=O1 (w4.alloc (.cells #[.int .i64 z0,.bool zn,.slice za zl zc] 123));rw[e8] at I A ⊢;clear e8
    go_wp2
    go_loopw [9,10] (fun v i wr=>∃ q:Nat,q<=0/\i=.int .i64 (q - 1)/\v=.slice (some ⟨E.heap.size,0,none⟩) (Ev 0 (0) q) (0+1) /\
     wr.ownsRow E.heap.size 5 1 (.slice (some ⟨E.heap.size,0,none⟩) (Ev 0 (0) q) (0+1)) (Ev 0 (0) q) (Nm D (0) q)/\Up E wr) (fun _ i _=>(intOf i+1).toNat)
    case atStart=>
     refine⟨0,Of,Ob (by omega),by rw[Nc],?_,A⟩;rw[Nc,Xr]
     simpa using I
    clear I A;obtain⟨q,hq,rfl,rfl,I,A⟩:=hrel
    cases q with
    | zero=>
      have e9:Nm D (0) 0=Lh ((D.take (0)).reverse):=by unfold Nm;rw[Y5]
      rw[e9] at I;have d1:=Hw _ _ _ _ _ _ I (by
       intro x hx;have h:=hx;exact a7.o x (Yv (List.mem_reverse.1 h))) (by unfold Ev;rw[V4,J4,J.o];omega)
      have Y:Hid (Up w wr):=O.o.trans ((d5.o.mono O.o.size).trans (A.mono (by have:=O.o.size;omega)));clear I A e9
      go_wp2
      go_ret
      exact⟨by rw[b9.o];rfl,Y.o⟩
    | succ q=>exact absurd hq (Nat.not_succ_le_zero q)
   have b9:Hid (It (U0 neg t) t=strB (Ow ([45]++(D.take (0)).reverse))):=by rw[HT.o,a8.o,d2.o,HM.o];rfl
   have e6:=b8.o.alloc (.cells #[.int .i64 z0,.bool zn,.slice za zl zc] 123)
   go_wp2_with (at_builtin;refine wpList_append_fits _ rfl _ _ 127 rfl E.heap.size 5 i0 1 underlying127 V b7 E.heap.size 0 (0+1) _ rfl (e6.alloc _) ⟨w4.heap.size+1,0,none⟩ 1 1 [.int .u8 45] rfl rfl ?ad0 ?ad1 ?ad2 ?_)
   try (case ad0=>(exact Qt _ _ _ _ (by simp)))
   try (case ad1=>(first|rfl|(intro u hu;simp at hu;subst hu;rfl)))
   try (case ad2=>(omega))
   intro W5 I b5;have A:Up E W5:=((M.o.alloc M.o.size _).alloc (by have:=M.o.size;simp;omega) _).grown b5 (by have:=M.o.size;simp;omega) (fun k e=>by cases e;exact Of);clear b5 e6
   go_wp2
   go_loopw [9,10] (fun v i wr=>∃ q:Nat,q<=0/\i=.int .i64 (q - 1)/\v=.slice (some ⟨E.heap.size,0,none⟩) (Ev 1 (0) q) (0+1) /\
    wr.ownsRow E.heap.size 5 1 (.slice (some ⟨E.heap.size,0,none⟩) (Ev 1 (0) q) (0+1)) (Ev 1 (0) q) ([.int .u8 45]++Nm D (0) q)/\Up E wr) (fun _ i _=>(intOf i+1).toNat)
   case atStart=>
    refine⟨0,Of,Ob (by omega),by rw[Nc],?_,A⟩;rw[Nc,Xr]
    simpa using I
   clear I A;obtain⟨q,hq,rfl,rfl,I,A⟩:=hrel
   cases q with
   | zero=>
     have e9:[.int .u8 45]++Nm D (0) 0=Lh ([45]++(D.take (0)).reverse):=by unfold Nm;rw[Y5];rfl
     rw[e9] at I;have d1:=Hw _ _ _ _ _ _ I (by
      intro x hx
      rcases Z6.1 hx with h|h
      ·simp at h;omega
      exact a7.o x (Yv (List.mem_reverse.1 h))) (by unfold Ev;rw[Y8,V4,J4,J.o];simp only[Yo,Zh];omega)
     have Y:Hid (Up w wr):=O.o.trans ((d5.o.mono O.o.size).trans (A.mono (by have:=O.o.size;omega)));clear I A e9
     go_wp2
     go_ret
     exact⟨by rw[b9.o];rfl,Y.o⟩
   | succ q=>exact absurd hq (Nat.not_succ_le_zero q)
 | succ m=>
   have U:=g8.o E e2.o m (by omega);have k7:m<D.length:=by rw[J.o];omega
   by_cases d6:D.getD m 0=48
   ·have HN:Hid (Rf (D.take m)=Rf D):=(KN D m k7 d6).symm.trans HP.o;rw[d6] at U;clear d6
    go_wp2
    go_round
    case rel=>exact⟨m,by omega,Ob (by omega),HN.o⟩
    simp[intOf]
   have HM:Hid (Rf D=(D.take (m+1)).reverse):=HP.o.symm.trans (IP D m k7 d6);obtain⟨d0,k1⟩:=O1 (D.getD m 0);rw[k1] at U d6;have n9:((d0:Int)==48)=false:=by rw[Jc];omega
   clear k1 d6
   go_wp2_with (at_make;refine wpList_make_own _ rfl _ _ 127 rfl E.heap.size 5 i0 (.int .u8 0) 1 underlying127 V i7 b7 .i64 .i64 _ ((m+1)+1) rfl rfl ?bm1 ?bm2 ?bm3 ?bm4 ?_)
   try (case bm1=>(omega))
   try (case bm2=>(first|omega|(rw[i8];omega)))
   try (case bm3=>(unfold maxLen;omega))
   try (case bm4=>(exact Of))
   intro w4 Z b4;have c6:Up E w4:=(Jh _ _).grown b4 Of (fun k h=>by cases h);have i1:K.heap.size<E.heap.size:=(e2.o.lt _ rfl).2;have d9:Hid (Up W0 w4):=d4.o.trans ((d5.o.mono d4.o.size).trans (c6.mono (by have:=d4.o.size;omega)));obtain⟨c0,c1,c2⟩:=HX.o w4 d9.o;have b8:=Hd Z;have M:=Hd c6;clear b4 Z c6
   go_wp2_with fail
   refine (Er _ _ _ _ _ _).mono ?_;rintro e w' ⟨rfl,l8⟩;subst w';rw[j3.o,a8.o]
   cases ng
   ·have b9:Hid (It (U0 neg t) t=strB (Ow (D.take ((m+1))).reverse)):=by rw[HT.o,a8.o,d2.o,HM.o];rfl
    have I:=b8.o.alloc (.cells #[.int .i64 z0,.bool zn,.slice za zl zc] 123);have A:Up E (w4.alloc (.cells #[.int .i64 z0,.bool zn,.slice za zl zc] 123)):=M.o.alloc M.o.size _;obtain⟨W5,e8⟩:=O1 (w4.alloc (.cells #[.int .i64 z0,.bool zn,.slice za zl zc] 123));rw[e8] at I A ⊢;clear e8
    go_wp2
    go_loopw [9,10] (fun v i wr=>∃ q:Nat,q<=(m+1)/\i=.int .i64 (q - 1)/\v=.slice (some ⟨E.heap.size,0,none⟩) (Ev 0 ((m+1)) q) ((m+1)+1) /\
     wr.ownsRow E.heap.size 5 1 (.slice (some ⟨E.heap.size,0,none⟩) (Ev 0 ((m+1)) q) ((m+1)+1)) (Ev 0 ((m+1)) q) (Nm D ((m+1)) q)/\Up E wr) (fun _ i _=>(intOf i+1).toNat)
    case atStart=>
     refine⟨(m+1),Of,Ob (by omega),by rw[Nc],?_,A⟩;rw[Nc,Xr]
     simpa using I
    clear I A;obtain⟨q,hq,rfl,rfl,I,A⟩:=hrel
    cases q with
    | zero=>
      have e9:Nm D ((m+1)) 0=Lh ((D.take ((m+1))).reverse):=by unfold Nm;rw[Y5]
      rw[e9] at I;have d1:=Hw _ _ _ _ _ _ I (by
       intro x hx;have h:=hx;exact a7.o x (Yv (List.mem_reverse.1 h))) (by unfold Ev;rw[V4,J4,J.o];omega)
      have Y:Hid (Up w wr):=O.o.trans ((d5.o.mono O.o.size).trans (A.mono (by have:=O.o.size;omega)));clear I A e9
      go_wp2
      go_ret
      exact⟨by rw[b9.o];rfl,Y.o⟩
    | succ q=>
      have f5:wr.cell? ⟨K.heap.size,q,none⟩=some (.int .u8 (D.getD q 0:Nat)):=(A.cell (p:=⟨K.heap.size,q,none⟩) i1).trans (g8.o E e2.o q (by omega));have e3:Hid (Nm D ((m+1)) q=Nm D ((m+1)) (q+1)++[.int .u8 (D.getD q 0:Nat)]):=F7 D ((m+1)) q (by omega) (by rw[J.o];omega);have f8:D.getD q 0<256:=by
       rw[Jk,Jf (by rw[J.o];omega)];exact a7.o _ (Jw _)
      obtain⟨d,hd⟩:=O1 (D.getD q 0);rw[hd] at f5 e3 f8;clear hd;have h9:q<9*t.length:=by omega
      have b3:Hid (Ev 0 ((m+1)) (q+1)+1=Ev 0 ((m+1)) q):=Fe _ _ _ (by omega);have e0:Hid (Ev 0 ((m+1)) (q+1)+1<=(m+1)+1):=by unfold Hid;unfold Ev;omega
      go_wp2_with (at_builtin;refine wpList_append_fits _ rfl _ _ 127 rfl E.heap.size 5 i0 1 underlying127 V b7 E.heap.size (Ev 0 ((m+1)) (q+1)) ((m+1)+1) _ rfl (I.alloc _) ⟨wr.heap.size,0,none⟩ 1 1 [_] rfl rfl (cell_one_new _ _ _) ?bfc1 ?bfc2 ?_)
      try (case bfc1=>(first|rfl|(intro u hu;simp at hu;subst hu;rfl)))
      try (case bfc2=>(exact e0.o))
      intro w6 e7 b6;have h2:Up E w6:=(A.alloc A.size _).grown b6 (by have:=A.size;simp;omega) (fun k e=>by cases e;exact Of);have g7:Hid (w6.ownsRow E.heap.size 5 1 (.slice (some ⟨E.heap.size,0,none⟩) (Ev 0 ((m+1)) q) ((m+1)+1)) (Ev 0 ((m+1)) q) (Nm D ((m+1)) q)):=by
       unfold Hid
       rw[e3.o,<-b3.o]
       simpa using e7
      clear e7 b6 I A f5
      go_wp2
      go_roundw
      case rel=>exact⟨q,by omega,Ob (by omega),by rw[b3.o],g7.o,h2⟩
      simp[intOf]
   have b9:Hid (It (U0 neg t) t=strB (Ow ([45]++(D.take ((m+1))).reverse))):=by rw[HT.o,a8.o,d2.o,HM.o];rfl
   have e6:=b8.o.alloc (.cells #[.int .i64 z0,.bool zn,.slice za zl zc] 123)
   go_wp2_with (at_builtin;refine wpList_append_fits _ rfl _ _ 127 rfl E.heap.size 5 i0 1 underlying127 V b7 E.heap.size 0 ((m+1)+1) _ rfl (e6.alloc _) ⟨w4.heap.size+1,0,none⟩ 1 1 [.int .u8 45] rfl rfl ?bd0 ?bd1 ?bd2 ?_)
   try (case bd0=>(exact Qt _ _ _ _ (by simp)))
   try (case bd1=>(first|rfl|(intro u hu;simp at hu;subst hu;rfl)))
   try (case bd2=>(omega))
   intro W5 I b5;have A:Up E W5:=((M.o.alloc M.o.size _).alloc (by have:=M.o.size;simp;omega) _).grown b5 (by have:=M.o.size;simp;omega) (fun k e=>by cases e;exact Of);clear b5 e6
   go_wp2
   go_loopw [9,10] (fun v i wr=>∃ q:Nat,q<=(m+1)/\i=.int .i64 (q - 1)/\v=.slice (some ⟨E.heap.size,0,none⟩) (Ev 1 ((m+1)) q) ((m+1)+1) /\
    wr.ownsRow E.heap.size 5 1 (.slice (some ⟨E.heap.size,0,none⟩) (Ev 1 ((m+1)) q) ((m+1)+1)) (Ev 1 ((m+1)) q) ([.int .u8 45]++Nm D ((m+1)) q)/\Up E wr) (fun _ i _=>(intOf i+1).toNat)
   case atStart=>
    refine⟨(m+1),Of,Ob (by omega),by rw[Nc],?_,A⟩;rw[Nc,Xr]
    simpa using I
   clear I A;obtain⟨q,hq,rfl,rfl,I,A⟩:=hrel
   cases q with
   | zero=>
     have e9:[.int .u8 45]++Nm D ((m+1)) 0=Lh ([45]++(D.take ((m+1))).reverse):=by unfold Nm;rw[Y5];rfl
     rw[e9] at I;have d1:=Hw _ _ _ _ _ _ I (by
      intro x hx
      rcases Z6.1 hx with h|h
      ·simp at h;omega
      exact a7.o x (Yv (List.mem_reverse.1 h))) (by unfold Ev;rw[Y8,V4,J4,J.o];simp only[Yo,Zh];omega)
     have Y:Hid (Up w wr):=O.o.trans ((d5.o.mono O.o.size).trans (A.mono (by have:=O.o.size;omega)));clear I A e9
     go_wp2
     go_ret
     exact⟨by rw[b9.o];rfl,Y.o⟩
   | succ q=>
     have f5:wr.cell? ⟨K.heap.size,q,none⟩=some (.int .u8 (D.getD q 0:Nat)):=(A.cell (p:=⟨K.heap.size,q,none⟩) i1).trans (g8.o E e2.o q (by omega));have e3:Hid (Nm D ((m+1)) q=Nm D ((m+1)) (q+1)++[.int .u8 (D.getD q 0:Nat)]):=F7 D ((m+1)) q (by omega) (by rw[J.o];omega);have f8:D.getD q 0<256:=by
      rw[Jk,Jf (by rw[J.o];omega)];exact a7.o _ (Jw _)
     obtain⟨d,hd⟩:=O1 (D.getD q 0);rw[hd] at f5 e3 f8;clear hd;have h9:q<9*t.length:=by omega
     have b3:Hid (Ev 1 ((m+1)) (q+1)+1=Ev 1 ((m+1)) q):=Fe _ _ _ (by omega);have e0:Hid (Ev 1 ((m+1)) (q+1)+1<=(m+1)+1):=by unfold Hid;unfold Ev;omega
     go_wp2_with (at_builtin;refine wpList_append_fits _ rfl _ _ 127 rfl E.heap.size 5 i0 1 underlying127 V b7 E.heap.size (Ev 1 ((m+1)) (q+1)) ((m+1)+1) _ rfl (I.alloc _) ⟨wr.heap.size,0,none⟩ 1 1 [_] rfl rfl (cell_one_new _ _ _) ?btc1 ?btc2 ?_)
     try (case btc1=>(first|rfl|(intro u hu;simp at hu;subst hu;rfl)))
     try (case btc2=>(exact e0.o))
     intro w6 e7 b6;have h2:Up E w6:=(A.alloc A.size _).grown b6 (by have:=A.size;simp;omega) (fun k e=>by cases e;exact Of);have g7:Hid (w6.ownsRow E.heap.size 5 1 (.slice (some ⟨E.heap.size,0,none⟩) (Ev 1 ((m+1)) q) ((m+1)+1)) (Ev 1 ((m+1)) q) ([.int .u8 45]++Nm D ((m+1)) q)):=by
      unfold Hid
      rw[e3.o,<-b3.o]
      simpa using e7
     clear e7 b6 I A f5
     go_wp2
     go_roundw
     case rel=>exact⟨q,by omega,Ob (by omega),by rw[b3.o],g7.o,h2⟩
     simp[intOf]
theorem EI {w:World}{x y u:Int}(B e a b c g:Nat)(ha:a<1000000000)(hb:b<1000000000)(hcc:c<1000000000)(hx:x=a)(hy:y=b)(hu:u=c)(hg:w.heap.size=g)(hB:B<=g):U1 B (w.alloc (.cells #[.int .u32 x,.int .u32 y,.int .u32 u] e)) (.slice (some ⟨g,0,none⟩) 3 3) [a,b,c]:=by
 subst hx;subst hy;subst hu;subst hg;exact⟨_,3,rfl,by simp,by unfold maxLen;omega,fun x hx=>by simp at hx;omega,.inr ⟨w.heap.size,0,rfl,hB,by simp,fun i hi=>by
  match i,hi with
  | 0,_=>rw[Jp _ _ _ _ rfl];rfl
  | 1,_=>rw[Jp _ _ _ _ rfl];rfl
  | 2,_=>rw[Jp _ _ _ _ rfl];rfl⟩⟩
theorem M9 (t:List Nat):(textD t).length<=9*t.length:=by
 have d:(textD t).length<=(Ow (Gv t)).length:=by unfold textD Ee;exact (List.dropWhile_suffix _).length_le
 rw[Ow,Zv,Ho] at d;exact d
def Hi (B:Nat)(w:World)(z:Value)(x:Int)(n:Nat):Prop:=∃ neg t,Nz B w z neg t/\sg neg (val t)=x/\t.length<=n
theorem Hi.bl {B:Nat}{w w':World}{z:Value}{x:Int}{n:Nat}(h:Hi B w z x n)(hb:Up w w'):Hi B w' z x n:=by
 obtain⟨neg,t,d,j⟩:=h;exact⟨neg,t,d.bl hb,j⟩
theorem Hi.mono {B B':Nat}{w:World}{z:Value}{x:Int}{n:Nat}(h:Hi B w z x n)(hb:B'<=B):Hi B' w z x n:=by
 obtain⟨neg,t,d,j⟩:=h;exact⟨neg,t,d.mono hb,j⟩
def RR (n:Nat):List Nat:=Oe [n % 1000000000,n / 1000000000]
theorem RH (n:Nat)(h:n<1000000000000000000):okL (RR n):=trimL_ok _ fun x hx=>by
 simp at hx
 rcases hx with rfl|rfl<;>omega
theorem Wh (n:Nat):isTrim (RR n):=trimL_trim _
theorem UA (n:Nat):val (RR n)=n:=by
 unfold RR;rw[O3];simp only[val];omega
theorem Al (n:Nat):(RR n).length<=2:=by
 have:=Ku [n % 1000000000,n / 1000000000]
 simpa[RR] using this
theorem Ii (x:Int)(w:World)(h1 : -2000000000000000000<x)(h2:x<2000000000000000000) :
 Calls prog 125 #[.int .i64 x] w fun e w'=>∃ z,e=.returned z/\Hi w.heap.size w' z x 3/\Up w w':=by
 by_cases J:x<1000000000000000000 /\ -1000000000000000000<x
 ·obtain⟨U,V⟩:=J
  go_in
  go_wp2
  have K:sg (decide (x<0)) (val (RR x.natAbs))=x:=by
   rw[UA];unfold sg
   by_cases h:x<0<;>simp[h]<;>omega
  refine Jj (v:=.agg #[.int .i64 x,.bool false,.slice none 0 0]) ?_ rfl ⟨_,rfl,⟨decide (x<0),RR x.natAbs,⟨RH _ (by omega),Wh _,.inr ⟨Al _,?_⟩⟩,K,Yk (Al _) (by omega)⟩,?_⟩
  ·simp[results,results125,go_sem]
  ·rw[K]
  exact Oy _ _
 obtain⟨n,hn⟩:∃ n:Nat,x.natAbs=n:=⟨_,rfl⟩;obtain⟨u,O⟩:∃ u:Int,(n:Int)=u:=⟨_,rfl⟩;have d:Hid (okL [n % 1000000000,n / 1000000000 % 1000000000,n / 1000000000 / 1000000000]/\isTrim [n % 1000000000,n / 1000000000 % 1000000000,n / 1000000000 / 1000000000]/\sg (decide (x<0)) (val [n % 1000000000,n / 1000000000 % 1000000000,n / 1000000000 / 1000000000])=x):=by
  refine⟨fun y hy=>by simp at hy;omega,fun _=>by simp;omega,?_⟩;have:val [n % 1000000000,n / 1000000000 % 1000000000,n / 1000000000 / 1000000000]=n:=by simp only[val];omega
  rw[this];unfold sg
  by_cases h:x<0<;>simp[h]<;>omega
 have G:Hid (∀ W:World,U1 (W.heap.size) (W.alloc (.cells #[.int .u32 (u % 1000000000),.int .u32 (u / 1000000000 % 1000000000),.int .u32 (u / 1000000000 / 1000000000)] 154)) (.slice (some ⟨W.heap.size,0,none⟩) 3 3) [n % 1000000000,n / 1000000000 % 1000000000,n / 1000000000 / 1000000000]):=fun W=>
  EI _ _ _ _ _ _ (by omega) (by omega) (by omega) (by omega) (by omega) (by omega) rfl Of
 obtain⟨L,I⟩:=O1 ([n % 1000000000,n / 1000000000 % 1000000000,n / 1000000000 / 1000000000]);have M:L.length=3:=by rw[<-I];rfl
 rw[I] at d G;clear I;have Z:u<2000000000000000000:=by omega
 have Y:1000000000000000000<=u:=by omega
 by_cases j:x<0
 ·obtain rfl:x = -u:=by omega
  have E:decide (-u<0)=true:=Jb j;rw[E] at d;clear O hn E J
  go_in
  go_wp2
  have hl:=G.o (w.alloc (.cells #[.int .i64 0,.bool true,.slice (some ⟨w.heap.size+1,0,none⟩) 3 3] 123));have A:(w.alloc (.cells #[.int .i64 0,.bool true,.slice (some ⟨w.heap.size+1,0,none⟩) 3 3] 123)).heap.size=w.heap.size+1:=by simp
  rw[A] at hl;refine Jj (v:=.agg #[.int .i64 0,.bool true,.slice (some ⟨w.heap.size+1,0,none⟩) 3 3]) ?_ rfl ⟨_,rfl,⟨true,L,Nz.mono (B:=w.heap.size+1) ⟨d.o.1,d.o.2.1,.inl ⟨by omega,_,rfl,hl⟩⟩ (Y2 _),d.o.2.2,by omega⟩,Om (Oy _ _) _⟩;simp[results,results125,go_sem]
 obtain rfl:x=u:=by omega
 have E:decide (x<0)=false:=Jg j;rw[E] at d;clear O hn E J
 go_in
 go_wp2
 have hl:=G.o (w.alloc (.cells #[.int .i64 0,.bool false,.slice (some ⟨w.heap.size+1,0,none⟩) 3 3] 123));have A:(w.alloc (.cells #[.int .i64 0,.bool false,.slice (some ⟨w.heap.size+1,0,none⟩) 3 3] 123)).heap.size=w.heap.size+1:=by simp
 rw[A] at hl;refine Jj (v:=.agg #[.int .i64 0,.bool false,.slice (some ⟨w.heap.size+1,0,none⟩) 3 3]) ?_ rfl ⟨_,rfl,⟨false,L,Nz.mono (B:=w.heap.size+1) ⟨d.o.1,d.o.2.1,.inl ⟨by omega,_,rfl,hl⟩⟩ (Y2 _),d.o.2.2,by omega⟩,Om (Oy _ _) _⟩;simp[results,results125,go_sem]
theorem Io (n:Bool)(t:List Nat):sg (U0 n t) (val t)=sg n (val t):=by
 cases t with
 | nil=>cases n<;>simp[U0,sg,val]
 | cons a t=>simp[U0]
theorem ZT (n:Bool)(v:Nat):sg (!n) v = -sg n v:=by cases n<;>simp[sg]
theorem CP (s:Bool)(u v:Nat):sg s (u+v)=sg s u+sg s v:=by cases s<;>simp[sg]<;>omega
theorem QR (s:Bool)(d u v:Nat)(h:d+v=u):sg s d=sg s u+sg (!s) v:=by cases s<;>simp[sg]<;>omega
theorem Wy (s:Bool)(t:List Nat)(hok:okL t)(h2:t.length<=2) : -1000000000000000000<sg s (val t)/\sg s (val t)<1000000000000000000:=by
 have h:=Lk t hok 0 (by omega);unfold Ek at h;rw[Y5] at h
 cases s<;>simp[sg]<;>omega
theorem Tg (B:Nat)(z:Value)(neg:Bool)(t:List Nat)(w:World)(h:Nz B w z neg t) :
 Calls prog 167 #[z] w fun e w'=>∃ z',e=.returned z'/\Nz B w' z' (!neg) t/\Up w w':=by
 have I:=Hd h;obtain⟨d,A,h⟩:=h
 rcases h with⟨E,v,rfl,a,cap,rfl,hl,j,_,_⟩|⟨E,rfl⟩
 ·have Y:0<t.length:=by omega
  unfold maxLen at j;have V:((t.length:Int)==0)=false:=by rw[Jc];omega
  go_in
  go_wp2_with (go_at_call 105;refine (U6 _ _ _ _ _ _).mono ?_;rintro e w' ⟨rfl,rfl⟩)
  refine Jj (v:=.agg #[.int .i64 0,.bool !neg,.slice a t.length cap]) ?_ rfl ⟨_,rfl,⟨d,A,.inl ⟨E,_,rfl,?_⟩⟩,Om (Om (Oy _ _) _) _⟩
  ·simp[results,results167,go_sem]
  obtain⟨_,_,h3⟩:=I.o
  rcases h3 with⟨_,v,J,M⟩|⟨h4,_⟩
  ·simp at J;subst J;exact M.bl (Om (Om (Oy _ _) _) _)
  omega
 obtain⟨n,hn⟩:=O1 (sg neg (val t));have hb:=Wy neg t d E;have K:Hid (sg (!neg) (val t) = -n):=by rw[<-hn];exact ZT neg (val t)
 have G:Hid (okL t/\isTrim t/\t.length<=2):=⟨d,A,E⟩;rw[hn] at hb ⊢;obtain⟨O,U⟩:=hb;clear hn I
 go_in
 go_wp2_with (go_at_call 105;refine (U6 _ _ _ _ _ _).mono ?_;rintro e w' ⟨rfl,rfl⟩)
 refine Jj (v:=.agg #[.int .i64 (-n),.bool false,.slice none 0 0]) ?_ rfl ⟨_,rfl,⟨G.o.1,G.o.2.1,.inr ⟨G.o.2.2,by rw[K.o]⟩⟩,Om (Om (Oy _ _) _) _⟩;simp[results,results167,go_sem]
def N5 (B:Nat)(w:World)(z:Value)(x:Int):Prop:=∃ neg t,Nz B w z neg t/\sg neg (val t)=x
theorem N5.bl {B:Nat}{w w':World}{z:Value}{x:Int}(h:N5 B w z x)(hb:Up w w'):N5 B w' z x:=by
 obtain⟨neg,t,d,j⟩:=h;exact⟨neg,t,d.bl hb,j⟩
theorem N5.mono {B B':Nat}{w:World}{z:Value}{x:Int}(h:N5 B w z x)(hb:B'<=B):N5 B' w z x:=by
 obtain⟨neg,t,d,j⟩:=h;exact⟨neg,t,d.mono hb,j⟩
theorem N5.setCell {B:Nat}{w:World}{z:Value}{x:Int}(h:N5 B w z x)(p:Addr)(u:Value)(hp:p.block<B):N5 B (w.setCell p u) z x:=by
 obtain⟨neg,t,d,j⟩:=h;exact⟨neg,t,d.setCell p u hp,j⟩
theorem N5.shape {B:Nat}{w:World}{z:Value}{x:Int}(h:N5 B w z x):∃ (z0:Int) (zn:Bool) (za:Option Addr) (zl zc:Nat),z=.agg #[.int .i64 z0,.bool zn,.slice za zl zc]:=by
 obtain⟨neg,t,d,j⟩:=h;exact d.shape
structure Boxes (g:Nat)(W:World)(x:Int)(xn:Bool)(pa:Option Addr)(la ca:Nat)(y:Int)(yn:Bool)(pb:Option Addr)(lb cb:Nat):Prop where
 a0:W.cell? ⟨g,0,none⟩=some (.int .i64 x)
 a1:W.cell? ⟨g,1,none⟩=some (.bool xn)
 a2:W.cell? ⟨g,2,none⟩=some (.slice pa la ca)
 b0:W.cell? ⟨g+1,0,none⟩=some (.int .i64 y)
 b1:W.cell? ⟨g+1,1,none⟩=some (.bool yn)
 b2:W.cell? ⟨g+1,2,none⟩=some (.slice pb lb cb)
 r0:W.cell? ⟨g+2,0,none⟩=some (.int .i64 0)
 r1:W.cell? ⟨g+2,1,none⟩=some (.bool false)
 r2:W.cell? ⟨g+2,2,none⟩=some (.slice none 0 0)
 f0:W.frozen? ⟨g+2,0,none⟩=false
 f1:W.frozen? ⟨g+2,1,none⟩=false
 f2:W.frozen? ⟨g+2,2,none⟩=false
theorem Boxes.bl {g:Nat}{W W':World}{x:Int}{xn:Bool}{pa:Option Addr}{la ca:Nat}{y:Int}{yn:Bool}{pb:Option Addr}{lb cb:Nat}(h:Boxes g W x xn pa la ca y yn pb lb cb){N:Nat}(hN:g+3<=N)(hb:Below N W W'):Boxes g W' x xn pa la ca y yn pb lb cb:=by
 have q:∀ k,k<3->∀ i,W'.cell? ⟨g+k,i,none⟩=W.cell? ⟨g+k,i,none⟩:=fun k hk i=>hb.cell (p:=⟨g+k,i,none⟩) (by show g+k<N;omega);have f:∀ i,W'.frozen? ⟨g+2,i,none⟩=W.frozen? ⟨g+2,i,none⟩:=fun i=>hb.frozen (p:=⟨g+2,i,none⟩) (by show g+2<N;omega);exact⟨(q 0 (by omega) 0).trans h.a0,(q 0 (by omega) 1).trans h.a1,(q 0 (by omega) 2).trans h.a2,(q 1 (by omega) 0).trans h.b0,(q 1 (by omega) 1).trans h.b1,(q 1 (by omega) 2).trans h.b2,(q 2 (by omega) 0).trans h.r0,(q 2 (by omega) 1).trans h.r1,(q 2 (by omega) 2).trans h.r2,(f 0).trans h.f0,(f 1).trans h.f1,(f 2).trans h.f2⟩
theorem G7 (w:World)(x:Int)(xn:Bool)(pa:Option Addr)(la ca:Nat)(y:Int)(yn:Bool)(pb:Option Addr)(lb cb:Nat)(ty:TypeId) :
 Boxes w.heap.size (((w.alloc (.cells #[.int .i64 x,.bool xn,.slice pa la ca] ty)).alloc (.cells #[.int .i64 y,.bool yn,.slice pb lb cb] ty)).alloc (.cells #[.int .i64 0,.bool false,.slice none 0 0] ty)) x xn pa la ca y yn pb lb cb:=by
 constructor
 ·rw[Jt _ _ _ (by simp;omega),Jt _ _ _ (by simp),Jp _ _ _ _ rfl];rfl
 ·rw[Jt _ _ _ (by simp;omega),Jt _ _ _ (by simp),Jp _ _ _ _ rfl];rfl
 ·rw[Jt _ _ _ (by simp;omega),Jt _ _ _ (by simp),Jp _ _ _ _ rfl];rfl
 ·rw[Jt _ _ _ (by simp),Jp _ _ _ _ (by simp)];rfl
 ·rw[Jt _ _ _ (by simp),Jp _ _ _ _ (by simp)];rfl
 ·rw[Jt _ _ _ (by simp),Jp _ _ _ _ (by simp)];rfl
 ·rw[Jp _ _ _ _ (by simp)];rfl
 ·rw[Jp _ _ _ _ (by simp)];rfl
 ·rw[Jp _ _ _ _ (by simp)];rfl
 ·rw[J7 _ _ _ _ (by simp)]
 ·rw[J7 _ _ _ _ (by simp)]
 rw[J7 _ _ _ _ (by simp)]
theorem Tv (x y:Int)(w:World)(hx1 : -1000000000000000000<x)(hx2:x<1000000000000000000)(hy1 : -1000000000000000000<y)(hy2:y<1000000000000000000) :
 Calls prog 143 #[.agg #[.int .i64 x,.bool false,.slice none 0 0],.agg #[.int .i64 y,.bool false,.slice none 0 0]] w fun e w'=>∃ z,e=.returned z/\N5 w.heap.size w' z (x+y)/\Up w w':=by
 have Y:=G7 w x false none 0 0 y false none 0 0 123;obtain⟨h,d⟩:=O1 (((w.alloc (.cells #[.int .i64 x,.bool false,.slice none 0 0] 123)).alloc (.cells #[.int .i64 y,.bool false,.slice none 0 0] 123)).alloc (.cells #[.int .i64 0,.bool false,.slice none 0 0] 123));have V:=Hd d;have M:Hid (Up w h):=by rw[<-d];exact Om (Om (Oy _ _) _) _
 have K:h.heap.size=w.heap.size+3:=by rw[<-d];simp
 have G:w.heap.size<h.heap.size:=by omega
 have I:w.heap.size+1<h.heap.size:=by omega
 have J:w.heap.size+2<h.heap.size:=by omega
 rw[d] at Y;have HS:=Hd K;have A:=Y;obtain⟨a0,a1,a2,b0,b1,b2,r0,r1,r2,f0,f1,f2⟩:=Y;have U:Hid (Boxes w.heap.size h x false none 0 0 y false none 0 0):=A;clear d K A
 go_in
 go_wp2_with fail
 rw[V.o];refine (U6 _ _ _ _ _ _).mono ?_;rintro e w' ⟨rfl,rfl⟩
 go_wp2_with (go_at_call 105;refine (U6 _ _ _ _ _ _).mono ?_;rintro e w' ⟨rfl,rfl⟩)
 refine (Ii _ _ (by omega) (by omega)).mono ?_;rintro e w1 ⟨z,rfl,⟨neg,t,Z,hv,_⟩,E⟩;have HN:Hid (N5 (w.heap.size+3) w1 z (x+y)):=⟨neg,t,Z.mono (by have:=HS.o;simp;omega),hv⟩;have j:Up h w1:=(Om (Oy h _) _).trans (E.mono (by simp;omega));have O:Hid (Up w w1):=M.o.trans (j.mono (by omega));clear a0 a1 a2 b0 b1 b2 r0 r1 r2 f0 f1 f2;obtain⟨a0,a1,a2,b0,b1,b2,r0,r1,r2,f0,f1,f2⟩:=U.o.bl (by have:=HS.o;omega) j;obtain⟨z0,zn,za,zl,zc,a7⟩:=Z.shape;subst a7;clear Z hv E j G I J
 go_wp2
 refine Jj ?_ rfl ⟨_,rfl,(((HN.o.setCell _ _ (by simp)).setCell _ _ (by simp)).setCell _ _ (by simp)).mono (by omega),((O.o.setCell (by simp;omega) _).setCell (by simp;omega) _).setCell (by simp;omega) _⟩;simp[results,results143,go_sem,r0,r1,r2]
theorem Bd (a b:List UInt8)(h:Ee a≠[]):Ee (a++b)=Ee a++b:=by
 induction a with
 | nil=>exact absurd rfl h
 | cons x a ih=>
   unfold Ee at *;simp only[Yu,Z4] at *
   split
   ·rename_i hx;rw[if_pos hx] at h;exact ih h
   rfl
theorem KR (a:List UInt8)(h:Ee a=[]):∀ x∈a,x=48:=by
 induction a with
 | nil=>intro x d;cases d
 | cons y a ih=>
   unfold Ee at *;simp only[Z4] at h
   split at h
   ·rename_i hy;intro x d
    rcases Vz.1 d with rfl|d
    ·simpa using hy
    exact ih h x d
   cases h
theorem PY (x j:Nat)(h:UInt8.ofNat (dg x j)=48):x / tens j % 10=0:=by
 have d:=congrArg UInt8.toNat h;unfold dg at d;rw[UInt8.toNat_ofNat_of_lt' (by simp[UInt8.size];omega)] at d;have:(48:UInt8).toNat=48:=rfl;omega
theorem PZ (x:Nat)(h0:x≠0)(h:x<1000000000):Ee (Ow (Ng x 9))≠[]:=by
 intro he;have A:=KR _ he;have d:∀ j,j<9->x / tens j % 10=0:=fun j hj=>PY x j (A _ (by
  unfold Ow Ng;rw[List.map_map,Zm];exact⟨j,Y6.2 hj,rfl⟩))
 have E:=d 0 (by decide);have G:=d 1 (by decide);have I:=d 2 (by decide);have J:=d 3 (by decide);have K:=d 4 (by decide);have M:=d 5 (by decide);have O:=d 6 (by decide);have U:=d 7 (by decide);have V:=d 8 (by decide);have Y:tens 0=100000000:=rfl;have Z:tens 1=10000000:=rfl;have e2:tens 2=1000000:=rfl;have e3:tens 3=100000:=rfl;have e4:tens 4=10000:=rfl;have e5:tens 5=1000:=rfl;have e6:tens 6=100:=rfl;have e7:tens 7=10:=rfl;have e8:tens 8=1:=rfl;rw[Y] at E;rw[Z] at G;rw[e2] at I;rw[e3] at J;rw[e4] at K;rw[e5] at M;rw[e6] at O;rw[e7] at U;rw[e8] at V;omega
theorem textD_ge (t:List Nat)(hok:okL t)(htr:isTrim t)(hne:t≠[]):9*(t.length - 1)+1<=(textD t).length:=by
 have hl:=htr hne;have d:=hok _ (List.getLast_mem hne);obtain⟨u,x,rfl⟩:∃ u x,t=u++[x]:=⟨t.dropLast,t.getLast hne,(Zg hne).symm⟩;simp at hl d;have hn:=PZ x hl d;have e:Ow (Gv (u++[x]))=Ow (Ng x 9)++Ow (Gv u):=by
  unfold Gv Ow;simp
 unfold textD;rw[e,Bd _ _ hn];have h:0<(Ee (Ow (Ng x 9))).length:=Zf.2 hn;have j:(Ow (Gv u)).length=9*u.length:=by rw[Ow,Zv,Ho]
 have h3:(Ee (Ow (Ng x 9))++Ow (Gv u)).length=(Ee (Ow (Ng x 9))).length+(Ow (Gv u)).length:=Y8;have h4:(u++[x]).length=u.length+1:=by simp
 omega
theorem OR (ng:Bool)(t:List Nat)(h:t.length≠0):(It ng t).size=(if ng then 1 else 0)+(textD t).length:=by
 unfold It;rw[if_neg h]
 cases ng
 ·simp[I3]
 simp[I3];omega
def digC (t:List Nat):Nat:=if t.length=0 then 1 else (textD t).length
theorem R5 (B:Nat)(z:Value)(neg:Bool)(t:List Nat)(w:World)(hz:Nz B w z neg t)(hBw:B<=w.heap.size)(hlen:t.length<=600) :
 Calls prog 106 #[z] w fun e w'=>e=.returned (.int .i64 (digC t:Nat))/\Up w w':=by
 obtain⟨z0,O,za,M,zc,a8⟩:=hz.shape;subst a8;have Y:Hid (Tp z0 O M=U0 neg t):=XD hz;obtain⟨K,d⟩:=O1 (w.alloc (.cells #[.int .i64 z0,.bool O,.slice za M zc] 123));have Z:=Hd d;have E:Up w K:=by rw[<-d];exact Oy _ _
 have c8:K.heap.size=w.heap.size+1:=by rw[<-d];simp
 have HZ:Hid (Nz B K (.agg #[.int .i64 z0,.bool O,.slice za M zc]) neg t):=hz.bl E;have U:=Hd E;have HX:Hid (∀ W,Up K W->W.cell? ⟨w.heap.size,0,none⟩=some (.int .i64 z0)/\W.cell? ⟨w.heap.size,1,none⟩=some (.bool O)/\W.cell? ⟨w.heap.size,2,none⟩=some (.slice za M zc)):=fun W hW=>by
  refine⟨?_,?_,?_⟩
  ·rw[hW.cell (p:=⟨w.heap.size,0,none⟩) (by show w.heap.size<_;omega),<-d,Jp _ _ _ _ rfl];rfl
  ·rw[hW.cell (p:=⟨w.heap.size,1,none⟩) (by show w.heap.size<_;omega),<-d,Jp _ _ _ _ rfl];rfl
  rw[hW.cell (p:=⟨w.heap.size,2,none⟩) (by show w.heap.size<_;omega),<-d,Jp _ _ _ _ rfl];rfl
 clear hz E d
 go_in
 go_wp2_with fail
 rw[Z.o];refine (YX B _ neg t _ HZ.o (by omega) hlen).mono ?_;rintro e w1 ⟨rfl,G⟩;obtain⟨c0,c1,c2⟩:=HX.o w1 G;obtain⟨j,h⟩:=O1 (U0 neg t);have I:=Hd h;have A:Hid ((It j t).size=(if j then 1 else 0)+digC t):=by
  unfold Hid
  by_cases J:t.length=0
  ·have e1:j=false:=by rw[<-h];unfold U0;simp[J]
   unfold It digC;rw[if_pos J,if_pos J,e1];rfl
  rw[OR j t J];unfold digC;rw[if_neg J]
 have a7:(It j t).size<=6000:=by
  have h1:=M9 t;have h2:=A.o;have h3:digC t<=5401:=by unfold digC;split<;>omega
  cases j<;>simp at h2<;>omega
 have V:Hid (Up w w1):=U.o.trans (G.mono (by omega));rw[h];clear h G;obtain⟨s,hs⟩:=O1 (It j t);rw[hs] at a7 A ⊢;clear hs
 go_wp2_with fail
 refine (Er _ _ _ _ _ _).mono ?_;rintro e w' ⟨rfl,d0⟩;subst w';rw[Y.o,I.o]
 cases j
 all_goals
  go_wp2
  go_ret
  exact⟨K5 (by have:=A.o;simp at this;omega),Om V.o _⟩
end Go.Proofs.YtipgjenolpofpaaGreatDoor.Q
