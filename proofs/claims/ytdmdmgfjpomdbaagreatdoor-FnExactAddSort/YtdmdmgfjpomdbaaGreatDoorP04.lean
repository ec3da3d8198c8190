import Derived.Test.YtdmdmgfjpomdbaaGreatDoorP03
set_option maxRecDepth 100000
set_option maxHeartbeats 8000000
namespace Go.Proofs.YtdmdmgfjpomdbaaGreatDoor.Q
open ChangeShapes WideShapes ChangeAt RowKit Proofs.Tryz
variable {B R:Nat}{l:List Nat}{w:World}
theorem IW (P s:Nat):P*(s % 1000000000)+P*1000000000*(s / 1000000000)=P*s:=by
 rw[Yw,<-Yh,Nat.add_comm,Uj]
theorem Eu (n:Nat):(madeCells #[Value.int .u32 0] n).toList=Gg (List.replicate n 0):=by
 rw[toList_madeCells_one];simp[Gg]
theorem U9 (t:List Nat)(h:okL t)(i:Nat)(hi:i<t.length):t.getD i 0<1000000000:=by
 rw[Ji,Jd hi];exact h _ (Jo _)
theorem Xf (P A Bv La c x y:Nat)(h:La+P*c=A+Bv):La+P*((c+x+y) % 1000000000)+P*1000000000*((c+x+y) / 1000000000)=A+P*x+(Bv+P*y):=by
 have d:=IW P (c+x+y);rw[Yh,Yh] at d;omega
theorem EJ (P Q c A Bv V:Nat)(hQ:Q=P*1000000000)(h:V+Q*c=A+Bv)(hA:A<P)(hB:Bv<P):V=A+Bv:=by
 cases c with
 | zero=>rw[Vk] at h;omega
 | succ c=>
   rw[Nat.mul_succ] at h;generalize Q*c=X at h;omega
theorem Gb (a:List Nat)(h:okL a)(n:Nat)(hn:a.length<=n):val a<1000000000 ^ n:=Jq (G6 a h) (Y0 (by decide) hn)
theorem UX (B:Nat)(va vb:Value)(a b:List Nat)(w:World)(ha:Kz B w va a)(hb:Kz B w vb b)(hla:a.length<=1000000)(hlb:b.length<=1000000) :
 Calls prog 173 #[va,vb] w fun e w'=>∃ v L,e=.returned v/\Kz w.heap.size w' v L/\val L=val a+val b/\Up w w':=by
 obtain⟨i0,d5,e1,e3,e4⟩:=info_parts info_u32;obtain⟨pa,ca,rfl,_⟩:=id ha;obtain⟨pb,cb,rfl,_⟩:=id hb;obtain⟨_,_,_,b4,V⟩:=ha.cells;obtain⟨_,_,_,b5,Y⟩:=hb.cells;have HA:=Hd V;have HB:=Hd Y;clear V Y ha hb
 by_cases hl:a.length<b.length
 ·have z:decide ((a.length:Int)<b.length)=true:=dT (by omega)
  go_in
  go_wp2_with (at_make;refine wpList_make_full _ rfl _ _ 117 rfl w.heap.size 149 i0 (.int .u32 0) 1 underlying117 d5 e1 e3 .i64 .i64 _ _ (b.length+1) rfl rfl ?pm0 ?pm1 ?pm2 ?pm3 ?pm4 ?_)
  try (case pm0=>omega)
  try (case pm1=>omega)
  try (case pm2=>(first|omega|(rw[e4];omega)))
  try (case pm3=>(unfold maxLen;omega))
  try (case pm4=>exact leR)
  intro w1 J c8
  first|rw[Ep] at J|rw[Eu] at J
  have I:Hp w1 w.heap.size (List.replicate (b.length+1) 0):=Kj J;have b9:Up w w1:=(Je _ _).grown c8 leR (fun k h=>by cases h);clear J c8
  go_wp2
  go_loopw [7,8] (fun cv iv wr=>∃ (i c:Nat) (L:List Nat),i<=b.length+1/\c<=1/\L.length=b.length+1/\okL L/\Hp wr w.heap.size L/\cv=.int .u64 (c:Nat)/\iv=.int .i64 i /\
   val (L.take i)+1000000000 ^ i*c=val (a.take i)+val (b.take i)/\Up w wr) (fun _ iv _=>b.length+1 - (intOf iv).toNat)
  case atStart=>exact⟨0,0,_,by omega,by omega,by simp,fun x hx=>by rw[Yt hx];omega,I,rfl,rfl,by simp[val],b9⟩
  clear I b9;obtain⟨i,c,L,hi,hc,a8,j,I,rfl,rfl,A,U⟩:=hrel
  by_cases g0:i<=b.length
  ·by_cases b8:i<a.length
   ·by_cases b3:i<b.length
    ·obtain⟨ba,oa,rfl,b6,V⟩:=HA.o i b8;rw[<-U.cell (p:=⟨ba,oa+i,none⟩) b6] at V;have d2:=U9 a b4 i b8;obtain⟨bb,ob,rfl,b7,Y⟩:=HB.o i b3;rw[<-U.cell (p:=⟨bb,ob+i,none⟩) b7] at Y;have d4:=U9 b b5 i b3;have d:=Xf (1000000000 ^ i) _ _ _ c (a.getD i 0) (b.getD i 0) A;rw[<-Oe,<-Oe] at d;obtain⟨x,hx⟩:=Oa (a.getD i 0);rw[hx] at V d2 d;obtain⟨y,hy⟩:=Oa (b.getD i 0);rw[hy] at Y d4 d;have G:Hid (val ((L.set i ((c+x+y) % 1000000000)).take (i+1))+1000000000 ^ (i+1)*((c+x+y) / 1000000000)=val (a.take (i+1))+val (b.take (i+1))):=by
      unfold Hid
      rw[O2 L i _ (by omega),J7];exact d
     clear d A hx hy;obtain⟨s,hs⟩:=Oa (c+x+y);have d0:s<2000000000:=by omega
     rw[hs] at G;have Z:=I.cell i (by omega);have c6:=I.frozen i;have O:Hid (Hp (wr.setCell ⟨w.heap.size,i,none⟩ (.int .u32 ((s % 1000000000:Nat):Int))) w.heap.size (L.set i (s % 1000000000))):=I.set i _;have K:Hid (∀ u,Up w (wr.setCell ⟨w.heap.size,i,none⟩ u)):=fun u=>U.setCell leR u;have M:Hid (okL (L.set i (s % 1000000000))):=Kn L j i _ (Z5 _ (by decide));have E:=Hd hs;clear I U hs j
     go_wp2
     go_roundw
     case rel=>
      refine⟨i+1,s / 1000000000,L.set i (s % 1000000000),by omega,by omega,by simp[a8],M.o,?_,Ot (by rw[<-E.o];simp),by go_num,G.o,K.o _⟩;have h:=O.o;rw[<-E.o] at h ⊢
      simpa using h
     simp[intOf];omega
    exfalso;omega
   by_cases b3:i<b.length
   ·have d1:a.getD i 0=0:=by rw[Ji,Ym (by omega)];rfl
    obtain⟨bb,ob,rfl,b7,Y⟩:=HB.o i b3;rw[<-U.cell (p:=⟨bb,ob+i,none⟩) b7] at Y;have d4:=U9 b b5 i b3;have d:=Xf (1000000000 ^ i) _ _ _ c (a.getD i 0) (b.getD i 0) A;rw[<-Oe,<-Oe] at d;rw[d1,Vj] at d;obtain⟨y,hy⟩:=Oa (b.getD i 0);rw[hy] at Y d4 d;have G:Hid (val ((L.set i ((c+y) % 1000000000)).take (i+1))+1000000000 ^ (i+1)*((c+y) / 1000000000)=val (a.take (i+1))+val (b.take (i+1))):=by
     unfold Hid
     rw[O2 L i _ (by omega),J7];exact d
    clear d A hy;obtain⟨s,hs⟩:=Oa (c+y);have d0:s<2000000000:=by omega
    rw[hs] at G;have Z:=I.cell i (by omega);have c6:=I.frozen i;have O:Hid (Hp (wr.setCell ⟨w.heap.size,i,none⟩ (.int .u32 ((s % 1000000000:Nat):Int))) w.heap.size (L.set i (s % 1000000000))):=I.set i _;have K:Hid (∀ u,Up w (wr.setCell ⟨w.heap.size,i,none⟩ u)):=fun u=>U.setCell leR u;have M:Hid (okL (L.set i (s % 1000000000))):=Kn L j i _ (Z5 _ (by decide));have E:=Hd hs;clear I U hs j
    go_wp2
    go_roundw
    case rel=>
     refine⟨i+1,s / 1000000000,L.set i (s % 1000000000),by omega,by omega,by simp[a8],M.o,?_,Ot (by rw[<-E.o];simp),by go_num,G.o,K.o _⟩;have h:=O.o;rw[<-E.o] at h ⊢
     simpa using h
    simp[intOf];omega
   have d1:a.getD i 0=0:=by rw[Ji,Ym (by omega)];rfl
   have d3:b.getD i 0=0:=by rw[Ji,Ym (by omega)];rfl
   have d:=Xf (1000000000 ^ i) _ _ _ c (a.getD i 0) (b.getD i 0) A;rw[<-Oe,<-Oe] at d;rw[d1,Vj] at d;rw[d3,Vj] at d;have G:Hid (val ((L.set i ((c) % 1000000000)).take (i+1))+1000000000 ^ (i+1)*((c) / 1000000000)=val (a.take (i+1))+val (b.take (i+1))):=by
    unfold Hid
    rw[O2 L i _ (by omega),J7];exact d
   clear d A;obtain⟨s,hs⟩:=Oa c;have d0:s<2000000000:=by omega
   rw[hs] at G;have Z:=I.cell i (by omega);have c6:=I.frozen i;have O:Hid (Hp (wr.setCell ⟨w.heap.size,i,none⟩ (.int .u32 ((s % 1000000000:Nat):Int))) w.heap.size (L.set i (s % 1000000000))):=I.set i _;have K:Hid (∀ u,Up w (wr.setCell ⟨w.heap.size,i,none⟩ u)):=fun u=>U.setCell leR u;have M:Hid (okL (L.set i (s % 1000000000))):=Kn L j i _ (Z5 _ (by decide));have E:=Hd hs;clear I U hs j
   go_wp2
   go_roundw
   case rel=>
    refine⟨i+1,s / 1000000000,L.set i (s % 1000000000),by omega,by omega,by simp[a8],M.o,?_,Ot (by rw[<-E.o];simp),by go_num,G.o,K.o _⟩;have h:=O.o;rw[<-E.o] at h ⊢
    simpa using h
   simp[intOf];omega
  obtain rfl:i=b.length+1:=by omega
  have hE:=EJ (1000000000 ^ (b.length)) _ c _ _ _ (J7 ..) A (by rw[Jl (by omega)];exact Gb a b4 _ (by omega)) (by rw[Jl (by omega)];exact Gb b b5 _ (by omega));rw[Jl (by omega),Jl (by omega),Jl (by omega)] at hE;have HE:=Hd hE;have HL:Hid (Kz w.heap.size wr (.slice (some ⟨w.heap.size,0,none⟩) (b.length+1) (b.length+1)) L):=by
   have:=I.isL (B:=w.heap.size) (cap:=b.length+1) leR j (by omega) (by unfold maxLen;omega);rw[a8] at this;exact this
  have d7:=Hd U;clear hE A I U j
  go_wp2
  go_ret
  exact⟨_,L,rfl,HL.o,HE.o,d7.o⟩
 have z:decide ((a.length:Int)<b.length)=false:=dF (by omega)
 go_in
 go_wp2_with (at_make;refine wpList_make_full _ rfl _ _ 117 rfl w.heap.size 149 i0 (.int .u32 0) 1 underlying117 d5 e1 e3 .i64 .i64 _ _ (a.length+1) rfl rfl ?qm0 ?qm1 ?qm2 ?qm3 ?qm4 ?_)
 try (case qm0=>omega)
 try (case qm1=>omega)
 try (case qm2=>(first|omega|(rw[e4];omega)))
 try (case qm3=>(unfold maxLen;omega))
 try (case qm4=>exact leR)
 intro w1 J c8
 first|rw[Ep] at J|rw[Eu] at J
 have I:Hp w1 w.heap.size (List.replicate (a.length+1) 0):=Kj J;have b9:Up w w1:=(Je _ _).grown c8 leR (fun k h=>by cases h);clear J c8
 go_wp2
 go_loopw [7,8] (fun cv iv wr=>∃ (i c:Nat) (L:List Nat),i<=a.length+1/\c<=1/\L.length=a.length+1/\okL L/\Hp wr w.heap.size L/\cv=.int .u64 (c:Nat)/\iv=.int .i64 i /\
  val (L.take i)+1000000000 ^ i*c=val (a.take i)+val (b.take i)/\Up w wr) (fun _ iv _=>a.length+1 - (intOf iv).toNat)
 case atStart=>exact⟨0,0,_,by omega,by omega,by simp,fun x hx=>by rw[Yt hx];omega,I,rfl,rfl,by simp[val],b9⟩
 clear I b9;obtain⟨i,c,L,hi,hc,a8,j,I,rfl,rfl,A,U⟩:=hrel
 by_cases g0:i<=a.length
 ·by_cases b8:i<a.length
  ·by_cases b3:i<b.length
   ·obtain⟨ba,oa,rfl,b6,V⟩:=HA.o i b8;rw[<-U.cell (p:=⟨ba,oa+i,none⟩) b6] at V;have d2:=U9 a b4 i b8;obtain⟨bb,ob,rfl,b7,Y⟩:=HB.o i b3;rw[<-U.cell (p:=⟨bb,ob+i,none⟩) b7] at Y;have d4:=U9 b b5 i b3;have d:=Xf (1000000000 ^ i) _ _ _ c (a.getD i 0) (b.getD i 0) A;rw[<-Oe,<-Oe] at d;obtain⟨x,hx⟩:=Oa (a.getD i 0);rw[hx] at V d2 d;obtain⟨y,hy⟩:=Oa (b.getD i 0);rw[hy] at Y d4 d;have G:Hid (val ((L.set i ((c+x+y) % 1000000000)).take (i+1))+1000000000 ^ (i+1)*((c+x+y) / 1000000000)=val (a.take (i+1))+val (b.take (i+1))):=by
     unfold Hid
     rw[O2 L i _ (by omega),J7];exact d
    clear d A hx hy;obtain⟨s,hs⟩:=Oa (c+x+y);have d0:s<2000000000:=by omega
    rw[hs] at G;have Z:=I.cell i (by omega);have c6:=I.frozen i;have O:Hid (Hp (wr.setCell ⟨w.heap.size,i,none⟩ (.int .u32 ((s % 1000000000:Nat):Int))) w.heap.size (L.set i (s % 1000000000))):=I.set i _;have K:Hid (∀ u,Up w (wr.setCell ⟨w.heap.size,i,none⟩ u)):=fun u=>U.setCell leR u;have M:Hid (okL (L.set i (s % 1000000000))):=Kn L j i _ (Z5 _ (by decide));have E:=Hd hs;clear I U hs j
    go_wp2
    go_roundw
    case rel=>
     refine⟨i+1,s / 1000000000,L.set i (s % 1000000000),by omega,by omega,by simp[a8],M.o,?_,Ot (by rw[<-E.o];simp),by go_num,G.o,K.o _⟩;have h:=O.o;rw[<-E.o] at h ⊢
     simpa using h
    simp[intOf];omega
   obtain⟨ba,oa,rfl,b6,V⟩:=HA.o i b8;rw[<-U.cell (p:=⟨ba,oa+i,none⟩) b6] at V;have d2:=U9 a b4 i b8;have d3:b.getD i 0=0:=by rw[Ji,Ym (by omega)];rfl
   have d:=Xf (1000000000 ^ i) _ _ _ c (a.getD i 0) (b.getD i 0) A;rw[<-Oe,<-Oe] at d;rw[d3,Vj] at d;obtain⟨x,hx⟩:=Oa (a.getD i 0);rw[hx] at V d2 d;have G:Hid (val ((L.set i ((c+x) % 1000000000)).take (i+1))+1000000000 ^ (i+1)*((c+x) / 1000000000)=val (a.take (i+1))+val (b.take (i+1))):=by
    unfold Hid
    rw[O2 L i _ (by omega),J7];exact d
   clear d A hx;obtain⟨s,hs⟩:=Oa (c+x);have d0:s<2000000000:=by omega
   rw[hs] at G;have Z:=I.cell i (by omega);have c6:=I.frozen i;have O:Hid (Hp (wr.setCell ⟨w.heap.size,i,none⟩ (.int .u32 ((s % 1000000000:Nat):Int))) w.heap.size (L.set i (s % 1000000000))):=I.set i _;have K:Hid (∀ u,Up w (wr.setCell ⟨w.heap.size,i,none⟩ u)):=fun u=>U.setCell leR u;have M:Hid (okL (L.set i (s % 1000000000))):=Kn L j i _ (Z5 _ (by decide));have E:=Hd hs;clear I U hs j
   go_wp2
   go_roundw
   case rel=>
    refine⟨i+1,s / 1000000000,L.set i (s % 1000000000),by omega,by omega,by simp[a8],M.o,?_,Ot (by rw[<-E.o];simp),by go_num,G.o,K.o _⟩;have h:=O.o;rw[<-E.o] at h ⊢
    simpa using h
   simp[intOf];omega
  by_cases b3:i<b.length
  ·exfalso;omega
  have d1:a.getD i 0=0:=by rw[Ji,Ym (by omega)];rfl
  have d3:b.getD i 0=0:=by rw[Ji,Ym (by omega)];rfl
  have d:=Xf (1000000000 ^ i) _ _ _ c (a.getD i 0) (b.getD i 0) A;rw[<-Oe,<-Oe] at d;rw[d1,Vj] at d;rw[d3,Vj] at d;have G:Hid (val ((L.set i ((c) % 1000000000)).take (i+1))+1000000000 ^ (i+1)*((c) / 1000000000)=val (a.take (i+1))+val (b.take (i+1))):=by
   unfold Hid
   rw[O2 L i _ (by omega),J7];exact d
  clear d A;obtain⟨s,hs⟩:=Oa c;have d0:s<2000000000:=by omega
  rw[hs] at G;have Z:=I.cell i (by omega);have c6:=I.frozen i;have O:Hid (Hp (wr.setCell ⟨w.heap.size,i,none⟩ (.int .u32 ((s % 1000000000:Nat):Int))) w.heap.size (L.set i (s % 1000000000))):=I.set i _;have K:Hid (∀ u,Up w (wr.setCell ⟨w.heap.size,i,none⟩ u)):=fun u=>U.setCell leR u;have M:Hid (okL (L.set i (s % 1000000000))):=Kn L j i _ (Z5 _ (by decide));have E:=Hd hs;clear I U hs j
  go_wp2
  go_roundw
  case rel=>
   refine⟨i+1,s / 1000000000,L.set i (s % 1000000000),by omega,by omega,by simp[a8],M.o,?_,Ot (by rw[<-E.o];simp),by go_num,G.o,K.o _⟩;have h:=O.o;rw[<-E.o] at h ⊢
   simpa using h
  simp[intOf];omega
 obtain rfl:i=a.length+1:=by omega
 have hE:=EJ (1000000000 ^ (a.length)) _ c _ _ _ (J7 ..) A (by rw[Jl (by omega)];exact Gb a b4 _ (by omega)) (by rw[Jl (by omega)];exact Gb b b5 _ (by omega));rw[Jl (by omega),Jl (by omega),Jl (by omega)] at hE;have HE:=Hd hE;have HL:Hid (Kz w.heap.size wr (.slice (some ⟨w.heap.size,0,none⟩) (a.length+1) (a.length+1)) L):=by
  have:=I.isL (B:=w.heap.size) (cap:=a.length+1) leR j (by omega) (by unfold maxLen;omega);rw[a8] at this;exact this
 have d7:=Hd U;clear hE A I U j
 go_wp2
 go_ret
 exact⟨_,L,rfl,HL.o,HE.o,d7.o⟩
theorem Ic (P A Bv La c x y d c':Nat)(h:La+P*c=A+Bv)(hd:d+1000000000*c'=x+c+y):La+P*d+P*1000000000*c'=A+P*x+(Bv+P*y):=by
 have j:P*(d+1000000000*c')=P*(x+c+y):=by rw[hd]
 rw[Yh,Yh,Yh,<-Yw] at j;omega
theorem ZR (L A:List Nat)(i n:Nat)(hi:i<=n)(hl:L.length=A.length)(hd:L.drop i=A.drop i)(V:Nat)(h:val (L.take i)=val (A.take i)+V):val (L.take n)=val (A.take n)+V:=by
 have d:∀ X:List Nat,i<=X.length->val (X.take n)=val (X.take i)+1000000000 ^ i*val ((X.drop i).take (n - i)):=fun X hX=>by
  have j:X.take n=X.take i++(X.drop i).take (n - i):=by rw[show n=i+(n - i) by omega,List.take_add];simp
  rw[j,Pp,J4,Zo hX]
 by_cases hX:i<=A.length
 ·rw[d L (by omega),d A hX,hd,h];omega
 rw[Jl (by omega),Jl (by omega)] at h ⊢;exact h
theorem Kb (L A:List Nat)(i x:Nat)(h:L.drop i=A.drop i):(L.set i x).drop (i+1)=A.drop (i+1):=by
 rw[List.drop_set_of_lt (by omega),<-Z3,<-Z3,h]
theorem Xs (L A:List Nat)(i:Nat)(h:L.drop i=A.drop i):L.getD i 0=A.getD i 0:=by
 have d:∀ X:List Nat,X.getD i 0=(X.drop i).getD 0 0:=fun X=>by simp[List.getD_eq_getElem?_getD]
 rw[d L,d A,h]
theorem Cm (R n cap:Nat)(vb:Value)(pb:Option Addr)(cb:Nat)(A b:List Nat)(w:World)(hR:Hp w R A)(hAok:okL A)(hn:n<=A.length)(hA:A.length<=1000000)(hbn:b.length<=n)(hbok:okL b)
 (hvb:vb=.slice pb b.length cb) (hcap:n<=cap)
 (hcb:∀ i,i<b.length->∃ c off,pb=some ⟨c,off,none⟩/\c<R/\w.cell? ⟨c,off+i,none⟩=some (.int .u32 (b.getD i 0:Nat))) :
 Calls prog 223 #[.slice (some ⟨R,0,none⟩) n cap,vb] w fun e w'=>∃ c L,e=.returned (.int .u32 (c:Nat))/\Hp w' R L/\L.length=A.length/\okL L/\L.drop n=A.drop n/\c<=1 /\
  val (L.take n)+1000000000 ^ n*c=val (A.take n)+val b/\Below R w w':=by
 subst hvb;have HB:=Hd hcb;clear hcb
 go_in
 go_wp2
 go_loopw [5,10] (fun cv iv wr=>∃ (i c:Nat) (L:List Nat),i<=n/\c<=1/\L.length=A.length/\okL L/\Hp wr R L/\L.drop i=A.drop i/\cv=.int .u32 (c:Nat)/\iv=.int .i64 i /\
  val (L.take i)+1000000000 ^ i*c=val (A.take i)+val (b.take i)/\Below R w wr) (fun _ iv _=>n - (intOf iv).toNat)
 case atStart=>exact⟨0,0,A,by omega,by omega,rfl,hAok,hR,rfl,rfl,rfl,by simp[val],Je _ _⟩
 clear hR;obtain⟨i,c,L,hi,hc,a7,j,hR,E,rfl,rfl,d,hB⟩:=hrel
 by_cases g2:i<n
 ·have G:=hR.cell i (by omega);have hx:=Xs L A i E;have b5:=U9 A hAok i (by omega);rw[hx] at G;clear hx;obtain⟨x,hx⟩:=Oa (A.getD i 0);rw[hx] at b5 G
  by_cases d0:i<b.length
  ·obtain⟨bb,ob,rfl,d1,hcb⟩:=HB.o i d0;rw[<-hB.cell (p:=⟨bb,ob+i,none⟩) d1] at hcb;have c8:=U9 b hbok i d0;obtain⟨y,hy⟩:=Oa (b.getD i 0);rw[hy] at hcb c8
   by_cases hov:1000000000<=x+c+y
   ·skip
    have J:=Ic (1000000000 ^ i) _ _ _ c x y (x+c+y - 1000000000) 1 d (by omega);have Z:Hid (val ((L.set i (x+c+y - 1000000000)).take (i+1))+1000000000 ^ (i+1)*1=val (A.take (i+1))+val (b.take (i+1))):=by
     unfold Hid
     rw[O2 L i _ (by omega),Oe,Oe,hx,hy,J7];exact J
    have c6:=hR.frozen i;have V:Hid (Hp (wr.setCell ⟨R,i,none⟩ (.int .u32 (((x+c+y - 1000000000):Nat):Int))) R (L.set i (x+c+y - 1000000000))):=hR.set i _;have K:Hid (∀ u,Below R w (wr.setCell ⟨R,i,none⟩ u)):=fun u=>hB.setCell leR u;have O:Hid (okL (L.set i (x+c+y - 1000000000))):=Kn L j i _ (by omega);have M:Hid ((L.set i (x+c+y - 1000000000)).drop (i+1)=A.drop (i+1)):=Kb L A i _ E;clear J d hx hy hR hB j E;obtain⟨X,hX⟩:∃ X:Int,(x:Int)=X:=⟨_,rfl⟩;have HX:=Hd hX;have x1:0<=X:=by omega
    have x2:X<1000000000:=by omega
    rw[hX] at G;obtain⟨C,hC⟩:∃ C:Int,(c:Int)=C:=⟨_,rfl⟩;have HC:=Hd hC;have c1:0<=C:=by omega
    have c2:C<=1:=by omega
    rw[hC];obtain⟨Y,hY⟩:∃ Y:Int,(y:Int)=Y:=⟨_,rfl⟩;have HY:=Hd hY;have y1:0<=Y:=by omega
    have y2:Y<1000000000:=by omega
    rw[hY] at hcb;have t1:1000000000<=X+C+Y:=by omega
    have U:=(id hov:_);have I:Hid _:=hov;clear hX b5 hov hC hY c8 U
    go_wp2
    go_roundw
    case rel=>
     refine⟨i+1,1,L.set i (x+c+y - 1000000000),by omega,by omega,by simp[a7],O.o,?_,M.o,rfl,by go_num,Z.o,K.o _⟩;have h:=V.o;rw[show ((((x+c+y - 1000000000)):Nat):Int)=_ from ?_] at h
     ·exact h
     have:=I.o;have:=HX.o;have:=HC.o;have:=HY.o;omega
    simp[intOf];omega
   skip
   have J:=Ic (1000000000 ^ i) _ _ _ c x y (x+c+y) 0 d (by omega);have Z:Hid (val ((L.set i (x+c+y)).take (i+1))+1000000000 ^ (i+1)*0=val (A.take (i+1))+val (b.take (i+1))):=by
    unfold Hid
    rw[O2 L i _ (by omega),Oe,Oe,hx,hy,J7];exact J
   have c6:=hR.frozen i;have V:Hid (Hp (wr.setCell ⟨R,i,none⟩ (.int .u32 (((x+c+y):Nat):Int))) R (L.set i (x+c+y))):=hR.set i _;have K:Hid (∀ u,Below R w (wr.setCell ⟨R,i,none⟩ u)):=fun u=>hB.setCell leR u;have O:Hid (okL (L.set i (x+c+y))):=Kn L j i _ (by omega);have M:Hid ((L.set i (x+c+y)).drop (i+1)=A.drop (i+1)):=Kb L A i _ E;clear J d hx hy hR hB j E;obtain⟨X,hX⟩:∃ X:Int,(x:Int)=X:=⟨_,rfl⟩;have HX:=Hd hX;have x1:0<=X:=by omega
   have x2:X<1000000000:=by omega
   rw[hX] at G;obtain⟨C,hC⟩:∃ C:Int,(c:Int)=C:=⟨_,rfl⟩;have HC:=Hd hC;have c1:0<=C:=by omega
   have c2:C<=1:=by omega
   rw[hC];obtain⟨Y,hY⟩:∃ Y:Int,(y:Int)=Y:=⟨_,rfl⟩;have HY:=Hd hY;have y1:0<=Y:=by omega
   have y2:Y<1000000000:=by omega
   rw[hY] at hcb;have t1:X+C+Y<1000000000:=by omega
   have U:=(id hov:_);have I:Hid _:=hov;clear hX b5 hov hC hY c8 U
   go_wp2
   go_roundw
   case rel=>
    refine⟨i+1,0,L.set i (x+c+y),by omega,by omega,by simp[a7],O.o,?_,M.o,rfl,by go_num,Z.o,K.o _⟩;have h:=V.o;rw[show ((((x+c+y)):Nat):Int)=_ from ?_] at h
    ·exact h
    have:=I.o;have:=HX.o;have:=HC.o;have:=HY.o;omega
   simp[intOf];omega
  have hy:b.getD i 0=0:=by rw[Ji,Ym (by omega)];rfl
  by_cases e0:c=0
  ·subst e0;have hE:=ZR L A i n hi a7 E (val b) (by rw[Vk,Vj,Jl (show b.length<=i by omega)] at d;exact d);have HE:Hid (∃ c' L',Hp wr R L'/\L'.length=A.length/\okL L'/\L'.drop n=A.drop n/\c'=0/\val (L'.take n)+1000000000 ^ n*c'=val (A.take n)+val b):=⟨0,L,hR,a7,j,by rw[show n=i+(n - i) by omega,<-Z3,<-Z3,E],rfl,by rw[hE];omega⟩;have d2:=Hd hB;clear hE d hR hB j E hx hy
   go_wp2
   go_ret
   obtain⟨c',L',e1,e2,e3,e4,rfl,e5⟩:=HE.o;exact⟨0,L',rfl,e1,e2,e3,e4,by omega,e5,d2.o⟩
  obtain rfl:c=1:=by omega
  by_cases hov:1000000000<=x+1
  ·skip
   have J:=Ic (1000000000 ^ i) _ _ _ 1 x 0 (x+1 - 1000000000) 1 d (by omega);have Z:Hid (val ((L.set i (x+1 - 1000000000)).take (i+1))+1000000000 ^ (i+1)*1=val (A.take (i+1))+val (b.take (i+1))):=by
    unfold Hid
    rw[O2 L i _ (by omega),Oe,Oe,hx,hy,J7];exact J
   have c6:=hR.frozen i;have V:Hid (Hp (wr.setCell ⟨R,i,none⟩ (.int .u32 (((x+1 - 1000000000):Nat):Int))) R (L.set i (x+1 - 1000000000))):=hR.set i _;have K:Hid (∀ u,Below R w (wr.setCell ⟨R,i,none⟩ u)):=fun u=>hB.setCell leR u;have O:Hid (okL (L.set i (x+1 - 1000000000))):=Kn L j i _ (by omega);have M:Hid ((L.set i (x+1 - 1000000000)).drop (i+1)=A.drop (i+1)):=Kb L A i _ E;clear J d hx hy hR hB j E;obtain⟨X,hX⟩:∃ X:Int,(x:Int)=X:=⟨_,rfl⟩;have HX:=Hd hX;have x1:0<=X:=by omega
   have x2:X<1000000000:=by omega
   rw[hX] at G;have t1:1000000000<=X+1:=by omega
   have U:=(id hov:_);have I:Hid _:=hov;clear hX b5 hov U
   go_wp2
   go_roundw
   case rel=>
    refine⟨i+1,1,L.set i (x+1 - 1000000000),by omega,by omega,by simp[a7],O.o,?_,M.o,rfl,by go_num,Z.o,K.o _⟩;have h:=V.o;rw[show ((((x+1 - 1000000000)):Nat):Int)=_ from ?_] at h
    ·exact h
    have:=I.o;have:=HX.o;omega
   simp[intOf];omega
  skip
  have J:=Ic (1000000000 ^ i) _ _ _ 1 x 0 (x+1) 0 d (by omega);have Z:Hid (val ((L.set i (x+1)).take (i+1))+1000000000 ^ (i+1)*0=val (A.take (i+1))+val (b.take (i+1))):=by
   unfold Hid
   rw[O2 L i _ (by omega),Oe,Oe,hx,hy,J7];exact J
  have c6:=hR.frozen i;have V:Hid (Hp (wr.setCell ⟨R,i,none⟩ (.int .u32 (((x+1):Nat):Int))) R (L.set i (x+1))):=hR.set i _;have K:Hid (∀ u,Below R w (wr.setCell ⟨R,i,none⟩ u)):=fun u=>hB.setCell leR u;have O:Hid (okL (L.set i (x+1))):=Kn L j i _ (by omega);have M:Hid ((L.set i (x+1)).drop (i+1)=A.drop (i+1)):=Kb L A i _ E;clear J d hx hy hR hB j E;obtain⟨X,hX⟩:∃ X:Int,(x:Int)=X:=⟨_,rfl⟩;have HX:=Hd hX;have x1:0<=X:=by omega
  have x2:X<1000000000:=by omega
  rw[hX] at G;have t1:X+1<1000000000:=by omega
  have U:=(id hov:_);have I:Hid _:=hov;clear hX b5 hov U
  go_wp2
  go_roundw
  case rel=>
   refine⟨i+1,0,L.set i (x+1),by omega,by omega,by simp[a7],O.o,?_,M.o,rfl,by go_num,Z.o,K.o _⟩;have h:=V.o;rw[show ((((x+1)):Nat):Int)=_ from ?_] at h
   ·exact h
   have:=I.o;have:=HX.o;omega
  simp[intOf];omega
 obtain rfl:i=n:=by omega
 rw[Jl (show b.length<=i by omega)] at d;have HE:Hid (Hp wr R L/\L.length=A.length/\okL L/\L.drop i=A.drop i/\val (L.take i)+1000000000 ^ i*c=val (A.take i)+val b/\Below R w wr):=⟨hR,a7,j,E,d,hB⟩;clear d hR hB j E
 go_wp2
 go_ret
 obtain⟨e1,e2,e3,e4,e5,e6⟩:=HE.o;exact⟨c,L,rfl,e1,e2,e3,e4,hc,e5,e6⟩
def U7 (w:World)(R:Nat)(l:List Nat):Prop:=∃ tail:List Value,w.heap[R]? = some (.cells (Gg l++tail).toArray 149 (0,0))
theorem Hp.tail (h:Hp w R l):U7 w R l:=⟨[],by rw[List.append_nil];exact h⟩
theorem U7.lt (h:U7 w R l):R<w.heap.size:=by
 obtain⟨t,h⟩:=h;exact (Jv.1 h).1
theorem U7.cell (h:U7 w R l)(i:Nat)(hi:i<l.length):w.cell? ⟨R,i,none⟩=some (.int .u32 (l.getD i 0:Nat)):=by
 obtain⟨t,h⟩:=h;simp[World.cell?,h,List.getElem?_append,hi,List.getD_eq_getElem?_getD]
theorem U7.frozen (h:U7 w R l)(i:Nat):w.frozen? ⟨R,i,none⟩=false:=by
 obtain⟨t,h⟩:=h;simp[World.frozen?,h]
theorem U7.set (h:U7 w R l)(i x:Nat)(hi:i<l.length):U7 (w.setCell ⟨R,i,none⟩ (.int .u32 (x:Nat))) R (l.set i x):=by
 obtain⟨t,h⟩:=h;refine⟨t,?_⟩;obtain⟨d,j⟩:=Jv.1 h
 show (w.heap.modify R _)[R]? = _
 rw[Vv (by rw[Z9];exact d),Vw,j];simp[Gg,List.map_set,hi]
theorem U7.isL {cap:Nat}(h:U7 w R l)(hB:B<=R)(hok:okL l)(hc:l.length<=cap)(hm:cap<=maxLen):Kz B w (.slice (some ⟨R,0,none⟩) l.length cap) l:=
 ⟨_,cap,rfl,hc,hm,hok,.inr ⟨R,0,rfl,hB,h.lt,fun i hi=>by rw[Y8];exact h.cell i hi⟩⟩
theorem Fs (l:List Nat)(j x:Nat)(hj:j<l.length):val (l.set j x)+1000000000 ^ j*l.getD j 0=val l+1000000000 ^ j*x:=by
 induction l generalizing j with
 | nil=>simp at hj
 | cons y l ih=>
   cases j with
   | zero=>simp[val];omega
   | succ j=>
     have h:=ih j (by simpa using hj);simp only[Jz,val,List.getD_cons_succ,J7,Y2 _ 1000000000,Yw];omega
theorem KF (P VL VN VA K c x F d c':Nat)(h:VL+P*c=VA+K)(hs:VN+P*x=VL+P*d)(hd:d+1000000000*c'=c+F+x):VN+P*1000000000*c'=VA+(K+P*F):=by
 have j:P*(d+1000000000*c')=P*(c+F+x):=by rw[hd]
 rw[Yh,Yh,Yh,<-Yw] at j;omega
theorem QU (off i f v y:Nat):1000000000 ^ off*(f*(v+1000000000 ^ i*y))=1000000000 ^ off*(f*v)+1000000000 ^ (off+i)*(f*y):=by
 rw[Yh,Yh,Nat.pow_add,Nat.mul_left_comm f,Yw]
theorem R1 (R off cap f:Nat)(vb:Value)(pb:Option Addr)(cb:Nat)(A b:List Nat)(w:World)(hR:U7 w R A)(hAok:okL A)(hn:off+b.length<=A.length)(hA:A.length<=1000000)(hbok:okL b)
 (hvb:vb=.slice pb b.length cb) (_hcap:b.length<=cap) (hf:f<1000000000)
 (hcb:∀ i,i<b.length->∃ c off,pb=some ⟨c,off,none⟩/\c<R/\w.cell? ⟨c,off+i,none⟩=some (.int .u32 (b.getD i 0:Nat))) :
 Calls prog 237 #[.slice (some ⟨R,off,none⟩) b.length cap,vb,.int .u64 (f:Nat)] w fun e w'=>∃ c L,e=.returned (.int .u32 (c:Nat))/\U7 w' R L/\L.length=A.length/\okL L/\L.drop (off+b.length)=A.drop (off+b.length)/\c<=f /\
  val L+1000000000 ^ (off+b.length)*c=val A+1000000000 ^ off*(f*val b)/\Below R w w':=by
 subst hvb;have HB:=Hd hcb;clear hcb
 go_in
 go_wp2
 go_loopw [7,12] (fun cv iv wr=>∃ (i c:Nat) (L:List Nat),i<=b.length/\c<=f/\L.length=A.length/\okL L/\U7 wr R L/\L.drop (off+i)=A.drop (off+i)/\cv=.int .u64 (c:Nat)/\iv=.int .i64 i /\
  val L+1000000000 ^ (off+i)*c=val A+1000000000 ^ off*(f*val (b.take i))/\Below R w wr) (fun _ iv _=>b.length - (intOf iv).toNat)
 case atStart=>exact⟨0,0,A,by omega,by omega,rfl,hAok,hR,rfl,rfl,rfl,by simp[val],Je _ _⟩
 clear hR;obtain⟨i,c,L,hi,V,U,d,hR,J,rfl,rfl,j,O⟩:=hrel
 by_cases Z:i<b.length
 ·have E:=hR.cell (off+i) (by omega);have b3:=U9 L d (off+i) (by omega);obtain⟨x,hx⟩:=Oa (L.getD (off+i) 0);rw[hx] at b3 E;obtain⟨bb,ob,rfl,a7,hcb⟩:=HB.o i Z;rw[<-O.cell (p:=⟨bb,ob+i,none⟩) a7] at hcb;have b4:=U9 b hbok i Z;obtain⟨y,hy⟩:=Oa (b.getD i 0);rw[hy] at hcb b4;obtain⟨F,hF⟩:=Oa (f*y);have d1:F<=f*999999999:=by rw[<-hF];exact Yb f (by omega)
  have K:=Fs L (off+i) ((c+F+x) % 1000000000) (by omega);rw[hx] at K;have a8:=KF (1000000000 ^ (off+i)) _ _ _ _ c x F ((c+F+x) % 1000000000) ((c+F+x) / 1000000000) j K (by omega);have c8:Hid (val (L.set (off+i) ((c+F+x) % 1000000000))+1000000000 ^ (off+(i+1))*((c+F+x) / 1000000000)=val A+1000000000 ^ off*(f*val (b.take (i+1)))):=by
   unfold Hid
   rw[Oe,hy,QU,hF,<-Ut,J7];exact a8
  have g3:=hR.frozen (off+i);have c6:Hid (U7 (wr.setCell ⟨R,off+i,none⟩ (.int .u32 ((((c+F+x) % 1000000000):Nat):Int))) R (L.set (off+i) ((c+F+x) % 1000000000))):=hR.set (off+i) _ (by omega);have b6:Hid (∀ u,Below R w (wr.setCell ⟨R,off+i,none⟩ u)):=fun u=>O.setCell leR u;have b9:Hid (okL (L.set (off+i) ((c+F+x) % 1000000000))):=Kn L d (off+i) _ (Z5 _ (by decide));have b8:Hid ((L.set (off+i) ((c+F+x) % 1000000000)).drop (off+(i+1))=A.drop (off+(i+1))):=Kb L A (off+i) _ J;have b7:Hid ((c+F+x) / 1000000000<=f):=by
   unfold Hid
   omega
  clear a8 j hx hy hR O d J K;obtain⟨X,hX⟩:∃ X:Int,(x:Int)=X:=⟨_,rfl⟩;have HX:=Hd hX;have x1:0<=X:=by omega
  have x2:X<1000000000:=by omega
  rw[hX] at E;obtain⟨C,hC⟩:∃ C:Int,(c:Int)=C:=⟨_,rfl⟩;have HC:=Hd hC;have c1:0<=C:=by omega
  have c2:C<1000000000:=by omega
  rw[hC];obtain⟨G,hG⟩:∃ G:Int,(f:Int)=G:=⟨_,rfl⟩;rw[hG];obtain⟨Y,hY⟩:∃ Y:Int,(y:Int)=Y:=⟨_,rfl⟩;have I:(F:Int)=G*Y:=by rw[<-hF,<-hG,<-hY];rfl
  have M:=Hd I;have g1:0<=G*Y:=by rw[<-I];omega
  have g2:G*Y<=999999999000000000:=by rw[<-I];omega
  have y1:0<=Y:=by omega
  have y2:Y<1000000000:=by omega
  rw[hY] at hcb;clear hX b3 hC hG hY I b4 hF d1 V
  go_wp2
  go_roundw
  case rel=>
   refine⟨i+1,(c+F+x) / 1000000000,L.set (off+i) ((c+F+x) % 1000000000),by omega,b7.o,by simp[U],b9.o,?_,b8.o,?_,by go_num,c8.o,b6.o _⟩
   ·have h:=c6.o;rw[show ((((c+F+x) % 1000000000):Nat):Int)=_ from ?_] at h
    ·exact h
    have:=HX.o;have:=HC.o;have:=M.o;omega
   congr 1;have:=HX.o;have:=HC.o;have:=M.o;omega
  simp[intOf];omega
 obtain rfl:i=b.length:=by omega
 rw[Jl leR] at j;have HE:Hid (U7 wr R L/\L.length=A.length/\okL L/\L.drop (off+b.length)=A.drop (off+b.length)/\val L+1000000000 ^ (off+b.length)*c=val A+1000000000 ^ off*(f*val b)/\Below R w wr):=⟨hR,U,d,J,j,O⟩;clear j hR O d J
 go_wp2
 go_ret
 obtain⟨e1,e2,e3,e4,e5,e6⟩:=HE.o;exact⟨c,L,rfl,e1,e2,e3,e4,V,e5,e6⟩
theorem G8 (P A Bv La c x y d c' f:Nat)(h:La+f*Bv=A+P*c)(hd:d+(c+f*y)=x+1000000000*c'):La+P*d+f*(Bv+P*y)=A+P*x+P*1000000000*c':=by
 have j:P*(d+(c+f*y))=P*(x+1000000000*c'):=by rw[hd]
 rw[Yh,Yh,Yh,<-Yw,<-Yw] at j;rw[Yh,<-Yw,Y2 f P];omega
theorem Au (R n cap f:Nat)(vb:Value)(pb:Option Addr)(cb:Nat)(A b:List Nat)(w:World)(hR:U7 w R A)(hAok:okL A)(hn:n<=A.length)(hA:A.length<=1000000)(hbn:b.length<=n)(hbok:okL b)
 (hvb:vb=.slice pb b.length cb) (hcap:n<=cap) (hf:f<=1000000000)
 (hcb:∀ i,i<b.length->∃ c off,pb=some ⟨c,off,none⟩/\c<R/\w.cell? ⟨c,off+i,none⟩=some (.int .u32 (b.getD i 0:Nat))) :
 Calls prog 225 #[.slice (some ⟨R,0,none⟩) n cap,vb,.int .u64 (f:Nat)] w fun e w'=>∃ c L,e=.returned (.int .u64 (c:Nat))/\U7 w' R L/\L.length=A.length/\okL L/\L.drop n=A.drop n/\c<=f /\
  val (L.take n)+f*val b=val (A.take n)+1000000000 ^ n*c/\Below R w w':=by
 subst hvb;have HB:=Hd hcb;clear hcb
 go_in
 go_wp2
 go_loopw [7,12] (fun cv iv wr=>∃ (i c:Nat) (L:List Nat),i<=n/\c<=f/\L.length=A.length/\okL L/\U7 wr R L/\L.drop i=A.drop i/\cv=.int .u64 (c:Nat)/\iv=.int .i64 i /\
  val (L.take i)+f*val (b.take i)=val (A.take i)+1000000000 ^ i*c/\Below R w wr) (fun _ iv _=>n - (intOf iv).toNat)
 case atStart=>exact⟨0,0,A,by omega,by omega,rfl,hAok,hR,rfl,rfl,rfl,by simp[val],Je _ _⟩
 clear hR;obtain⟨i,c,L,hi,d2,b5,E,hR,I,rfl,rfl,d,V⟩:=hrel;have hc:c<=1000000000:=by omega
 by_cases h7:i<n
 ·have J:=hR.cell i (by omega);have hx:=Xs L A i I;have d3:=U9 A hAok i (by omega);rw[hx] at J;clear hx;obtain⟨x,hx⟩:=Oa (A.getD i 0);rw[hx] at d3 J
  by_cases e7:i<b.length
  ·obtain⟨bb,ob,rfl,e8,hcb⟩:=HB.o i e7;rw[<-V.cell (p:=⟨bb,ob+i,none⟩) e8] at hcb;have d9:=U9 b hbok i e7;obtain⟨y,hy⟩:=Oa (b.getD i 0);rw[hy] at hcb d9;obtain⟨F,hF⟩:=Oa (f*y);have e0:F<=f*999999999:=by rw[<-hF];exact Yb f (by omega)
   by_cases U:x<(c+F) % 1000000000
   ·skip
    have M:=G8 (1000000000 ^ i) _ _ _ c x y (x+1000000000 - (c+F) % 1000000000) ((c+F) / 1000000000+1) f d (by rw[hF];omega);have b3:Hid (val ((L.set i (x+1000000000 - (c+F) % 1000000000)).take (i+1))+f*val (b.take (i+1))=val (A.take (i+1))+1000000000 ^ (i+1)*((c+F) / 1000000000+1)):=by
     unfold Hid
     rw[O2 L i _ (by omega),Oe,Oe,hx,hy,J7];exact M
    have d8:=hR.frozen i;have d1:Hid (∀ u:Nat,U7 ((wr.setCell ⟨R,i,none⟩ (.int .u32 (u:Nat))).setCell ⟨R,i,none⟩ (.int .u32 (((x+1000000000 - (c+F) % 1000000000):Nat):Int))) R (L.set i (x+1000000000 - (c+F) % 1000000000))):=fun u=>by
     have h:=(hR.set i u (by omega)).set i (x+1000000000 - (c+F) % 1000000000) (by simp;omega);rw[U1] at h;exact h
    have d0:Hid (U7 (wr.setCell ⟨R,i,none⟩ (.int .u32 (((x+1000000000 - (c+F) % 1000000000):Nat):Int))) R (L.set i (x+1000000000 - (c+F) % 1000000000))):=hR.set i _ (by omega);have K:Hid (∀ u v,Below R w (wr.setCell ⟨R,i,none⟩ u)/\Below R w ((wr.setCell ⟨R,i,none⟩ u).setCell ⟨R,i,none⟩ v)):=fun u v=>⟨V.setCell leR u,(V.setCell leR u).setCell leR v⟩;have a8:Hid (okL (L.set i (x+1000000000 - (c+F) % 1000000000))):=Kn L E i _ (by omega);have a7:Hid ((L.set i (x+1000000000 - (c+F) % 1000000000)).drop (i+1)=A.drop (i+1)):=Kb L A i _ I;have Z:Hid ((c+F) / 1000000000+1<=f):=by
     unfold Hid
     omega
    clear M d hx hy hR V E I;obtain⟨X,hX⟩:∃ X:Int,(x:Int)=X:=⟨_,rfl⟩;have HX:=Hd hX;have x1:0<=X:=by omega
    have x2:X<1000000000:=by omega
    rw[hX] at J;obtain⟨C,hC⟩:∃ C:Int,(c:Int)=C:=⟨_,rfl⟩;have HC:=Hd hC;have c1:0<=C:=by omega
    have c2:C<=1000000000:=by omega
    rw[hC];obtain⟨G,hG⟩:∃ G:Int,(f:Int)=G:=⟨_,rfl⟩;rw[hG];obtain⟨Y,hY⟩:∃ Y:Int,(y:Int)=Y:=⟨_,rfl⟩;have O:(F:Int)=G*Y:=by rw[<-hF,<-hG,<-hY];rfl
    have b8:=Hd O;have g1:0<=G*Y:=by rw[<-O];omega
    have g2:G*Y<=999999999000000000:=by rw[<-O];omega
    have y1:0<=Y:=by omega
    have y2:Y<1000000000:=by omega
    rw[hY] at hcb;have t1:X<(C+G*Y) % 1000000000:=by omega
    have j:Hid _:=U;clear hX d3 U hC hG hY O d9 hF e0 hc d2
    go_wp2
    go_roundw
    case rel=>
     refine⟨i+1,(c+F) / 1000000000+1,L.set i (x+1000000000 - (c+F) % 1000000000),by omega,Z.o,by simp[b5],a8.o,?_,a7.o,?_,by go_num,b3.o,?_⟩
     ·have h:=d1.o (x+1000000000);rw[show ((((x+1000000000 - (c+F) % 1000000000)):Nat):Int)=_ from ?_,show (((x+1000000000:Nat)):Int)=_ from ?_] at h
      ·exact h
      ·have:=HX.o;have:=HC.o;have:=j.o;have:=b8.o;  omega
      have:=HX.o;have:=HC.o;have:=j.o;have:=b8.o;  omega
     ·congr 1;have:=HX.o;have:=HC.o;have:=j.o;have:=b8.o;  omega
     first|exact (K.o _ (.bool true)).1|exact (K.o _ _).2
    simp[intOf];omega
   skip
   have M:=G8 (1000000000 ^ i) _ _ _ c x y (x - (c+F) % 1000000000) ((c+F) / 1000000000) f d (by rw[hF];omega);have b3:Hid (val ((L.set i (x - (c+F) % 1000000000)).take (i+1))+f*val (b.take (i+1))=val (A.take (i+1))+1000000000 ^ (i+1)*((c+F) / 1000000000)):=by
    unfold Hid
    rw[O2 L i _ (by omega),Oe,Oe,hx,hy,J7];exact M
   have d8:=hR.frozen i;have d1:Hid (∀ u:Nat,U7 ((wr.setCell ⟨R,i,none⟩ (.int .u32 (u:Nat))).setCell ⟨R,i,none⟩ (.int .u32 (((x - (c+F) % 1000000000):Nat):Int))) R (L.set i (x - (c+F) % 1000000000))):=fun u=>by
    have h:=(hR.set i u (by omega)).set i (x - (c+F) % 1000000000) (by simp;omega);rw[U1] at h;exact h
   have d0:Hid (U7 (wr.setCell ⟨R,i,none⟩ (.int .u32 (((x - (c+F) % 1000000000):Nat):Int))) R (L.set i (x - (c+F) % 1000000000))):=hR.set i _ (by omega);have K:Hid (∀ u v,Below R w (wr.setCell ⟨R,i,none⟩ u)/\Below R w ((wr.setCell ⟨R,i,none⟩ u).setCell ⟨R,i,none⟩ v)):=fun u v=>⟨V.setCell leR u,(V.setCell leR u).setCell leR v⟩;have a8:Hid (okL (L.set i (x - (c+F) % 1000000000))):=Kn L E i _ (by omega);have a7:Hid ((L.set i (x - (c+F) % 1000000000)).drop (i+1)=A.drop (i+1)):=Kb L A i _ I;have Z:Hid ((c+F) / 1000000000<=f):=by
    unfold Hid
    omega
   clear M d hx hy hR V E I;obtain⟨X,hX⟩:∃ X:Int,(x:Int)=X:=⟨_,rfl⟩;have HX:=Hd hX;have x1:0<=X:=by omega
   have x2:X<1000000000:=by omega
   rw[hX] at J;obtain⟨C,hC⟩:∃ C:Int,(c:Int)=C:=⟨_,rfl⟩;have HC:=Hd hC;have c1:0<=C:=by omega
   have c2:C<=1000000000:=by omega
   rw[hC];obtain⟨G,hG⟩:∃ G:Int,(f:Int)=G:=⟨_,rfl⟩;rw[hG];obtain⟨Y,hY⟩:∃ Y:Int,(y:Int)=Y:=⟨_,rfl⟩;have O:(F:Int)=G*Y:=by rw[<-hF,<-hG,<-hY];rfl
   have b8:=Hd O;have g1:0<=G*Y:=by rw[<-O];omega
   have g2:G*Y<=999999999000000000:=by rw[<-O];omega
   have y1:0<=Y:=by omega
   have y2:Y<1000000000:=by omega
   rw[hY] at hcb;have t1:(C+G*Y) % 1000000000<=X:=by omega
   have j:Hid _:=U;clear hX d3 U hC hG hY O d9 hF e0 hc d2
   go_wp2
   go_roundw
   case rel=>
    refine⟨i+1,(c+F) / 1000000000,L.set i (x - (c+F) % 1000000000),by omega,Z.o,by simp[b5],a8.o,?_,a7.o,?_,by go_num,b3.o,?_⟩
    ·have h:=d0.o;rw[show ((((x - (c+F) % 1000000000)):Nat):Int)=_ from ?_] at h
     ·exact h
     have:=HX.o;have:=HC.o;have:=j.o;have:=b8.o;  omega
    ·congr 1;have:=HX.o;have:=HC.o;have:=j.o;have:=b8.o;  omega
    first|exact (K.o _ (.bool true)).1|exact (K.o _ _).2
   simp[intOf];omega
  have hy:b.getD i 0=0:=by rw[Ji,Ym (by omega)];rfl
  by_cases d7:c=0
  ·subst d7;have hE:val (L.take n)+f*val b=val (A.take n):=by
    rw[Vk,Vj,Jl (show b.length<=i by omega)] at d;exact (ZR A L i n hi b5.symm I.symm (f*val b) d.symm).symm
   have HE:Hid (U7 wr R L/\L.length=A.length/\okL L/\L.drop n=A.drop n/\val (L.take n)+f*val b=val (A.take n)+1000000000 ^ n*0/\Below R w wr):=⟨hR,b5,E,by rw[show n=i+(n - i) by omega,<-Z3,<-Z3,I],by rw[hE,Vk,Vj],V⟩;clear hE d hR V E I hx hy
   go_wp2
   go_ret
   obtain⟨e1,e2,e3,e4,e5,e6⟩:=HE.o;exact⟨0,L,rfl,e1,e2,e3,e4,by omega,e5,e6⟩
  by_cases U:x<c % 1000000000
  ·skip
   have M:=G8 (1000000000 ^ i) _ _ _ c x 0 (x+1000000000 - c % 1000000000) (c / 1000000000+1) f d (by rw[Vk];omega);have b3:Hid (val ((L.set i (x+1000000000 - c % 1000000000)).take (i+1))+f*val (b.take (i+1))=val (A.take (i+1))+1000000000 ^ (i+1)*(c / 1000000000+1)):=by
    unfold Hid
    rw[O2 L i _ (by omega),Oe,Oe,hx,hy,J7];exact M
   have d8:=hR.frozen i;have d1:Hid (∀ u:Nat,U7 ((wr.setCell ⟨R,i,none⟩ (.int .u32 (u:Nat))).setCell ⟨R,i,none⟩ (.int .u32 (((x+1000000000 - c % 1000000000):Nat):Int))) R (L.set i (x+1000000000 - c % 1000000000))):=fun u=>by
    have h:=(hR.set i u (by omega)).set i (x+1000000000 - c % 1000000000) (by simp;omega);rw[U1] at h;exact h
   have d0:Hid (U7 (wr.setCell ⟨R,i,none⟩ (.int .u32 (((x+1000000000 - c % 1000000000):Nat):Int))) R (L.set i (x+1000000000 - c % 1000000000))):=hR.set i _ (by omega);have K:Hid (∀ u v,Below R w (wr.setCell ⟨R,i,none⟩ u)/\Below R w ((wr.setCell ⟨R,i,none⟩ u).setCell ⟨R,i,none⟩ v)):=fun u v=>⟨V.setCell leR u,(V.setCell leR u).setCell leR v⟩;have a8:Hid (okL (L.set i (x+1000000000 - c % 1000000000))):=Kn L E i _ (by omega);have a7:Hid ((L.set i (x+1000000000 - c % 1000000000)).drop (i+1)=A.drop (i+1)):=Kb L A i _ I;have Z:Hid (c / 1000000000+1<=f):=by
    unfold Hid
    omega
   clear M d hx hy hR V E I;obtain⟨X,hX⟩:∃ X:Int,(x:Int)=X:=⟨_,rfl⟩;have HX:=Hd hX;have x1:0<=X:=by omega
   have x2:X<1000000000:=by omega
   rw[hX] at J;obtain⟨C,hC⟩:∃ C:Int,(c:Int)=C:=⟨_,rfl⟩;have HC:=Hd hC;have c1:0<=C:=by omega
   have c2:C<=1000000000:=by omega
   rw[hC];obtain⟨G,hG⟩:∃ G:Int,(f:Int)=G:=⟨_,rfl⟩;rw[hG];have t1:X<C % 1000000000:=by omega
   have j:Hid _:=U;have t2:0<C:=by omega
   clear hX d3 U hC hG d7 hc d2
   go_wp2
   go_roundw
   case rel=>
    refine⟨i+1,c / 1000000000+1,L.set i (x+1000000000 - c % 1000000000),by omega,Z.o,by simp[b5],a8.o,?_,a7.o,?_,by go_num,b3.o,?_⟩
    ·have h:=d1.o (x+1000000000);rw[show ((((x+1000000000 - c % 1000000000)):Nat):Int)=_ from ?_,show (((x+1000000000:Nat)):Int)=_ from ?_] at h
     ·exact h
     ·have:=HX.o;have:=HC.o;have:=j.o;  omega
     have:=HX.o;have:=HC.o;have:=j.o;  omega
    ·congr 1;have:=HX.o;have:=HC.o;have:=j.o;  omega
    first|exact (K.o _ (.bool true)).1|exact (K.o _ _).2
   simp[intOf];omega
  skip
  have M:=G8 (1000000000 ^ i) _ _ _ c x 0 (x - c % 1000000000) (c / 1000000000) f d (by rw[Vk];omega);have b3:Hid (val ((L.set i (x - c % 1000000000)).take (i+1))+f*val (b.take (i+1))=val (A.take (i+1))+1000000000 ^ (i+1)*(c / 1000000000)):=by
   unfold Hid
   rw[O2 L i _ (by omega),Oe,Oe,hx,hy,J7];exact M
  have d8:=hR.frozen i;have d1:Hid (∀ u:Nat,U7 ((wr.setCell ⟨R,i,none⟩ (.int .u32 (u:Nat))).setCell ⟨R,i,none⟩ (.int .u32 (((x - c % 1000000000):Nat):Int))) R (L.set i (x - c % 1000000000))):=fun u=>by
   have h:=(hR.set i u (by omega)).set i (x - c % 1000000000) (by simp;omega);rw[U1] at h;exact h
  have d0:Hid (U7 (wr.setCell ⟨R,i,none⟩ (.int .u32 (((x - c % 1000000000):Nat):Int))) R (L.set i (x - c % 1000000000))):=hR.set i _ (by omega);have K:Hid (∀ u v,Below R w (wr.setCell ⟨R,i,none⟩ u)/\Below R w ((wr.setCell ⟨R,i,none⟩ u).setCell ⟨R,i,none⟩ v)):=fun u v=>⟨V.setCell leR u,(V.setCell leR u).setCell leR v⟩;have a8:Hid (okL (L.set i (x - c % 1000000000))):=Kn L E i _ (by omega);have a7:Hid ((L.set i (x - c % 1000000000)).drop (i+1)=A.drop (i+1)):=Kb L A i _ I;have Z:Hid (c / 1000000000<=f):=by
   unfold Hid
   omega
  clear M d hx hy hR V E I;obtain⟨X,hX⟩:∃ X:Int,(x:Int)=X:=⟨_,rfl⟩;have HX:=Hd hX;have x1:0<=X:=by omega
  have x2:X<1000000000:=by omega
  rw[hX] at J;obtain⟨C,hC⟩:∃ C:Int,(c:Int)=C:=⟨_,rfl⟩;have HC:=Hd hC;have c1:0<=C:=by omega
  have c2:C<=1000000000:=by omega
  rw[hC];obtain⟨G,hG⟩:∃ G:Int,(f:Int)=G:=⟨_,rfl⟩;rw[hG];have t1:C % 1000000000<=X:=by omega
  have j:Hid _:=U;have t2:0<C:=by omega
  clear hX d3 U hC hG d7 hc d2
  go_wp2
  go_roundw
  case rel=>
   refine⟨i+1,c / 1000000000,L.set i (x - c % 1000000000),by omega,Z.o,by simp[b5],a8.o,?_,a7.o,?_,by go_num,b3.o,?_⟩
   ·have h:=d0.o;rw[show ((((x - c % 1000000000)):Nat):Int)=_ from ?_] at h
    ·exact h
    have:=HX.o;have:=HC.o;have:=j.o;  omega
   ·congr 1;have:=HX.o;have:=HC.o;have:=j.o;  omega
   first|exact (K.o _ (.bool true)).1|exact (K.o _ _).2
  simp[intOf];omega
 obtain rfl:i=n:=by omega
 rw[Jl (show b.length<=i by omega)] at d;have HE:Hid (U7 wr R L/\L.length=A.length/\okL L/\L.drop i=A.drop i/\val (L.take i)+f*val b=val (A.take i)+1000000000 ^ i*c/\Below R w wr):=⟨hR,b5,E,I,d,V⟩;clear d hR V E I
 go_wp2
 go_ret
 obtain⟨e1,e2,e3,e4,e5,e6⟩:=HE.o;exact⟨c,L,rfl,e1,e2,e3,e4,d2,e5,e6⟩
theorem Ik (P A Bv La c x y d c':Nat)(h:La+Bv=A+P*c)(hd:d+c+y=x+1000000000*c'):La+P*d+(Bv+P*y)=A+P*x+P*1000000000*c':=by
 have j:P*(d+c+y)=P*(x+1000000000*c'):=by rw[hd]
 rw[Yh,Yh,Yh,<-Yw] at j;omega
theorem Tc (P c A Bv V:Nat)(h:V+Bv=A+P*c)(hV:V<P)(hB:Bv<=A):V+Bv=A:=by
 cases c with
 | zero=>rw[Vk] at h;omega
 | succ c=>
   rw[Nat.mul_succ] at h;generalize P*c=X at h;omega
theorem Mz (B:Nat)(va vb:Value)(a b:List Nat)(w:World)(ha:Kz B w va a)(hb:Kz B w vb b)(hla:a.length<=1000000)(hlb:b.length<=a.length)(hle:val b<=val a) :
 Calls prog 171 #[va,vb] w fun e w'=>∃ v L,e=.returned v/\Kz w.heap.size w' v L/\val L+val b=val a/\Up w w':=by
 obtain⟨i0,c6,d7,d8,d9⟩:=info_parts info_u32;obtain⟨pa,ca,rfl,_⟩:=id ha;obtain⟨pb,cb,rfl,_⟩:=id hb;obtain⟨_,_,_,b4,Y⟩:=ha.cells;obtain⟨_,_,_,b5,Z⟩:=hb.cells;have HA:=Hd Y;have HB:=Hd Z;have d3:=Hd hle;clear Y Z ha hb hle
 go_in
 go_wp2_with (at_make;refine wpList_make_full _ rfl _ _ 117 rfl w.heap.size 149 i0 (.int .u32 0) 1 underlying117 c6 d7 d8 .i64 .i64 _ _ a.length rfl rfl ?m0 ?m1 ?m2 ?m3 ?m4 ?_)
 try (case m0=>first|rfl|omega)
 try (case m1=>first|rfl|omega)
 try (case m2=>(first|omega|(rw[d9];omega)))
 try (case m3=>(unfold maxLen;omega))
 try (case m4=>exact leR)
 intro w1 O b7
 first|rw[Ep] at O|rw[Eu] at O
 have E:Hp w1 w.heap.size (List.replicate a.length 0):=Kj O;have b3:Up w w1:=(Je _ _).grown b7 leR (fun k h=>by cases h);clear O b7
 go_wp2
 go_loopw [6,14] (fun cv iv wr=>∃ (i c:Nat) (L:List Nat),i<=a.length/\c<=1/\L.length=a.length/\okL L/\Hp wr w.heap.size L/\cv=.int .i64 (c:Nat)/\iv=.int .i64 i /\
  val (L.take i)+val (b.take i)=val (a.take i)+1000000000 ^ i*c/\Up w wr) (fun _ iv _=>a.length - (intOf iv).toNat)
 case atStart=>exact⟨0,0,_,by omega,by omega,by simp,fun x hx=>by rw[Yt hx];omega,E,rfl,rfl,by simp[val],b3⟩
 clear E b3;obtain⟨i,c,L,hi,hc,V,d,E,rfl,rfl,j,U⟩:=hrel
 by_cases b9:i<a.length
 ·obtain⟨ba,oa,rfl,c8,Y⟩:=HA.o i b9;rw[<-U.cell (p:=⟨ba,oa+i,none⟩) c8] at Y;have d5:=U9 a b4 i b9;obtain⟨x,hx⟩:=Oa (a.getD i 0);rw[hx] at Y d5
  by_cases b8:i<b.length
  ·obtain⟨bb,ob,rfl,d0,Z⟩:=HB.o i b8;rw[<-U.cell (p:=⟨bb,ob+i,none⟩) d0] at Z;have d6:=U9 b b5 i b8;obtain⟨y,hy⟩:=Oa (b.getD i 0);rw[hy] at Z d6
   by_cases b6:x<c+y
   ·have A:=Ik (1000000000 ^ i) _ _ _ c x y (x+1000000000 - c - y) 1 j (by omega);have K:Hid (val ((L.set i (x+1000000000 - c - y)).take (i+1))+val (b.take (i+1))=val (a.take (i+1))+1000000000 ^ (i+1)*1):=by
     unfold Hid
     rw[O2 L i _ (by omega),Oe,Oe,hx,hy,J7];exact A
    have M:=E.cell i (by omega);have a8:=E.frozen i;have J:Hid (Hp (wr.setCell ⟨w.heap.size,i,none⟩ (.int .u32 (((x+1000000000 - c - y):Nat):Int))) w.heap.size (L.set i (x+1000000000 - c - y))):=E.set i _;have G:Hid (∀ u,Up w (wr.setCell ⟨w.heap.size,i,none⟩ u)):=fun u=>U.setCell leR u;have I:Hid (okL (L.set i (x+1000000000 - c - y))):=Kn L d i _ (by omega);clear A j hx hy E U d
    go_wp2
    go_roundw
    case rel=>
     refine⟨i+1,1,L.set i (x+1000000000 - c - y),by omega,by omega,by simp[V],I.o,?_,rfl,by go_num,K.o,G.o _⟩;have h:=J.o;rw[show ((((x+1000000000 - c - y)):Nat):Int)=_ from ?_] at h
     ·exact h
     omega
    simp[intOf];omega
   have A:=Ik (1000000000 ^ i) _ _ _ c x y (x - c - y) 0 j (by omega);have K:Hid (val ((L.set i (x - c - y)).take (i+1))+val (b.take (i+1))=val (a.take (i+1))+1000000000 ^ (i+1)*0):=by
    unfold Hid
    rw[O2 L i _ (by omega),Oe,Oe,hx,hy,J7];exact A
   have M:=E.cell i (by omega);have a8:=E.frozen i;have J:Hid (Hp (wr.setCell ⟨w.heap.size,i,none⟩ (.int .u32 (((x - c - y):Nat):Int))) w.heap.size (L.set i (x - c - y))):=E.set i _;have G:Hid (∀ u,Up w (wr.setCell ⟨w.heap.size,i,none⟩ u)):=fun u=>U.setCell leR u;have I:Hid (okL (L.set i (x - c - y))):=Kn L d i _ (by omega);clear A j hx hy E U d
   go_wp2
   go_roundw
   case rel=>
    refine⟨i+1,0,L.set i (x - c - y),by omega,by omega,by simp[V],I.o,?_,rfl,by go_num,K.o,G.o _⟩;have h:=J.o;rw[show ((((x - c - y)):Nat):Int)=_ from ?_] at h
    ·exact h
    omega
   simp[intOf];omega
  have a7:b.getD i 0=0:=by rw[Ji,Ym (by omega)];rfl
  by_cases b6:x<c
  ·have A:=Ik (1000000000 ^ i) _ _ _ c x 0 (x+1000000000 - c) 1 j (by omega);have K:Hid (val ((L.set i (x+1000000000 - c)).take (i+1))+val (b.take (i+1))=val (a.take (i+1))+1000000000 ^ (i+1)*1):=by
    unfold Hid
    rw[O2 L i _ (by omega),Oe,Oe,hx,a7,J7];exact A
   have M:=E.cell i (by omega);have a8:=E.frozen i;have J:Hid (Hp (wr.setCell ⟨w.heap.size,i,none⟩ (.int .u32 (((x+1000000000 - c):Nat):Int))) w.heap.size (L.set i (x+1000000000 - c))):=E.set i _;have G:Hid (∀ u,Up w (wr.setCell ⟨w.heap.size,i,none⟩ u)):=fun u=>U.setCell leR u;have I:Hid (okL (L.set i (x+1000000000 - c))):=Kn L d i _ (by omega);clear A j hx a7 E U d
   go_wp2
   go_roundw
   case rel=>
    refine⟨i+1,1,L.set i (x+1000000000 - c),by omega,by omega,by simp[V],I.o,?_,rfl,by go_num,K.o,G.o _⟩;have h:=J.o;rw[show ((((x+1000000000 - c)):Nat):Int)=_ from ?_] at h
    ·exact h
    omega
   simp[intOf];omega
  have A:=Ik (1000000000 ^ i) _ _ _ c x 0 (x - c) 0 j (by omega);have K:Hid (val ((L.set i (x - c)).take (i+1))+val (b.take (i+1))=val (a.take (i+1))+1000000000 ^ (i+1)*0):=by
   unfold Hid
   rw[O2 L i _ (by omega),Oe,Oe,hx,a7,J7];exact A
  have M:=E.cell i (by omega);have a8:=E.frozen i;have J:Hid (Hp (wr.setCell ⟨w.heap.size,i,none⟩ (.int .u32 (((x - c):Nat):Int))) w.heap.size (L.set i (x - c))):=E.set i _;have G:Hid (∀ u,Up w (wr.setCell ⟨w.heap.size,i,none⟩ u)):=fun u=>U.setCell leR u;have I:Hid (okL (L.set i (x - c))):=Kn L d i _ (by omega);clear A j hx a7 E U d
  go_wp2
  go_roundw
  case rel=>
   refine⟨i+1,0,L.set i (x - c),by omega,by omega,by simp[V],I.o,?_,rfl,by go_num,K.o,G.o _⟩;have h:=J.o;rw[show ((((x - c)):Nat):Int)=_ from ?_] at h
   ·exact h
   omega
  simp[intOf];omega
 obtain rfl:i=a.length:=by omega
 have hE:=Tc (1000000000 ^ a.length) c _ _ _ j (by rw[Jl (by omega)];exact Gb L d _ (by omega)) (by rw[Jl (by omega),Jl (by omega)];exact d3.o);rw[Jl (by omega),Jl (by omega),Jl (by omega)] at hE;have HE:=Hd hE;have HL:Hid (Kz w.heap.size wr (.slice (some ⟨w.heap.size,0,none⟩) a.length a.length) L):=by
  have:=E.isL (B:=w.heap.size) (cap:=a.length) leR d (by omega) (by unfold maxLen;omega);rw[V] at this;exact this
 have d2:=Hd U;clear hE j E U d
 go_wp2
 go_ret
 exact⟨_,L,rfl,HL.o,HE.o,d2.o⟩
def Dg (x k:Nat):List Nat:=(List.range k).map (fun j=>48+x / 10 ^ j % 10)
def revD (l:List Nat):List Nat:=l.flatMap (fun x=>Dg x 9)
theorem XW (x k:Nat):Dg x (k+1)=Dg x k++[48+x / 10 ^ k % 10]:=by simp[Dg,List.range_succ]
theorem YT (x k:Nat):(Dg x k).length=k:=by simp[Dg]
theorem YA (l:List Nat):(revD l).length=9*l.length:=by
 unfold revD;rw[List.length_flatMap];simp only[YT];rw[List.map_const',List.sum_replicate_nat];omega
theorem XT (l:List Nat)(x:Nat):revD (l++[x])=revD l++Dg x 9:=by simp[revD]
theorem DC (x:Nat):(Dg x 9).reverse=Gu x 9:=by
 simp[Dg,Gu,dg,tens,List.range_succ]
theorem YS (l:List Nat):(revD l).reverse=G5 l:=by
 unfold revD G5
 induction l with
 | nil=>rfl
 | cons x l ih=>rw[V5,Vs,ih,Un,Zs,DC];simp
theorem LQ (l:List Nat):∀ x∈revD l,x<256:=fun x hx=>Tk l x (by rw[<-YS];simpa using hx)
def Ps (l:List Nat):List Nat:=(l.reverse.dropWhile (·==48))
theorem GR (D:List Nat)(j:Nat)(h:j<D.length)(h0:D.getD j 0=48):Ps (D.take (j+1))=Ps (D.take j):=by
 unfold Ps;rw[Ye h,Vs];have:D[j]=48:=by simpa[List.getD_eq_getElem?_getD,h] using h0
 simp[this]
theorem RM (D:List Nat)(j:Nat)(h:j<D.length)(h0:D.getD j 0≠48):Ps (D.take (j+1))=(D.take (j+1)).reverse:=by
 unfold Ps;rw[Ye h,Vs];have:D[j]≠48:=by simpa[List.getD_eq_getElem?_getD,h] using h0
 simp[this]
theorem Wh (l:List Nat)(h:∀ x∈l,x<256):Ea (O0 l)=O0 (l.dropWhile (·==48)):=by
 induction l with
 | nil=>rfl
 | cons x l ih=>
   have d:=h x (by simp);have e:(UInt8.ofNat x==48)=(x==48):=by
    rw[Yd,Yf,Yf];constructor
    ·intro e;have:=congrArg UInt8.toNat e;rw[UInt8.toNat_ofNat_of_lt' (by simpa using d)] at this;exact this
    rintro rfl;rfl
   unfold Ea O0 at *;simp only[Vh,Vd,e]
   split
   ·exact ih (fun y hy=>h y (by simp[hy]))
   rfl
theorem QP (l:List Nat):textD l=O0 (Ps (revD l)):=by
 unfold textD Ps;rw[Wh _ (Tk l),YS]
def Xa (ng:Bool)(t:List Nat):ByteArray:=if t.length=0 then strB [48] else if ng then strB (45::textD t) else strB (textD t)
theorem PW {z0:Int}{zn:Bool}{za:Option Addr}{zl zc:Nat}{neg:Bool}{t:List Nat}(h:Gy B w (.agg #[.int .i64 z0,.bool zn,.slice za zl zc]) neg t):YG z0 zn zl=Ky neg t:=by
 obtain⟨d,h2,h3⟩:=h
 rcases h3 with⟨h3,v,e,p,c,rfl,_⟩|⟨h3,e⟩
 ·simp at e;obtain⟨_,rfl,_,rfl,_⟩:=e;unfold YG Ky;have:0<t.length:=by omega
  simp[this]
 simp at e;obtain⟨rfl,rfl,_,rfl,_⟩:=e;exact (Fv neg t h3 d h2).symm
def Em (s M q:Nat):Nat:=s+(M - q)
theorem Gx (s M:Nat):Em s M M=s:=by unfold Em;omega
theorem Mg (s M q:Nat)(h:q<M):Em s M (q+1)+1=Em s M q:=by unfold Em;omega
def Gr (D:List Nat)(M q:Nat):List Value:=Bm ((D.take M).drop q).reverse
theorem Qc (D:List Nat)(M:Nat):Gr D M M=[]:=by unfold Gr;rw[Zr (List.length_take_le _ _)];rfl
theorem Be (D:List Nat)(M q:Nat)(h:q<M)(hl:M<=D.length):Gr D M q=Gr D M (q+1)++[.int .u8 (D.getD q 0:Nat)]:=by
 unfold Gr;have d:q<(D.take M).length:=by rw[J4];omega
 rw[Vx d,List.getElem_take,Ji,Jd (by omega),Un,F3];rfl
theorem R3 (w:World)(v:Value)(t:TypeId)(g:Nat)(hg:w.heap.size=g):∀ j u,[v][j]? = some u->(w.alloc (.cells #[v] t)).cell? ((⟨g,0,none⟩:Addr).add j)=some u:=by
 subst hg;exact cell_one_new _ _ _
theorem UL (B:Nat)(z:Value)(neg:Bool)(t:List Nat)(w:World)(hz:Gy B w z neg t)(hBw:B<=w.heap.size)(hlen:t.length<=600) :
 Calls prog 123 #[z] w fun e w'=>e=.returned (.string (Xa (Ky neg t) t))/\Up w w':=by
 obtain⟨z0,zn,za,zl,zc,m8⟩:=hz.shape;subst m8;obtain⟨i0,V,j1,b7,j2⟩:=info_parts info_u8;obtain⟨W0,c8⟩:=Oa (w.alloc (.cells #[.int .i64 z0,.bool zn,.slice za zl zc] 119));have l6:=Hd c8;have h9:Up w W0:=by rw[<-c8];exact Oz _ _
 have o4:W0.heap.size=w.heap.size+1:=by rw[<-c8];simp
 have HZ:Hid (Gy B W0 (.agg #[.int .i64 z0,.bool zn,.slice za zl zc]) neg t):=hz.bl h9;have l4:=Hd h9;have HX:Hid (∀ W,Up W0 W->W.cell? ⟨w.heap.size,0,none⟩=some (.int .i64 z0)/\W.cell? ⟨w.heap.size,1,none⟩=some (.bool zn)/\W.cell? ⟨w.heap.size,2,none⟩=some (.slice za zl zc)):=fun W hW=>by
  refine⟨?_,?_,?_⟩
  ·rw[hW.cell (p:=⟨w.heap.size,0,none⟩) (by show w.heap.size<_;omega),<-c8,Jn _ _ _ _ rfl];rfl
  ·rw[hW.cell (p:=⟨w.heap.size,1,none⟩) (by show w.heap.size<_;omega),<-c8,Jn _ _ _ _ rfl];rfl
  rw[hW.cell (p:=⟨w.heap.size,2,none⟩) (by show w.heap.size<_;omega),<-c8,Jn _ _ _ _ rfl];rfl
 have j6:Hid (YG z0 zn zl=Ky neg t):=PW hz;clear hz h9 c8
 go_in
 go_wp2_with fail
 rw[l6.o];refine (El B _ neg t _ HZ.o (by omega)).mono ?_;rintro e K ⟨v,rfl,hv,g5⟩;obtain⟨a,cap,rfl,hl,n2,m5,hr⟩:=hv;have n3:w.heap.size+1<=K.heap.size:=by have:=g5.size;omega
 have HC:Hid (∀ i,i<t.length->∃ b off,a=some ⟨b,off,none⟩/\b<K.heap.size/\K.cell? ⟨b,off+i,none⟩=some (.int .u32 (t.getD i 0:Nat))):=fun i hi=>by
  rcases hr with rfl|⟨b,off,rfl,_,hb,hc⟩
  ·simp at hi
  exact⟨b,off,rfl,hb,hc i hi⟩
 have d4:=Hd g5;have O:Hid (Up w K):=l4.o.trans (g5.mono (by omega));clear hr g5
 by_cases h0:t.length=0
 ·have HT:Hid (Xa (Ky neg t) t=strB [48]):=if_pos h0;have zz:((t.length:Int)==0)=true:=by rw[Yf];omega
  go_wp2
  go_ret
  exact⟨by rw[HT.o];rfl,O.o⟩
 have zz:((t.length:Int)==0)=false:=by rw[Jb];omega
 have HT:Hid (Xa (Ky neg t) t=if Ky neg t then strB (45::textD t) else strB (textD t)):=if_neg h0
 go_wp2_with (at_make;refine wpList_make_own _ rfl _ _ 112 rfl K.heap.size 5 i0 (.int .u8 0) 1 underlying112 V j1 b7 .i64 .i64 _ (9*t.length+1) rfl rfl ?m1 ?m2 ?m3 ?m4 ?_)
 case m1=>omega
 case m2=>rw[j2];omega
 case m3=>unfold maxLen;omega
 case m4=>exact leR
 intro w2 g1 g6;have k7:Up K w2:=(Je _ _).grown g6 leR (fun k h=>by cases h);clear g6
 go_wp2
 go_loopw [4,23] (fun v i wr=>∃ j:Nat,j<=t.length/\i=.int .i64 j/\v=.slice (some ⟨K.heap.size,0,none⟩) (9*j) (9*t.length+1) /\
  wr.ownsRow K.heap.size 5 1 (.slice (some ⟨K.heap.size,0,none⟩) (9*j) (9*t.length+1)) (9*j) (Bm (revD (t.take j)))/\Up K wr) (fun _ i _=>t.length - (intOf i).toNat)
 case atStart=>exact⟨0,Jr _,rfl,rfl,g1,k7⟩
 clear g1 k7;obtain⟨j,hj,rfl,rfl,G,hB⟩:=hrel
 by_cases i1:j<t.length
 ·obtain⟨b,off,rfl,hb,U⟩:=HC.o j i1;have m7:=NG t m5 j;rw[<-hB.cell (p:=⟨b,off+j,none⟩) hb] at U;have k0:Hid (t.take (j+1)=t.take j++[t.getD j 0]):=by
   unfold Hid
   rw[Ye i1,Ji,Jd i1];rfl
  obtain⟨y,hy⟩:=Oa (t.getD j 0);rw[hy] at U m7 k0;obtain⟨P,hP⟩:=Oa (revD (t.take j));have HP:=Hd hP;rw[hP] at G;clear hy hP
  go_wp2
  go_loopw [4,6,7] (fun v x kk wr=>∃ k:Nat,k<=9/\kk=.int .i64 k/\x=.int .u32 (y / 10 ^ k:Nat)/\v=.slice (some ⟨K.heap.size,0,none⟩) (9*j+k) (9*t.length+1) /\
   wr.ownsRow K.heap.size 5 1 (.slice (some ⟨K.heap.size,0,none⟩) (9*j+k) (9*t.length+1)) (9*j+k) (Bm (P++Dg y k))/\Up K wr) (fun _ _ kk _=>9 - (intOf kk).toNat)
  case atStart=>exact⟨0,Jr _,rfl,Ot (by simp),rfl,by simpa[Dg] using G,hB⟩
  clear G hB U;rename_i wr0;obtain⟨k,hk,rfl,rfl,rfl,G,hB⟩:=hrel
  by_cases o3:k<9
  ·have hq:=Nat.div_le_self y (10 ^ k);have j9:Hid (y / 10 ^ (k+1)=y / 10 ^ k / 10):=by unfold Hid;rw[J7,Vc]
   have h6:=XW y k;obtain⟨q,l2⟩:=Oa (y / 10 ^ k);rw[l2] at hq j9 h6 ⊢;have j8:Hid (Dg y (k+1)=Dg y k++[48+q % 10]):=h6;clear l2 h6
   go_wp2_with (at_builtin;refine wpList_append_fits _ rfl _ _ 112 rfl K.heap.size 5 i0 1 underlying112 V b7 K.heap.size (9*j+k) (9*t.length+1) _ rfl (G.alloc _) ⟨wr.heap.size,0,none⟩ 1 1 [_] rfl rfl (cell_one_new _ _ _) ?c1 ?c2 ?_)
   case c1=>first|rfl|(intro u hu;simp at hu;subst hu;rfl)
   case c2=>omega
   intro w3 g2 g7;have l7:Up K w3:=(hB.alloc hB.size _).grown g7 (by have:=hB.size;simp;omega) (fun k e=>by cases e;exact leR);have l5:Hid (w3.ownsRow K.heap.size 5 1 (.slice (some ⟨K.heap.size,0,none⟩) (9*j+(k+1)) (9*t.length+1)) (9*j+(k+1)) (Bm (P++Dg y (k+1)))):=by
    unfold Hid
    rw[j8.o,<-List.append_assoc,F3]
    simpa[<-Nat.add_assoc] using g2
   clear g2 g7 G hB
   go_wp2
   go_roundw
   case rel=>exact⟨k+1,by omega,by go_num,by rw[j9.o];exact Ot (by simp),rfl,l5.o,l7⟩
   simp[intOf];omega
  obtain rfl:k=9:=by omega
  have b8:Hid (wr.ownsRow K.heap.size 5 1 (.slice (some ⟨K.heap.size,0,none⟩) (9*(j+1)) (9*t.length+1)) (9*(j+1)) (Bm (revD (t.take (j+1))))):=by
   unfold Hid
   rw[k0.o,XT,HP.o];exact G
  clear G
  go_wp2
  go_roundw
  case rel=>exact⟨j+1,by omega,by go_num,rfl,b8.o,hB⟩
  simp[intOf];omega
 obtain rfl:j=t.length:=by omega
 generalize l9:wr=E at *;clear l9;rw[Yk] at G;have g8:=YA t;have h7:=QP t;have e1:=LQ t;obtain⟨D,hD⟩:=Oa (revD t);rw[hD] at G g8 h7 e1;have J:Hid (D.length=9*t.length):=g8;have d2:Hid (textD t=O0 (Ps D)):=h7;have a7:Hid (∀ x∈D,x<256):=e1;have e3:=Hd G;have h1:Hid (∀ W:World,W.ownsRow K.heap.size 5 1 (.slice (some ⟨K.heap.size,0,none⟩) (9*t.length) (9*t.length+1)) (9*t.length) (Bm D)->∀ i,i<9*t.length->W.cell? ⟨K.heap.size,i,none⟩=some (.int .u8 (D.getD i 0:Nat))):=fun W hW i hi=>by
  have:=hW.cells (g:=K.heap.size) rfl i (.int .u8 (D.getD i 0:Nat)) (by rw[Y6];simp[List.getD_eq_getElem?_getD,show i<D.length by omega])
  by_cases i0:i=0
  ·subst i0;simpa[Addr.add] using this
  simpa[Addr.add,i0] using this
 have d5:=Hd hB;clear G g8 h7 e1 hD hB
 go_wp2
 go_loop [8] (fun n=>∃ m:Nat,m<=9*t.length/\n=.int .i64 m/\Ps (D.take m)=Ps D) (fun n=>(intOf n).toNat)
 case atStart=>exact⟨9*t.length,leR,Ot (by omega),by rw[<-J.o,Yk]⟩
 obtain⟨m,hm,rfl,hp⟩:=hrel;have HP:=Hd hp;clear hp;obtain⟨ng,l1⟩:=Oa (Ky neg t);have a8:=Hd l1;clear l1
 cases m with
 | zero=>
   have HM:Hid (Ps D=(D.take 0).reverse):=HP.o.symm.trans rfl
   go_wp2_with (at_make;refine wpList_make_own _ rfl _ _ 112 rfl E.heap.size 5 i0 (.int .u8 0) 1 underlying112 V j1 b7 .i64 .i64 _ (0+1) rfl rfl ?am1 ?am2 ?am3 ?am4 ?_)
   try (case am1=>(omega))
   try (case am2=>(first|omega|(rw[j2];omega)))
   try (case am3=>(unfold maxLen;omega))
   try (case am4=>(exact leR))
   intro w4 Z b4;have c6:Up E w4:=(Je _ _).grown b4 leR (fun k h=>by cases h);have i8:K.heap.size<E.heap.size:=(e3.o.lt _ rfl).2;have d9:Hid (Up W0 w4):=d4.o.trans ((d5.o.mono d4.o.size).trans (c6.mono (by have:=d4.o.size;omega)));obtain⟨c0,c1,c2⟩:=HX.o w4 d9.o;have b8:=Hd Z;have M:=Hd c6;clear b4 Z c6
   go_wp2_with fail
   refine (E0 _ _ _ _ _ _).mono ?_;rintro e w' ⟨rfl,m6⟩;subst w';rw[j6.o,a8.o]
   cases ng
   ·have b9:Hid (Xa (Ky neg t) t=strB (O0 (D.take (0)).reverse)):=by rw[HT.o,a8.o,d2.o,HM.o];rfl
    have I:=b8.o.alloc (.cells #[.int .i64 z0,.bool zn,.slice za zl zc] 119);have A:Up E (w4.alloc (.cells #[.int .i64 z0,.bool zn,.slice za zl zc] 119)):=M.o.alloc M.o.size _;obtain⟨W5,f8⟩:=Oa (w4.alloc (.cells #[.int .i64 z0,.bool zn,.slice za zl zc] 119));rw[f8] at I A ⊢;clear f8
    go_wp2
    go_loopw [9,10] (fun v i wr=>∃ q:Nat,q<=0/\i=.int .i64 (q - 1)/\v=.slice (some ⟨E.heap.size,0,none⟩) (Em 0 (0) q) (0+1) /\
     wr.ownsRow E.heap.size 5 1 (.slice (some ⟨E.heap.size,0,none⟩) (Em 0 (0) q) (0+1)) (Em 0 (0) q) (Gr D (0) q)/\Up E wr) (fun _ i _=>(intOf i+1).toNat)
    case atStart=>
     refine⟨0,leR,Ot (by omega),by rw[Gx],?_,A⟩;rw[Gx,Qc]
     simpa using I
    clear I A;obtain⟨q,hq,rfl,rfl,I,A⟩:=hrel
    cases q with
    | zero=>
      have e9:Gr D (0) 0=Bm ((D.take (0)).reverse):=by unfold Gr;rw[Y9]
      rw[e9] at I;have d1:=Is _ _ _ _ _ _ I (by
       intro x hx;have h:=hx;exact a7.o x (Yy (List.mem_reverse.1 h))) (by unfold Em;rw[Ub,J4,J.o];omega)
      have Y:Hid (Up w wr):=O.o.trans ((d5.o.mono O.o.size).trans (A.mono (by have:=O.o.size;omega)));clear I A e9
      go_wp2
      go_ret
      exact⟨by rw[b9.o];rfl,Y.o⟩
    | succ q=>exact absurd hq (Nat.not_succ_le_zero q)
   have b9:Hid (Xa (Ky neg t) t=strB (O0 ([45]++(D.take (0)).reverse))):=by rw[HT.o,a8.o,d2.o,HM.o];rfl
   have e7:=b8.o.alloc (.cells #[.int .i64 z0,.bool zn,.slice za zl zc] 119)
   go_wp2_with (at_builtin;refine wpList_append_fits _ rfl _ _ 112 rfl E.heap.size 5 i0 1 underlying112 V b7 E.heap.size 0 (0+1) _ rfl (e7.alloc _) ⟨w4.heap.size+1,0,none⟩ 1 1 [.int .u8 45] rfl rfl ?ad0 ?ad1 ?ad2 ?_)
   try (case ad0=>(exact R3 _ _ _ _ (by simp)))
   try (case ad1=>(first|rfl|(intro u hu;simp at hu;subst hu;rfl)))
   try (case ad2=>(omega))
   intro W5 I b5;have A:Up E W5:=((M.o.alloc M.o.size _).alloc (by have:=M.o.size;simp;omega) _).grown b5 (by have:=M.o.size;simp;omega) (fun k e=>by cases e;exact leR);clear b5 e7
   go_wp2
   go_loopw [9,10] (fun v i wr=>∃ q:Nat,q<=0/\i=.int .i64 (q - 1)/\v=.slice (some ⟨E.heap.size,0,none⟩) (Em 1 (0) q) (0+1) /\
    wr.ownsRow E.heap.size 5 1 (.slice (some ⟨E.heap.size,0,none⟩) (Em 1 (0) q) (0+1)) (Em 1 (0) q) ([.int .u8 45]++Gr D (0) q)/\Up E wr) (fun _ i _=>(intOf i+1).toNat)
   case atStart=>
    refine⟨0,leR,Ot (by omega),by rw[Gx],?_,A⟩;rw[Gx,Qc]
    simpa using I
   clear I A;obtain⟨q,hq,rfl,rfl,I,A⟩:=hrel
   cases q with
   | zero=>
     have e9:[.int .u8 45]++Gr D (0) 0=Bm ([45]++(D.take (0)).reverse):=by unfold Gr;rw[Y9];rfl
     rw[e9] at I;have d1:=Is _ _ _ _ _ _ I (by
      intro x hx
      rcases Zm.1 hx with h|h
      ·simp at h;omega
      exact a7.o x (Yy (List.mem_reverse.1 h))) (by unfold Em;rw[Yn,Ub,J4,J.o];simp only[Yq,Zn];omega)
     have Y:Hid (Up w wr):=O.o.trans ((d5.o.mono O.o.size).trans (A.mono (by have:=O.o.size;omega)));clear I A e9
     go_wp2
     go_ret
     exact⟨by rw[b9.o];rfl,Y.o⟩
   | succ q=>exact absurd hq (Nat.not_succ_le_zero q)
 | succ m=>
   have U:=h1.o E e3.o m (by omega);have l0:m<D.length:=by rw[J.o];omega
   by_cases d6:D.getD m 0=48
   ·have HN:Hid (Ps (D.take m)=Ps D):=(GR D m l0 d6).symm.trans HP.o;rw[d6] at U;clear d6
    go_wp2
    go_round
    case rel=>exact⟨m,by omega,Ot (by omega),HN.o⟩
    simp[intOf]
   have HM:Hid (Ps D=(D.take (m+1)).reverse):=HP.o.symm.trans (RM D m l0 d6);obtain⟨d0,k9⟩:=Oa (D.getD m 0);rw[k9] at U d6;have o2:((d0:Int)==48)=false:=by rw[Jb];omega
   clear k9 d6
   go_wp2_with (at_make;refine wpList_make_own _ rfl _ _ 112 rfl E.heap.size 5 i0 (.int .u8 0) 1 underlying112 V j1 b7 .i64 .i64 _ ((m+1)+1) rfl rfl ?bm1 ?bm2 ?bm3 ?bm4 ?_)
   try (case bm1=>(omega))
   try (case bm2=>(first|omega|(rw[j2];omega)))
   try (case bm3=>(unfold maxLen;omega))
   try (case bm4=>(exact leR))
   intro w4 Z b4;have c6:Up E w4:=(Je _ _).grown b4 leR (fun k h=>by cases h);have i8:K.heap.size<E.heap.size:=(e3.o.lt _ rfl).2;have d9:Hid (Up W0 w4):=d4.o.trans ((d5.o.mono d4.o.size).trans (c6.mono (by have:=d4.o.size;omega)));obtain⟨c0,c1,c2⟩:=HX.o w4 d9.o;have b8:=Hd Z;have M:=Hd c6;clear b4 Z c6
   go_wp2_with fail
   refine (E0 _ _ _ _ _ _).mono ?_;rintro e w' ⟨rfl,m6⟩;subst w';rw[j6.o,a8.o]
   cases ng
   ·have b9:Hid (Xa (Ky neg t) t=strB (O0 (D.take ((m+1))).reverse)):=by rw[HT.o,a8.o,d2.o,HM.o];rfl
    have I:=b8.o.alloc (.cells #[.int .i64 z0,.bool zn,.slice za zl zc] 119);have A:Up E (w4.alloc (.cells #[.int .i64 z0,.bool zn,.slice za zl zc] 119)):=M.o.alloc M.o.size _;obtain⟨W5,f8⟩:=Oa (w4.alloc (.cells #[.int .i64 z0,.bool zn,.slice za zl zc] 119));rw[f8] at I A ⊢;clear f8
    go_wp2
    go_loopw [9,10] (fun v i wr=>∃ q:Nat,q<=(m+1)/\i=.int .i64 (q - 1)/\v=.slice (some ⟨E.heap.size,0,none⟩) (Em 0 ((m+1)) q) ((m+1)+1) /\
     wr.ownsRow E.heap.size 5 1 (.slice (some ⟨E.heap.size,0,none⟩) (Em 0 ((m+1)) q) ((m+1)+1)) (Em 0 ((m+1)) q) (Gr D ((m+1)) q)/\Up E wr) (fun _ i _=>(intOf i+1).toNat)
    case atStart=>
     refine⟨(m+1),leR,Ot (by omega),by rw[Gx],?_,A⟩;rw[Gx,Qc]
     simpa using I
    clear I A;obtain⟨q,hq,rfl,rfl,I,A⟩:=hrel
    cases q with
    | zero=>
      have e9:Gr D ((m+1)) 0=Bm ((D.take ((m+1))).reverse):=by unfold Gr;rw[Y9]
      rw[e9] at I;have d1:=Is _ _ _ _ _ _ I (by
       intro x hx;have h:=hx;exact a7.o x (Yy (List.mem_reverse.1 h))) (by unfold Em;rw[Ub,J4,J.o];omega)
      have Y:Hid (Up w wr):=O.o.trans ((d5.o.mono O.o.size).trans (A.mono (by have:=O.o.size;omega)));clear I A e9
      go_wp2
      go_ret
      exact⟨by rw[b9.o];rfl,Y.o⟩
    | succ q=>
      have f9:wr.cell? ⟨K.heap.size,q,none⟩=some (.int .u8 (D.getD q 0:Nat)):=(A.cell (p:=⟨K.heap.size,q,none⟩) i8).trans (h1.o E e3.o q (by omega));have e4:Hid (Gr D ((m+1)) q=Gr D ((m+1)) (q+1)++[.int .u8 (D.getD q 0:Nat)]):=Be D ((m+1)) q (by omega) (by rw[J.o];omega);have g0:D.getD q 0<256:=by
       rw[Ji,Jd (by rw[J.o];omega)];exact a7.o _ (Jo _)
      obtain⟨d,hd⟩:=Oa (D.getD q 0);rw[hd] at f9 e4 g0;clear hd;have i7:q<9*t.length:=by omega
      have b3:Hid (Em 0 ((m+1)) (q+1)+1=Em 0 ((m+1)) q):=Mg _ _ _ (by omega);have e0:Hid (Em 0 ((m+1)) (q+1)+1<=(m+1)+1):=by unfold Hid;unfold Em;omega
      go_wp2_with (at_builtin;refine wpList_append_fits _ rfl _ _ 112 rfl E.heap.size 5 i0 1 underlying112 V b7 E.heap.size (Em 0 ((m+1)) (q+1)) ((m+1)+1) _ rfl (I.alloc _) ⟨wr.heap.size,0,none⟩ 1 1 [_] rfl rfl (cell_one_new _ _ _) ?bfc1 ?bfc2 ?_)
      try (case bfc1=>(first|rfl|(intro u hu;simp at hu;subst hu;rfl)))
      try (case bfc2=>(exact e0.o))
      intro w6 e8 b6;have h8:Up E w6:=(A.alloc A.size _).grown b6 (by have:=A.size;simp;omega) (fun k e=>by cases e;exact leR);have g9:Hid (w6.ownsRow E.heap.size 5 1 (.slice (some ⟨E.heap.size,0,none⟩) (Em 0 ((m+1)) q) ((m+1)+1)) (Em 0 ((m+1)) q) (Gr D ((m+1)) q)):=by
       unfold Hid
       rw[e4.o,<-b3.o]
       simpa using e8
      clear e8 b6 I A f9
      go_wp2
      go_roundw
      case rel=>exact⟨q,by omega,Ot (by omega),by rw[b3.o],g9.o,h8⟩
      simp[intOf]
   have b9:Hid (Xa (Ky neg t) t=strB (O0 ([45]++(D.take ((m+1))).reverse))):=by rw[HT.o,a8.o,d2.o,HM.o];rfl
   have e7:=b8.o.alloc (.cells #[.int .i64 z0,.bool zn,.slice za zl zc] 119)
   go_wp2_with (at_builtin;refine wpList_append_fits _ rfl _ _ 112 rfl E.heap.size 5 i0 1 underlying112 V b7 E.heap.size 0 ((m+1)+1) _ rfl (e7.alloc _) ⟨w4.heap.size+1,0,none⟩ 1 1 [.int .u8 45] rfl rfl ?bd0 ?bd1 ?bd2 ?_)
   try (case bd0=>(exact R3 _ _ _ _ (by simp)))
   try (case bd1=>(first|rfl|(intro u hu;simp at hu;subst hu;rfl)))
   try (case bd2=>(omega))
   intro W5 I b5;have A:Up E W5:=((M.o.alloc M.o.size _).alloc (by have:=M.o.size;simp;omega) _).grown b5 (by have:=M.o.size;simp;omega) (fun k e=>by cases e;exact leR);clear b5 e7
   go_wp2
   go_loopw [9,10] (fun v i wr=>∃ q:Nat,q<=(m+1)/\i=.int .i64 (q - 1)/\v=.slice (some ⟨E.heap.size,0,none⟩) (Em 1 ((m+1)) q) ((m+1)+1) /\
    wr.ownsRow E.heap.size 5 1 (.slice (some ⟨E.heap.size,0,none⟩) (Em 1 ((m+1)) q) ((m+1)+1)) (Em 1 ((m+1)) q) ([.int .u8 45]++Gr D ((m+1)) q)/\Up E wr) (fun _ i _=>(intOf i+1).toNat)
   case atStart=>
    refine⟨(m+1),leR,Ot (by omega),by rw[Gx],?_,A⟩;rw[Gx,Qc]
    simpa using I
   clear I A;obtain⟨q,hq,rfl,rfl,I,A⟩:=hrel
   cases q with
   | zero=>
     have e9:[.int .u8 45]++Gr D ((m+1)) 0=Bm ([45]++(D.take ((m+1))).reverse):=by unfold Gr;rw[Y9];rfl
     rw[e9] at I;have d1:=Is _ _ _ _ _ _ I (by
      intro x hx
      rcases Zm.1 hx with h|h
      ·simp at h;omega
      exact a7.o x (Yy (List.mem_reverse.1 h))) (by unfold Em;rw[Yn,Ub,J4,J.o];simp only[Yq,Zn];omega)
     have Y:Hid (Up w wr):=O.o.trans ((d5.o.mono O.o.size).trans (A.mono (by have:=O.o.size;omega)));clear I A e9
     go_wp2
     go_ret
     exact⟨by rw[b9.o];rfl,Y.o⟩
   | succ q=>
     have f9:wr.cell? ⟨K.heap.size,q,none⟩=some (.int .u8 (D.getD q 0:Nat)):=(A.cell (p:=⟨K.heap.size,q,none⟩) i8).trans (h1.o E e3.o q (by omega));have e4:Hid (Gr D ((m+1)) q=Gr D ((m+1)) (q+1)++[.int .u8 (D.getD q 0:Nat)]):=Be D ((m+1)) q (by omega) (by rw[J.o];omega);have g0:D.getD q 0<256:=by
      rw[Ji,Jd (by rw[J.o];omega)];exact a7.o _ (Jo _)
     obtain⟨d,hd⟩:=Oa (D.getD q 0);rw[hd] at f9 e4 g0;clear hd;have i7:q<9*t.length:=by omega
     have b3:Hid (Em 1 ((m+1)) (q+1)+1=Em 1 ((m+1)) q):=Mg _ _ _ (by omega);have e0:Hid (Em 1 ((m+1)) (q+1)+1<=(m+1)+1):=by unfold Hid;unfold Em;omega
     go_wp2_with (at_builtin;refine wpList_append_fits _ rfl _ _ 112 rfl E.heap.size 5 i0 1 underlying112 V b7 E.heap.size (Em 1 ((m+1)) (q+1)) ((m+1)+1) _ rfl (I.alloc _) ⟨wr.heap.size,0,none⟩ 1 1 [_] rfl rfl (cell_one_new _ _ _) ?btc1 ?btc2 ?_)
     try (case btc1=>(first|rfl|(intro u hu;simp at hu;subst hu;rfl)))
     try (case btc2=>(exact e0.o))
     intro w6 e8 b6;have h8:Up E w6:=(A.alloc A.size _).grown b6 (by have:=A.size;simp;omega) (fun k e=>by cases e;exact leR);have g9:Hid (w6.ownsRow E.heap.size 5 1 (.slice (some ⟨E.heap.size,0,none⟩) (Em 1 ((m+1)) q) ((m+1)+1)) (Em 1 ((m+1)) q) ([.int .u8 45]++Gr D ((m+1)) q)):=by
      unfold Hid
      rw[e4.o,<-b3.o]
      simpa using e8
     clear e8 b6 I A f9
     go_wp2
     go_roundw
     case rel=>exact⟨q,by omega,Ot (by omega),by rw[b3.o],g9.o,h8⟩
     simp[intOf]
theorem ID {x y u:Int}(B e a b c g:Nat)(ha:a<1000000000)(hb:b<1000000000)(hcc:c<1000000000)(hx:x=a)(hy:y=b)(hu:u=c)(hg:w.heap.size=g)(hB:B<=g):Kz B (w.alloc (.cells #[.int .u32 x,.int .u32 y,.int .u32 u] e)) (.slice (some ⟨g,0,none⟩) 3 3) [a,b,c]:=by
 subst hx;subst hy;subst hu;subst hg;exact⟨_,3,rfl,by simp,by unfold maxLen;omega,fun x hx=>by simp at hx;omega,.inr ⟨w.heap.size,0,rfl,hB,by simp,fun i hi=>by
  match i,hi with
  | 0,_=>rw[Jn _ _ _ _ rfl];rfl
  | 1,_=>rw[Jn _ _ _ _ rfl];rfl
  | 2,_=>rw[Jn _ _ _ _ rfl];rfl⟩⟩
theorem Su (t:List Nat):(textD t).length<=9*t.length:=by
 have d:(textD t).length<=(O0 (G5 t)).length:=by unfold textD Ea;exact (List.dropWhile_suffix _).length_le
 rw[O0,Zy,Iv] at d;exact d
def Ih (B:Nat)(w:World)(z:Value)(x:Int)(n:Nat):Prop:=∃ neg t,Gy B w z neg t/\sg neg (val t)=x/\t.length<=n
theorem Ih.bl {w':World}{z:Value}{x:Int}{n:Nat}(h:Ih B w z x n)(hb:Up w w'):Ih B w' z x n:=by
 obtain⟨neg,t,d,h2⟩:=h;exact⟨neg,t,d.bl hb,h2⟩
theorem Ih.mono {B':Nat}{z:Value}{x:Int}{n:Nat}(h:Ih B w z x n)(hb:B'<=B):Ih B' w z x n:=by
 obtain⟨neg,t,d,h2⟩:=h;exact⟨neg,t,d.mono hb,h2⟩
def CA (n:Nat):List Nat:=Og [n % 1000000000,n / 1000000000]
theorem CF (n:Nat)(h:n<1000000000000000000):okL (CA n):=trimL_ok _ fun x hx=>by
 simp at hx
 rcases hx with rfl|rfl<;>omega
theorem ZX (n:Nat):isTrim (CA n):=trimL_trim _
theorem NT (n:Nat):val (CA n)=n:=by
 unfold CA;rw[O4];simp only[val];omega
theorem Ta (n:Nat):(CA n).length<=2:=by
 have:=Kd [n % 1000000000,n / 1000000000]
 simpa[CA] using this
theorem Xk (x:Int)(w:World)(h1 : -2000000000000000000<x)(h2:x<2000000000000000000) :
 Calls prog 125 #[.int .i64 x] w fun e w'=>∃ z,e=.returned z/\Ih w.heap.size w' z x 3/\Up w w':=by
 by_cases J:x<1000000000000000000 /\ -1000000000000000000<x
 ·obtain⟨U,V⟩:=J
  go_in
  go_wp2
  have K:sg (decide (x<0)) (val (CA x.natAbs))=x:=by
   rw[NT];unfold sg
   by_cases h:x<0<;>simp[h]<;>omega
  refine Jg (v:=.agg #[.int .i64 x,.bool false,.slice none 0 0]) ?_ rfl ⟨_,rfl,⟨decide (x<0),CA x.natAbs,⟨CF _ (by omega),ZX _,.inr ⟨Ta _,?_⟩⟩,K,Yc (Ta _) (by omega)⟩,?_⟩
  ·simp[results,results125,go_sem]
  ·rw[K]
  exact Oz _ _
 obtain⟨n,hn⟩:∃ n:Nat,x.natAbs=n:=⟨_,rfl⟩;obtain⟨u,O⟩:∃ u:Int,(n:Int)=u:=⟨_,rfl⟩;have d:Hid (okL [n % 1000000000,n / 1000000000 % 1000000000,n / 1000000000 / 1000000000]/\isTrim [n % 1000000000,n / 1000000000 % 1000000000,n / 1000000000 / 1000000000]/\sg (decide (x<0)) (val [n % 1000000000,n / 1000000000 % 1000000000,n / 1000000000 / 1000000000])=x):=by
  refine⟨fun y hy=>by simp at hy;omega,fun _=>by simp;omega,?_⟩;have:val [n % 1000000000,n / 1000000000 % 1000000000,n / 1000000000 / 1000000000]=n:=by simp only[val];omega
  rw[this];unfold sg
  by_cases h:x<0<;>simp[h]<;>omega
 have G:Hid (∀ W:World,Kz (W.heap.size) (W.alloc (.cells #[.int .u32 (u % 1000000000),.int .u32 (u / 1000000000 % 1000000000),.int .u32 (u / 1000000000 / 1000000000)] 149)) (.slice (some ⟨W.heap.size,0,none⟩) 3 3) [n % 1000000000,n / 1000000000 % 1000000000,n / 1000000000 / 1000000000]):=fun W=>
  ID _ _ _ _ _ _ (by omega) (by omega) (by omega) (by omega) (by omega) (by omega) rfl leR
 obtain⟨L,I⟩:=Oa ([n % 1000000000,n / 1000000000 % 1000000000,n / 1000000000 / 1000000000]);have M:L.length=3:=by rw[<-I];rfl
 rw[I] at d G;clear I;have Z:u<2000000000000000000:=by omega
 have Y:1000000000000000000<=u:=by omega
 by_cases j:x<0
 ·obtain rfl:x = -u:=by omega
  have E:decide (-u<0)=true:=Ja j;rw[E] at d;clear O hn E J
  go_in
  go_wp2
  have hl:=G.o (w.alloc (.cells #[.int .i64 0,.bool true,.slice (some ⟨w.heap.size+1,0,none⟩) 3 3] 119));have A:(w.alloc (.cells #[.int .i64 0,.bool true,.slice (some ⟨w.heap.size+1,0,none⟩) 3 3] 119)).heap.size=w.heap.size+1:=by simp
  rw[A] at hl;refine Jg (v:=.agg #[.int .i64 0,.bool true,.slice (some ⟨w.heap.size+1,0,none⟩) 3 3]) ?_ rfl ⟨_,rfl,⟨true,L,Gy.mono (B:=w.heap.size+1) ⟨d.o.1,d.o.2.1,.inl ⟨by omega,_,rfl,hl⟩⟩ (Y4 _),d.o.2.2,by omega⟩,Ob (Oz _ _) _⟩;simp[results,results125,go_sem]
 obtain rfl:x=u:=by omega
 have E:decide (x<0)=false:=Jc j;rw[E] at d;clear O hn E J
 go_in
 go_wp2
 have hl:=G.o (w.alloc (.cells #[.int .i64 0,.bool false,.slice (some ⟨w.heap.size+1,0,none⟩) 3 3] 119));have A:(w.alloc (.cells #[.int .i64 0,.bool false,.slice (some ⟨w.heap.size+1,0,none⟩) 3 3] 119)).heap.size=w.heap.size+1:=by simp
 rw[A] at hl;refine Jg (v:=.agg #[.int .i64 0,.bool false,.slice (some ⟨w.heap.size+1,0,none⟩) 3 3]) ?_ rfl ⟨_,rfl,⟨false,L,Gy.mono (B:=w.heap.size+1) ⟨d.o.1,d.o.2.1,.inl ⟨by omega,_,rfl,hl⟩⟩ (Y4 _),d.o.2.2,by omega⟩,Ob (Oz _ _) _⟩;simp[results,results125,go_sem]
theorem I6 (n:Bool)(t:List Nat):sg (Ky n t) (val t)=sg n (val t):=by
 cases t with
 | nil=>cases n<;>simp[Ky,sg,val]
 | cons a t=>simp[Ky]
theorem KJ (n:Bool)(v:Nat):sg (!n) v = -sg n v:=by cases n<;>simp[sg]
theorem MT (s:Bool)(u v:Nat):sg s (u+v)=sg s u+sg s v:=by cases s<;>simp[sg]<;>omega
theorem DA (s:Bool)(d u v:Nat)(h:d+v=u):sg s d=sg s u+sg (!s) v:=by cases s<;>simp[sg]<;>omega
theorem ZK (s:Bool)(t:List Nat)(hok:okL t)(h2:t.length<=2) : -1000000000000000000<sg s (val t)/\sg s (val t)<1000000000000000000:=by
 have h:=Bp t hok 0 (by omega);unfold Eb at h;rw[Y9] at h
 cases s<;>simp[sg]<;>omega
theorem YZ (B:Nat)(z:Value)(neg:Bool)(t:List Nat)(w:World)(h:Gy B w z neg t) :
 Calls prog 172 #[z] w fun e w'=>∃ z',e=.returned z'/\Gy B w' z' (!neg) t/\Up w w':=by
 have G:=Hd h;obtain⟨d,A,h⟩:=h
 rcases h with⟨h2,v,rfl,a,cap,rfl,hl,j,_,_⟩|⟨h2,rfl⟩
 ·have U:0<t.length:=by omega
  unfold maxLen at j;have O:((t.length:Int)==0)=false:=by rw[Jb];omega
  go_in
  go_wp2_with (go_at_call 103;refine (Ki _ _ _ _ _ _).mono ?_;rintro e w' ⟨rfl,rfl⟩)
  refine Jg (v:=.agg #[.int .i64 0,.bool !neg,.slice a t.length cap]) ?_ rfl ⟨_,rfl,⟨d,A,.inl ⟨h2,_,rfl,?_⟩⟩,Ob (Ob (Oz _ _) _) _⟩
  ·simp[results,results172,go_sem]
  obtain⟨_,_,h3⟩:=G.o
  rcases h3 with⟨_,v,I,K⟩|⟨h4,_⟩
  ·simp at I;subst I;exact K.bl (Ob (Ob (Oz _ _) _) _)
  omega
 obtain⟨n,hn⟩:=Oa (sg neg (val t));have hb:=ZK neg t d h2;have J:Hid (sg (!neg) (val t) = -n):=by rw[<-hn];exact KJ neg (val t)
 have E:Hid (okL t/\isTrim t/\t.length<=2):=⟨d,A,h2⟩;rw[hn] at hb ⊢;obtain⟨M,hb2⟩:=hb;clear hn G
 go_in
 go_wp2_with (go_at_call 103;refine (Ki _ _ _ _ _ _).mono ?_;rintro e w' ⟨rfl,rfl⟩)
 refine Jg (v:=.agg #[.int .i64 (-n),.bool false,.slice none 0 0]) ?_ rfl ⟨_,rfl,⟨E.o.1,E.o.2.1,.inr ⟨E.o.2.2,by rw[J.o]⟩⟩,Ob (Ob (Oz _ _) _) _⟩;simp[results,results172,go_sem]
def G0 (B:Nat)(w:World)(z:Value)(x:Int):Prop:=∃ neg t,Gy B w z neg t/\sg neg (val t)=x
theorem G0.bl {w':World}{z:Value}{x:Int}(h:G0 B w z x)(hb:Up w w'):G0 B w' z x:=by
 obtain⟨neg,t,d,h2⟩:=h;exact⟨neg,t,d.bl hb,h2⟩
theorem G0.mono {B':Nat}{z:Value}{x:Int}(h:G0 B w z x)(hb:B'<=B):G0 B' w z x:=by
 obtain⟨neg,t,d,h2⟩:=h;exact⟨neg,t,d.mono hb,h2⟩
theorem G0.setCell {z:Value}{x:Int}(h:G0 B w z x)(p:Addr)(u:Value)(hp:p.block<B):G0 B (w.setCell p u) z x:=by
 obtain⟨neg,t,d,h2⟩:=h;exact⟨neg,t,d.setCell p u hp,h2⟩
theorem G0.shape {z:Value}{x:Int}(h:G0 B w z x):∃ (z0:Int) (zn:Bool) (za:Option Addr) (zl zc:Nat),z=.agg #[.int .i64 z0,.bool zn,.slice za zl zc]:=by
 obtain⟨neg,t,d,h2⟩:=h;exact d.shape
structure Boxes (g:Nat)(W:World)(x:Int)(xn:Bool)(pa:Option Addr)(la ca:Nat)(y:Int)(yn:Bool)(pb:Option Addr)(lb cb:Nat):Prop where
 a0:W.cell? ⟨g,0,none⟩=some (.int .i64 x)
 a1:W.cell? ⟨g,1,none⟩=some (.bool xn)
 a2:W.cell? ⟨g,2,none⟩=some (.slice pa la ca)
 b0:W.cell? ⟨g+1,0,none⟩=some (.int .i64 y)
 b1:W.cell? ⟨g+1,1,none⟩=some (.bool yn)
 b2:W.cell? ⟨g+1,2,none⟩=some (.slice pb lb cb)
 r0:W.cell? ⟨g+2,0,none⟩=some (.int .i64 0)
 r1:W.cell? ⟨g+2,1,none⟩=some (.bool false)
 r2:W.cell? ⟨g+2,2,none⟩=some (.slice none 0 0)
 f0:W.frozen? ⟨g+2,0,none⟩=false
 f1:W.frozen? ⟨g+2,1,none⟩=false
 f2:W.frozen? ⟨g+2,2,none⟩=false
theorem Boxes.bl {g:Nat}{W W':World}{x:Int}{xn:Bool}{pa:Option Addr}{la ca:Nat}{y:Int}{yn:Bool}{pb:Option Addr}{lb cb:Nat}(h:Boxes g W x xn pa la ca y yn pb lb cb){N:Nat}(hN:g+3<=N)(hb:Below N W W'):Boxes g W' x xn pa la ca y yn pb lb cb:=by
 have q:∀ k,k<3->∀ i,W'.cell? ⟨g+k,i,none⟩=W.cell? ⟨g+k,i,none⟩:=fun k hk i=>hb.cell (p:=⟨g+k,i,none⟩) (by show g+k<N;omega);have f:∀ i,W'.frozen? ⟨g+2,i,none⟩=W.frozen? ⟨g+2,i,none⟩:=fun i=>hb.frozen (p:=⟨g+2,i,none⟩) (by show g+2<N;omega);exact⟨(q 0 (by omega) 0).trans h.a0,(q 0 (by omega) 1).trans h.a1,(q 0 (by omega) 2).trans h.a2,(q 1 (by omega) 0).trans h.b0,(q 1 (by omega) 1).trans h.b1,(q 1 (by omega) 2).trans h.b2,(q 2 (by omega) 0).trans h.r0,(q 2 (by omega) 1).trans h.r1,(q 2 (by omega) 2).trans h.r2,(f 0).trans h.f0,(f 1).trans h.f1,(f 2).trans h.f2⟩
theorem Iy (w:World)(x:Int)(xn:Bool)(pa:Option Addr)(la ca:Nat)(y:Int)(yn:Bool)(pb:Option Addr)(lb cb:Nat)(ty:TypeId) :
 Boxes w.heap.size (((w.alloc (.cells #[.int .i64 x,.bool xn,.slice pa la ca] ty)).alloc (.cells #[.int .i64 y,.bool yn,.slice pb lb cb] ty)).alloc (.cells #[.int .i64 0,.bool false,.slice none 0 0] ty)) x xn pa la ca y yn pb lb cb:=by
 constructor
 ·rw[Jy _ _ _ (by simp;omega),Jy _ _ _ (by simp),Jn _ _ _ _ rfl];rfl
 ·rw[Jy _ _ _ (by simp;omega),Jy _ _ _ (by simp),Jn _ _ _ _ rfl];rfl
 ·rw[Jy _ _ _ (by simp;omega),Jy _ _ _ (by simp),Jn _ _ _ _ rfl];rfl
 ·rw[Jy _ _ _ (by simp),Jn _ _ _ _ (by simp)];rfl
 ·rw[Jy _ _ _ (by simp),Jn _ _ _ _ (by simp)];rfl
 ·rw[Jy _ _ _ (by simp),Jn _ _ _ _ (by simp)];rfl
 ·rw[Jn _ _ _ _ (by simp)];rfl
 ·rw[Jn _ _ _ _ (by simp)];rfl
 ·rw[Jn _ _ _ _ (by simp)];rfl
 ·rw[Ya _ _ _ _ (by simp)]
 ·rw[Ya _ _ _ _ (by simp)]
 rw[Ya _ _ _ _ (by simp)]
theorem OT (x y:Int)(w:World)(hx1 : -1000000000000000000<x)(hx2:x<1000000000000000000)(hy1 : -1000000000000000000<y)(hy2:y<1000000000000000000) :
 Calls prog 144 #[.agg #[.int .i64 x,.bool false,.slice none 0 0],.agg #[.int .i64 y,.bool false,.slice none 0 0]] w fun e w'=>∃ z,e=.returned z/\G0 w.heap.size w' z (x+y)/\Up w w':=by
 have Y:=Iy w x false none 0 0 y false none 0 0 119;obtain⟨h,d⟩:=Oa (((w.alloc (.cells #[.int .i64 x,.bool false,.slice none 0 0] 119)).alloc (.cells #[.int .i64 y,.bool false,.slice none 0 0] 119)).alloc (.cells #[.int .i64 0,.bool false,.slice none 0 0] 119));have V:=Hd d;have M:Hid (Up w h):=by rw[<-d];exact Ob (Ob (Oz _ _) _) _
 have K:h.heap.size=w.heap.size+3:=by rw[<-d];simp
 have G:w.heap.size<h.heap.size:=by omega
 have I:w.heap.size+1<h.heap.size:=by omega
 have J:w.heap.size+2<h.heap.size:=by omega
 rw[d] at Y;have HS:=Hd K;have A:=Y;obtain⟨a0,a1,a2,b0,b1,b2,r0,r1,r2,f0,f1,f2⟩:=Y;have U:Hid (Boxes w.heap.size h x false none 0 0 y false none 0 0):=A;clear d K A
 go_in
 go_wp2_with fail
 rw[V.o];refine (Ki _ _ _ _ _ _).mono ?_;rintro e w' ⟨rfl,rfl⟩
 go_wp2_with (go_at_call 103;refine (Ki _ _ _ _ _ _).mono ?_;rintro e w' ⟨rfl,rfl⟩)
 refine (Xk _ _ (by omega) (by omega)).mono ?_;rintro e w1 ⟨z,rfl,⟨neg,t,Z,hv,_⟩,E⟩;have HN:Hid (G0 (w.heap.size+3) w1 z (x+y)):=⟨neg,t,Z.mono (by have:=HS.o;simp;omega),hv⟩;have j:Up h w1:=(Ob (Oz h _) _).trans (E.mono (by simp;omega));have O:Hid (Up w w1):=M.o.trans (j.mono (by omega));clear a0 a1 a2 b0 b1 b2 r0 r1 r2 f0 f1 f2;obtain⟨a0,a1,a2,b0,b1,b2,r0,r1,r2,f0,f1,f2⟩:=U.o.bl (by have:=HS.o;omega) j;obtain⟨z0,zn,za,zl,zc,a7⟩:=Z.shape;subst a7;clear Z hv E j G I J
 go_wp2
 refine Jg ?_ rfl ⟨_,rfl,(((HN.o.setCell _ _ (by simp)).setCell _ _ (by simp)).setCell _ _ (by simp)).mono (by omega),((O.o.setCell (by simp;omega) _).setCell (by simp;omega) _).setCell (by simp;omega) _⟩;simp[results,results144,go_sem,r0,r1,r2]
theorem Sb (a b:List UInt8)(h:Ea a≠[]):Ea (a++b)=Ea a++b:=by
 induction a with
 | nil=>exact absurd rfl h
 | cons x a ih=>
   unfold Ea at *;simp only[Yx,Vd] at *
   split
   ·rename_i hx;rw[if_pos hx] at h;exact ih h
   rfl
theorem GB (a:List UInt8)(h:Ea a=[]):∀ x∈a,x=48:=by
 induction a with
 | nil=>intro x d;cases d
 | cons y a ih=>
   unfold Ea at *;simp only[Vd] at h
   split at h
   ·rename_i hy;intro x d
    rcases Vi.1 d with rfl|d
    ·simpa using hy
    exact ih h x d
   cases h
theorem FN (x j:Nat)(h:UInt8.ofNat (dg x j)=48):x / tens j % 10=0:=by
 have d:=congrArg UInt8.toNat h;unfold dg at d;rw[UInt8.toNat_ofNat_of_lt' (by simp[UInt8.size];omega)] at d;have:(48:UInt8).toNat=48:=rfl;omega
theorem FG (x:Nat)(h0:x≠0)(h:x<1000000000):Ea (O0 (Gu x 9))≠[]:=by
 intro he;have A:=GB _ he;have d:∀ j,j<9->x / tens j % 10=0:=fun j hj=>FN x j (A _ (by
  unfold O0 Gu;rw[List.map_map,Zh];exact⟨j,Y5.2 hj,rfl⟩))
 have E:=d 0 (by decide);have G:=d 1 (by decide);have I:=d 2 (by decide);have J:=d 3 (by decide);have K:=d 4 (by decide);have M:=d 5 (by decide);have O:=d 6 (by decide);have U:=d 7 (by decide);have V:=d 8 (by decide);have Y:tens 0=100000000:=rfl;have Z:tens 1=10000000:=rfl;have e2:tens 2=1000000:=rfl;have e3:tens 3=100000:=rfl;have e4:tens 4=10000:=rfl;have e5:tens 5=1000:=rfl;have e6:tens 6=100:=rfl;have e7:tens 7=10:=rfl;have e8:tens 8=1:=rfl;rw[Y] at E;rw[Z] at G;rw[e2] at I;rw[e3] at J;rw[e4] at K;rw[e5] at M;rw[e6] at O;rw[e7] at U;rw[e8] at V;omega
theorem textD_ge (t:List Nat)(hok:okL t)(htr:isTrim t)(hne:t≠[]):9*(t.length - 1)+1<=(textD t).length:=by
 have hl:=htr hne;have d:=hok _ (List.getLast_mem hne);obtain⟨u,x,rfl⟩:∃ u x,t=u++[x]:=⟨t.dropLast,t.getLast hne,(Zl hne).symm⟩;simp at hl d;have hn:=FG x hl d;have e:O0 (G5 (u++[x]))=O0 (Gu x 9)++O0 (G5 u):=by
  unfold G5 O0;simp
 unfold textD;rw[e,Sb _ _ hn];have h:0<(Ea (O0 (Gu x 9))).length:=Zj.2 hn;have h2:(O0 (G5 u)).length=9*u.length:=by rw[O0,Zy,Iv]
 have h3:(Ea (O0 (Gu x 9))++O0 (G5 u)).length=(Ea (O0 (Gu x 9))).length+(O0 (G5 u)).length:=Yn;have h4:(u++[x]).length=u.length+1:=by simp
 omega
theorem VB (ng:Bool)(t:List Nat)(h:t.length≠0):(Xa ng t).size=(if ng then 1 else 0)+(textD t).length:=by
 unfold Xa;rw[if_neg h]
 cases ng
 ·simp[X5]
 simp[X5];omega
def digC (t:List Nat):Nat:=if t.length=0 then 1 else (textD t).length
theorem Dy (B:Nat)(z:Value)(neg:Bool)(t:List Nat)(w:World)(hz:Gy B w z neg t)(hBw:B<=w.heap.size)(hlen:t.length<=600) :
 Calls prog 104 #[z] w fun e w'=>e=.returned (.int .i64 (digC t:Nat))/\Up w w':=by
 obtain⟨z0,O,za,M,zc,a8⟩:=hz.shape;subst a8;have Y:Hid (YG z0 O M=Ky neg t):=PW hz;obtain⟨K,d⟩:=Oa (w.alloc (.cells #[.int .i64 z0,.bool O,.slice za M zc] 119));have Z:=Hd d;have E:Up w K:=by rw[<-d];exact Oz _ _
 have c6:K.heap.size=w.heap.size+1:=by rw[<-d];simp
 have HZ:Hid (Gy B K (.agg #[.int .i64 z0,.bool O,.slice za M zc]) neg t):=hz.bl E;have U:=Hd E;have HX:Hid (∀ W,Up K W->W.cell? ⟨w.heap.size,0,none⟩=some (.int .i64 z0)/\W.cell? ⟨w.heap.size,1,none⟩=some (.bool O)/\W.cell? ⟨w.heap.size,2,none⟩=some (.slice za M zc)):=fun W hW=>by
  refine⟨?_,?_,?_⟩
  ·rw[hW.cell (p:=⟨w.heap.size,0,none⟩) (by show w.heap.size<_;omega),<-d,Jn _ _ _ _ rfl];rfl
  ·rw[hW.cell (p:=⟨w.heap.size,1,none⟩) (by show w.heap.size<_;omega),<-d,Jn _ _ _ _ rfl];rfl
  rw[hW.cell (p:=⟨w.heap.size,2,none⟩) (by show w.heap.size<_;omega),<-d,Jn _ _ _ _ rfl];rfl
 clear hz E d
 go_in
 go_wp2_with fail
 rw[Z.o];refine (UL B _ neg t _ HZ.o (by omega) hlen).mono ?_;rintro e w1 ⟨rfl,G⟩;obtain⟨c0,c1,c2⟩:=HX.o w1 G;obtain⟨j,h⟩:=Oa (Ky neg t);have I:=Hd h;have A:Hid ((Xa j t).size=(if j then 1 else 0)+digC t):=by
  unfold Hid
  by_cases J:t.length=0
  ·have e1:j=false:=by rw[<-h];unfold Ky;simp[J]
   unfold Xa digC;rw[if_pos J,if_pos J,e1];rfl
  rw[VB j t J];unfold digC;rw[if_neg J]
 have a7:(Xa j t).size<=6000:=by
  have h1:=Su t;have h2:=A.o;have h3:digC t<=5401:=by unfold digC;split<;>omega
  cases j<;>simp at h2<;>omega
 have V:Hid (Up w w1):=U.o.trans (G.mono (by omega));rw[h];clear h G;obtain⟨s,hs⟩:=Oa (Xa j t);rw[hs] at a7 A ⊢;clear hs
 go_wp2_with fail
 refine (E0 _ _ _ _ _ _).mono ?_;rintro e w' ⟨rfl,c8⟩;subst w';rw[Y.o,I.o]
 cases j
 all_goals
  go_wp2
  go_ret
  exact⟨Eo (by have:=A.o;simp at this;omega),Ob V.o _⟩
end Go.Proofs.YtdmdmgfjpomdbaaGreatDoor.Q
