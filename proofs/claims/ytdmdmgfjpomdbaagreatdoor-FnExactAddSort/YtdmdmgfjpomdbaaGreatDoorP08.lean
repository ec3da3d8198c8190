import Derived.Test.YtdmdmgfjpomdbaaGreatDoorP07
import Derived.Ground.SlgnProg
import Derived.Shelf.SlicesE.Clone
import Derived.Laws.CopyOwn
import Derived.Test.YtdmdmgfjpomdbaaGreatDoorP06
set_option maxRecDepth 100000
set_option maxHeartbeats 4000000
namespace Go.Proofs.YtdmdmgfjpomdbaaGreatDoor.Q
open ChangeShapes WideShapes ChangeAt RowKit Proofs.Tryz
variable {R:Nat}{l:List Nat}{w w':World}
theorem LB (n k:Nat)(h0:n / 1000000000 ^ k=0)(h1:k=0∨n / 1000000000 ^ (k - 1)≠0):isTrim (wl n k):=by
 intro d
 cases k with
 | zero=>exact absurd rfl d
 | succ k=>
   have h2:n / 1000000000 ^ k≠0:=by
    rcases h1 with h|h
    ·omega
    rwa [Vf] at h
   have e:(wl n (k+1)).getLast d=n / 1000000000 ^ k % 1000000000:=by simp[Tw]
   rw[e];rw[J7,<-Vc] at h0;omega
theorem Ao (n:Nat)(w:World)(hn:n<18446744073709551616) :
 Calls prog 195 #[.int .u64 (n:Nat)] w fun e w'=>∃ v k,e=.returned v/\k<=3/\Kz w.heap.size w' v (wl n k)/\val (wl n k)=n/\(n / 1000000000 ^ k=0/\(k=0∨n / 1000000000 ^ (k - 1)≠0))/\Up w w':=by
 obtain⟨i0,I,Y,Z,a7⟩:=info_parts info_u32;have HN:=Hd hn;clear hn
 go_in
 go_wp2
 go_loopw [0,3] (fun q v wr=>∃ k:Nat,(k<=3/\(k=0∨n / 1000000000 ^ (k - 1)≠0))/\q=.int .u64 (n / 1000000000 ^ k:Nat) /\
  wr.ownsRow w.heap.size 149 1 v k ((wl n k).map (fun x=>Value.int .u32 (x:Nat)))/\Up w wr) (fun q _ _=>(intOf q).toNat)
 case atStart=>exact⟨0,⟨by omega,.inl rfl⟩,Ot (by simp),V7 _ _ _ _,Je _ _⟩
 obtain⟨k,⟨hk,J⟩,rfl,d,E⟩:=hrel;have K:=Hd J;clear J;obtain⟨q,hq⟩:=Oa (n / 1000000000 ^ k);have A:=Hd hq;rw[hq];clear hq
 by_cases G:q=0
 ·have HV:Hid (val (wl n k)=n):=by
   unfold Hid
   have:=BH n k;rw[A.o,G] at this
   simpa using this
  have hL:Kz w.heap.size wr u3 (wl n k):=Xu (e:=149) (by rw[Cr];exact d) (AX n k);have HL:=Hd hL;have HB:=Hd E;have O:Hid (n / 1000000000 ^ k=0):=A.o.trans G;clear hL d E;subst G
  go_wp2
  go_ret
  exact⟨_,k,rfl,hk,HL.o,HV.o,⟨O.o,K.o⟩,HB.o⟩
 have d3:k<3:=by
  apply Classical.byContradiction;intro hc;obtain rfl:k=3:=by omega
  have:=A.o;have h3:(1000000000:Nat) ^ 3=1000000000000000000000000000:=by decide
  rw[h3] at this;have:=HN.o;omega
 obtain⟨x,V⟩:∃ x:Int,(q:Int)=x:=⟨_,rfl⟩;have HX:=Hd V;rw[V];have x0:0<x:=by omega
 have x1:x<18446744073709551616:=by
  have h1:=Nat.div_le_self n (1000000000 ^ k);rw[A.o] at h1;have:=HN.o;omega
 have HM:Hid (x % 1000000000=(n / 1000000000 ^ k % 1000000000:Nat)):=by unfold Hid;rw[A.o,<-HX.o];rfl
 have HD:Hid (x / 1000000000=(n / 1000000000 ^ (k+1):Nat)):=by
  unfold Hid
  rw[J7,<-Vc,A.o,<-HX.o];rfl
 have M:Hid (n / 1000000000 ^ k≠0):=by unfold Hid;rw[A.o];exact G
 clear V G
 go_wp2_with (at_builtin;refine wpList_append_own _ rfl _ _ 117 rfl w.heap.size 149 i0 (.int .u32 0) 1 4 underlying117 I Y Z a7 rfl (by decide) _ _ _ rfl (d.alloc _) ⟨wr.heap.size,0,none⟩ 1 1 [_] rfl rfl (cell_one_new _ _ _) ?c2 ?c3 ?c4 ?c5 ?_)
 case c2=>first|rfl|(intro u hu;simp at hu;subst hu;rfl)
 case c3=>unfold maxLen;omega
 case c4=>omega
 case c5=>have:=E.size;simp;omega
 intro v' w1 j h _;have U:Up w w1:=(E.alloc E.size _).grown h (by have:=E.size;simp;omega) (fun q hq=>(d.lt q hq).1);have HO:Hid (w1.ownsRow w.heap.size 149 1 v' (k+1) ((wl n (k+1)).map (fun x=>Value.int .u32 (x:Nat)))):=by
  unfold Hid
  rw[Tw,Yr,Vh,Vt,<-HM.o];exact j
 clear h d E j
 go_wp2
 go_roundw
 case rel=>exact⟨k+1,⟨by omega,.inr (by rw[Vf];exact M.o)⟩,Ot HD.o,HO.o,U⟩
 simp[intOf];omega
theorem Qx (n:Nat)(w:World)(hn:n<18446744073709551616) :
 Calls prog 195 #[.int .u64 (n:Nat)] w fun e w'=>∃ v t,e=.returned v/\Kz w.heap.size w' v t/\isTrim t/\val t=n/\t.length<=3/\Up w w':=by
 refine (Ao n w hn).mono ?_;rintro e w' ⟨v,k,rfl,A,j,E,⟨d,h⟩,hb⟩;exact⟨v,_,rfl,j,LB n k d h,E,by rw[Cr];exact A,hb⟩
structure Only (R:Nat)(w w':World):Prop where
 bl:Below R w w'
 block:∀ k,k<w.heap.size->k≠R->w'.heap[k]? = w.heap[k]?
theorem Only.refl (R:Nat)(w:World):Only R w w:=⟨Je _ _,fun _ _ _=>rfl⟩
theorem Only.trans {a b c:World}(h:Only R a b)(k:Only R b c):Only R a c:=
 ⟨h.bl.trans k.bl,fun i hi hn=>(k.block i (Jq hi h.bl.size) hn).trans (h.block i hi hn)⟩
theorem Only.of (h:Up w w')(hR:R<=w.heap.size):Only R w w':=⟨h.mono hR,fun k hk _=>h.block k hk⟩
theorem Only.setCell (h:Only R w w')(i:Nat)(u:Value):Only R w (w'.setCell ⟨R,i,none⟩ u):=
 ⟨h.bl.setCell leR u,fun k hk hn=>by
  refine Eq.trans ?_ (h.block k hk hn)
  show (w'.heap.modify R _)[k]? = _
  rw[Array.getElem?_modify,if_neg (fun e=>hn e.symm)]⟩
theorem Only.cell (h:Only R w w'){p:Addr}(hp:p.block<w.heap.size)(hn:p.block≠R):w'.cell? p=w.cell? p:=by
 unfold World.cell?;rw[h.block _ hp hn]
theorem Only.rowT {D:Nat}(h:Only R w w')(hD:D≠R)(hr:U7 w D l):U7 w' D l:=by
 have d:=hr.lt;obtain⟨t,hr⟩:=hr;exact⟨t,(h.block D d hD).trans hr⟩
theorem GS (L:List Nat)(off i x:Nat):(L.set (off+i) x).drop off=(L.drop off).set i x:=by
 rw[List.drop_set,if_neg (by omega),Vp]
theorem Id (A:List Nat)(off i:Nat):(A.drop off).getD i 0=A.getD (off+i) 0:=by
 rw[Ji,Ji,Uz]
theorem Rw (L A:List Nat)(off i x:Nat)(h:L.take off=A.take off):(L.set (off+i) x).take off=A.take off:=by
 rw[List.take_set_of_le (by omega),h]
theorem Xr (L:List Nat)(off i x:Nat)(hi:off+i<L.length):val (((L.set (off+i) x).drop off).take (i+1))=val ((L.drop off).take i)+1000000000 ^ i*x:=by
 rw[GS,O2 _ _ _ (by simp;omega)]
theorem Hq (A:List Nat)(off i:Nat):val ((A.drop off).take (i+1))=val ((A.drop off).take i)+1000000000 ^ i*A.getD (off+i) 0:=by
 rw[Oe,Id]
theorem Fd (R off cap f:Nat)(pb:Option Addr)(cb:Nat)(A b:List Nat)(w:World)(hR:U7 w R A)(hAok:okL A)(hn:off+b.length<=A.length)(hA:A.length<=1000000)(hbok:okL b)(hf:f<=1000000000)
 (hcb:∀ i,i<b.length->∃ c off,pb=some ⟨c,off,none⟩/\(c<w.heap.size/\c≠R)/\w.cell? ⟨c,off+i,none⟩=some (.int .u32 (b.getD i 0:Nat))) :
 Calls prog 225 #[.slice (some ⟨R,off,none⟩) b.length cap,.slice pb b.length cb,.int .u64 (f:Nat)] w fun e w'=>∃ c L,e=.returned (.int .u64 (c:Nat))/\U7 w' R L/\L.length=A.length/\okL L/\L.drop (off+b.length)=A.drop (off+b.length)/\L.take off=A.take off/\c<=f /\
  val ((L.drop off).take b.length)+f*val b=val ((A.drop off).take b.length)+1000000000 ^ b.length*c/\Only R w w':=by
 have HB:=Hd hcb;clear hcb
 go_in
 go_wp2
 go_loopw [7,12] (fun cv iv wr=>∃ (i c:Nat) (L:List Nat),i<=b.length/\c<=f/\L.length=A.length/\okL L/\U7 wr R L/\L.drop (off+i)=A.drop (off+i)/\L.take off=A.take off/\cv=.int .u64 (c:Nat)/\iv=.int .i64 i /\
  val ((L.drop off).take i)+f*val (b.take i)=val ((A.drop off).take i)+1000000000 ^ i*c/\Only R w wr) (fun _ iv _=>b.length - (intOf iv).toNat)
 case atStart=>exact⟨0,0,A,by omega,by omega,rfl,hAok,hR,rfl,rfl,rfl,rfl,by simp[val],Only.refl _ _⟩
 clear hR;obtain⟨i,c,L,hi,d2,d1,E,hR,K,M,rfl,rfl,j,hB⟩:=hrel;have hc:c<=1000000000:=by omega
 by_cases d7:i<b.length
 ·have J:=hR.cell (off+i) (by omega);have hx:=Xs L A (off+i) K;have d3:=U9 A hAok (off+i) (by omega);rw[hx] at J;clear hx;obtain⟨x,hx⟩:=Oa (A.getD (off+i) 0);rw[hx] at d3 J;obtain⟨bb,ob,rfl,b6,hcb⟩:=HB.o i d7;rw[<-hB.cell (p:=⟨bb,ob+i,none⟩) b6.1 b6.2] at hcb;have d4:=U9 b hbok i d7;obtain⟨y,hy⟩:=Oa (b.getD i 0);rw[hy] at hcb d4;obtain⟨F,hF⟩:=Oa (f*y);have d6:F<=f*999999999:=by rw[<-hF];exact Yb f (by omega)
  obtain⟨X,hX⟩:∃ X:Int,(x:Int)=X:=⟨_,rfl⟩;have HX:=Hd hX;have x1:0<=X:=by omega
  have x2:X<1000000000:=by omega
  rw[hX] at J;obtain⟨C,hC⟩:∃ C:Int,(c:Int)=C:=⟨_,rfl⟩;have HC:=Hd hC;have c1:0<=C:=by omega
  have c2:C<=1000000000:=by omega
  rw[hC];obtain⟨G,hG⟩:∃ G:Int,(f:Int)=G:=⟨_,rfl⟩;rw[hG];obtain⟨Y,hY⟩:∃ Y:Int,(y:Int)=Y:=⟨_,rfl⟩;have V:(F:Int)=G*Y:=by rw[<-hF,<-hG,<-hY];rfl
  have I:=Hd V;have g1:0<=G*Y:=by rw[<-V];omega
  have g2:G*Y<=999999999000000000:=by rw[<-V];omega
  have y1:0<=Y:=by omega
  have y2:Y<1000000000:=by omega
  rw[hY] at hcb
  by_cases b4:x<(c+F) % 1000000000
  ·skip
   have Z:=G8 (1000000000 ^ i) _ _ _ c x y (x+1000000000 - (c+F) % 1000000000) ((c+F) / 1000000000+1) f j (by rw[hF];omega);have d0:Hid (val (((L.set (off+i) (x+1000000000 - (c+F) % 1000000000)).drop off).take (i+1))+f*val (b.take (i+1))=val ((A.drop off).take (i+1))+1000000000 ^ (i+1)*((c+F) / 1000000000+1)):=by
    unfold Hid
    rw[Xr L off i _ (by omega),Hq,Oe,hx,hy,J7];exact Z
   have f8:=hR.frozen (off+i);have c8:Hid (∀ (u:Nat) (v:Int) (hv:v=(((x+1000000000 - (c+F) % 1000000000):Nat):Int)),U7 ((wr.setCell ⟨R,off+i,none⟩ (.int .u32 (X+1000000000))).setCell ⟨R,off+i,none⟩ (.int .u32 v)) R (L.set (off+i) (x+1000000000 - (c+F) % 1000000000))):=fun u v hv=>by
    have e:X+1000000000=((x+1000000000:Nat):Int):=by have:=HX.o;omega
    have h:=(hR.set (off+i) (x+1000000000) (by omega)).set (off+i) (x+1000000000 - (c+F) % 1000000000) (by simp;omega);rw[U1] at h;rw[hv,e];exact h
   have c6:Hid (∀ v:Int,v=(((x+1000000000 - (c+F) % 1000000000):Nat):Int)->U7 (wr.setCell ⟨R,off+i,none⟩ (.int .u32 v)) R (L.set (off+i) (x+1000000000 - (c+F) % 1000000000))):=fun v hv=>by
    rw[hv];exact hR.set (off+i) _ (by omega)
   have O:Hid (∀ u v,Only R w (wr.setCell ⟨R,off+i,none⟩ u)/\Only R w ((wr.setCell ⟨R,off+i,none⟩ u).setCell ⟨R,off+i,none⟩ v)):=fun u v=>⟨hB.setCell _ u,(hB.setCell _ u).setCell _ v⟩;have b9:Hid (okL (L.set (off+i) (x+1000000000 - (c+F) % 1000000000))):=Kn L E (off+i) _ (by omega);have U:Hid ((L.set (off+i) (x+1000000000 - (c+F) % 1000000000)).drop (off+(i+1))=A.drop (off+(i+1))/\(L.set (off+i) (x+1000000000 - (c+F) % 1000000000)).take off=A.take off):=⟨Kb L A (off+i) _ K,Rw L A off i _ M⟩;have b8:Hid (((c+F) / 1000000000+1)<=f):=by
    unfold Hid
    omega
   have t1:X<(C+G*Y) % 1000000000:=by have:=HX.o;have:=HC.o;have:=I.o;omega
   have d:Hid _:=b4;clear Z j hx hy hR hB E K M hX d3 b4 hC hG hY V d4 hF d6 hc d2
   go_wp2
   go_roundw
   case rel=>
    refine⟨i+1,((c+F) / 1000000000+1),L.set (off+i) (x+1000000000 - (c+F) % 1000000000),by omega,b8.o,by simp[d1],b9.o,?_,U.o.1,U.o.2,?_,by go_num,d0.o,?_⟩
    ·have a7:∀ v:Int,v=(((x+1000000000 - (c+F) % 1000000000):Nat):Int)->v=(((x+1000000000 - (c+F) % 1000000000):Nat):Int):=fun _ h=>h
     first
      | exact c6.o _ (a7 _ (by have:=HX.o;have:=HC.o;have:=d.o;have:=I.o;omega))
      | exact c8.o 0 _ (a7 _ (by have:=HX.o;have:=HC.o;have:=d.o;have:=I.o;omega))
    ·congr 1;have:=HX.o;have:=HC.o;have:=d.o;have:=I.o;omega
    first|exact (O.o _ (.bool true)).1|exact (O.o _ _).2
   simp[intOf];omega
  skip
  have Z:=G8 (1000000000 ^ i) _ _ _ c x y (x - (c+F) % 1000000000) ((c+F) / 1000000000) f j (by rw[hF];omega);have d0:Hid (val (((L.set (off+i) (x - (c+F) % 1000000000)).drop off).take (i+1))+f*val (b.take (i+1))=val ((A.drop off).take (i+1))+1000000000 ^ (i+1)*((c+F) / 1000000000)):=by
   unfold Hid
   rw[Xr L off i _ (by omega),Hq,Oe,hx,hy,J7];exact Z
  have f8:=hR.frozen (off+i);have c8:Hid (∀ (u:Nat) (v:Int) (hv:v=(((x - (c+F) % 1000000000):Nat):Int)),U7 ((wr.setCell ⟨R,off+i,none⟩ (.int .u32 (X+1000000000))).setCell ⟨R,off+i,none⟩ (.int .u32 v)) R (L.set (off+i) (x - (c+F) % 1000000000))):=fun u v hv=>by
   have e:X+1000000000=((x+1000000000:Nat):Int):=by have:=HX.o;omega
   have h:=(hR.set (off+i) (x+1000000000) (by omega)).set (off+i) (x - (c+F) % 1000000000) (by simp;omega);rw[U1] at h;rw[hv,e];exact h
  have c6:Hid (∀ v:Int,v=(((x - (c+F) % 1000000000):Nat):Int)->U7 (wr.setCell ⟨R,off+i,none⟩ (.int .u32 v)) R (L.set (off+i) (x - (c+F) % 1000000000))):=fun v hv=>by
   rw[hv];exact hR.set (off+i) _ (by omega)
  have O:Hid (∀ u v,Only R w (wr.setCell ⟨R,off+i,none⟩ u)/\Only R w ((wr.setCell ⟨R,off+i,none⟩ u).setCell ⟨R,off+i,none⟩ v)):=fun u v=>⟨hB.setCell _ u,(hB.setCell _ u).setCell _ v⟩;have b9:Hid (okL (L.set (off+i) (x - (c+F) % 1000000000))):=Kn L E (off+i) _ (by omega);have U:Hid ((L.set (off+i) (x - (c+F) % 1000000000)).drop (off+(i+1))=A.drop (off+(i+1))/\(L.set (off+i) (x - (c+F) % 1000000000)).take off=A.take off):=⟨Kb L A (off+i) _ K,Rw L A off i _ M⟩;have b8:Hid (((c+F) / 1000000000)<=f):=by
   unfold Hid
   omega
  have t1:(C+G*Y) % 1000000000<=X:=by have:=HX.o;have:=HC.o;have:=I.o;omega
  have d:Hid _:=b4;clear Z j hx hy hR hB E K M hX d3 b4 hC hG hY V d4 hF d6 hc d2
  go_wp2
  go_roundw
  case rel=>
   refine⟨i+1,((c+F) / 1000000000),L.set (off+i) (x - (c+F) % 1000000000),by omega,b8.o,by simp[d1],b9.o,?_,U.o.1,U.o.2,?_,by go_num,d0.o,?_⟩
   ·have a7:∀ v:Int,v=(((x - (c+F) % 1000000000):Nat):Int)->v=(((x - (c+F) % 1000000000):Nat):Int):=fun _ h=>h
    first
     | exact c6.o _ (a7 _ (by have:=HX.o;have:=HC.o;have:=d.o;have:=I.o;omega))
     | exact c8.o 0 _ (a7 _ (by have:=HX.o;have:=HC.o;have:=d.o;have:=I.o;omega))
   ·congr 1;have:=HX.o;have:=HC.o;have:=d.o;have:=I.o;omega
   first|exact (O.o _ (.bool true)).1|exact (O.o _ _).2
  simp[intOf];omega
 obtain rfl:i=b.length:=by omega
 rw[Jl (Nat.le_refl b.length)] at j;have HE:Hid (U7 wr R L/\L.length=A.length/\okL L/\L.drop (off+b.length)=A.drop (off+b.length)/\L.take off=A.take off/\val ((L.drop off).take b.length)+f*val b=val ((A.drop off).take b.length)+1000000000 ^ b.length*c/\Only R w wr):=⟨hR,d1,E,K,M,j,hB⟩;clear j hR hB E K M
 go_wp2
 go_ret
 obtain⟨e1,e2,e3,e4,e5,e6,e7⟩:=HE.o;exact⟨c,L,rfl,e1,e2,e3,e4,e5,d2,e6,e7⟩
theorem Bb (R off cap:Nat)(pb:Option Addr)(cb:Nat)(A b:List Nat)(w:World)(hR:U7 w R A)(hAok:okL A)(hn:off+b.length<=A.length)(hA:A.length<=1000000)(hbok:okL b)
 (hcb:∀ i,i<b.length->∃ c off,pb=some ⟨c,off,none⟩/\(c<w.heap.size/\c≠R)/\w.cell? ⟨c,off+i,none⟩=some (.int .u32 (b.getD i 0:Nat))) :
 Calls prog 223 #[.slice (some ⟨R,off,none⟩) b.length cap,.slice pb b.length cb] w fun e w'=>∃ c L,e=.returned (.int .u32 (c:Nat))/\U7 w' R L/\L.length=A.length/\okL L/\L.drop (off+b.length)=A.drop (off+b.length)/\L.take off=A.take off/\c<=1 /\
  val ((L.drop off).take b.length)+1000000000 ^ b.length*c=val ((A.drop off).take b.length)+val b/\Only R w w':=by
 have HB:=Hd hcb;clear hcb
 go_in
 go_wp2
 go_loopw [5,10] (fun cv iv wr=>∃ (i c:Nat) (L:List Nat),i<=b.length/\c<=1/\L.length=A.length/\okL L/\U7 wr R L/\L.drop (off+i)=A.drop (off+i)/\L.take off=A.take off/\cv=.int .u32 (c:Nat)/\iv=.int .i64 i /\
  val ((L.drop off).take i)+1000000000 ^ i*c=val ((A.drop off).take i)+val (b.take i)/\Only R w wr) (fun _ iv _=>b.length - (intOf iv).toNat)
 case atStart=>exact⟨0,0,A,by omega,by omega,rfl,hAok,hR,rfl,rfl,rfl,rfl,by simp[val],Only.refl _ _⟩
 clear hR;obtain⟨i,c,L,hi,hc,b4,h,hR,E,G,rfl,rfl,d,hB⟩:=hrel
 by_cases b7:i<b.length
 ·have j:=hR.cell (off+i) (by omega);have U:=Xs L A (off+i) E;have b5:=U9 A hAok (off+i) (by omega);rw[U] at j;clear U;obtain⟨x,U⟩:=Oa (A.getD (off+i) 0);rw[U] at b5 j;obtain⟨bb,ob,rfl,O,hcb⟩:=HB.o i b7;rw[<-hB.cell (p:=⟨bb,ob+i,none⟩) O.1 O.2] at hcb;have b6:=U9 b hbok i b7;obtain⟨y,hy⟩:=Oa (b.getD i 0);rw[hy] at hcb b6;obtain⟨X,hX⟩:∃ X:Int,(x:Int)=X:=⟨_,rfl⟩;have HX:=Hd hX;have x1:0<=X:=by omega
  have x2:X<1000000000:=by omega
  rw[hX] at j;obtain⟨C,hC⟩:∃ C:Int,(c:Int)=C:=⟨_,rfl⟩;have HC:=Hd hC;have c1:0<=C:=by omega
  have c2:C<=1:=by omega
  rw[hC];obtain⟨Y,hY⟩:∃ Y:Int,(y:Int)=Y:=⟨_,rfl⟩;have HY:=Hd hY;have y1:0<=Y:=by omega
  have y2:Y<1000000000:=by omega
  rw[hY] at hcb
  by_cases M:1000000000<=x+c+y
  ·skip
   have K:=Ic (1000000000 ^ i) _ _ _ c x y (x+c+y - 1000000000) 1 d (by omega);have a8:Hid (val (((L.set (off+i) (x+c+y - 1000000000)).drop off).take (i+1))+1000000000 ^ (i+1)*1=val ((A.drop off).take (i+1))+val (b.take (i+1))):=by
    unfold Hid
    rw[Xr L off i _ (by omega),Hq,Oe,U,hy,J7];exact K
   have d3:=hR.frozen (off+i);have a7:Hid (∀ v:Int,v=(((x+c+y - 1000000000):Nat):Int)->U7 (wr.setCell ⟨R,off+i,none⟩ (.int .u32 v)) R (L.set (off+i) (x+c+y - 1000000000))):=fun v hv=>by
    rw[hv];exact hR.set (off+i) _ (by omega)
   have V:Hid (∀ u,Only R w (wr.setCell ⟨R,off+i,none⟩ u)):=fun u=>hB.setCell _ u;have Z:Hid (okL (L.set (off+i) (x+c+y - 1000000000))):=Kn L h (off+i) _ (by omega);have I:Hid ((L.set (off+i) (x+c+y - 1000000000)).drop (off+(i+1))=A.drop (off+(i+1))/\(L.set (off+i) (x+c+y - 1000000000)).take off=A.take off):=⟨Kb L A (off+i) _ E,Rw L A off i _ G⟩;have t1:1000000000<=X+C+Y:=by have:=HX.o;have:=HC.o;have:=HY.o;omega
   have J:Hid _:=M;clear K d U hy hR hB h E G hX b5 M hC hY b6
   go_wp2
   go_roundw
   case rel=>exact⟨i+1,1,L.set (off+i) (x+c+y - 1000000000),by omega,by omega,by simp[b4],Z.o,a7.o _ (by have:=J.o;have:=HX.o;have:=HC.o;have:=HY.o;omega),I.o.1,I.o.2,rfl,by go_num,a8.o,V.o _⟩
   simp[intOf];omega
  skip
  have K:=Ic (1000000000 ^ i) _ _ _ c x y (x+c+y) 0 d (by omega);have a8:Hid (val (((L.set (off+i) (x+c+y)).drop off).take (i+1))+1000000000 ^ (i+1)*0=val ((A.drop off).take (i+1))+val (b.take (i+1))):=by
   unfold Hid
   rw[Xr L off i _ (by omega),Hq,Oe,U,hy,J7];exact K
  have d3:=hR.frozen (off+i);have a7:Hid (∀ v:Int,v=(((x+c+y):Nat):Int)->U7 (wr.setCell ⟨R,off+i,none⟩ (.int .u32 v)) R (L.set (off+i) (x+c+y))):=fun v hv=>by
   rw[hv];exact hR.set (off+i) _ (by omega)
  have V:Hid (∀ u,Only R w (wr.setCell ⟨R,off+i,none⟩ u)):=fun u=>hB.setCell _ u;have Z:Hid (okL (L.set (off+i) (x+c+y))):=Kn L h (off+i) _ (by omega);have I:Hid ((L.set (off+i) (x+c+y)).drop (off+(i+1))=A.drop (off+(i+1))/\(L.set (off+i) (x+c+y)).take off=A.take off):=⟨Kb L A (off+i) _ E,Rw L A off i _ G⟩;have t1:X+C+Y<1000000000:=by have:=HX.o;have:=HC.o;have:=HY.o;omega
  have J:Hid _:=M;clear K d U hy hR hB h E G hX b5 M hC hY b6
  go_wp2
  go_roundw
  case rel=>exact⟨i+1,0,L.set (off+i) (x+c+y),by omega,by omega,by simp[b4],Z.o,a7.o _ (by have:=J.o;have:=HX.o;have:=HC.o;have:=HY.o;omega),I.o.1,I.o.2,rfl,by go_num,a8.o,V.o _⟩
  simp[intOf];omega
 obtain rfl:i=b.length:=by omega
 rw[Jl (Nat.le_refl b.length)] at d;have HE:Hid (U7 wr R L/\L.length=A.length/\okL L/\L.drop (off+b.length)=A.drop (off+b.length)/\L.take off=A.take off/\val ((L.drop off).take b.length)+1000000000 ^ b.length*c=val ((A.drop off).take b.length)+val b/\Only R w wr):=⟨hR,b4,h,E,G,d,hB⟩;clear d hR hB h E G
 go_wp2
 go_ret
 obtain⟨e1,e2,e3,e4,e5,e6,e7⟩:=HE.o;exact⟨c,L,rfl,e1,e2,e3,e4,e5,hc,e6,e7⟩
theorem XY (P VL VN c m x Va d c' F:Nat)(h:VL+P*c=Va*m)(hs:VN+P*0=VL+P*d)(hF:x*m=F)(hd:d+1000000000*c'=F+c):VN+P*1000000000*c'=(Va+P*x)*m:=by
 have j:P*(d+1000000000*c')=P*(F+c):=by rw[hd]
 have e2:(Va+P*x)*m=Va*m+P*(x*m):=by grind
 rw[e2,<-h,hF];rw[Yh,Yh,<-Yw] at j;omega
theorem Qh (B:Nat)(va:Value)(a:List Nat)(m:Nat)(w:World)(ha:Kz B w va a)(hla:a.length<=100000)(hm:m<1000000000) :
 Calls prog 170 #[va,.int .u64 (m:Nat)] w fun e w'=>∃ v L,e=.returned v/\Kz w.heap.size w' v L/\isTrim L/\val L=val a*m/\L.length<=a.length+1/\Up w w':=by
 obtain⟨i0,d2,e9,f8,f9⟩:=info_parts info_u32;obtain⟨pa,ca,rfl,_⟩:=id ha;obtain⟨_,_,_,c6,K⟩:=ha.cells;have HA:=Hd K;clear K ha
 go_in
 go_wp2_with (at_make;refine wpList_make_full _ rfl _ _ 117 rfl w.heap.size 149 i0 (.int .u32 0) 1 underlying117 d2 e9 f8 .i64 .i64 _ _ (a.length+1) rfl rfl (by first|rfl|omega) (by first|rfl|omega) (by first|omega|(rw[f9];omega)) (by unfold maxLen;omega) leR ?_)
 intro w1 E d0
 first|rw[Ep] at E|rw[Eu] at E
 have U:U7 w1 w.heap.size (List.replicate (a.length+1) 0):=(Kj E).tail;have b8:Up w w1:=(Je _ _).grown d0 leR (fun k h=>by cases h);clear E d0
 go_wp2
 go_loopw [6,16] (fun cv iv wr=>∃ (i c:Nat) (L:List Nat),i<=a.length/\c<=m/\L.length=a.length+1/\okL L/\U7 wr w.heap.size L/\(∀ j,i<=j->L.getD j 0=0)/\cv=.int .u64 (c:Nat)/\iv=.int .i64 i /\
  val L+1000000000 ^ i*c=val (a.take i)*m/\Up w wr) (fun _ iv _=>a.length - (intOf iv).toNat)
 case atStart=>exact⟨0,0,_,by omega,by omega,by simp,fun x hx=>by rw[Yt hx];omega,U,fun j hj=>by simp[List.getD_eq_getElem?_getD,List.getElem?_replicate];split<;>rfl,rfl,rfl,by simp[Io,val],b8⟩
 clear U b8;obtain⟨i,c,L,hi,e8,b9,A,U,V,rfl,rfl,I,hB⟩:=hrel
 by_cases d1:i<a.length
 ·obtain⟨ba,oa,rfl,d3,K⟩:=HA.o i d1;rw[<-hB.cell (p:=⟨ba,oa+i,none⟩) d3] at K;have d4:=U9 a c6 i d1;have a8:=Oe a i;obtain⟨x,hx⟩:=Oa (a.getD i 0);rw[hx] at K d4 a8;obtain⟨F,hF⟩:=Oa (x*m);have e4:F<=999999999*m:=by rw[<-hF];exact Yg m (by omega)
  have M:=Fs L i ((F+c) % 1000000000) (by omega);rw[V i leR] at M;have d9:Hid (val (L.set i ((F+c) % 1000000000))+1000000000 ^ (i+1)*((F+c) / 1000000000)=val (a.take (i+1))*m):=by
   unfold Hid
   rw[a8,J7];exact XY _ _ _ c m x _ _ _ F I M hF (by omega)
  have d:=U.cell i (by omega);have c8:=U.frozen i;have J:Hid (∀ v:Int,v=(((F+c) % 1000000000:Nat):Int)->U7 (wr.setCell ⟨w.heap.size,i,none⟩ (.int .u32 v)) w.heap.size (L.set i ((F+c) % 1000000000))):=fun v hv=>by
   rw[hv];exact U.set i _ (by omega)
  have O:Hid (∀ u,Up w (wr.setCell ⟨w.heap.size,i,none⟩ u)):=fun u=>hB.setCell leR u;have b6:Hid (okL (L.set i ((F+c) % 1000000000))/\(L.set i ((F+c) % 1000000000)).length=a.length+1):=⟨Kn L A i _ (Z5 _ (by decide)),by simp[b9]⟩;have HZ:Hid (∀ j,i+1<=j->(L.set i ((F+c) % 1000000000)).getD j 0=0):=fun j hj=>by
   rw[C1 _ _ _ _ (by omega)];exact V j (by omega)
  have d7:Hid ((F+c) / 1000000000<=m):=by unfold Hid;omega
  clear I hx U hB A V M a8;obtain⟨X,hX⟩:∃ X:Int,(x:Int)=X:=⟨_,rfl⟩;have x1:0<=X:=by omega
  have x2:X<1000000000:=by omega
  rw[hX] at K;obtain⟨C,hC⟩:∃ C:Int,(c:Int)=C:=⟨_,rfl⟩;have HC:=Hd hC;have c1:0<=C:=by omega
  have c2:C<1000000000:=by omega
  rw[hC];obtain⟨G,hG⟩:∃ G:Int,(m:Int)=G:=⟨_,rfl⟩;rw[hG];have Z:(F:Int)=X*G:=by rw[<-hF,<-hG,<-hX];rfl
  have b5:=Hd Z;have g1:0<=X*G:=by rw[<-Z];omega
  have g2:X*G<=999999999000000000:=by rw[<-Z];omega
  clear hX d4 hC hG Z hF e4 e8
  go_wp2
  go_roundw
  case rel=>exact⟨i+1,(F+c) / 1000000000,L.set i ((F+c) % 1000000000),by omega,d7.o,b6.o.2,b6.o.1,J.o _ (by have:=HC.o;have:=b5.o;omega),HZ.o,(by congr 1;have:=HC.o;have:=b5.o;omega),by go_num,d9.o,O.o _⟩
  simp[intOf];omega
 obtain rfl:i=a.length:=by omega
 rw[Jl leR] at I;have M:=Fs L a.length c (by omega);rw[V _ leR] at M;have d:=U.cell a.length (by omega);have c8:=U.frozen a.length;obtain⟨N,hN⟩:=Oa (L.set a.length c);have Y:Hid (val N=val a*m/\okL N/\N.length=a.length+1):=by
  rw[<-hN];exact⟨by omega,Kn L A _ _ (by omega),by simp[b9]⟩
 have J:Hid (U7 (wr.setCell ⟨w.heap.size,a.length,none⟩ (.int .u32 (c:Nat))) w.heap.size N):=by rw[<-hN];exact U.set _ _ (by omega)
 have O:Hid (Up w (wr.setCell ⟨w.heap.size,a.length,none⟩ (.int .u32 (c:Nat)))):=hB.setCell leR _;have h1:c<1000000000:=by omega
 clear I M U hB A V hN;obtain⟨W3,a7⟩:=Oa (wr.setCell ⟨w.heap.size,a.length,none⟩ (.int .u32 (c:Nat)));have e0:=Hd a7;rw[a7] at J O;clear a7
 go_wp2
 rw[e0.o];clear d c8;have HI:Hid (∀ k,k<=a.length+1->Og N=N.take k->Kz w.heap.size W3 (.slice (some ⟨w.heap.size,0,none⟩) k (a.length+1)) (Og N)):=fun k hk he=>by
  have hl:(Og N).length=k:=by rw[he,J4];have:=Y.o.2.2;omega
  refine⟨_,a.length+1,by rw[hl],by omega,by unfold maxLen;omega,trimL_ok N Y.o.2.1,.inr ⟨w.heap.size,0,rfl,leR,J.o.lt,fun i hi=>?_⟩⟩;rw[Y8,J.o.cell i (by have:=Y.o.2.2;omega),Qk N i hi]
 have HT:Hid (isTrim (Og N)/\val (Og N)=val a*m/\(Og N).length<=a.length+1):=⟨trimL_trim _,by rw[O4];exact Y.o.1,by have:=Kd N;have:=Y.o.2.2;omega⟩
 go_loop [9] (fun n=>∃ k:Nat,k<=a.length+1/\n=.int .i64 k/\Og (N.take k)=Og N) (fun n=>(intOf n).toNat)
 case atStart=>exact⟨a.length+1,leR,Ot (by omega),by rw[Jl (by have:=Y.o.2.2;omega)]⟩
 obtain⟨k,hk,rfl,hp⟩:=hrel;have HP:=Hd hp;clear hp
 cases k with
 | zero=>
   have HE:Hid (Kz w.heap.size W3 (.slice (some ⟨w.heap.size,0,none⟩) 0 (a.length+1)) (Og N)):=HI.o 0 (by omega) (by rw[<-HP.o];rfl)
   go_wp2
   go_ret
   exact⟨_,rfl,_,HE.o,HT.o.1,HT.o.2.1,HT.o.2.2,O.o⟩
 | succ j=>
   have d:=J.o.cell j (by have:=Y.o.2.2;omega);obtain⟨x,hx⟩:=Oa (N.getD j 0);rw[hx] at d;have HX:=Hd hx;clear hx
   by_cases h0:x=0
   ·have hz:((x:Int)==0)=true:=by rw[Yf];omega
    have HE:Hid (Og (N.take j)=Og N):=by rw[<-Ej N j (by have:=Y.o.2.2;omega) (by rw[HX.o,h0])];exact HP.o
    clear h0
    go_wp2
    go_round
    case rel=>exact⟨j,by omega,Ot (by omega),HE.o⟩
    simp[intOf]
   have hz:((x:Int)==0)=false:=by rw[Jb];omega
   have HE:Hid (Kz w.heap.size W3 (.slice (some ⟨w.heap.size,0,none⟩) (j+1) (a.length+1)) (Og N)):=HI.o (j+1) hk (HP.o.symm.trans (Nv N j (by have:=Y.o.2.2;omega) (by rw[HX.o];exact h0)));clear h0
   go_wp2
   go_ret
   exact⟨_,rfl,_,HE.o,HT.o.1,HT.o.2.1,HT.o.2.2,O.o⟩
theorem Mv (B:Nat)(va vb:Value)(a b:List Nat)(w:World)(ha:Kz B w va a)(hb:Kz B w vb b)(hla:a.length<=1000000)(hlb:b.length<=a.length)(hle:val b<=val a) :
 Calls prog 171 #[va,vb] w fun e w'=>∃ L,e=.returned (.slice (some ⟨w.heap.size,0,none⟩) a.length a.length)/\Kz w.heap.size w' (.slice (some ⟨w.heap.size,0,none⟩) a.length a.length) L/\val L+val b=val a/\L.length=a.length/\Up w w':=by
 obtain⟨i0,c6,d7,d8,d9⟩:=info_parts info_u32;obtain⟨pa,ca,rfl,_⟩:=id ha;obtain⟨pb,cb,rfl,_⟩:=id hb;obtain⟨_,_,_,b4,Y⟩:=ha.cells;obtain⟨_,_,_,b5,Z⟩:=hb.cells;have HA:=Hd Y;have HB:=Hd Z;have d3:=Hd hle;clear Y Z ha hb hle
 go_in
 go_wp2_with (at_make;refine wpList_make_full _ rfl _ _ 117 rfl w.heap.size 149 i0 (.int .u32 0) 1 underlying117 c6 d7 d8 .i64 .i64 _ _ a.length rfl rfl ?m0 ?m1 ?m2 ?m3 ?m4 ?_)
 try (case m0=>first|rfl|omega)
 try (case m1=>first|rfl|omega)
 try (case m2=>(first|omega|(rw[d9];omega)))
 try (case m3=>(unfold maxLen;omega))
 try (case m4=>exact leR)
 intro w1 O b7
 first|rw[Ep] at O|rw[Eu] at O
 have E:Hp w1 w.heap.size (List.replicate a.length 0):=Kj O;have b3:Up w w1:=(Je _ _).grown b7 leR (fun k h=>by cases h);clear O b7
 go_wp2
 go_loopw [6,14] (fun cv iv wr=>∃ (i c:Nat) (L:List Nat),i<=a.length/\c<=1/\L.length=a.length/\okL L/\Hp wr w.heap.size L/\cv=.int .i64 (c:Nat)/\iv=.int .i64 i /\
  val (L.take i)+val (b.take i)=val (a.take i)+1000000000 ^ i*c/\Up w wr) (fun _ iv _=>a.length - (intOf iv).toNat)
 case atStart=>exact⟨0,0,_,by omega,by omega,by simp,fun x hx=>by rw[Yt hx];omega,E,rfl,rfl,by simp[val],b3⟩
 clear E b3;obtain⟨i,c,L,hi,hc,U,d,E,rfl,rfl,j,V⟩:=hrel
 by_cases b9:i<a.length
 ·obtain⟨ba,oa,rfl,c8,Y⟩:=HA.o i b9;rw[<-V.cell (p:=⟨ba,oa+i,none⟩) c8] at Y;have d5:=U9 a b4 i b9;obtain⟨x,hx⟩:=Oa (a.getD i 0);rw[hx] at Y d5
  by_cases b8:i<b.length
  ·obtain⟨bb,ob,rfl,d0,Z⟩:=HB.o i b8;rw[<-V.cell (p:=⟨bb,ob+i,none⟩) d0] at Z;have d6:=U9 b b5 i b8;obtain⟨y,hy⟩:=Oa (b.getD i 0);rw[hy] at Z d6
   by_cases b6:x<c+y
   ·have A:=Ik (1000000000 ^ i) _ _ _ c x y (x+1000000000 - c - y) 1 j (by omega);have K:Hid (val ((L.set i (x+1000000000 - c - y)).take (i+1))+val (b.take (i+1))=val (a.take (i+1))+1000000000 ^ (i+1)*1):=by
     unfold Hid
     rw[O2 L i _ (by omega),Oe,Oe,hx,hy,J7];exact A
    have M:=E.cell i (by omega);have a8:=E.frozen i;have J:Hid (Hp (wr.setCell ⟨w.heap.size,i,none⟩ (.int .u32 (((x+1000000000 - c - y):Nat):Int))) w.heap.size (L.set i (x+1000000000 - c - y))):=E.set i _;have G:Hid (∀ u,Up w (wr.setCell ⟨w.heap.size,i,none⟩ u)):=fun u=>V.setCell leR u;have I:Hid (okL (L.set i (x+1000000000 - c - y))):=Kn L d i _ (by omega);clear A j hx hy E V d
    go_wp2
    go_roundw
    case rel=>
     refine⟨i+1,1,L.set i (x+1000000000 - c - y),by omega,by omega,by simp[U],I.o,?_,rfl,by go_num,K.o,G.o _⟩;have h:=J.o;rw[show ((((x+1000000000 - c - y)):Nat):Int)=_ from ?_] at h
     ·exact h
     omega
    simp[intOf];omega
   have A:=Ik (1000000000 ^ i) _ _ _ c x y (x - c - y) 0 j (by omega);have K:Hid (val ((L.set i (x - c - y)).take (i+1))+val (b.take (i+1))=val (a.take (i+1))+1000000000 ^ (i+1)*0):=by
    unfold Hid
    rw[O2 L i _ (by omega),Oe,Oe,hx,hy,J7];exact A
   have M:=E.cell i (by omega);have a8:=E.frozen i;have J:Hid (Hp (wr.setCell ⟨w.heap.size,i,none⟩ (.int .u32 (((x - c - y):Nat):Int))) w.heap.size (L.set i (x - c - y))):=E.set i _;have G:Hid (∀ u,Up w (wr.setCell ⟨w.heap.size,i,none⟩ u)):=fun u=>V.setCell leR u;have I:Hid (okL (L.set i (x - c - y))):=Kn L d i _ (by omega);clear A j hx hy E V d
   go_wp2
   go_roundw
   case rel=>
    refine⟨i+1,0,L.set i (x - c - y),by omega,by omega,by simp[U],I.o,?_,rfl,by go_num,K.o,G.o _⟩;have h:=J.o;rw[show ((((x - c - y)):Nat):Int)=_ from ?_] at h
    ·exact h
    omega
   simp[intOf];omega
  have a7:b.getD i 0=0:=by rw[Ji,Ym (by omega)];rfl
  by_cases b6:x<c
  ·have A:=Ik (1000000000 ^ i) _ _ _ c x 0 (x+1000000000 - c) 1 j (by omega);have K:Hid (val ((L.set i (x+1000000000 - c)).take (i+1))+val (b.take (i+1))=val (a.take (i+1))+1000000000 ^ (i+1)*1):=by
    unfold Hid
    rw[O2 L i _ (by omega),Oe,Oe,hx,a7,J7];exact A
   have M:=E.cell i (by omega);have a8:=E.frozen i;have J:Hid (Hp (wr.setCell ⟨w.heap.size,i,none⟩ (.int .u32 (((x+1000000000 - c):Nat):Int))) w.heap.size (L.set i (x+1000000000 - c))):=E.set i _;have G:Hid (∀ u,Up w (wr.setCell ⟨w.heap.size,i,none⟩ u)):=fun u=>V.setCell leR u;have I:Hid (okL (L.set i (x+1000000000 - c))):=Kn L d i _ (by omega);clear A j hx a7 E V d
   go_wp2
   go_roundw
   case rel=>
    refine⟨i+1,1,L.set i (x+1000000000 - c),by omega,by omega,by simp[U],I.o,?_,rfl,by go_num,K.o,G.o _⟩;have h:=J.o;rw[show ((((x+1000000000 - c)):Nat):Int)=_ from ?_] at h
    ·exact h
    omega
   simp[intOf];omega
  have A:=Ik (1000000000 ^ i) _ _ _ c x 0 (x - c) 0 j (by omega);have K:Hid (val ((L.set i (x - c)).take (i+1))+val (b.take (i+1))=val (a.take (i+1))+1000000000 ^ (i+1)*0):=by
   unfold Hid
   rw[O2 L i _ (by omega),Oe,Oe,hx,a7,J7];exact A
  have M:=E.cell i (by omega);have a8:=E.frozen i;have J:Hid (Hp (wr.setCell ⟨w.heap.size,i,none⟩ (.int .u32 (((x - c):Nat):Int))) w.heap.size (L.set i (x - c))):=E.set i _;have G:Hid (∀ u,Up w (wr.setCell ⟨w.heap.size,i,none⟩ u)):=fun u=>V.setCell leR u;have I:Hid (okL (L.set i (x - c))):=Kn L d i _ (by omega);clear A j hx a7 E V d
  go_wp2
  go_roundw
  case rel=>
   refine⟨i+1,0,L.set i (x - c),by omega,by omega,by simp[U],I.o,?_,rfl,by go_num,K.o,G.o _⟩;have h:=J.o;rw[show ((((x - c)):Nat):Int)=_ from ?_] at h
   ·exact h
   omega
  simp[intOf];omega
 obtain rfl:i=a.length:=by omega
 have hE:=Tc (1000000000 ^ a.length) c _ _ _ j (by rw[Jl (by omega)];exact Gb L d _ (by omega)) (by rw[Jl (by omega),Jl (by omega)];exact d3.o);rw[Jl (by omega),Jl (by omega),Jl (by omega)] at hE;have HE:=Hd hE;have HL:Hid (Kz w.heap.size wr (.slice (some ⟨w.heap.size,0,none⟩) a.length a.length) L):=by
  have:=E.isL (B:=w.heap.size) (cap:=a.length) leR d (by omega) (by unfold maxLen;omega);rw[U] at this;exact this
 have d2:=Hd V;clear hE j E V d
 go_wp2
 go_ret
 exact⟨L,rfl,HL.o,HE.o,U,d2.o⟩
theorem Cq (l:List Nat)(k x:Nat)(hk:k<l.length):Eb (l.set k x) k=Eb l (k+1)*1000000000+x:=by
 rw[Xo _ _ (by simpa using hk)];have d:Eb (l.set k x) (k+1)=Eb l (k+1):=by
  unfold Eb;rw[List.drop_set_of_lt (by omega)]
 have e2:(l.set k x).getD k 0=x:=by rw[Ji,Y7 (by omega)];rfl
 rw[d,e2]
theorem RJ (Va Vq d r x Z:Nat)(h:Va=Vq*d+r)(hZ:r*1000000000+x=Z):Va*1000000000+x=(Vq*1000000000+Z / d)*d+Z % d:=by
 have j:=Uj Z d;rw[Zp,h,Zp,Nat.mul_right_comm,Y2 (Z / d) d];omega
theorem MR (d r x Z:Nat)(hd:0<d)(hr:r<d)(hx:x<1000000000)(hZ:r*1000000000+x=Z):Z / d<1000000000:=by
 rw[Nat.div_lt_iff_lt_mul hd];have:(r+1)*1000000000<=d*1000000000:=Yg _ hr;omega
theorem R4 (B:Nat)(va:Value)(a:List Nat)(d:Nat)(w:World)(ha:Kz B w va a)(hla:a.length<=100000)(hd:0<d)(hd2:d<=1000000000) :
 Calls prog 221 #[va,.int .u32 (d:Nat)] w fun e w'=>∃ v q r,e=.returned (.tuple #[v,.int .u32 (r:Nat)])/\Kz w.heap.size w' v q/\isTrim q/\q.length<=a.length/\val a=val q*d+r/\r<d/\Up w w':=by
 obtain⟨i0,b6,e4,e5,e6⟩:=info_parts info_u32;obtain⟨pa,ca,rfl,_⟩:=id ha;obtain⟨_,_,_,b4,J⟩:=ha.cells;have HA:=Hd J;clear J ha
 go_in
 go_wp2_with (at_make;refine wpList_make_full _ rfl _ _ 117 rfl w.heap.size 149 i0 (.int .u32 0) 1 underlying117 b6 e4 e5 .i64 .i64 _ _ a.length rfl rfl ?m0 ?m1 ?m2 ?m3 ?m4 ?_)
 try (case m0=>first|rfl|omega)
 try (case m1=>first|rfl|omega)
 try (case m2=>(first|omega|(rw[e6];omega)))
 try (case m3=>(unfold maxLen;omega))
 try (case m4=>exact leR)
 intro w1 I b5
 first|rw[Ep] at I|rw[Eu] at I
 have K:U7 w1 w.heap.size (List.replicate a.length 0):=(Kj I).tail;have a8:Up w w1:=(Je _ _).grown b5 leR (fun k h=>by cases h);clear I b5
 go_wp2
 go_loopw [7,8] (fun rv iv wr=>∃ (j r:Nat) (L:List Nat),j<=a.length/\r<d/\L.length=a.length/\okL L/\U7 wr w.heap.size L/\rv=.int .u64 (r:Nat)/\iv=.int .i64 ((j:Int) - 1) /\
  Eb a j=Eb L j*d+r/\Up w wr) (fun _ iv _=>(intOf iv+1).toNat)
 case atStart=>exact⟨a.length,0,_,by omega,by omega,by simp,fun x hx=>by rw[Yt hx];omega,K,rfl,Ot (by omega),by rw[Cx];unfold Eb;simp[val],a8⟩
 clear K a8;obtain⟨j,r,L,hj,hr,d9,E,K,rfl,rfl,A,hB⟩:=hrel
 cases j with
 | zero=>
   unfold Eb at A;rw[Y9,Y9] at A;have HI:Hid (Kz w.heap.size wr (.slice (some ⟨w.heap.size,0,none⟩) a.length a.length) L):=by
    have h:=K.isL (B:=w.heap.size) (cap:=a.length) leR E (by omega) (by unfold maxLen;omega);rw[d9] at h;exact h
   have HT:Hid (val a=val (Og L)*d+r/\(Og L).length<=a.length/\isTrim (Og L)):=⟨by rw[O4];exact A,by have:=Kd L;omega,trimL_trim _⟩;have d2:=Hd hB;clear A K hB E
   go_wp2_with fail
   refine (Nl w.heap.size _ L _ HI.o).mono ?_;rintro e w5 ⟨v,rfl,hcut,rfl⟩;have HW:Hid (Kz w.heap.size w5 v (Og L)):=hcut _ _ HI.o;obtain⟨pv,cv,hv,_⟩:=HW.o;subst hv;clear hcut
   go_wp2
   go_ret2
   exact⟨_,_,r,rfl,HW.o,HT.o.2.2,HT.o.2.1,HT.o.1,hr,d2.o⟩
 | succ k=>
   obtain⟨ba,oa,rfl,b7,J⟩:=HA.o k (by omega);rw[<-hB.cell (p:=⟨ba,oa+k,none⟩) b7] at J;have V:=U9 a b4 k (by omega);have U:=Xo a k (by omega);obtain⟨x,hx⟩:=Oa (a.getD k 0);rw[hx] at J V U;obtain⟨Z,hZ⟩:=Oa (r*1000000000+x);have O:=MR d r x Z hd hr V hZ;have b8:=Z5 Z hd;have d7:Hid (Eb a k=Eb (L.set k (Z / d)) k*d+Z % d):=by
    unfold Hid
    rw[U,Cq L k _ (by omega)];exact RJ _ _ d r x Z A hZ
   have e0:=K.cell k (by omega);have g0:=K.frozen k;have d6:Hid (∀ v:Int,v=((Z / d:Nat):Int)->U7 (wr.setCell ⟨w.heap.size,k,none⟩ (.int .u32 v)) w.heap.size (L.set k (Z / d))):=fun v hv=>by
    rw[hv];exact K.set _ _ (by omega)
   have d1:Hid (∀ v,Up w (wr.setCell ⟨w.heap.size,k,none⟩ v)):=fun v=>hB.setCell leR _;have M:Hid (okL (L.set k (Z / d))/\(L.set k (Z / d)).length=a.length):=⟨Kn L E _ _ O,by simp;omega⟩;obtain⟨X,hX⟩:∃ X:Int,(x:Int)=X:=⟨_,rfl⟩;rw[hX] at J;obtain⟨G,hG⟩:∃ G:Int,(d:Int)=G:=⟨_,rfl⟩;obtain⟨Y,hY⟩:∃ Y:Int,(r:Int)=Y:=⟨_,rfl⟩;have e1:(Y*1000000000+X) / G=((Z / d:Nat):Int):=by rw[<-hZ,<-hX,<-hG,<-hY];rfl
   have e2:(Y*1000000000+X) % G=((Z % d:Nat):Int):=by rw[<-hZ,<-hX,<-hG,<-hY];rfl
   have x1:0<=X:=by omega
   have x2:X<1000000000:=by omega
   have y1:0<=Y:=by omega
   have y2:Y<1000000000:=by omega
   have g1:0<G:=by omega
   have g2:G<=1000000000:=by omega
   have k1:0<=(Y*1000000000+X) / G:=by rw[e1];exact Ux _
   have k2:(Y*1000000000+X) / G<1000000000:=by rw[e1];exact Int.ofNat_lt.2 O
   have d3:Hid ((Y*1000000000+X) / G=((Z / d:Nat):Int)):=e1;have d4:Hid ((Y*1000000000+X) % G=((Z % d:Nat):Int)):=e2;have d5:=Hd b8;rw[hG,hY];clear K E A hB U e1 e2 hx hX hG hY hZ V hr O b8
   go_wp2
   go_roundw
   case rel=>exact⟨k,Z % d,L.set k (Z / d),by omega,d5.o,M.o.2,M.o.1,d6.o _ d3.o,Ot d4.o,by go_num,d7.o,d1.o _⟩
   simp[intOf]
def Pd (x2 x1 x0 d1 d0 g:Nat):Prop:=
 g*(d1*1000000000+d0)<=(x2*1000000000+x1)*1000000000+x0/\(x2*1000000000+x1)*1000000000+x0<(g+1)*(d1*1000000000+d0)
def Qo (x2 x1 x0 d1 d0 g l:Nat):Prop:=
 g*d1+l=x2*1000000000+x1/\l<=2000000001/\g<=1000000001/\(x2*1000000000+x1)*1000000000+x0<(g+1)*(d1*1000000000+d0)
theorem OG (x2 x1 x0 d1 d0:Nat)(h1:500000000<=d1)(h2:d1<1000000000)(hx2:x2<=d1)(hx1:x1<1000000000)(hx0:x0<1000000000) :
 Qo x2 x1 x0 d1 d0 ((x2*1000000000+x1) / d1) ((x2*1000000000+x1) % d1):=by
 have e:=Uj (x2*1000000000+x1) d1;have l:=Z5 (x2*1000000000+x1) (show d1 > 0 by omega);have g:(x2*1000000000+x1) / d1<=1000000001:=by
  apply Nat.le_of_lt_succ;rw[Nat.div_lt_iff_lt_mul (by omega)];omega
 obtain⟨q,d⟩:=Oa ((x2*1000000000+x1) / d1);obtain⟨r,h⟩:=Oa ((x2*1000000000+x1) % d1);rw[d,h];rw[d,h] at e;rw[h] at l;rw[d] at g;clear d h;refine⟨by rw[Y2];exact e,by omega,g,?_⟩;rw[Yh,<-Yw,Zp q 1 d1,Zx,Y2 q d1];have:0<=(q+1)*d0:=Jr _;omega
theorem AM (T v l x0 u:Nat)(e:v+l=T)(hc:l*1000000000+x0<u):T*1000000000+x0<v*1000000000+u:=by
 subst e;rw[Zp,Ut];exact Nat.add_lt_add_left hc _
theorem ON {x2 x1 x0 d1 d0 g l:Nat}(h:Qo x2 x1 x0 d1 d0 g l)(h2:d1<1000000000)(hd0:d0<1000000000)(hc:l*1000000000+x0<g*d0) :
 1<=g/\Qo x2 x1 x0 d1 d0 (g - 1) (l+d1):=by
 obtain⟨e,hl,j,hb⟩:=h;have A:1<=g:=by
  apply Ys;rintro rfl;rw[V6] at hc;omega
 obtain⟨k,rfl⟩:∃ k,g=k+1:=⟨g - 1,by omega⟩;have p:(k+1)*d0<=1000000001*999999999:=Ug j (by omega);rw[Vf];rw[Zp,Zx] at e;have d:l<1000000000:=by
  have:(1000000001*999999999:Nat)=1000000000*1000000000 - 1:=by decide
  omega
 refine⟨by omega,by omega,by omega,by omega,?_⟩;clear hb p d hl j A;rw[Yh,<-Yw,Zp k 1 d1,Zx];exact AM _ _ l _ _ e hc
theorem IN {x2 x1 x0 d1 d0 g l:Nat}(h:Qo x2 x1 x0 d1 d0 g l)(hc:g*d0<=l*1000000000+x0):Pd x2 x1 x0 d1 d0 g:=by
 obtain⟨e,hl,d,hb⟩:=h;refine⟨?_,hb⟩;rw[Yh,<-Yw];omega
theorem B1 (R off cap D doff dcap n:Nat)(x2 x1 x0 d1 d0:Nat)(w:World)(hR:R<w.heap.size)(hn:2<=n)(hn2:n<=200000)
 (c2:w.cell? ⟨R,off+n,none⟩=some (.int .u32 (x2:Nat))) (c1:w.cell? ⟨R,off+(n - 1),none⟩=some (.int .u32 (x1:Nat))) (c0:w.cell? ⟨R,off+(n - 2),none⟩=some (.int .u32 (x0:Nat)))
 (e1:w.cell? ⟨D,doff+(n - 1),none⟩=some (.int .u32 (d1:Nat))) (e0:w.cell? ⟨D,doff+(n - 2),none⟩=some (.int .u32 (d0:Nat)))
 (h1:500000000<=d1) (h2:d1<1000000000) (h3:d0<1000000000) (hx2:x2<=d1) (hx1:x1<1000000000) (hx0:x0<1000000000) :
 Calls prog 246 #[.slice (some ⟨R,off,none⟩) (n+1) cap,.slice (some ⟨D,doff,none⟩) n dcap] w fun e w'=>∃ g:Nat,e=.returned (.int .u64 (g:Nat))/\Pd x2 x1 x0 d1 d0 g/\Up w w':=by
 have d7:Hid (Qo x2 x1 x0 d1 d0 ((x2*1000000000+x1) / d1) ((x2*1000000000+x1) % d1)):=OG x2 x1 x0 d1 d0 h1 h2 hx2 hx1 hx0;obtain⟨k,rfl⟩:∃ k,n=k+2:=⟨n - 2,by omega⟩;rw[show k+2 - 1=k+1 by omega] at c1 e1;rw[show k+2 - 2=k by omega] at c0 e0;have a8:Hid (∀ W,Up w W->W.cell? ⟨R,off+k,none⟩=some (.int .u32 (x0:Nat))):=fun W hW=>(hW.cell (p:=⟨R,off+k,none⟩) hR).trans c0;obtain⟨Z,J⟩:∃ X:Int,(x2:Int)=X:=⟨_,rfl⟩;obtain⟨Y,I⟩:∃ X:Int,(x1:Int)=X:=⟨_,rfl⟩;obtain⟨M,E⟩:∃ X:Int,(d1:Int)=X:=⟨_,rfl⟩;obtain⟨K,O⟩:∃ X:Int,(d0:Int)=X:=⟨_,rfl⟩;obtain⟨X0,V⟩:∃ X:Int,(x0:Int)=X:=⟨_,rfl⟩;have q1:(Z*1000000000+Y) / M=(((x2*1000000000+x1) / d1:Nat):Int):=by rw[<-J,<-I,<-E];rfl
 have q2:(Z*1000000000+Y) % M=(((x2*1000000000+x1) % d1:Nat):Int):=by rw[<-J,<-I,<-E];rfl
 have d5:Hid ((Z*1000000000+Y) / M=(((x2*1000000000+x1) / d1:Nat):Int)):=q1;have d6:Hid ((Z*1000000000+Y) % M=(((x2*1000000000+x1) % d1:Nat):Int)):=q2;have HL:Hid ((d1:Int)=M/\(d0:Int)=K/\(x0:Int)=X0):=⟨E,O,V⟩;have HH:Hid (d1<1000000000/\d0<1000000000):=⟨h2,h3⟩;rw[J] at c2;rw[I] at c1;rw[V] at c0 a8;rw[E] at e1;rw[O] at e0;have b1:0<=Z:=by omega
 have b2:Z<1000000000:=by omega
 have b3:0<=Y:=by omega
 have b4:Y<1000000000:=by omega
 have b5:500000000<=M:=by omega
 have b6:M<1000000000:=by omega
 have b7:0<=K:=by omega
 have b8:K<1000000000:=by omega
 have b9:0<=X0:=by omega
 have e7:X0<1000000000:=by omega
 clear J I E O V q1 q2 h1 h2 h3 hx2 hx1 hx0
 go_in
 go_wp2
 go_quiet (fail)
 go_wp2
 go_quiet (fail)
 go_wp2
 go_quiet (fail)
 go_wp2
 go_loopw [9,10] (fun gv lv wr=>∃ g l:Nat,gv=.int .u64 (g:Nat)/\lv=.int .u64 (l:Nat)/\Qo x2 x1 x0 d1 d0 g l/\Up w wr) (fun gv _ _=>(intOf gv).toNat)
 case atStart=>exact⟨_,_,Ot d5.o,Ot d6.o,d7.o,below_drewN (below_drewN (below_drewN (Je _ _) _) _) _⟩
 obtain⟨g,l,rfl,rfl,U,hB⟩:=hrel;have e8:=a8.o _ hB;have HB:=Hd hB;have hg:=U.2.2.1;have hl:=U.2.1;have HG:=Hd U;have hp:g*d0<=1000000001*999999999:=Ug hg (by have:=HH.o;omega);obtain⟨P,hP⟩:=Oa (g*d0);rw[hP] at hp;obtain⟨G,d⟩:∃ G:Int,(g:Int)=G:=⟨_,rfl⟩;obtain⟨L,h⟩:∃ L:Int,(l:Int)=L:=⟨_,rfl⟩;have j:G*K=(P:Int):=by rw[<-hP,<-d,<-HL.o.2.1];rfl
 have m1:0<=G*K:=by rw[j];omega
 have m2:G*K<=1000000001000000000:=by rw[j];omega
 have m3:0<=L:=by omega
 have m4:L<=2000000001:=by omega
 have m5:0<=G:=by omega
 have m6:G<=1000000001:=by omega
 by_cases hc:l*1000000000+x0<g*d0
 ·have HN:Hid (1<=g/\Qo x2 x1 x0 d1 d0 (g - 1) (l+d1)):=ON U HH.o.1 HH.o.2 hc;have t1:L*1000000000+X0<G*K:=by rw[j];rw[hP] at hc;have:=HL.o.2.2;omega
  have m7:1<=G:=by have:=HN.o.1;omega
  have A:Hid ((g:Int)=G/\(l:Int)=L):=⟨d,h⟩;rw[d,h];clear hB U hp hP j d h hg hl hc
  go_wp2
  go_roundw
  case rel=>exact⟨g - 1,l+d1,Ot (by have:=A.o;have:=HN.o.1;omega),Ot (by have:=A.o;have:=HL.o.1;omega),HN.o.2,HB.o⟩
  simp[intOf];have:=A.o;have:=HN.o.1;omega
 have HE:Hid (Pd x2 x1 x0 d1 d0 g):=IN U (by omega);have t1:G*K<=L*1000000000+X0:=by rw[j];rw[hP] at hc;have:=HL.o.2.2;omega
 have A:Hid ((g:Int)=G/\(l:Int)=L):=⟨d,h⟩;rw[d,h];clear hB U hp hP j d h hg hl hc
 go_wp2
 go_ret
 exact⟨g,Eo A.o.1.symm,HE.o,HB.o⟩
theorem BW (X3 D2 K xl dl g:Nat)(hxl:xl<K)(hdl:dl<K)(h1:g*D2<=X3)(h2:X3<(g+1)*D2)(hX3:X3<1000000000000000000000000000)(hD2:500000000000000000<=D2)
 (hX:X3*K+xl<(D2*K+dl)*1000000000) :
 g*(D2*K+dl)<=X3*K+xl+(D2*K+dl)/\X3*K+xl<(g+1)*(D2*K+dl)/\g<=1000000000:=by
 have a1:X3*K+xl<(g+1)*(D2*K+dl):=by
  have d:(X3+1)*K<=(g+1)*D2*K:=Yg K h2;have e2:(g+1)*(D2*K+dl)=(g+1)*D2*K+(g+1)*dl:=by rw[Yh,Yw]
  rw[Zp,Zx] at d;omega
 have j:g<=D2:=by
  apply Z7;intro h;have d:500000000000000001*500000000000000000<=g*D2:=Ug (by omega) hD2;omega
 have a2:g*(D2*K+dl)<=X3*K+xl+(D2*K+dl):=by
  have d:g*D2*K<=X3*K:=Yg K h1;have e2:g*(D2*K+dl)=g*D2*K+g*dl:=by rw[Yh,Yw]
  have A:g*dl<=D2*K:=Ug j (by omega);omega
 refine⟨a2,a1,?_⟩;apply Z7;intro h;have d:1000000001*(D2*K+dl)<=g*(D2*K+dl):=Yg _ h;omega
theorem EU (P Wn x Dv g c W':Nat)(h:W'+g*Dv=Wn+P*c)(hc:c<=x)(hX:Wn+P*x<(g+1)*Dv)(hD:Dv<=P):c=x/\Wn+P*x=g*Dv+W'/\W'<Dv:=by
 rw[Zp,Zx] at hX;have d:c=x:=by
  apply Nat.le_antisymm hc;apply Z7;intro j;have e:P*(c+1)<=P*x:=Yb P j;rw[Yh,Z8] at e;omega
 subst d;exact⟨rfl,by omega,by omega⟩
theorem EK (P Wn x Dv g c W' W2 c2:Nat)(h:W'+g*Dv=Wn+P*c)(hc:x<c)(hX:g*Dv<=Wn+P*x+Dv)(hW:W'<P)(hD:Dv<=P)(h2:W2+P*c2=W'+Dv)(hW2:W2<P) :
 1<=g/\Wn+P*x=(g - 1)*Dv+W2/\W2<Dv:=by
 obtain⟨k,rfl⟩:∃ k,c=x+1+k:=⟨c - x - 1,by omega⟩;have A:P*(x+1+k)=P*x+P+P*k:=by rw[Yh,Yh,Z8]
 rw[A] at h;have E:1<=g:=by
  apply Ys;rintro rfl;rw[V6] at h;omega
 obtain⟨q,rfl⟩:∃ q,g=q+1:=⟨g - 1,by omega⟩;rw[Zp,Zx] at h hX;rw[Vf];have G:k=0:=by
  apply Nat.eq_zero_of_not_pos;intro j;have:P*1<=P*k:=Yb P j;omega
 subst G;rw[Vk] at h;have d:c2=1:=by
  have u:c2<2:=by
   apply Ur;intro j;have:P*2<=P*c2:=Yb P j;omega
  have l:c2≠0:=by
   rintro rfl;rw[Vk] at h2;omega
  omega
 subst d;rw[Z8] at h2;exact⟨E,by omega,by omega⟩
theorem AJ (V a b K:Nat):V+K*a+K*1000000000*b=(b*1000000000+a)*K+V:=by grind
theorem SO (V a b c K:Nat):(b*1000000000+a)*K+V+K*1000000000*1000000000*c=((c*1000000000+b)*1000000000+a)*K+V:=by grind
theorem ZP (l:List Nat)(k:Nat):val (l.take (k+2))=(l.getD (k+1) 0*1000000000+l.getD k 0)*1000000000 ^ k+val (l.take k):=by
 rw[Oe l (k+1),Oe l k,J7];exact AJ _ _ _ _
theorem CM (l:List Nat)(k:Nat):val (l.take (k+3))=((l.getD (k+2) 0*1000000000+l.getD (k+1) 0)*1000000000+l.getD k 0)*1000000000 ^ k+val (l.take k):=by
 rw[Oe l (k+2),ZP,J7,J7];exact SO _ _ _ _ _
theorem A4 (l:List Nat)(h:okL l)(n:Nat):okL (l.take n):=fun x hx=>h x (Yy hx)
theorem Ry (l:List Nat)(h:okL l)(n:Nat):okL (l.drop n):=fun x hx=>h x (Z6 hx)
theorem Gd (l:List Nat)(h:okL l)(n:Nat):val (l.take n)<1000000000 ^ n:=Gb _ (A4 l h n) n (by rw[J4];omega)
theorem NZ (T x N:Nat)(hT:T<N)(hx:x<1000000000):T*1000000000+x<N*1000000000:=by
 have h:(T+1)*1000000000<=N*1000000000:=Yg _ hT;rw[Zp,Zx] at h;exact Jq (Nat.add_lt_add_left hx _) h
theorem BE (x2 d1 W T P:Nat)(h:W+P*1000000000*x2<T*1000000000)(hT:T<P*(d1+1)):x2<=d1:=by
 apply Z7;intro d;have e:P*1000000000*(d1+1)<=P*1000000000*x2:=Yb _ d;have e2:P*1000000000*(d1+1)=P*(d1+1)*1000000000:=by grind
 omega
theorem OH (M Dl:List Nat)(k g:Nat)(hM:okL M)(hD:okL Dl)(hl:Dl.length=k+2)(htop:500000000<=Dl.getD (k+1) 0)
 (hlt:val (M.take (k+3))<val Dl*1000000000) (hg:Pd (M.getD (k+2) 0) (M.getD (k+1) 0) (M.getD k 0) (Dl.getD (k+1) 0) (Dl.getD k 0) g) (hml:k+3<=M.length) :
 g*val Dl<=val (M.take (k+3))+val Dl/\val (M.take (k+3))<(g+1)*val Dl/\g<=1000000000:=by
 have d:=CM M k;have e2:=ZP Dl k;rw[Jl (by omega)] at e2;have E:=Gd M hM k;have A:=Gd Dl hD k;have b2:=U9 M hM (k+2) (by omega);have b1:=U9 M hM (k+1) (by omega);have b0:=U9 M hM k (by omega);obtain⟨h,j⟩:=hg;rw[d,e2] at hlt ⊢;exact BW _ _ _ _ _ g E A h j (NZ _ _ 1000000000000000000 (NZ _ _ 1000000000 b2 b1) b0) (by omega) hlt
theorem AQ (M Dl:List Nat)(k:Nat)(hD:okL Dl)(hl:Dl.length=k+2)(hlt:val (M.take (k+3))<val Dl*1000000000):M.getD (k+2) 0<=Dl.getD (k+1) 0:=by
 have d:=Oe M (k+2);have e2:=Oe Dl (k+1);rw[Jl (by omega)] at e2;have h:=Gd Dl hD (k+1);rw[d,J7] at hlt;exact BE _ _ _ _ (1000000000 ^ (k+1)) hlt (by rw[e2,Yh,Z8];omega)
theorem Wj (R off cap D dcap k:Nat)(A Dl:List Nat)(w:World)(hR:U7 w R A)(hAok:okL A)(hl:Dl.length=k+2)(hn:off+(k+3)<=A.length)(hA:A.length<=150000)(hD:U7 w D Dl)(hDR:D≠R)(hDok:okL Dl)
 (htop:500000000<=Dl.getD (k+1) 0) (hlt:val ((A.drop off).take (k+3))<val Dl*1000000000) (hcap:k+3<=cap) :
 Calls prog 238 #[.slice (some ⟨R,off,none⟩) (k+3) cap,.slice (some ⟨D,0,none⟩) (k+2) dcap] w fun e w'=>∃ (q:Nat) (L:List Nat),e=.returned (.int .u32 (q:Nat))/\U7 w' R L/\L.length=A.length/\okL L/\L.take off=A.take off/\q<1000000000 /\
  val ((A.drop off).take (k+3))=q*val Dl+val ((L.drop off).take (k+2))/\val ((L.drop off).take (k+2))<val Dl/\Only R w w':=by
 have HM:Hid (okL (A.drop off)/\k+3<=(A.drop off).length):=⟨Ry A hAok off,by simp;omega⟩;have c2:=hR.cell (off+(k+2)) (by omega);have c1:=hR.cell (off+(k+1)) (by omega);have c0:=hR.cell (off+k) (by omega);have e1:=hD.cell (k+1) (by omega);have e0:=hD.cell k (by omega);have b1:=U9 A hAok (off+(k+1)) (by omega);have b0:=U9 A hAok (off+k) (by omega);have d1:=U9 Dl hDok (k+1) (by omega);have d0:=U9 Dl hDok k (by omega);have d2:=AQ (A.drop off) Dl k hDok hl hlt;rw[Id] at d2;have e5:=hR.lt;have g4:=hD.lt;have HG:Hid (∀ W,True->Calls prog 246 #[.slice (some ⟨R,off,none⟩) (k+3) cap,.slice (some ⟨D,0,none⟩) (k+2) dcap] w fun e w'=>∃ g:Nat,e=.returned (.int .u64 (g:Nat))/\Pd (A.getD (off+(k+2)) 0) (A.getD (off+(k+1)) 0) (A.getD (off+k) 0) (Dl.getD (k+1) 0) (Dl.getD k 0) g/\Up w w'):=fun (_:World) _=>
  B1 R off cap D 0 dcap (k+2) _ _ _ _ _ w e5 (by omega) (by omega) c2 (by rw[show k+2 - 1=k+1 by omega];exact c1) (by rw[show k+2 - 2=k by omega];exact c0) (by rw[show 0+(k+2 - 1)=k+1 by omega];exact e1) (by rw[show 0+(k+2 - 2)=k by omega];exact e0) htop d1 d0 d2 b1 b0
 have d5:Hid (U7 w R A/\U7 w D Dl):=⟨hR,hD⟩;have b6:Hid (val ((A.drop off).take (k+3))<val Dl*1000000000/\500000000<=Dl.getD (k+1) 0):=⟨hlt,htop⟩;clear c2 c1 c0 e1 e0 b1 b0 d1 d0 d2 hR hD hlt htop
 go_in
 go_wp2_with fail
 refine (HG.o w trivial).mono ?_;rintro e w1 ⟨g,rfl,hg,a8⟩;have b9:Only R w w1:=Only.of a8 (by omega);have f9:=Hd b9;have J:Hid (U7 w1 R A/\U7 w1 D Dl):=by
  refine⟨?_,b9.rowT hDR d5.o.2⟩;obtain⟨t,h⟩:=d5.o.1;exact⟨t,(a8.block R e5).trans h⟩
 have hw:=OH (A.drop off) Dl k g HM.o.1 hDok hl b6.o.2 b6.o.1 (by rw[Id,Id,Id];exact hg) HM.o.2;have HW:Hid (g*val Dl<=val ((A.drop off).take (k+3))+val Dl/\val ((A.drop off).take (k+3))<(g+1)*val Dl):=⟨hw.1,hw.2.1⟩;have g7:=hw.2.2;have d7:Hid (D<w1.heap.size):=Jq g4 a8.size;clear hg a8 b9 hw
 go_wp2_with fail
 have Y:=Fd R off cap g (some ⟨D,0,none⟩) dcap A Dl w1 J.o.1 hAok (by omega) (by omega) hDok g7 (fun i hi=>⟨D,0,rfl,⟨d7.o,hDR⟩,by rw[Y8];exact J.o.2.cell i hi⟩);rw[hl] at Y;refine Y.mono ?_;clear Y;rintro e w2 ⟨c,L,rfl,M,b8,U,c6,c8,j4,I,K⟩;have d4:Hid (Only R w w2):=f9.o.trans K;have d6:Hid (U7 w2 R L/\U7 w2 D Dl):=⟨M,K.rowT hDR J.o.2⟩;have e6:=M.cell (off+(k+2)) (by omega);have hx:=Xs L A (off+(k+2)) c6;rw[hx] at e6;obtain⟨x,d3⟩:=Oa (A.getD (off+(k+2)) 0);rw[d3] at e6;have g9:=U9 A hAok (off+(k+2)) (by omega);rw[d3] at g9;have j:=Hq A off (k+2);rw[d3] at j;have b7:val Dl<1000000000 ^ (k+2):=Gb Dl hDok _ (by omega);have g3:Hid (D<w2.heap.size):=Jq d7.o K.bl.size;have d:Hid (U7 w2 R L/\L.length=A.length/\okL L/\L.take off=A.take off):=⟨M,b8,U,c8⟩
 by_cases g6:c<=x
 ·have hr:=EU (1000000000 ^ (k+2)) _ x (val Dl) g c _ I g6 (by rw[<-j];exact HW.o.2) (by omega);have HE:Hid (g<1000000000/\val ((A.drop off).take (k+3))=g*val Dl+val ((L.drop off).take (k+2))/\val ((L.drop off).take (k+2))<val Dl):=by
   have hE:val ((A.drop off).take (k+3))=g*val Dl+val ((L.drop off).take (k+2)):=j.trans hr.2.1;refine⟨?_,hE,hr.2.2⟩;apply Ur;intro h9;have h8:1000000000*val Dl<=g*val Dl:=Yg _ h9;have:=b6.o.1;omega
  have t1:(c:Int)<=(x:Int):=by omega
  have gb:g<1000000000:=HE.o.1;clear I j hr M b8 U c6 c8 K hx b7
  go_wp2
  go_ret
  exact⟨g,L,rfl,d.o.1,d.o.2.1,d.o.2.2.1,d.o.2.2.2,HE.o.1,HE.o.2.1,HE.o.2.2,d4.o⟩
 have t1:(x:Int)<(c:Int):=by omega
 have HV:Hid (val ((L.drop off).take (k+2))+g*val Dl=val ((A.drop off).take (k+2))+1000000000 ^ (k+2)*c/\val ((A.drop off).take (k+3))=val ((A.drop off).take (k+2))+1000000000 ^ (k+2)*x/\val Dl<1000000000 ^ (k+2)/\x<c):=⟨I,j,b7,by omega⟩;have cb:(c:Int)<=1000000000:=by omega
 clear I j M b8 U c6 c8 K hx b7
 go_wp2_with fail
 have O:=Bb R off cap (some ⟨D,0,none⟩) dcap L Dl w2 d.o.1 d.o.2.2.1 (by have:=d.o.2.1;omega) (by have:=d.o.2.1;omega) hDok (fun i hi=>⟨D,0,rfl,⟨g3.o,hDR⟩,by rw[Y8];exact d6.o.2.cell i hi⟩);rw[hl] at O;refine O.mono ?_;clear O;rintro e w3 ⟨c3,L3,rfl,e4,d9,V,e7,b5,j3,Z,e3⟩;have hr:=EK (1000000000 ^ (k+2)) _ x (val Dl) g c _ _ c3 HV.o.1 HV.o.2.2.2 (by rw[<-HV.o.2.1];exact HW.o.1) (Gd _ (Ry L d.o.2.2.1 off) _) (by have:=HV.o.2.2.1;omega) Z (Gd _ (Ry L3 V off) _);have HE:Hid (1<=g/\g - 1<1000000000/\val ((A.drop off).take (k+3))=(g - 1)*val Dl+val ((L3.drop off).take (k+2))/\val ((L3.drop off).take (k+2))<val Dl):=⟨hr.1,by omega,HV.o.2.1.trans hr.2.1,hr.2.2⟩;have E:Hid (U7 w3 R L3/\L3.length=A.length/\okL L3/\L3.take off=A.take off):=⟨e4,by rw[d9];exact d.o.2.1,V,b5.trans d.o.2.2.2⟩;have g0:Hid (Only R w w3):=d4.o.trans e3;obtain⟨G,hG⟩:∃ G:Int,(g:Int)=G:=⟨_,rfl⟩;have g1:1<=G:=by have:=HE.o.1;omega
 have g2:G<=1000000000:=by omega
 have f8:=Hd hG;rw[hG];clear hr e4 d9 V e7 b5 Z e3 hG
 go_wp2
 go_ret
 exact⟨g - 1,L3,Eo (by have:=f8.o;have:=HE.o.1;omega),E.o.1,E.o.2.1,E.o.2.2.1,E.o.2.2.2,HE.o.2.1,HE.o.2.2.1,HE.o.2.2.2,g0.o⟩
theorem KL (t s:Nat)(ht:1<=t)(ht2:t<1000000000)(h1:s*(t+1)<=1000000000)(h2:1000000000<(s+1)*(t+1)):500000000<=s*t:=by
 by_cases a:t=1
 ·subst a;omega
 by_cases b:s=1
 ·subst b;omega
 by_cases c:s=0
 ·subst c;omega
 obtain⟨u,rfl⟩:∃ u,s=u+2:=⟨s - 2,by omega⟩;obtain⟨v,rfl⟩:∃ v,t=v+2:=⟨t - 2,by omega⟩;have d:(u+2+1)*(v+2+1)=u*v+3*u+3*v+9:=by grind
 have e2:(u+2)*(v+2)=u*v+2*u+2*v+4:=by grind
 rw[d] at h2;rw[e2];omega
theorem QK (s t P vb:Nat)(hs:1<=s)(h1:s*(t+1)<=1000000000)(hb:vb<P*(t+1)):s*vb<P*1000000000:=by
 have d:s*(vb+1)<=s*(P*(t+1)):=Yb s hb;have e2:s*(P*(t+1))=P*(s*(t+1)):=by grind
 have h:P*(s*(t+1))<=P*1000000000:=Yb P h1;rw[Yh,Z8] at d;omega
theorem QE (s t P vb dt W:Nat)(hb:vb=W+P*t)(hd:s*vb<P*(dt+1)):s*t<=dt:=by
 apply Nat.le_of_lt_succ;apply Ur;intro h;have d:P*(dt+1)<=P*(s*t):=Yb P h;have e2:s*(W+P*t)=s*W+P*(s*t):=by grind
 rw[hb,e2] at hd;omega
theorem IZ (P Q V s va vb:Nat)(h:P*V<=s*va)(hva:va<P*Q)(hvb:Q<=vb)(hs:1<=s):V<s*vb:=by
 have d:s*(va+1)<=s*(P*Q):=Yb s hva;have e2:s*(P*Q)=P*(s*Q):=by grind
 have j:s*Q<=s*vb:=Yb s hvb;apply Jq ?_ j;apply Ur;intro h3;have A:P*(s*Q)<=P*V:=Yb P h3;rw[Yh,Z8] at d;omega
theorem Sh (x T Dv:Nat)(hx:x<1000000000)(hT:T<Dv):x+1000000000*T<Dv*1000000000:=by
 have:1000000000*(T+1)<=1000000000*Dv:=Yb _ hT;omega
theorem DF (S Vq P Dv Lo X q W:Nat)(h:S=Vq*(P*1000000000)*Dv+(Lo+P*X))(hX:X=q*Dv+W):S=(Vq*1000000000+q)*P*Dv+(Lo+P*W):=by
 rw[h,hX]
 grind
theorem FS (s va vb Q W U r:Nat)(hs:1<=s)(h:s*va=Q*(s*vb)+W)(hW:W<s*vb)(hU:W=U*s+r)(hr:r<s):va=Q*vb+U/\U<vb:=by
 have E:Q*(s*vb)=s*(Q*vb):=by grind
 rw[E,hU] at h;have I:Q*vb<=va:=by
  apply Z7;intro d;have:s*(va+1)<=s*(Q*vb):=Yb s d;rw[Yh,Z8] at this;omega
 obtain⟨y,rfl⟩:∃ y,va=Q*vb+y:=⟨va - Q*vb,by omega⟩;have G:s*y=U*s+r:=by
  rw[Yh] at h;omega
 have A:U=y:=by
  have e2:y*s=U*s+r:=by rw[Y2];exact G
  apply Nat.le_antisymm
  ·apply Z7;intro d;have:(y+1)*s<=U*s:=Yg s d;rw[Zp,Zx] at this;omega
  apply Z7;intro d;have:(U+1)*s<=y*s:=Yg s d;rw[Zp,Zx] at this;omega
 subst A;refine⟨rfl,?_⟩;apply Ur;intro j;have:s*vb<=s*U:=Yb s j;omega
theorem Tt (L:List Nat)(i n:Nat)(h:i<=L.length):val (L.take (i+n))=val (L.take i)+1000000000 ^ i*val ((L.drop i).take n):=by
 rw[List.take_add,Pp,J4,Zo h]
theorem Ts (L:List Nat)(i n:Nat)(h:i<L.length):val ((L.drop i).take (n+1))=L.getD i 0+1000000000*val ((L.drop (i+1)).take n):=by
 rw[Vx h,List.take_succ_cons,val,Ji,Jd h];rfl
theorem U7.other (h:U7 w R l)(p:Addr)(u:Value)(hp:p.block≠R):U7 (w.setCell p u) R l:=by
 obtain⟨t,h⟩:=h;refine⟨t,Eq.trans ?_ h⟩
 show (w.heap.modify p.block _)[R]? = _
 rw[Array.getElem?_modify,if_neg hp]
theorem U7.kept (h:U7 w R l)(hb:Up w w'):U7 w' R l:=by
 have d:=h.lt;obtain⟨t,h⟩:=h;exact⟨t,(hb.block R d).trans h⟩
theorem U7.keptB {N:Nat}(h:U7 w R l)(hb:Below N w w')(hR:R<N):U7 w' R l:=by
 obtain⟨t,h⟩:=h;exact⟨t,(hb.block R hR).trans h⟩
structure DivAt (a b:List Nat)(s k m:Nat)(Dl L Q:List Nat)(j:Nat):Prop where
 len:L.length=k+2+m+1
 ok:okL L
 qlen:Q.length=m+1
 qok:okL Q
 le:j<=m+1
 eq:s*val a=Eb Q j*1000000000 ^ j*val Dl+val (L.take (j+(k+2)))
 top:val ((L.drop j).take (k+2))<val Dl
theorem DivAt.step {a b:List Nat}{s k m:Nat}{Dl L Q:List Nat}{i:Nat}(h:DivAt a b s k m Dl L Q (i+1)){q:Nat}{L':List Nat}(hq:q<1000000000)(hL:L'.length=L.length)(hok:okL L')(htk:L'.take i=L.take i)
 (hX:val ((L.drop i).take (k+3))=q*val Dl+val ((L'.drop i).take (k+2))) (ht:val ((L'.drop i).take (k+2))<val Dl):DivAt a b s k m Dl L' (Q.set i q) i:=by
 have d:=h.le;refine⟨hL.trans h.len,hok,by simp[h.qlen],Kn Q h.qok i q hq,by omega,?_,ht⟩;have e:=h.eq;rw[show i+1+(k+2)=i+(k+3) by omega,Tt L i (k+3) (by have:=h.len;omega),J7] at e;rw[Cq Q i q (by have:=h.qlen;omega),Tt L' i (k+2) (by have:=h.len;omega),htk];exact DF _ _ _ _ _ _ q _ e hX
theorem DivAt.window {a b:List Nat}{s k m:Nat}{Dl L Q:List Nat}{i:Nat}(h:DivAt a b s k m Dl L Q (i+1)):val ((L.drop i).take (k+3))<val Dl*1000000000:=by
 have d:=h.le;have hl:=h.len;rw[Ts L i (k+2) (by omega)];exact Sh _ _ _ (U9 L h.ok i (by omega)) h.top
theorem P5 (b:List Nat)(k:Nat)(hl:b.length=k+1)(ht:isTrim b):1<=b.getD k 0:=by
 have d:b≠[]:=by intro h;rw[h] at hl;simp at hl
 have h:=ht d;rw[List.getLast_eq_getElem] at h;have e:b.getD k 0=b[b.length - 1]'(by omega):=by
  rw[Ji,Jd (by omega)];simp[hl]
 omega
theorem Ww (B:Nat)(va vb:Value)(a b:List Nat)(k m:Nat)(w:World)(ha:Kz B w va a)(hb:Kz B w vb b)(hlb:b.length=k+2)(hla:a.length=k+2+m)(hmx:k+2+m<=100000)(htb:isTrim b) :
 Calls prog 222 #[va,vb] w fun e w'=>∃ v u Q U,e=.returned (.tuple #[v,u])/\Kz w.heap.size w' v Q/\Kz w.heap.size w' u U/\isTrim Q/\isTrim U/\Q.length<=m+1/\U.length<=k+2/\val a=val Q*val b+val U/\val U<val b/\Up w w':=by
 obtain⟨i0,b6,g7,g8,g9⟩:=info_parts info_u32;obtain⟨pa,ca,rfl,_⟩:=id ha;obtain⟨pb,cb,rfl,_⟩:=id hb;obtain⟨_,_,_,d6,j8⟩:=ha.cells;obtain⟨_,_,_,b4,f9⟩:=hb.cells;have HA:=Hd j8;have HB:=Hd f9;obtain⟨bb,ob,rfl,q6,g1⟩:=f9 (k+1) (by omega);have k9:=P5 b (k+1) hlb htb;have l0:=U9 b b4 (k+1) (by omega);obtain⟨t,ht⟩:=Oa (b.getD (k+1) 0);obtain⟨s,hs⟩:=Oa (1000000000 / (t+1));have g2:s*(t+1)<=1000000000:=by rw[<-hs];exact Nat.div_mul_le_self _ _
 have k7:1000000000<(s+1)*(t+1):=by
  have:=Nat.lt_div_mul_add (a:=1000000000) (b:=t+1) (by omega);rw[hs] at this;rw[Zp,Zx];exact this
 rw[ht] at k9 l0 g1;have k8:1<=s:=by
  apply Ys;rintro rfl;omega
 have o0:s<=500000000:=by
  have:s*2<=s*(t+1):=Yb s (by omega);omega
 have J:Hid (1<=s/\s*(t+1)<=1000000000/\500000000<=s*t/\b.getD (k+1) 0=t/\s<=500000000):=⟨k8,g2,KL t s k9 l0 g2 k7,ht,o0⟩;rw[hlb,hla];obtain⟨T,hT⟩:∃ T:Int,(t:Int)=T:=⟨_,rfl⟩;have o1:1000000000 / (T+1)=(s:Int):=by rw[<-hs,<-hT];rfl
 rw[hT] at g1;have t1:1<=T:=by omega
 have t2:T<1000000000:=by omega
 clear j8 f9 ha hb g2 k7 hs ht hT
 go_in
 go_wp2_with (at_make;refine wpList_make_full _ rfl _ _ 117 rfl w.heap.size 149 i0 (.int .u32 0) 1 underlying117 b6 g7 g8 .i64 .i64 _ _ (k+2+m+1) rfl rfl (by first|rfl|omega) (by first|rfl|omega) (by first|omega|(rw[g9];omega)) (by unfold maxLen;omega) leR ?_)
 intro w1 d O
 first|rw[Ep] at d|rw[Eu] at d
 have e5:U7 w1 w.heap.size (List.replicate (k+2+m+1) 0):=(Kj d).tail;have j1:Up w w1:=(Je _ _).grown O leR (fun k h=>by cases h);have m9:=Hd e5;have h8:=Hd j1;have o3:Hid (w.heap.size<w1.heap.size):=e5.lt;clear d O e5 j1 g1 t1 t2 o1
 go_wp2_with fail
 have I:=R1 w.heap.size 0 (k+2+m+1) s _ pa ca (List.replicate (k+2+m+1) 0) a w1 m9.o (fun x hx=>by rw[Yt hx];omega) (by simp;omega) (by simp;omega) d6 rfl (by omega) (by have:=J.o.2.2.2.2;omega) (fun i hi=>by
  obtain⟨c,b7,e,hc,g0⟩:=HA.o i hi;exact⟨c,b7,e,hc,by rw[h8.o.cell (p:=⟨c,b7+i,none⟩) hc];exact g0⟩)
 rw[hla] at I;refine I.mono ?_;clear I;rintro e w2 ⟨c,L,rfl,b3,a8,d7,j9,hc,g4,hb2⟩;have b5:=b3.cell (k+2+m) (by rw[a8];simp);have k1:=b3.frozen (k+2+m);have h0:L.getD (k+2+m) 0=0:=by
  rw[St L _ (0+(k+2+m)) (k+2+m) j9 (by omega)];simp[List.getD_eq_getElem?_getD]
 have g6:=Fs L (k+2+m) c (by rw[a8];simp);rw[h0,Vk,Vj] at g6;rw[Io,Y8,Y8,Nat.pow_zero,Zx] at g4;have Y:Hid (val (L.set (k+2+m) c)=s*val a/\okL (L.set (k+2+m) c)/\(L.set (k+2+m) c).length=k+2+m+1):=⟨g6.trans g4,Kn L d7 _ _ (by have:=J.o.2.2.2.2;omega),by simp[a8]⟩;have e3:Hid (U7 (w2.setCell ⟨w.heap.size,k+2+m,none⟩ (.int .u32 (c:Nat))) w.heap.size (L.set (k+2+m) c)):=b3.set _ _ (by rw[a8];simp);have h9:Hid (Up w (w2.setCell ⟨w.heap.size,k+2+m,none⟩ (.int .u32 (c:Nat)))):=(h8.o.trans hb2).setCell leR _;have q7:c<1000000000:=by have:=J.o.2.2.2.2;omega
 have i7:Hid (w.heap.size<w2.heap.size):=b3.lt;clear b3 a8 d7 j9 hc g4 hb2 h0 g6;obtain⟨W3,e6⟩:=Oa (w2.setCell ⟨w.heap.size,k+2+m,none⟩ (.int .u32 (c:Nat)));have j0:=Hd e6;generalize L.set (k+2+m) c=N at Y e3;rw[e6] at e3 h9;clear e6;have k8:W3.heap.size=w2.heap.size:=by rw[<-j0.o];simp
 have E:Hid (w.heap.size<w2.heap.size):=i7.o
 go_wp2_with (at_make;refine wpList_make_full _ rfl _ _ 117 rfl w2.heap.size 149 i0 (.int .u32 0) 1 underlying117 b6 g7 g8 .i64 .i64 _ _ (k+2) rfl rfl (by first|rfl|omega) (by first|rfl|omega) (by first|omega|(rw[g9];omega)) (by unfold maxLen;omega) (by simp) ?_)
 intro w4 d O;rw[j0.o] at O
 first|rw[Ep] at d|rw[Eu] at d
 have j2:U7 w4 w2.heap.size (List.replicate (k+2) 0):=(Kj d).tail;have c6:Below w2.heap.size W3 w4:=(Je _ _).grown O (by omega) (fun k h=>by cases h);have m7:=Hd j2;have p8:=Hd c6;have d3:Hid (Up w w4):=h9.o.trans (c6.mono (by have:=E.o;omega));have n0:Hid (U7 w4 w.heap.size N):=e3.o.keptB c6 E.o;clear d O j2 c6 b5 k1
 go_wp2_with fail
 have I:=R1 w2.heap.size 0 (k+2) s _ (some ⟨bb,ob,none⟩) cb (List.replicate (k+2) 0) b w4 m7.o (fun x hx=>by rw[Yt hx];omega) (by simp;omega) (by simp;omega) b4 rfl (by omega) (by have:=J.o.2.2.2.2;omega) (fun i hi=>by
  obtain⟨c,b7,e,hc,g0⟩:=HB.o i hi;exact⟨c,b7,e,by have:=E.o;omega,by rw[d3.o.cell (p:=⟨c,b7+i,none⟩) hc];exact g0⟩)
 rw[hlb] at I;refine I.mono ?_;clear I;rintro e K ⟨c5,V,rfl,j3,d4,a7,k0,n6,g5,e8⟩;rw[Io,Y8,Y8,Nat.pow_zero,Zx] at g5;have f8:val b=val (b.take (k+1))+1000000000 ^ (k+1)*t:=by
  have h:=Oe b (k+1);rw[Jl (by omega),J.o.2.2.2.1] at h;exact h
 have j7:val b<1000000000 ^ (k+1)*(t+1):=by
  rw[f8,Yh,Z8];have:=Gd b b4 (k+1);omega
 have d5:V.length=k+2:=by rw[d4];simp
 have d0:val V=s*val b:=by
  have h1:s*val b<1000000000 ^ (k+2):=by rw[J7];exact QK s t _ _ J.o.1 J.o.2.1 j7
  rw[<-g5] at h1 ⊢;have:c5=0:=by
   apply Nat.eq_zero_of_not_pos;intro hp;have:1000000000 ^ (k+2)*1<=1000000000 ^ (k+2)*c5:=Yb _ hp;omega
  rw[this,Vk,Vj]
 have m8:Hid (500000000<=V.getD (k+1) 0):=by
  unfold Hid
  have h1:val V<1000000000 ^ (k+1)*(V.getD (k+1) 0+1):=by
   have h:=Oe V (k+1);rw[Jl (by omega)] at h;rw[h,Yh,Z8];have:=Gd V a7 (k+1);omega
  rw[d0] at h1;have:=QE s t _ _ _ _ f8 h1;have:=J.o.2.2.1;omega
 have b8:Hid (val V=s*val b/\okL V/\V.length=k+2):=⟨d0,a7,d5⟩;have n1:Hid (U7 K w.heap.size N):=n0.o.keptB e8 E.o;have i1:=Hd j3;have m5:Hid (Up w K):=d3.o.trans (e8.mono (by have:=E.o;omega));have n3:Hid (DivAt a b s k m V N (List.replicate (m+1) 0) (m+1)):=by
  refine⟨Y.o.2.2,Y.o.2.1,by simp,fun x hx=>by rw[Yt hx];omega,leR,?_,?_⟩
  ·have e1:Eb (List.replicate (m+1) 0) (m+1)=0:=by unfold Eb;simp[val]
   rw[e1,V6,V6,Y8,Jl (by have:=Y.o.2.2;omega)];exact Y.o.1.symm
  rw[d0];refine IZ (1000000000 ^ (m+1)) (1000000000 ^ (k+1)) _ s (val a) (val b) ?_ ?_ ?_ J.o.1
  ·have h:=Tt N (m+1) (k+2) (by have:=Y.o.2.2;omega);rw[Jl (by have:=Y.o.2.2;omega),Y.o.1] at h;omega
  ·have h:=G6 a d6;rw[hla] at h;rw[<-Nat.pow_add,show m+1+(k+1)=k+2+m by omega];exact h
  have h:=Ql b htb (by intro h;rw[h] at hlb;simp at hlb);rw[hlb,show k+2 - 1=k+1 by omega] at h;exact h
 clear d4 a7 k0 n6 g5 e8 f8 j7 d5 d0 j3;have Z:Hid (w2.heap.size<K.heap.size):=i1.o.lt
 go_wp2_with (at_make;refine wpList_make_full _ rfl _ _ 117 rfl K.heap.size 149 i0 (.int .u32 0) 1 underlying117 b6 g7 g8 .i64 .i64 _ _ (m+1) rfl rfl (by first|rfl|omega) (by first|rfl|omega) (by first|omega|(rw[g9];omega)) (by unfold maxLen;omega) leR ?_)
 intro w6 d O
 first|rw[Ep] at d|rw[Eu] at d
 have e4:U7 w6 K.heap.size (List.replicate (m+1) 0):=(Kj d).tail;have c8:Up K w6:=(Je _ _).grown O leR (fun k h=>by cases h);have b9:Hid (U7 w6 K.heap.size (List.replicate (m+1) 0)/\U7 w6 w.heap.size N/\U7 w6 w2.heap.size V/\Up w w6):=⟨e4,n1.o.kept c8,i1.o.kept c8,m5.o.trans (c8.mono (by have:=Z.o;have:=E.o;omega))⟩;have o4:Hid (K.heap.size<w6.heap.size):=e4.lt;clear d O e4 c8
 go_wp2
 go_loopw [10] (fun iv wr=>∃ (j:Nat) (L Q:List Nat),DivAt a b s k m V L Q j/\iv=.int .i64 ((j:Int) - 1)/\U7 wr w.heap.size L/\U7 wr w2.heap.size V/\U7 wr K.heap.size Q/\Up w wr) (fun iv _=>(intOf iv+1).toNat)
 case atStart=>exact⟨m+1,N,_,n3.o,Ot (by omega),b9.o.2.1,b9.o.2.2.1,b9.o.1,b9.o.2.2.2⟩
 obtain⟨j,L,Q,e7,rfl,hR,hD,hQ,hB⟩:=hrel;have G:=Hd e7;have A:Hid (U7 wr w.heap.size L/\U7 wr w2.heap.size V/\U7 wr K.heap.size Q/\Up w wr):=⟨hR,hD,hQ,hB⟩;have n7:=e7.le;clear hR hD hQ hB e7
 cases j with
 | zero=>
   clear n7;have hL:=G.o.len;have g3:(L.take (k+2)).length=k+2:=by rw[J4];omega
   have HI:Hid (Kz w.heap.size wr (.slice (some ⟨w.heap.size,0,none⟩) (k+2) (k+2+m+1)) (L.take (k+2))):=by
    refine⟨_,k+2+m+1,by rw[g3],by omega,by unfold maxLen;omega,A4 L G.o.ok _,.inr ⟨w.heap.size,0,rfl,leR,A.o.1.lt,fun i hi=>?_⟩⟩;rw[Y8,A.o.1.cell i (by omega)];rw[Ji,Ji,List.getElem?_take_of_lt (by omega)]
   have i6:=Hd g3;clear hL g3
   go_wp2_with fail
   refine (R4 w.heap.size _ (L.take (k+2)) s _ HI.o (by have:=i6.o;omega) J.o.1 (by have:=J.o.2.2.2.2;omega)).mono ?_;rintro e w7 ⟨u,U,r,rfl,hU,l2,n8,l4,hr,e9⟩;have HU:=Hd hU;have i8:Hid (Kz w.heap.size w7 (.slice (some ⟨K.heap.size,0,none⟩) (m+1) (m+1)) Q):=by
    have h:=(A.o.2.2.1.kept e9).isL (B:=w.heap.size) (cap:=m+1) (by have:=Z.o;have:=E.o;omega) G.o.qok (by have:=G.o.qlen;omega) (by unfold maxLen;omega);rw[G.o.qlen] at h;exact h
   have HE:Hid (val a=val Q*val b+val U/\val U<val b/\isTrim U/\U.length<=k+2):=by
    have e:=G.o.eq;have tp:=G.o.top;unfold Eb at e;rw[Y9,Nat.pow_zero,Z8,Y8,b8.o.1] at e;rw[Y9,b8.o.1] at tp;have h:=FS s (val a) (val b) (val Q) _ (val U) r J.o.1 e tp l4 hr;exact⟨h.1,h.2,l2,by have:=i6.o;omega⟩
   have m6:Hid (Up w w7):=A.o.2.2.2.trans (e9.mono A.o.2.2.2.size);have n2:Hid (w.heap.size<=wr.heap.size):=A.o.2.2.2.size;obtain⟨pu,cu,hu,_⟩:=hU;subst hu;clear l2 n8 l4 hr e9
   go_wp2_with fail
   refine (Nl w.heap.size _ Q _ i8.o).mono ?_;rintro e w8 ⟨v,rfl,hcut,rfl⟩;have HW:Hid (Kz w.heap.size w8 v (Og Q)):=hcut _ _ i8.o;have HT:Hid (val (Og Q)=val Q/\(Og Q).length<=m+1):=⟨O4 Q,by have:=Kd Q;have:=G.o.qlen;omega⟩;obtain⟨pv,cv,hv,_⟩:=HW.o;subst hv;clear hcut
   go_wp2
   go_ret2
   exact⟨_,_,Og Q,U,rfl,HW.o,HU.o.mono n2.o,trimL_trim _,HE.o.2.2.1,HT.o.2,HE.o.2.2.2,by rw[HT.o.1];exact HE.o.1,HE.o.2.1,m6.o⟩
 | succ i=>
   go_wp2_with fail
   rw[show i+(k+2)+1 - i=k+3 by omega];refine (Wj w.heap.size i (k+2+m+1 - i) w2.heap.size (k+2) k L V wr A.o.1 G.o.ok b8.o.2.2 (by have:=G.o.len;omega) (by have:=G.o.len;omega) A.o.2.1 (by have:=E.o;omega) b8.o.2.1 m8.o G.o.window (by omega)).mono ?_;rintro e w7 ⟨q,L7,rfl,j5,j4,d8,d9,n9,j6,l1,d1⟩;have h7:Hid (DivAt a b s k m V L7 (Q.set i q) i):=G.o.step n9 j4 d8 d9 j6 l1;have d2:U7 w7 K.heap.size Q:=d1.rowT (by have:=Z.o;have:=E.o;omega) A.o.2.2.1;have b5:=d2.cell i (by have:=G.o.qlen;omega);have k1:=d2.frozen i;have M:Hid (U7 (w7.setCell ⟨K.heap.size,i,none⟩ (.int .u32 (q:Nat))) w.heap.size L7/\U7 (w7.setCell ⟨K.heap.size,i,none⟩ (.int .u32 (q:Nat))) w2.heap.size V/\U7 (w7.setCell ⟨K.heap.size,i,none⟩ (.int .u32 (q:Nat))) K.heap.size (Q.set i q)/\Up w (w7.setCell ⟨K.heap.size,i,none⟩ (.int .u32 (q:Nat)))):=by
    have l5:=Z.o;have l3:=E.o;refine⟨j5.other _ _ (by show K.heap.size≠w.heap.size;omega),(d1.rowT (by omega) A.o.2.1).other _ _ (by show K.heap.size≠w2.heap.size;omega),d2.set _ _ (by have:=G.o.qlen;omega),(A.o.2.2.2.trans d1.bl).setCell (by show w.heap.size<=K.heap.size;omega) _⟩
   clear j5 j4 d8 d9 j6 l1 d1 d2
   go_wp2
   go_roundw
   case rel=>exact⟨i,L7,Q.set i q,h7.o,by go_num,M.o.1,M.o.2.1,M.o.2.2.1,M.o.2.2.2⟩
   simp[intOf]
def CT (B:Nat)(w:World)(v u:Value)(a b Q U:List Nat):Prop:=
 (Kz B w v Q/\Kz B w u U)/\(isTrim Q/\isTrim U)/\(Q.length<=a.length/\U.length<=b.length+3)/\val a=val Q*val b+val U/\val U<val b
theorem LH (x y:Nat)(h:Tv x y<0):x<y:=by
 unfold Tv at h
 split at h
 ·assumption
 split at h<;>omega
theorem Q3 (a b:List Nat)(ha:okL a)(hb:okL b)(ta:isTrim a)(tb:isTrim b)(hcm:Ny a b<0):val a<val b:=by
 rw[Hn a b ha hb ta tb] at hcm;exact LH _ _ hcm
theorem RF (a b:List Nat)(hcm:0<=Ny a b):b.length<=a.length:=by
 unfold Ny at hcm
 by_cases h3:a.length<b.length
 ·simp[h3] at hcm<;>omega
 omega
theorem Wi (a b:List Nat)(hcm:Ny a b<0):a.length<=b.length:=by
 unfold Ny at hcm
 by_cases h3:b.length<a.length
 ·by_cases h4:a.length<b.length
  ·omega
  simp[h3,h4] at hcm<;>omega
 omega
theorem Pw (B:Nat)(va vb:Value)(a b:List Nat)(w:World)(hBw:B<=w.heap.size)(ha:Kz B w va a)(hb:Kz B w vb b)(hla:a.length<=100000)(hta:isTrim a)(htb:isTrim b)(hne:b≠[]) :
 Calls prog 197 #[va,vb] w fun e w'=>∃ v u Q U,e=.returned (.tuple #[v,u])/\CT B w' v u a b Q U/\Up w w':=by
 have HA:=Hd ha;have HB:=Hd hb;have G:Hid (isTrim a/\isTrim b/\b≠[]/\B<=w.heap.size):=⟨hta,htb,hne,hBw⟩;obtain⟨pa,ca,rfl,g2,c6,J,_⟩:=ha;obtain⟨pb,cb,rfl,g3,c8,K,_⟩:=hb;have Z:Hid (okL a/\okL b):=⟨J,K⟩;obtain⟨c,hc⟩:=Oa (Ny a b);have HC:=Hd hc;have I : -1<=c/\c<=1:=by rw[<-hc];exact Rq a b
 obtain⟨h6,h7⟩:=I;clear hc hta htb hne hBw J K c6 c8
 by_cases d1:c<0
 ·have Y:Hid (CT B w (.slice none 0 0) (.slice pa a.length ca) a b [] a):=by
   have hv:=Q3 a b Z.o.1 Z.o.2 G.o.1 G.o.2.1 (by rw[HC.o];exact d1);have hl:=Wi a b (by rw[HC.o];exact d1);exact⟨⟨⟨none,0,rfl,leR,(by unfold maxLen;omega),(fun x hx=>by cases hx),.inl rfl⟩,HA.o⟩,⟨fun h=>absurd rfl h,G.o.1⟩,⟨Jr _,by omega⟩,by simp[val],hv⟩
  go_in
  go_wp2_with fail
  refine (E7 B _ _ a b _ HA.o HB.o).mono ?_;rintro e w1 ⟨rfl,j⟩;rw[HC.o];have d:=Hd j;clear j
  go_wp2
  go_ret2
  exact⟨_,_,[],a,rfl,⟨⟨Y.o.1.1.bl d.o,Y.o.1.2.bl d.o⟩,Y.o.2⟩,d.o⟩
 have e3:Hid (b.length<=a.length):=RF a b (by rw[HC.o];omega)
 by_cases h1:b.length=1
 ·obtain⟨y,rfl⟩:∃ y,b=[y]:=by
   match b,h1 with
   | [y],_=>exact⟨y,rfl⟩
  have d7:=P5 [y] 0 rfl G.o.2.1;have h9:=Z.o.2 y (by simp);have f8:0<y:=by
   simp at d7;omega
  obtain⟨_,_,_,_,I⟩:=HB.o.cells;obtain⟨bb,ob,rfl,e5,d0⟩:=I 0 (by simp);have M:w.cell? ⟨bb,ob+0,none⟩=some (.int .u32 (y:Nat)):=d0;have e1:Hid (∀ W,Up w W->W.cell? ⟨bb,ob,none⟩=some (.int .u32 (y:Nat))):=fun W hW=>(hW.cell (p:=⟨bb,ob,none⟩) e5).trans M;clear d0 M I d7
  go_in
  go_wp2_with fail
  refine (E7 B _ _ a [y] _ HA.o HB.o).mono ?_;rintro e w1 ⟨rfl,j⟩;rw[HC.o];have d:=Hd j;have a8:=e1.o _ j;clear j
  go_wp2_with fail
  refine (R4 B _ a y _ (HA.o.bl d.o) hla f8 (by omega)).mono ?_;rintro e w2 ⟨v,q,r,rfl,hL,d4,O,A,hr,hb2⟩;have HL:Hid (Kz B w2 v q):=hL.mono (by have:=d.o.size;have:=G.o.2.2.2;omega);have HV:Hid (isTrim q/\q.length<=a.length/\val a=val q*y+r/\r<y):=⟨d4,O,A,hr⟩;have E:=d.up hb2;obtain⟨pv,cv,hv,_⟩:=hL;subst hv;clear d4 O A hb2 a8
  go_wp2_with fail
  refine (Qx r _ (by omega)).mono ?_;rintro e w3 ⟨u,t,rfl,hu,d5,b3,e8,a7⟩;have Y:Hid (CT B w3 (.slice pv q.length cv) u a [y] q t):=by
   refine⟨⟨HL.o.bl a7,hu.mono (by have:=E.o.size;have:=G.o.2.2.2;omega)⟩,⟨HV.o.1,d5⟩,⟨HV.o.2.1,by omega⟩,?_,?_⟩
   ·rw[b3];simp only[val];exact HV.o.2.2.1
   rw[b3];simp only[val];exact HV.o.2.2.2
  have e0:=E.up a7;obtain⟨pu,cu,e9,_⟩:=hu;subst e9;clear d5 b3 e8 a7
  go_wp2
  go_ret2
  exact⟨_,_,q,t,rfl,Y.o,e0.o⟩
 have hp:b.length≠0:=fun h=>G.o.2.2.1 (Jw h);obtain⟨k,hk⟩:∃ k,b.length=k+2:=⟨b.length - 2,by omega⟩;obtain⟨m,hm⟩:∃ m,a.length=k+2+m:=⟨a.length - (k+2),by have:=e3.o;omega⟩;have HK:Hid (b.length=k+2/\a.length=k+2+m/\k+2+m<=100000):=⟨hk,hm,by omega⟩;have z1:((b.length:Int)==1)=false:=by rw[Jb];omega
 clear hk hm
 go_in
 go_wp2_with fail
 refine (E7 B _ _ a b _ HA.o HB.o).mono ?_;rintro e w1 ⟨rfl,j⟩;rw[HC.o];have d:=Hd j;clear j
 go_wp2_with fail
 refine (Ww B (.slice pa a.length ca) (.slice pb b.length cb) a b k m w1 (HA.o.bl d.o) (HB.o.bl d.o) HK.o.1 HK.o.2.1 HK.o.2.2 G.o.2.1).mono ?_;rintro e w2 ⟨v,u,Q,U,rfl,hv,hu,d2,d3,e6,e7,A,V,hb2⟩;have Y:Hid (CT B w2 v u a b Q U):=by
  have b9:B<=w1.heap.size:=by have:=d.o.size;have:=G.o.2.2.2;omega
  exact⟨⟨hv.mono b9,hu.mono b9⟩,⟨d2,d3⟩,⟨by have:=HK.o;omega,by have:=HK.o;omega⟩,A,V⟩
 have E:=d.up hb2;clear hv hu d2 d3 e6 e7 A V hb2
 go_wp2
 go_ret2
 exact⟨_,_,Q,U,rfl,Y.o,E.o⟩
end Go.Proofs.YtdmdmgfjpomdbaaGreatDoor.Q
namespace Go.Proofs.YtdmdmgfjpomdbaaGreatDoor.Q
open ChangeShapes WideShapes ChangeAt RowKit Shelf Proofs.Tryz
def RD:Go.Shelf.Ren:=⟨fun|41=>224|n=>n,fun|22=>117|23=>149|4=>4|n=>n,fun|n=>n⟩
theorem GI:Go.Proofs.SlLaysE0.n41 prog RD:={
 mixed:=by kernel_rfl
 f41:=⟨Tryz.f224.name,by decide,func224.trans (congrArg some (by kernel_rfl))⟩
 t4:=underlying4
 a4:=Tryz.isAgg4
 z4:=Tryz.sizeOf4
 v4:=Tryz.zeroValue4
 t22:=underlying117
 a22:=Tryz.isAgg117
 z22:=Tryz.sizeOf117
 v22:=Tryz.zeroValue117 }
theorem GX (b off n c:Nat)(a:List Nat)(w:World)(hl:a.length=n)(hn:n<=1000000)(hc:∀ j,j<a.length->w.cell? ⟨b,off+j,none⟩=some (.int .u32 (a.getD j 0:Nat))) :
 Calls prog 224 #[.slice (some ⟨b,off,none⟩) n c] w fun e w'=>∃ g cap,e=.returned (.slice (some ⟨g,0,none⟩) n cap)/\n<=cap/\cap<=maxLen/\w.heap.size<=g/\U7 w' g a/\Up w w':=by
 obtain⟨i0,d,I,J,K⟩:=info_parts info_u32;refine (AnyE.slices_Clone GI i0 (.int .u32 0) 1 4 d I J K rfl (by omega) Tryz.sizeOf149 b off n c (Gg a) w (by simp[hl]) (by unfold maxLen;omega) (by omega) ?_ ?_).mono ?_
 ·intro j u O;simp only[Gg,Y6,Option.map_eq_some_iff] at O;obtain⟨x,Z,rfl⟩:=O;obtain⟨E,b3⟩:=Zq.1 Z;rw[hc j E,Ji,Z];rfl
 ·intro v Y;simp only[Gg,Zh] at Y;obtain⟨x,_,rfl⟩:=Y;rfl
 rintro e w' ⟨v',rfl,h,G,hb⟩
 rcases h.2 with⟨e,_⟩|⟨g,cap,A,e,hg,hb2,M,U,a8,V⟩
 ·exact absurd e G
 refine⟨g,cap,by rw[e],by omega,by omega,hg,⟨A.toList.drop n,?_⟩,hb⟩;rw[hb2];rw[Z8] at V;rw[<-V,Zi,Array.toArray_toList];rfl
end Go.Proofs.YtdmdmgfjpomdbaaGreatDoor.Q
namespace Go.Proofs.YtdmdmgfjpomdbaaGreatDoor.Q
open ChangeShapes WideShapes ChangeAt RowKit Proofs.Tryz
theorem Td (B ba oa ca:Nat)(vb:Value)(a b:List Nat)(w:World)(ha:Kz B w (.slice (some ⟨ba,oa,none⟩) a.length ca) a)(hb:Kz B w vb b)(hla:a.length<=100000)(hlb:b.length<=a.length)(hle:val b<=val a) :
 Calls prog 199 #[.slice (some ⟨ba,oa,none⟩) a.length ca,vb] w fun e w'=>∃ v L,e=.returned v/\Kz w.heap.size w' v L/\val L+val b=val a/\L.length<=a.length/\isTrim L/\Up w w':=by
 obtain⟨pb,cb,rfl,_⟩:=id hb;obtain⟨_,_,_,J,U⟩:=ha.cells;obtain⟨_,_,_,O,Y⟩:=hb.cells;have HA:Hid (∀ i,i<a.length->w.cell? ⟨ba,oa+i,none⟩=some (.int .u32 (a.getD i 0:Nat))):=fun i hi=>by
  obtain⟨b',d0,e,_,hc⟩:=U i hi;simp only[Option.some.injEq,Addr.mk.injEq,and_true] at e;obtain⟨rfl,rfl⟩:=e;exact hc
 have HB:=Hd Y;have a8:=Hd hle;clear U Y ha hb hle
 go_in
 go_wp2_with fail
 refine (GX ba oa a.length ca a _ rfl (by omega) HA.o).mono ?_;rintro e w1 ⟨g,cap,rfl,V,E,hg,hR,K⟩;have HR:=Hd hR;have G:=Hd K;have b3:=Hd E;clear hR K E
 go_wp2_with fail
 refine (Au g a.length cap 1 _ pb cb a b w1 HR.o J leR (by omega) hlb O rfl V (by omega) ?_).mono ?_
 ·intro i hi;obtain⟨c,Z,e,hc,b5⟩:=HB.o i hi;exact⟨c,Z,e,by omega,by rw[G.o.cell (p:=⟨c,Z+i,none⟩) hc];exact b5⟩
 rintro e w3 ⟨c,L,rfl,I,A,d,b6,hc,j,M⟩;have a7:Hid (Up w w3):=G.o.trans (M.mono hg);have HI:Hid (Kz w.heap.size w3 (.slice (some ⟨g,0,none⟩) a.length cap) L):=by
  have h:=I.isL (B:=w.heap.size) (cap:=cap) hg d (by omega) b3.o;rw[A] at h;exact h
 have HV:Hid (val L+val b=val a/\L.length=a.length):=by
  refine⟨?_,A⟩;rw[Zx,Jl (by omega),Jl leR] at j;exact Tc (1000000000 ^ a.length) c _ _ _ j (by rw[<-A];exact G6 L d) a8.o
 clear I A d b6 j M
 go_wp2_with fail
 refine (Nl w.heap.size _ L _ HI.o).mono ?_;rintro e w5 ⟨v,rfl,hcut,rfl⟩;have HW:Hid (Kz w.heap.size w5 v (Og L)):=hcut _ _ HI.o;have HT:Hid (val (Og L)+val b=val a/\(Og L).length<=a.length/\isTrim (Og L)):=⟨by rw[O4];exact HV.o.1,by have:=Kd L;have:=HV.o.2;omega,trimL_trim _⟩;obtain⟨pv,cv,hv,_⟩:=HW.o;subst hv;clear hcut
 go_wp2
 go_ret
 exact⟨_,_,rfl,HW.o,HT.o.1,HT.o.2.1,HT.o.2.2,a7.o⟩
theorem Tp (B:Nat)(va vb:Value)(a b:List Nat)(w:World)(ha:Kz B w va a)(hb:Kz B w vb b)(hne:a≠[])(hla:a.length<=100000)(hlb:b.length<=a.length)(hle:val b<=val a) :
 Calls prog 199 #[va,vb] w fun e w'=>∃ v L,e=.returned v/\Kz w.heap.size w' v L/\val L+val b=val a/\L.length<=a.length/\isTrim L/\Up w w':=by
 obtain⟨J,j,rfl,hl,d,A,E⟩:=id ha
 rcases E with h|⟨I,G,rfl,_⟩
 ·exact absurd h hne
 exact Td B _ _ j vb a b w ha hb hla hlb hle
theorem Wf (w w1:World)(R n:Nat)(pa:Option Addr)(ca:Nat)(a:List Nat)(hn:a.length<=n)(hR:Hp w1 R (List.replicate n 0))(hRw:w.heap.size<=R)(hB1:Up w w1)
 (hA:∀ i,i<a.length->∃ b off,pa=some ⟨b,off,none⟩/\b<w.heap.size/\w.cell? ⟨b,off+i,none⟩=some (.int .u32 (a.getD i 0:Nat))) :
 ∃ w2,(∀ ty,(Builtin.copy_ #[117,117] ty #[.slice (some ⟨R,0,none⟩) n n,.slice pa a.length ca]).run prog w1=.ok (goInt a.length) w2)/\Hp w2 R (a++List.replicate (n - a.length) 0)/\Up w w2:=by
 have O:=underlying117;have M:(prog.info? 149).map (·.size)=some 1:=by
  obtain⟨i0,d,a7,I,a8⟩:=info_parts info_u32;rw[d];simp[I]
 by_cases J:a.length=0
 ·have e:a=[]:=Jw J;refine⟨w1,fun ty=>?_,?_,hB1⟩
  ·rw[J];exact Go.run_copy_none w1 _ _ ty _ _ pa n n 0 ca O M (by simp)
  subst e;simpa using hR
 obtain⟨b,off,rfl,hb,_⟩:=hA 0 (by omega);refine⟨w1.setRow R (Gg (a++List.replicate (n - a.length) 0)).toArray,fun ty=>?_,setRow_heap w1 R _ _ _ _ hR,below_setRow hB1 hRw _⟩;have h:=Go.run_copy_row (P:=prog) w1 117 117 ty 149 R 0 n n ⟨b,off,none⟩ a.length ca _ _ (Gg a) O M hR ?_ ?_ ?_ ?_
 ·have e:(Gg (List.replicate n 0)).drop a.length=Gg (List.replicate (n - a.length) 0):=by simp[Gg]
  simp only[List.take_zero,Z4,Y8,Zy,e,<-Yr] at h;exact h
 ·simp[hn]
 ·intro j v K;simp only[Gg,Y6,Option.map_eq_some_iff] at K;obtain⟨x,V,rfl⟩:=K;obtain⟨G,Z⟩:=Zq.1 V;obtain⟨b',Y,e,A,E⟩:=hA j G;simp only[Option.some.injEq,Addr.mk.injEq,and_true] at e;obtain⟨rfl,rfl⟩:=e;rw[show (Addr.add ⟨b,off,none⟩ j)=⟨b,off+j,none⟩ by simp[Addr.add],hB1.cell (p:=⟨b,off+j,none⟩) A,E,Ji,V];rfl
 ·simp;omega
 intro v U;simp only[Gg,Zh] at U;obtain⟨x,_,rfl⟩:=U;rfl
theorem T6 (B:Nat)(va vb:Value)(a b:List Nat)(w:World)(ha:Kz B w va a)(hb:Kz B w vb b)(hla:a.length<=100000)(hlb:b.length<=a.length) :
 Calls prog 198 #[va,vb] w fun e w'=>∃ v L,e=.returned v/\Kz w.heap.size w' v L/\val L=val a+val b/\L.length<=a.length+1/\isTrim L/\Up w w':=by
 obtain⟨i0,b8,d6,d7,d8⟩:=info_parts info_u32;obtain⟨pa,ca,rfl,_⟩:=id ha;obtain⟨pb,cb,rfl,_⟩:=id hb;obtain⟨_,_,_,a8,b5⟩:=ha.cells;obtain⟨_,_,_,b4,b6⟩:=hb.cells;have HA:=Hd b5;have HB:=Hd b6;clear b5 b6 ha hb
 go_in
 go_wp2_with (at_make;refine wpList_make_full _ rfl _ _ 117 rfl w.heap.size 149 i0 (.int .u32 0) 1 underlying117 b8 d6 d7 .i64 .i64 _ _ (a.length+1) rfl rfl ?m0 ?m1 ?m2 ?m3 ?m4 ?_)
 try (case m0=>first|rfl|omega)
 try (case m1=>first|rfl|omega)
 try (case m2=>(first|omega|(rw[d8];omega)))
 try (case m3=>(unfold maxLen;omega))
 try (case m4=>exact leR)
 intro w1 d b7
 first|rw[Ep] at d|rw[Eu] at d
 have hR:Hp w1 w.heap.size (List.replicate (a.length+1) 0):=Kj d;have V:Up w w1:=(Je _ _).grown b7 leR (fun k h=>by cases h);clear d b7;obtain⟨w2,e4,K,Y⟩:=Wf w w1 w.heap.size (a.length+1) pa ca a (by omega) hR leR V HA.o;rw[show a.length+1 - a.length=1 by omega] at K;have d0:=Hd K;have O:=Hd Y;have b9:okL (a++List.replicate 1 0):=fun x hx=>by
  rcases Zm.1 hx with h|h
  ·exact a8 x h
  simp at h;omega
 clear hR V K Y
 go_wp2_with fail
 refine (Cm w.heap.size a.length (a.length+1) _ pb cb (a++List.replicate 1 0) b w2 d0.o b9 (by simp) (by simp;omega) hlb b4 rfl (by omega) ?_).mono ?_
 ·intro i hi;obtain⟨c,c6,e,hc,d3⟩:=HB.o i hi;exact⟨c,c6,e,hc,by rw[O.o.cell (p:=⟨c,c6+i,none⟩) hc];exact d3⟩
 rintro e w3 ⟨c,L,rfl,A,J,E,d4,hc,G,b3⟩;have Z:Up w w3:=O.o.trans b3;have M:=A.cell a.length (by rw[J];simp);have d5:=A.frozen a.length;have I:Hid (Hp (w3.setCell ⟨w.heap.size,a.length,none⟩ (.int .u32 (c:Nat))) w.heap.size (L.set a.length c)):=A.set _ _;have U:Hid (Up w (w3.setCell ⟨w.heap.size,a.length,none⟩ (.int .u32 (c:Nat)))):=Z.setCell leR _;have j:Hid (okL (L.set a.length c)/\(L.set a.length c).length=a.length+1/\val (L.set a.length c)=val a+val b):=by
  have hl:L.length=a.length+1:=by rw[J];simp
  refine⟨Kn L E _ _ (by omega),by simp[hl],?_⟩;have h1:=O2 L a.length c (by omega);rw[Jl (by simp[hl])] at h1;rw[h1,G];simp
 clear A J E d4 G b3 Z
 go_wp2_with fail
 obtain⟨W4,a7⟩:=Oa (w3.setCell ⟨w.heap.size,a.length,none⟩ (.int .u32 (c:Nat)));rw[a7] at I U ⊢;generalize L.set a.length c=N at I j;have hI:Kz w.heap.size W4 (.slice (some ⟨w.heap.size,0,none⟩) (a.length+1) (a.length+1)) N:=by
  have h:=I.o.isL (B:=w.heap.size) (cap:=a.length+1) leR j.o.1 (by have:=j.o.2.1;omega) (by unfold maxLen;omega);rw[j.o.2.1] at h;exact h
 clear a7 M d5;refine (Nl w.heap.size _ N _ hI).mono ?_;rintro e w5 ⟨v,rfl,hcut,rfl⟩;have HV:Hid (Kz w.heap.size w5 v (Og N)):=hcut _ _ hI;have HT:Hid (val (Og N)=val a+val b/\(Og N).length<=a.length+1/\isTrim (Og N)):=⟨by rw[O4];exact j.o.2.2,by have:=Kd N;have:=j.o.2.1;omega,trimL_trim _⟩;obtain⟨pv,cv,hv,_⟩:=HV.o;subst hv;clear hcut hI
 go_wp2
 go_ret
 exact⟨_,_,rfl,HV.o,HT.o.1,HT.o.2.1,HT.o.2.2,U.o⟩
theorem T7 (B:Nat)(va vb:Value)(a b:List Nat)(w:World)(ha:Kz B w va a)(hb:Kz B w vb b)(hla:a.length<=100000)(hlb:b.length<a.length) :
 Calls prog 198 #[vb,va] w fun e w'=>∃ v L,e=.returned v/\Kz w.heap.size w' v L/\val L=val a+val b/\L.length<=a.length+1/\isTrim L/\Up w w':=by
 obtain⟨i0,b8,d6,d7,d8⟩:=info_parts info_u32;obtain⟨pa,ca,rfl,_⟩:=id ha;obtain⟨pb,cb,rfl,_⟩:=id hb;obtain⟨_,_,_,a8,b5⟩:=ha.cells;obtain⟨_,_,_,b4,b6⟩:=hb.cells;have HA:=Hd b5;have HB:=Hd b6;clear b5 b6 ha hb
 go_in
 go_wp2_with (at_make;refine wpList_make_full _ rfl _ _ 117 rfl w.heap.size 149 i0 (.int .u32 0) 1 underlying117 b8 d6 d7 .i64 .i64 _ _ (a.length+1) rfl rfl ?m0 ?m1 ?m2 ?m3 ?m4 ?_)
 try (case m0=>first|rfl|omega)
 try (case m1=>first|rfl|omega)
 try (case m2=>(first|omega|(rw[d8];omega)))
 try (case m3=>(unfold maxLen;omega))
 try (case m4=>exact leR)
 intro w1 d b7
 first|rw[Ep] at d|rw[Eu] at d
 have hR:Hp w1 w.heap.size (List.replicate (a.length+1) 0):=Kj d;have V:Up w w1:=(Je _ _).grown b7 leR (fun k h=>by cases h);clear d b7;obtain⟨w2,e4,K,Y⟩:=Wf w w1 w.heap.size (a.length+1) pa ca a (by omega) hR leR V HA.o;rw[show a.length+1 - a.length=1 by omega] at K;have d0:=Hd K;have O:=Hd Y;have b9:okL (a++List.replicate 1 0):=fun x hx=>by
  rcases Zm.1 hx with h|h
  ·exact a8 x h
  simp at h;omega
 clear hR V K Y
 go_wp2_with fail
 refine (Cm w.heap.size a.length (a.length+1) _ pb cb (a++List.replicate 1 0) b w2 d0.o b9 (by simp) (by simp;omega) (by omega) b4 rfl (by omega) ?_).mono ?_
 ·intro i hi;obtain⟨c,c6,e,hc,d3⟩:=HB.o i hi;exact⟨c,c6,e,hc,by rw[O.o.cell (p:=⟨c,c6+i,none⟩) hc];exact d3⟩
 rintro e w3 ⟨c,L,rfl,A,J,E,d4,hc,G,b3⟩;have Z:Up w w3:=O.o.trans b3;have M:=A.cell a.length (by rw[J];simp);have d5:=A.frozen a.length;have I:Hid (Hp (w3.setCell ⟨w.heap.size,a.length,none⟩ (.int .u32 (c:Nat))) w.heap.size (L.set a.length c)):=A.set _ _;have U:Hid (Up w (w3.setCell ⟨w.heap.size,a.length,none⟩ (.int .u32 (c:Nat)))):=Z.setCell leR _;have j:Hid (okL (L.set a.length c)/\(L.set a.length c).length=a.length+1/\val (L.set a.length c)=val a+val b):=by
  have hl:L.length=a.length+1:=by rw[J];simp
  refine⟨Kn L E _ _ (by omega),by simp[hl],?_⟩;have h1:=O2 L a.length c (by omega);rw[Jl (by simp[hl])] at h1;rw[h1,G];simp
 clear A J E d4 G b3 Z
 go_wp2_with fail
 obtain⟨W4,a7⟩:=Oa (w3.setCell ⟨w.heap.size,a.length,none⟩ (.int .u32 (c:Nat)));rw[a7] at I U ⊢;generalize L.set a.length c=N at I j;have hI:Kz w.heap.size W4 (.slice (some ⟨w.heap.size,0,none⟩) (a.length+1) (a.length+1)) N:=by
  have h:=I.o.isL (B:=w.heap.size) (cap:=a.length+1) leR j.o.1 (by have:=j.o.2.1;omega) (by unfold maxLen;omega);rw[j.o.2.1] at h;exact h
 clear a7 M d5;refine (Nl w.heap.size _ N _ hI).mono ?_;rintro e w5 ⟨v,rfl,hcut,rfl⟩;have HV:Hid (Kz w.heap.size w5 v (Og N)):=hcut _ _ hI;have HT:Hid (val (Og N)=val a+val b/\(Og N).length<=a.length+1/\isTrim (Og N)):=⟨by rw[O4];exact j.o.2.2,by have:=Kd N;have:=j.o.2.1;omega,trimL_trim _⟩;obtain⟨pv,cv,hv,_⟩:=HV.o;subst hv;clear hcut hI
 go_wp2
 go_ret
 exact⟨_,_,rfl,HV.o,HT.o.1,HT.o.2.1,HT.o.2.2,U.o⟩
theorem Sd (B:Nat)(va vb:Value)(a b:List Nat)(w:World)(ha:Kz B w va a)(hb:Kz B w vb b)(hla:a.length<=100000)(hlb:b.length<=100000) :
 Calls prog 198 #[va,vb] w fun e w'=>∃ v L,e=.returned v/\Kz w.heap.size w' v L/\val L=val a+val b/\(L.length<=a.length+1∨L.length<=b.length+1)/\isTrim L/\Up w w':=by
 by_cases h:b.length<=a.length
 ·refine (T6 B va vb a b w ha hb hla h).mono ?_;rintro e w' ⟨v,L,d,h2,h3,h4,h5⟩;exact⟨v,L,d,h2,h3,.inl h4,h5⟩
 refine (T7 B vb va b a w hb ha hlb (by omega)).mono ?_;rintro e w' ⟨v,L,d,h2,h3,h4,h5⟩;exact⟨v,L,d,h2,by rw[h3,Nat.add_comm],.inr h4,h5⟩
theorem GT (x z:Int)(y:Bool)(w:World):(Instr.field 209 (.agg #[.int .i64 x,.bool y,.int .i64 z]) 2).run prog w=.ok (.int .i64 z) w:=by kernel_rfl
theorem Wq (B:Nat)(na nb:Bool)(va vb:Value)(a b:List Nat)(w:World)(ha:Kz B w va a)(hb:Kz B w vb b)(h:SP w) :
 Calls prog 201 #[.agg #[.bool na,va],.agg #[.bool nb,vb]] w fun e w'=>e=.returned (.int .i64 (VV na nb a b))/\Up w w':=by
 obtain⟨U,M,rfl,_⟩:=id ha;obtain⟨V,O,rfl,_⟩:=id hb;obtain⟨G,d⟩:=Oa ((w.alloc (.cells #[.bool na,.slice U a.length M] 155)).alloc (.cells #[.bool nb,.slice V b.length O] 155));have a8:=Hd d;have j:Up w G:=by rw[<-d];exact ((Je _ w).alloc leR _).alloc (by simp) _
 have b8:G.heap.size=w.heap.size+2:=by rw[<-d];simp
 have HA:Hid (Kz B G (.slice U a.length M) a):=ha.bl j;have HB:Hid (Kz B G (.slice V b.length O) b):=hb.bl j;have HS:Hid (SP G):=h.bl j;have Z:=Hd j;have HX:Hid (∀ W,Up G W->W.cell? ⟨w.heap.size,0,none⟩=some (.bool na)/\W.cell? ⟨w.heap.size,1,none⟩=some (.slice U a.length M)/\W.cell? ⟨w.heap.size+1,1,none⟩=some (.slice V b.length O)):=fun W hW=>by
  refine⟨?_,?_,?_⟩
  ·rw[hW.cell (p:=⟨w.heap.size,0,none⟩) (by show w.heap.size<_;omega),<-d,Jy _ _ _ (by simp),Jn _ _ _ _ rfl];rfl
  ·rw[hW.cell (p:=⟨w.heap.size,1,none⟩) (by show w.heap.size<_;omega),<-d,Jy _ _ _ (by simp),Jn _ _ _ _ rfl];rfl
  rw[hW.cell (p:=⟨w.heap.size+1,1,none⟩) (by show w.heap.size+1<_;omega),<-d,Jn _ _ _ _ (by simp)];rfl
 clear ha hb h j d;have b7:=GT
 go_in
 go_wp2_with fail
 rw[a8.o];refine (Xq na nb U a.length M V b.length O G HS.o).mono ?_;rintro e Y ⟨rfl,A⟩;obtain⟨x0,x1,x2⟩:=HX.o Y A;have J:Hid (Kz B Y (.slice U a.length M) a):=HA.o.bl A;have K:Hid (Kz B Y (.slice V b.length O) b):=HB.o.bl A;have E:Hid (Up w Y):=Z.o.trans (A.mono (by omega));clear A HA HB HS HX
 cases na<;>cases nb
 case' _=>
  have I:Hid (VV false false a b=Ny a b):=rfl;simp only[ZV,ZU,if_true]
  go_wp2_with fail
  refine (E7 B _ _ a b _ J.o K.o).mono ?_
 rotate_left
 ·have I:Hid (VV false true a b=1):=rfl;simp only[ZV,ZU]
  go_wp2
  go_ret
  exact⟨Eo I.o.symm,E.o⟩
 ·have I:Hid (VV true false a b = -1):=rfl;simp only[ZV,ZU]
  go_wp2
  go_ret
  exact⟨Eo I.o.symm,E.o⟩
 case' _=>
  have I:Hid (VV true true a b=Ny b a):=rfl;simp only[ZV,ZU,if_true]
  go_wp2_with fail
  refine (E7 B _ _ b a _ K.o J.o).mono ?_
 rotate_left
 all_goals
  rintro e w2 ⟨rfl,hb2⟩;have a7:=E.up hb2;clear hb2
  go_wp2
  go_ret
  exact⟨Eo I.o.symm,a7.o⟩
end Go.Proofs.YtdmdmgfjpomdbaaGreatDoor.Q
namespace Go.Proofs.YtdmdmgfjpomdbaaGreatDoor.Q
open ChangeShapes WideShapes ChangeAt RowKit
def Hr (B:Nat)(w:World)(z:Value)(x:Int)(n:Nat):Prop:=∃ neg v t,z=.agg #[.bool (Ky neg t),v]/\Kz B w v t/\isTrim t/\sg neg (val t)=x/\t.length<=n
structure BoxI (g:Nat)(W:World)(x:Bool)(pa:Option Addr)(la ca:Nat)(y:Bool)(pb:Option Addr)(lb cb:Nat):Prop where
 a0:W.cell? ⟨g,0,none⟩=some (.bool x)
 a1:W.cell? ⟨g,1,none⟩=some (.slice pa la ca)
 b0:W.cell? ⟨g+1,0,none⟩=some (.bool y)
 b1:W.cell? ⟨g+1,1,none⟩=some (.slice pb lb cb)
 r0:W.cell? ⟨g+2,0,none⟩=some (.bool false)
 r1:W.cell? ⟨g+2,1,none⟩=some (.slice none 0 0)
 f:∀ k,k<3->∀ i,W.frozen? ⟨g+k,i,none⟩=false
theorem BoxI.bl {g:Nat}{W W':World}{x:Bool}{pa:Option Addr}{la ca:Nat}{y:Bool}{pb:Option Addr}{lb cb:Nat}(h:BoxI g W x pa la ca y pb lb cb){N:Nat}(hN:g+3<=N)(hb:Below N W W'):BoxI g W' x pa la ca y pb lb cb:=by
 have q:∀ k,k<3->∀ i,W'.cell? ⟨g+k,i,none⟩=W.cell? ⟨g+k,i,none⟩:=fun k hk i=>hb.cell (p:=⟨g+k,i,none⟩) (by show g+k<N;omega);have f:∀ k,k<3->∀ i,W'.frozen? ⟨g+k,i,none⟩=W.frozen? ⟨g+k,i,none⟩:=fun k hk i=>hb.frozen (p:=⟨g+k,i,none⟩) (by show g+k<N;omega);exact⟨(q 0 (by omega) 0).trans h.a0,(q 0 (by omega) 1).trans h.a1,(q 1 (by omega) 0).trans h.b0,(q 1 (by omega) 1).trans h.b1,(q 2 (by omega) 0).trans h.r0,(q 2 (by omega) 1).trans h.r1,fun k hk i=>(f k hk i).trans (h.f k hk i)⟩
theorem NK (a b:List Nat)(ha:okL a)(hb:okL b)(ta:isTrim a)(tb:isTrim b)(hcm:0<=Ny a b):b.length<=a.length/\val b<=val a:=by
 have h:=Hn a b ha hb ta tb;have h2:=hcm;rw[h] at h2;refine⟨?_,?_⟩
 ·unfold Ny at hcm
  by_cases h3:a.length<b.length
  ·simp[h3] at hcm<;>omega
  by_cases h4:b.length<a.length
  ·simp[h3,h4] at hcm<;>omega
  omega
 unfold Tv at h2
 split at h2<;>(try split at h2)<;>omega
end Go.Proofs.YtdmdmgfjpomdbaaGreatDoor.Q
namespace Go.Proofs.YtdmdmgfjpomdbaaGreatDoor.Q
open ChangeShapes WideShapes ChangeAt RowKit Proofs.Tryz
theorem Hr.bl {B:Nat}{w w':World}{z:Value}{x:Int}{n:Nat}(h:Hr B w z x n)(hb:Up w w'):Hr B w' z x n:=by
 obtain⟨neg,v,t,d,h2,h3⟩:=h;exact⟨neg,v,t,d,h2.bl hb,h3⟩
theorem Hr.mono {B B':Nat}{w:World}{z:Value}{x:Int}{n n':Nat}(h:Hr B w z x n)(hb:B'<=B)(hn:n<=n'):Hr B' w z x n':=by
 obtain⟨neg,v,t,d,h2,h3,h4,h5⟩:=h;exact⟨neg,v,t,d,h2.mono hb,h3,h4,by omega⟩
theorem YN (B:Nat)(z:Value)(x:Int)(n:Nat)(w:World)(h:Hr B w z x n) :
 Calls prog 180 #[z] w fun e w'=>∃ z',e=.returned z'/\Hr B w' z' (-x) n/\Up w w':=by
 obtain⟨neg,v,t,rfl,M,V,Y,hl⟩:=h;obtain⟨p,c,rfl,_⟩:=id M;obtain⟨s,K⟩:=Oa (Ky neg t);have HX:Hid (sg (!s) (val t) = -x):=by
  unfold Hid
  rw[<-K,KJ,I6,Y]
 have O:Hid (∀ W,Up w W->Kz B W (.slice p t.length c) t):=fun W hW=>M.bl hW;have HT:Hid (isTrim t/\t.length<=n):=⟨V,hl⟩;obtain⟨j,d⟩:=Oa ((w.alloc (.cells #[.bool s,.slice p t.length c] 155)).alloc (.cells #[.bool false,.slice none 0 0] 155));have J:=E8 d;have A:Hid (Up w j):=by rw[<-d];exact Ob (Oz _ _) _
 have I:j.heap.size=w.heap.size+2:=by rw[<-d];simp
 have Z:Hid (∀ W,Up j W->(W.cell? ⟨w.heap.size+1,0,none⟩=some (.bool false)/\W.cell? ⟨w.heap.size+1,1,none⟩=some (.slice none 0 0)/\W.frozen? ⟨w.heap.size+1,0,none⟩=false/\W.frozen? ⟨w.heap.size+1,1,none⟩=false)/\W.cell? ⟨w.heap.size,0,none⟩=some (.bool s)/\W.cell? ⟨w.heap.size,1,none⟩=some (.slice p t.length c)):=fun W hW=>by
  have q:∀ k,k<2->∀ i,W.cell? ⟨w.heap.size+k,i,none⟩=j.cell? ⟨w.heap.size+k,i,none⟩:=fun k hk i=>hW.cell (p:=⟨w.heap.size+k,i,none⟩) (by show w.heap.size+k<j.heap.size;omega);have f:∀ i,W.frozen? ⟨w.heap.size+1,i,none⟩=j.frozen? ⟨w.heap.size+1,i,none⟩:=fun i=>hW.frozen (p:=⟨w.heap.size+1,i,none⟩) (by show w.heap.size+1<j.heap.size;omega);refine⟨⟨?_,?_,?_,?_⟩,?_,?_⟩
  ·rw[q 1 (by omega),<-d,Jn _ _ _ _ (by simp)];rfl
  ·rw[q 1 (by omega),<-d,Jn _ _ _ _ (by simp)];rfl
  ·rw[f,<-d,Ya _ _ _ _ (by simp)]
  ·rw[f,<-d,Ya _ _ _ _ (by simp)]
  ·refine (q 0 (by omega) 0).trans ?_;rw[<-d,Jy _ _ _ (by simp),Jn _ _ _ _ (by simp)];rfl
  refine (q 0 (by omega) 1).trans ?_;rw[<-d,Jy _ _ _ (by simp),Jn _ _ _ _ (by simp)];rfl
 have a7:=Hd I;rw[K];clear K Y V hl M d I
 go_in
 go_wp2_with fail
 rw[J.o];refine (K1 B _ _ t _ (O.o _ A.o)).mono ?_;rintro e w2 ⟨v',rfl,hcut,hb2⟩;have E:=A.up hb2;have G:Hid (∀ W,Up w W->Kz B W v' (Og t)):=fun W hW=>hcut _ _ (O.o _ hW);obtain⟨⟨r0,r1,f0,f1⟩,_,_⟩:=Z.o w2 hb2;obtain⟨pw,cw,hw,_⟩:=G.o _ E.o;subst hw;clear hcut hb2
 go_wp2
 have U:Up w ((w2.setCell ⟨w.heap.size+1,0,none⟩ (.bool (Ky (!s) (Og t)))).setCell ⟨w.heap.size+1,1,none⟩ (.slice pw (Og t).length cw)):=(E.o.setCell (by simp) _).setCell (by simp) _;refine Jg ?_ rfl ⟨_,rfl,⟨!s,_,Og t,rfl,G.o _ U,trimL_trim _,by rw[O4];exact HX.o,by have:=Kd t;have:=HT.o.2;omega⟩,U⟩;simp[results,results180,go_sem,r0,r1]
end Go.Proofs.YtdmdmgfjpomdbaaGreatDoor.Q
namespace Go.Proofs.YtdmdmgfjpomdbaaGreatDoor.Q
open ChangeShapes WideShapes ChangeAt RowKit
theorem Hr.shape {B:Nat}{w:World}{z:Value}{x:Int}{n:Nat}(h:Hr B w z x n):∃ (s:Bool) (p:Option Addr) (l c:Nat),z=.agg #[.bool s,.slice p l c]:=by
 obtain⟨neg,v,t,rfl,⟨p,c,rfl,_⟩,_⟩:=h;exact⟨_,_,_,_,rfl⟩
theorem Hr.setCell {B:Nat}{w:World}{z:Value}{x:Int}{n:Nat}(h:Hr B w z x n)(p:Addr)(u:Value)(hp:p.block<B):Hr B (w.setCell p u) z x n:=by
 obtain⟨neg,v,t,d,h2,h3⟩:=h;exact⟨neg,v,t,d,h2.setCell p u hp,h3⟩
end Go.Proofs.YtdmdmgfjpomdbaaGreatDoor.Q
namespace Go.Proofs.YtdmdmgfjpomdbaaGreatDoor.Q
open ChangeShapes WideShapes ChangeAt RowKit Proofs.Tryz
theorem Xw (s:ByteArray)(h:isIntB s=true):(lim s).length<=280:=by
 have d:(dgs s).size<=2500:=by
  by_cases h2:2500<(dgs s).size
  ·rw[Qe s _ rfl h2] at h;cases h
  omega
 have h3:=Kd (Nn (dgs s).data.toList);have h4:(Nn (dgs s).data.toList).length=Rr (dgs s).data.toList.length:=by simp[Nn]
 have h5:(dgs s).data.toList.length=(dgs s).size:=by simp
 unfold lim;rw[h4,h5] at h3;have j:Rr (dgs s).size<=280:=by unfold Rr;omega
 omega
theorem Ce (B:Nat)(z:Value)(x:Int)(n:Nat)(w:World)(h:Hr B w z x n)(hn:n<=600)(hLT:LT w) :
 Calls prog 183 #[z] w fun e w'=>∃ u,e=.returned (.string u)/\No x u/\Up w w':=by
 obtain⟨neg,v,t,rfl,j,A,E,hl⟩:=h;have d:okL t:=by obtain⟨_,_,_,_,_,h,_⟩:=j;exact h
 refine (CX B _ v t w j (by omega) hLT).mono ?_;rintro e w' ⟨rfl,hb⟩;exact⟨_,rfl,⟨neg,t,d,A,E,rfl⟩,hb⟩
end Go.Proofs.YtdmdmgfjpomdbaaGreatDoor.Q
namespace Go.Proofs.YtdmdmgfjpomdbaaGreatDoor.Q
open ChangeShapes WideShapes ChangeAt RowKit
variable {Q R a b:List Nat}{W:World}{base g i:Nat}{v:Value}
def Nw (x y q r:Int):Prop:=x=q*y+r/\0<=r/\r<y.natAbs
theorem Pi (u b:List Nat)(hu:isTrim u)(hb:okL b)(h:val u<val b):u.length<=b.length:=by
 by_cases d:u=[]
 ·rw[d];exact Jr _
 have A:=Ql u hu d;have h2:=G6 b hb;apply Z7;intro j;have h3:1000000000 ^ b.length<=1000000000 ^ (u.length - 1):=Y0 (by decide) (by omega);omega
theorem Al (t:Bool)(va vb Q U:Nat)(h:va=Q*vb+U)(hU:U<vb):Nw (sg false va) (sg t vb) (sg (false != t) Q) (sg false U):=by
 refine⟨?_,?_,?_⟩
 ·rw[h]
  cases t<;>simp[sg,Int.neg_mul_neg]
 ·simp[sg]
 cases t<;>simp[sg]<;>omega
theorem Lf (t:Bool)(va vb Q:Nat)(h:va=Q*vb+0)(hU:0<vb):Nw (sg true va) (sg t vb) (sg (true != t) Q) (sg false 0):=by
 refine⟨?_,?_,?_⟩
 ·rw[h]
  cases t<;>simp[sg,Int.neg_mul,Int.mul_neg]
 ·simp[sg]
 cases t<;>simp[sg]<;>omega
theorem Da (t:Bool)(va vb Q U V:Nat)(h:va=Q*vb+U)(hV:V+U=vb)(hU:0<U):Nw (sg true va) (sg t vb) (sg (true != t) (Q+1)) (sg false V):=by
 refine⟨?_,?_,?_⟩
 ·rw[h,<-hV]
  cases t<;>simp[sg]<;>grind
 ·simp[sg]
 cases t<;>simp[sg]<;>omega
theorem P8 {x y q r q' r':Int}(h:Nw x y q r)(h':Nw x y q' r'):q=q'/\r=r':=by
 obtain⟨d,h2,h3⟩:=h;obtain⟨E,k2,k3⟩:=h';have e:(q - q')*y=r' - r:=by
  have:=d.symm.trans E;rw[Int.sub_mul];omega
 have A:q - q'=0:=by
  apply Classical.byContradiction;intro j;have h4:(r' - r).natAbs<y.natAbs:=by omega
  rw[<-e,Int.natAbs_mul] at h4;have h5:1*y.natAbs<=(q - q').natAbs*y.natAbs:=Yg _ (by omega);omega
 rw[A,Int.zero_mul] at e;exact⟨by omega,by omega⟩
def Nh (w:World)(g:Nat):Prop:=∀ i x,w.cell? ⟨g,i,none⟩≠some (.int .u32 x)
def Ka (g h:Nat)(w W:World):Prop:=w.heap.size<=W.heap.size/\∀ b,b≠g->b≠h->W.heap[b]? = w.heap[b]?
theorem Ka.refl (g h:Nat)(w:World):Ka g h w w:=⟨leR,fun _ _ _=>rfl⟩
theorem Ka.setCell {h:Nat}{w:World}(k:Ka g h w W)(p:Addr)(u:Value)(hp:p.block=g∨p.block=h):Ka g h w (W.setCell p u):=by
 refine⟨by simpa using k.1,fun b h1 h2=>Eq.trans ?_ (k.2 b h1 h2)⟩
 show (W.heap.modify p.block _)[b]? = _
 rw[Array.getElem?_modify,if_neg (by rcases hp with e|e<;>omega)]
theorem Kz.keeps {B:Nat}{w:World}{l:List Nat}{h:Nat}(hl:Kz B w v l)(n1:Nh w g)(n2:Nh w h)(k:Ka g h w W):Kz B W v l:=by
 obtain⟨a,cap,rfl,J,h2,A,E⟩:=hl;refine⟨a,cap,rfl,J,h2,A,?_⟩
 by_cases d:l=[]
 ·exact .inl d
 rcases E with E|⟨b,G,rfl,K,j,hc⟩
 ·exact .inl E
 have M:0<l.length:=by
  apply Ys;intro e;exact d (Jw e)
 have c0:=hc 0 M;have I:b≠g:=by rintro rfl;exact n1 _ _ c0
 have e2:b≠h:=by rintro rfl;exact n2 _ _ c0
 refine .inr ⟨b,G,rfl,K,Jq j k.1,fun i hi=>?_⟩;rw[<-hc i hi];unfold World.cell?;rw[k.2 b I e2]
structure BoxD (g:Nat)(W:World)(x:Bool)(pa:Option Addr)(la ca:Nat)(y:Bool)(pb:Option Addr)(lb cb:Nat):Prop where
 a0:W.cell? ⟨g,0,none⟩=some (.bool x)
 a1:W.cell? ⟨g,1,none⟩=some (.slice pa la ca)
 b0:W.cell? ⟨g+1,0,none⟩=some (.bool y)
 b1:W.cell? ⟨g+1,1,none⟩=some (.slice pb lb cb)
 r0:W.cell? ⟨g+2,0,none⟩=some (.bool false)
 r1:W.cell? ⟨g+2,1,none⟩=some (.slice none 0 0)
 t0:W.cell? ⟨g+3,0,none⟩=some (.bool false)
 t1:W.cell? ⟨g+3,1,none⟩=some (.slice none 0 0)
 f:∀ k,k<4->∀ i,W.frozen? ⟨g+k,i,none⟩=false
 z:∀ k,k<4->Nh W (g+k)
theorem BoxD.bl {W':World}{x:Bool}{pa:Option Addr}{la ca:Nat}{y:Bool}{pb:Option Addr}{lb cb:Nat}(h:BoxD g W x pa la ca y pb lb cb){N:Nat}(hN:g+4<=N)(hb:Below N W W'):BoxD g W' x pa la ca y pb lb cb:=by
 have q:∀ k,k<4->∀ i,W'.cell? ⟨g+k,i,none⟩=W.cell? ⟨g+k,i,none⟩:=fun k hk i=>hb.cell (p:=⟨g+k,i,none⟩) (by show g+k<N;omega);have f:∀ k,k<4->∀ i,W'.frozen? ⟨g+k,i,none⟩=W.frozen? ⟨g+k,i,none⟩:=fun k hk i=>hb.frozen (p:=⟨g+k,i,none⟩) (by show g+k<N;omega);exact⟨(q 0 (by omega) 0).trans h.a0,(q 0 (by omega) 1).trans h.a1,(q 1 (by omega) 0).trans h.b0,(q 1 (by omega) 1).trans h.b1,(q 2 (by omega) 0).trans h.r0,(q 2 (by omega) 1).trans h.r1,(q 3 (by omega) 0).trans h.t0,(q 3 (by omega) 1).trans h.t1,fun k hk i=>(f k hk i).trans (h.f k hk i),fun k hk i x e=>h.z k hk i x ((q k hk i).symm.trans e)⟩
theorem VY (w:World)(x:Bool)(pa:Option Addr)(la ca:Nat)(y:Bool)(pb:Option Addr)(lb cb:Nat)(ty:TypeId) :
 BoxD w.heap.size ((((w.alloc (.cells #[.bool x,.slice pa la ca] ty)).alloc (.cells #[.bool y,.slice pb lb cb] ty)).alloc (.cells #[.bool false,.slice none 0 0] ty)).alloc (.cells #[.bool false,.slice none 0 0] ty)) x pa la ca y pb lb cb:=by
 refine⟨?_,?_,?_,?_,?_,?_,?_,?_,?_,?_⟩
 case' _=>
  skip
 rotate_left
 case' _=>
  skip
 rotate_left
 ·rw[Jy _ _ _ (by simp<;>omega),Jy _ _ _ (by simp),Jn _ _ _ _ (by simp)];rfl
 ·rw[Jy _ _ _ (by simp<;>omega),Jy _ _ _ (by simp),Jn _ _ _ _ (by simp)];rfl
 ·rw[Jy _ _ _ (by simp),Jn _ _ _ _ (by simp)];rfl
 ·rw[Jy _ _ _ (by simp),Jn _ _ _ _ (by simp)];rfl
 ·rw[Jn _ _ _ _ (by simp)];rfl
 ·rw[Jn _ _ _ _ (by simp)];rfl
 ·intro k h i
  match k,h with
  | 0,_=>rw[Yu _ _ _ (by simp<;>omega),Yu _ _ _ (by simp<;>omega),Yu _ _ _ (by simp),Ya _ _ _ _ (by simp)]
  | 1,_=>rw[Yu _ _ _ (by simp<;>omega),Yu _ _ _ (by simp),Ya _ _ _ _ (by simp)]
  | 2,_=>rw[Yu _ _ _ (by simp),Ya _ _ _ _ (by simp)]
  | 3,_=>rw[Ya _ _ _ _ (by simp)]
 ·have d:∀ (p q:Value) (i:Nat) (x:Int),(∀ x,p≠.int .u32 x)->(∀ x,q≠.int .u32 x)->(#[p,q]:Array Value)[i]? ≠ some (.int .u32 x):=fun p q i x hp hq=>by
   match i with
   | 0=>simpa using hp x
   | 1=>simpa using hq x
   | i+2=>simp
  intro k h i x
  match k,h with
  | 0,_=>
    rw[Jy _ _ _ (by simp<;>omega),Jy _ _ _ (by simp<;>omega),Jy _ _ _ (by simp),Jn _ _ _ _ (by simp)];exact d _ _ i x (by simp) (by simp)
  | 1,_=>
    rw[Jy _ _ _ (by simp<;>omega),Jy _ _ _ (by simp<;>omega),Jn _ _ _ _ (by simp)];exact d _ _ i x (by simp) (by simp)
  | 2,_=>
    rw[Jy _ _ _ (by simp<;>omega),Jn _ _ _ _ (by simp)];exact d _ _ i x (by simp) (by simp)
  | 3,_=>
    rw[Jn _ _ _ _ (by simp)];exact d _ _ i x (by simp) (by simp)
 all_goals rw[Jy _ _ _ (by simp<;>omega),Jy _ _ _ (by simp<;>omega),Jy _ _ _ (by simp),Jn _ _ _ _ rfl];rfl
structure SD (a b R Q:List Nat)(j:Nat):Prop where
 le:j<=a.length
 qlen:Q.length=a.length
 qok:okL Q
 low:∀ i,i<j->Q.getD i 0=0
 rok:okL R
 rlen:R.length<=b.length
 eq:Eb a j=Eb Q j*val b+val R
 lt:val R<val b
theorem SD.window {x:Nat}(h:SD a b R Q (i+1))(hx:x<1000000000):val (x::R)<val b*1000000000:=Sh x (val R) (val b) hx h.lt
theorem AZ (Va Vq vb r x q r':Nat)(h:Va=Vq*vb+r)(hX:x+1000000000*r=q*vb+r'):Va*1000000000+x=(Vq*1000000000+q)*vb+r':=by
 have e:(Vq*1000000000+q)*vb+r'=Vq*vb*1000000000+(q*vb+r'):=by grind
 rw[e,<-hX,h]
 grind
theorem SD.put (h:SD a b R Q (i+1)){q:Nat}{R':List Nat}(hq:q<1000000000)(hX:val (a.getD i 0::R)=q*val b+val R')(hlt:val R'<val b)(hok:okL R')(htr:isTrim R')(hb:okL b):SD a b R' (Q.set i q) i:=by
 have d:=h.le;refine⟨by omega,by simp[h.qlen],Kn Q h.qok i q hq,fun j hj=>?_,hok,Pi R' b htr hb hlt,?_,hlt⟩
 ·rw[C1 _ _ _ _ (by omega)];exact h.low j (by omega)
 rw[Xo a i (by omega),Cq Q i q (by have:=h.qlen;omega)];exact AZ _ _ _ _ _ q _ h.eq (by simpa[val] using hX)
theorem DM (Q:List Nat)(i:Nat)(h:Q.getD i 0=0):Q.set i 0=Q:=by
 by_cases d:i<Q.length
 ·have e:Q[i]=0:=by rw[Ji,Jd d] at h;exact h
  rw[<-e,List.set_getElem_self]
 exact List.set_eq_of_length_le (by omega)
theorem SD.cont (h:SD a b R Q (i+1))(hlt:val (Og (a.getD i 0::R))<val b)(hx:a.getD i 0<1000000000)(hb:okL b):SD a b (Og (a.getD i 0::R)) Q i:=by
 have h2:=h.put (q:=0) (R':=Og (a.getD i 0::R)) (by omega) (by rw[O4,V6,Y8]) hlt (trimL_ok _ (fun y hy=>by
  rcases Vi.1 hy with e|e
  ·omega
  exact h.rok y e)) (trimL_trim _) hb
 rw[DM Q i (h.low i (by omega))] at h2;exact h2
theorem DL (a b:List Nat)(ha:okL a)(hb:isTrim b)(hne:b≠[]):SD a b (a.drop (a.length+1 - b.length)) (List.replicate a.length 0) (a.length+1 - b.length):=by
 have h:0<b.length:=by
  apply Ys;intro e;exact hne (Jw e)
 refine⟨by omega,by simp,fun x hx=>by rw[Yt hx];omega,fun i hi=>?_,Ry a ha _,by simp;omega,?_,?_⟩
 ·simp[List.getD_eq_getElem?_getD,List.getElem?_replicate]
  split<;>rfl
 ·have e:Eb (List.replicate a.length 0) (a.length+1 - b.length)=0:=by unfold Eb;simp[Io]
  rw[e,V6,Y8];rfl
 have d:=Gb (a.drop (a.length+1 - b.length)) (Ry a ha _) (b.length - 1) (by simp;omega);have h2:=Ql b hb hne;omega
def Hu (vb X lo hi:Nat):Prop:=lo<=hi/\hi<=999999999/\lo*vb<=X/\X<(hi+1)*vb
theorem R2 (vb X:Nat)(h:X<vb*1000000000):Hu vb X 0 999999999:=⟨by omega,by omega,by rw[V6];omega,by omega⟩
theorem F8 {vb X lo hi:Nat}(h:Hu vb X lo hi)(hlt:lo<hi)(hc:(lo+hi+1) / 2*vb<=X):Hu vb X ((lo+hi+1) / 2) hi:=⟨by omega,h.2.1,hc,h.2.2.2⟩
theorem Pf {vb X lo hi:Nat}(h:Hu vb X lo hi)(hlt:lo<hi)(hc:X<(lo+hi+1) / 2*vb):Hu vb X lo ((lo+hi+1) / 2 - 1):=by
 refine⟨by omega,by have:=h.2.1;omega,h.2.2.1,?_⟩;rw[show (lo+hi+1) / 2 - 1+1=(lo+hi+1) / 2 by omega];exact hc
def Ir (base:Nat)(W:World)(v:Value)(R:List Nat):Prop:=
 okL R/\((v=.slice none 0 0/\R=[])∨∃ g cap,v=.slice (some ⟨g,0,none⟩) R.length cap/\base<=g/\g<W.heap.size/\R.length<=cap/\cap<=maxLen/\∀ i,i<R.length->W.cell? ⟨g,i,none⟩=some (.int .u32 (R.getD i 0:Nat)))
theorem Ir.isL (h:Ir base W v R):Kz base W v R:=by
 obtain⟨d,⟨rfl,rfl⟩|⟨g,cap,rfl,hb,j,hl,A,hc⟩⟩:=h
 ·exact⟨none,0,rfl,leR,(by unfold maxLen;omega),d,.inl rfl⟩
 exact⟨_,cap,rfl,hl,A,d,.inr ⟨g,0,rfl,hb,j,fun i hi=>by rw[Y8];exact hc i hi⟩⟩
theorem Ir.bl {W':World}(h:Ir base W v R)(hb:Up W W'):Ir base W' v R:=by
 obtain⟨d,h|⟨g,cap,A,h2,j,h3,h4,hc⟩⟩:=h
 ·exact⟨d,.inl h⟩
 exact⟨d,.inr ⟨g,cap,A,h2,Jq j hb.size,h3,h4,fun i hi=>(hb.cell (p:=⟨g,i,none⟩) j).trans (hc i hi)⟩⟩
theorem Ir.setCell (h:Ir base W v R)(p:Addr)(u:Value)(hp:p.block<base):Ir base (W.setCell p u) v R:=by
 obtain⟨d,h|⟨g,cap,j,h2,A,h3,h4,hc⟩⟩:=h
 ·exact⟨d,.inl h⟩
 refine⟨d,.inr ⟨g,cap,j,h2,by simpa using A,h3,h4,fun i hi=>?_⟩⟩;rw[<-hc i hi];exact Vo (Jh W p u g (by omega))
theorem Ir.of_owns {e:Nat}(h:W.ownsRow base e 1 v R.length (Gg R))(hok:okL R):Ir base W v R:=by
 have j:=fun g hg=>h.cells (g:=g) hg;have A:=h.lt;obtain⟨_,h⟩:=h
 rcases h with⟨rfl,hn⟩|⟨g,cap,G,rfl,I,E,hn,d,_,_⟩
 ·exact⟨hok,.inl ⟨rfl,Jw hn⟩⟩
 refine⟨hok,.inr ⟨g,cap,rfl,I,(A g rfl).2,hn,d,fun i hi=>?_⟩⟩;have:=j g rfl i (.int .u32 (R.getD i 0:Nat)) (by rw[Y6];simp[List.getD_eq_getElem?_getD,hi])
 by_cases i0:i=0
 ·subst i0;simpa[Addr.add] using this
 simpa[Addr.add,i0] using this
theorem Ir.cut {cap:Nat}{N:List Nat}(hg:base<=g)(hlt:g<W.heap.size)(hm:cap<=maxLen)(hok:okL N)(hl:N.length<=cap)(hc:∀ i,i<N.length->W.cell? ⟨g,i,none⟩=some (.int .u32 (N.getD i 0:Nat)))(k:Nat)(hk:k<=N.length)(he:Og N=N.take k) :
 Ir base W (.slice (some ⟨g,0,none⟩) k cap) (Og N):=by
 have d:(Og N).length=k:=by rw[he,J4];omega
 refine⟨trimL_ok N hok,.inr ⟨g,cap,by rw[d],hg,hlt,by omega,hm,fun i hi=>?_⟩⟩;rw[hc i (by omega),Qk N i hi]
end Go.Proofs.YtdmdmgfjpomdbaaGreatDoor.Q
