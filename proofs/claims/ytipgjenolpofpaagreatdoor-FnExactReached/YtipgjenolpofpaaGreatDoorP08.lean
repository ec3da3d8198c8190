import Derived.Test.YtipgjenolpofpaaGreatDoorP07
import Derived.Ground.SlgnProg
import Derived.Shelf.SlicesE.Clone
import Derived.Laws.CopyOwn
import Derived.Test.YtipgjenolpofpaaGreatDoorP06
set_option maxRecDepth 100000
set_option maxHeartbeats 4000000
namespace Go.Proofs.YtipgjenolpofpaaGreatDoor.Q
open ChangeShapes WideShapes ChangeAt RowKit Proofs.Tryz
theorem DX (n k:Nat)(h0:n / 1000000000 ^ k=0)(h1:k=0∨n / 1000000000 ^ (k - 1)≠0):isTrim (wl n k):=by
 intro d
 cases k with
 | zero=>exact absurd rfl d
 | succ k=>
   have j:n / 1000000000 ^ k≠0:=by
    rcases h1 with h|h
    ·omega
    rwa [Z7] at h
   have e:(wl n (k+1)).getLast d=n / 1000000000 ^ k % 1000000000:=by simp[Aa]
   rw[e];rw[J5,<-Z3] at h0;omega
theorem Lw (n:Nat)(w:World)(hn:n<18446744073709551616) :
 Calls prog 202 #[.int .u64 (n:Nat)] w fun e w'=>∃ v k,e=.returned v/\k<=3/\U1 w.heap.size w' v (wl n k)/\val (wl n k)=n/\(n / 1000000000 ^ k=0/\(k=0∨n / 1000000000 ^ (k - 1)≠0))/\Up w w':=by
 obtain⟨i0,I,Y,Z,a7⟩:=info_parts info_u32;have HN:=Hd hn;clear hn
 go_in
 go_wp2
 go_loopw [0,3] (fun q v wr=>∃ k:Nat,(k<=3/\(k=0∨n / 1000000000 ^ (k - 1)≠0))/\q=.int .u64 (n / 1000000000 ^ k:Nat) /\
  wr.ownsRow w.heap.size 154 1 v k ((wl n k).map (fun x=>Value.int .u32 (x:Nat)))/\Up w wr) (fun q _ _=>(intOf q).toNat)
 case atStart=>exact⟨0,⟨by omega,.inl rfl⟩,Ob (by simp),Vv _ _ _ _,Jh _ _⟩
 obtain⟨k,⟨hk,J⟩,rfl,d,E⟩:=hrel;have K:=Hd J;clear J;obtain⟨q,hq⟩:=O1 (n / 1000000000 ^ k);have A:=Hd hq;rw[hq];clear hq
 by_cases G:q=0
 ·have HV:Hid (val (wl n k)=n):=by
   unfold Hid
   have:=CJ n k;rw[A.o,G] at this
   simpa using this
  have hL:U1 w.heap.size wr u3 (wl n k):=Ig (e:=154) (by rw[Dk];exact d) (FT n k);have HL:=Hd hL;have HB:=Hd E;have O:Hid (n / 1000000000 ^ k=0):=A.o.trans G;clear hL d E;subst G
  go_wp2
  go_ret
  exact⟨_,k,rfl,hk,HL.o,HV.o,⟨O.o,K.o⟩,HB.o⟩
 have d3:k<3:=by
  apply Classical.byContradiction;intro hc;obtain rfl:k=3:=by omega
  have:=A.o;have h3:(1000000000:Nat) ^ 3=1000000000000000000000000000:=by decide
  rw[h3] at this;have:=HN.o;omega
 obtain⟨x,V⟩:∃ x:Int,(q:Int)=x:=⟨_,rfl⟩;have HX:=Hd V;rw[V];have x0:0<x:=by omega
 have x1:x<18446744073709551616:=by
  have h1:=Nat.div_le_self n (1000000000 ^ k);rw[A.o] at h1;have:=HN.o;omega
 have HM:Hid (x % 1000000000=(n / 1000000000 ^ k % 1000000000:Nat)):=by unfold Hid;rw[A.o,<-HX.o];rfl
 have HD:Hid (x / 1000000000=(n / 1000000000 ^ (k+1):Nat)):=by
  unfold Hid
  rw[J5,<-Z3,A.o,<-HX.o];rfl
 have M:Hid (n / 1000000000 ^ k≠0):=by unfold Hid;rw[A.o];exact G
 clear V G
 go_wp2_with (at_builtin;refine wpList_append_own _ rfl _ _ 121 rfl w.heap.size 154 i0 (.int .u32 0) 1 4 underlying121 I Y Z a7 rfl (by decide) _ _ _ rfl (d.alloc _) ⟨wr.heap.size,0,none⟩ 1 1 [_] rfl rfl (cell_one_new _ _ _) ?c2 ?c3 ?c4 ?c5 ?_)
 case c2=>first|rfl|(intro u hu;simp at hu;subst hu;rfl)
 case c3=>unfold maxLen;omega
 case c4=>omega
 case c5=>have:=E.size;simp;omega
 intro v' w1 j h _;have U:Up w w1:=(E.alloc E.size _).grown h (by have:=E.size;simp;omega) (fun q hq=>(d.lt q hq).1);have HO:Hid (w1.ownsRow w.heap.size 154 1 v' (k+1) ((wl n (k+1)).map (fun x=>Value.int .u32 (x:Nat)))):=by
  unfold Hid
  rw[Aa,Zc,Vy,Ua,<-HM.o];exact j
 clear h d E j
 go_wp2
 go_roundw
 case rel=>exact⟨k+1,⟨by omega,.inr (by rw[Z7];exact M.o)⟩,Ob HD.o,HO.o,U⟩
 simp[intOf];omega
theorem Xg (n:Nat)(w:World)(hn:n<18446744073709551616) :
 Calls prog 202 #[.int .u64 (n:Nat)] w fun e w'=>∃ v t,e=.returned v/\U1 w.heap.size w' v t/\isTrim t/\val t=n/\t.length<=3/\Up w w':=by
 refine (Lw n w hn).mono ?_;rintro e w' ⟨v,k,rfl,A,j,E,⟨d,h⟩,hb⟩;exact⟨v,_,rfl,j,DX n k d h,E,by rw[Dk];exact A,hb⟩
structure Only (R:Nat)(w w':World):Prop where
 bl:Below R w w'
 block:∀ k,k<w.heap.size->k≠R->w'.heap[k]? = w.heap[k]?
theorem Only.refl (R:Nat)(w:World):Only R w w:=⟨Jh _ _,fun _ _ _=>rfl⟩
theorem Only.trans {R:Nat}{a b c:World}(h:Only R a b)(k:Only R b c):Only R a c:=
 ⟨h.bl.trans k.bl,fun i hi hn=>(k.block i (Jz hi h.bl.size) hn).trans (h.block i hi hn)⟩
theorem Only.of {R:Nat}{w w':World}(h:Up w w')(hR:R<=w.heap.size):Only R w w':=⟨h.mono hR,fun k hk _=>h.block k hk⟩
theorem Only.setCell {R:Nat}{w w':World}(h:Only R w w')(i:Nat)(u:Value):Only R w (w'.setCell ⟨R,i,none⟩ u):=
 ⟨h.bl.setCell Of u,fun k hk hn=>by
  refine Eq.trans ?_ (h.block k hk hn)
  show (w'.heap.modify R _)[k]? = _
  rw[Array.getElem?_modify,if_neg (fun e=>hn e.symm)]⟩
theorem Only.cell {R:Nat}{w w':World}(h:Only R w w'){p:Addr}(hp:p.block<w.heap.size)(hn:p.block≠R):w'.cell? p=w.cell? p:=by
 unfold World.cell?;rw[h.block _ hp hn]
theorem Only.rowT {R D:Nat}{w w':World}{l:List Nat}(h:Only R w w')(hD:D≠R)(hr:O7 w D l):O7 w' D l:=by
 have d:=hr.lt;obtain⟨t,hr⟩:=hr;exact⟨t,(h.block D d hD).trans hr⟩
theorem KD (L:List Nat)(off i x:Nat):(L.set (off+i) x).drop off=(L.drop off).set i x:=by
 rw[List.drop_set,if_neg (by omega),V7]
theorem Hc (A:List Nat)(off i:Nat):(A.drop off).getD i 0=A.getD (off+i) 0:=by
 rw[Jk,Jk,Uv]
theorem Ql (L A:List Nat)(off i x:Nat)(h:L.take off=A.take off):(L.set (off+i) x).take off=A.take off:=by
 rw[List.take_set_of_le (by omega),h]
theorem If (L:List Nat)(off i x:Nat)(hi:off+i<L.length):val (((L.set (off+i) x).drop off).take (i+1))=val ((L.drop off).take i)+1000000000 ^ i*x:=by
 rw[KD,O2 _ _ _ (by simp;omega)]
theorem Gs (A:List Nat)(off i:Nat):val ((A.drop off).take (i+1))=val ((A.drop off).take i)+1000000000 ^ i*A.getD (off+i) 0:=by
 rw[Ok,Hc]
theorem Co (R off cap f:Nat)(pb:Option Addr)(cb:Nat)(A b:List Nat)(w:World)(hR:O7 w R A)(hAok:okL A)(hn:off+b.length<=A.length)(hA:A.length<=1000000)(hbok:okL b)(hf:f<=1000000000)
 (hcb:∀ i,i<b.length->∃ c off,pb=some ⟨c,off,none⟩/\(c<w.heap.size/\c≠R)/\w.cell? ⟨c,off+i,none⟩=some (.int .u32 (b.getD i 0:Nat))) :
 Calls prog 234 #[.slice (some ⟨R,off,none⟩) b.length cap,.slice pb b.length cb,.int .u64 (f:Nat)] w fun e w'=>∃ c L,e=.returned (.int .u64 (c:Nat))/\O7 w' R L/\L.length=A.length/\okL L/\L.drop (off+b.length)=A.drop (off+b.length)/\L.take off=A.take off/\c<=f /\
  val ((L.drop off).take b.length)+f*val b=val ((A.drop off).take b.length)+1000000000 ^ b.length*c/\Only R w w':=by
 have HB:=Hd hcb;clear hcb
 go_in
 go_wp2
 go_loopw [7,12] (fun cv iv wr=>∃ (i c:Nat) (L:List Nat),i<=b.length/\c<=f/\L.length=A.length/\okL L/\O7 wr R L/\L.drop (off+i)=A.drop (off+i)/\L.take off=A.take off/\cv=.int .u64 (c:Nat)/\iv=.int .i64 i /\
  val ((L.drop off).take i)+f*val (b.take i)=val ((A.drop off).take i)+1000000000 ^ i*c/\Only R w wr) (fun _ iv _=>b.length - (intOf iv).toNat)
 case atStart=>exact⟨0,0,A,by omega,by omega,rfl,hAok,hR,rfl,rfl,rfl,rfl,by simp[val],Only.refl _ _⟩
 clear hR;obtain⟨i,c,L,hi,d2,d1,E,hR,K,M,rfl,rfl,j,hB⟩:=hrel;have hc:c<=1000000000:=by omega
 by_cases d7:i<b.length
 ·have J:=hR.cell (off+i) (by omega);have hx:=Iw L A (off+i) K;have d3:=O9 A hAok (off+i) (by omega);rw[hx] at J;clear hx;obtain⟨x,hx⟩:=O1 (A.getD (off+i) 0);rw[hx] at d3 J;obtain⟨bb,ob,rfl,b6,hcb⟩:=HB.o i d7;rw[<-hB.cell (p:=⟨bb,ob+i,none⟩) b6.1 b6.2] at hcb;have d4:=O9 b hbok i d7;obtain⟨y,hy⟩:=O1 (b.getD i 0);rw[hy] at hcb d4;obtain⟨F,hF⟩:=O1 (f*y);have d6:F<=f*999999999:=by rw[<-hF];exact J8 f (by omega)
  obtain⟨X,hX⟩:∃ X:Int,(x:Int)=X:=⟨_,rfl⟩;have HX:=Hd hX;have x1:0<=X:=by omega
  have x2:X<1000000000:=by omega
  rw[hX] at J;obtain⟨C,hC⟩:∃ C:Int,(c:Int)=C:=⟨_,rfl⟩;have HC:=Hd hC;have c1:0<=C:=by omega
  have c2:C<=1000000000:=by omega
  rw[hC];obtain⟨G,hG⟩:∃ G:Int,(f:Int)=G:=⟨_,rfl⟩;rw[hG];obtain⟨Y,hY⟩:∃ Y:Int,(y:Int)=Y:=⟨_,rfl⟩;have V:(F:Int)=G*Y:=by rw[<-hF,<-hG,<-hY];rfl
  have I:=Hd V;have g1:0<=G*Y:=by rw[<-V];omega
  have g2:G*Y<=999999999000000000:=by rw[<-V];omega
  have y1:0<=Y:=by omega
  have y2:Y<1000000000:=by omega
  rw[hY] at hcb
  by_cases b4:x<(c+F) % 1000000000
  ·skip
   have Z:=Gn (1000000000 ^ i) _ _ _ c x y (x+1000000000 - (c+F) % 1000000000) ((c+F) / 1000000000+1) f j (by rw[hF];omega);have d0:Hid (val (((L.set (off+i) (x+1000000000 - (c+F) % 1000000000)).drop off).take (i+1))+f*val (b.take (i+1))=val ((A.drop off).take (i+1))+1000000000 ^ (i+1)*((c+F) / 1000000000+1)):=by
    unfold Hid
    rw[If L off i _ (by omega),Gs,Ok,hx,hy,J5];exact Z
   have f5:=hR.frozen (off+i);have c8:Hid (∀ (u:Nat) (v:Int) (hv:v=(((x+1000000000 - (c+F) % 1000000000):Nat):Int)),O7 ((wr.setCell ⟨R,off+i,none⟩ (.int .u32 (X+1000000000))).setCell ⟨R,off+i,none⟩ (.int .u32 v)) R (L.set (off+i) (x+1000000000 - (c+F) % 1000000000))):=fun u v hv=>by
    have e:X+1000000000=((x+1000000000:Nat):Int):=by have:=HX.o;omega
    have h:=(hR.set (off+i) (x+1000000000) (by omega)).set (off+i) (x+1000000000 - (c+F) % 1000000000) (by simp;omega);rw[Ux] at h;rw[hv,e];exact h
   have c6:Hid (∀ v:Int,v=(((x+1000000000 - (c+F) % 1000000000):Nat):Int)->O7 (wr.setCell ⟨R,off+i,none⟩ (.int .u32 v)) R (L.set (off+i) (x+1000000000 - (c+F) % 1000000000))):=fun v hv=>by
    rw[hv];exact hR.set (off+i) _ (by omega)
   have O:Hid (∀ u v,Only R w (wr.setCell ⟨R,off+i,none⟩ u)/\Only R w ((wr.setCell ⟨R,off+i,none⟩ u).setCell ⟨R,off+i,none⟩ v)):=fun u v=>⟨hB.setCell _ u,(hB.setCell _ u).setCell _ v⟩;have b9:Hid (okL (L.set (off+i) (x+1000000000 - (c+F) % 1000000000))):=U4 L E (off+i) _ (by omega);have U:Hid ((L.set (off+i) (x+1000000000 - (c+F) % 1000000000)).drop (off+(i+1))=A.drop (off+(i+1))/\(L.set (off+i) (x+1000000000 - (c+F) % 1000000000)).take off=A.take off):=⟨Kx L A (off+i) _ K,Ql L A off i _ M⟩;have b8:Hid (((c+F) / 1000000000+1)<=f):=by
    unfold Hid
    omega
   have t1:X<(C+G*Y) % 1000000000:=by have:=HX.o;have:=HC.o;have:=I.o;omega
   have d:Hid _:=b4;clear Z j hx hy hR hB E K M hX d3 b4 hC hG hY V d4 hF d6 hc d2
   go_wp2
   go_roundw
   case rel=>
    refine⟨i+1,((c+F) / 1000000000+1),L.set (off+i) (x+1000000000 - (c+F) % 1000000000),by omega,b8.o,by simp[d1],b9.o,?_,U.o.1,U.o.2,?_,by go_num,d0.o,?_⟩
    ·have a7:∀ v:Int,v=(((x+1000000000 - (c+F) % 1000000000):Nat):Int)->v=(((x+1000000000 - (c+F) % 1000000000):Nat):Int):=fun _ h=>h
     first
      | exact c6.o _ (a7 _ (by have:=HX.o;have:=HC.o;have:=d.o;have:=I.o;omega))
      | exact c8.o 0 _ (a7 _ (by have:=HX.o;have:=HC.o;have:=d.o;have:=I.o;omega))
    ·congr 1;have:=HX.o;have:=HC.o;have:=d.o;have:=I.o;omega
    first|exact (O.o _ (.bool true)).1|exact (O.o _ _).2
   simp[intOf];omega
  skip
  have Z:=Gn (1000000000 ^ i) _ _ _ c x y (x - (c+F) % 1000000000) ((c+F) / 1000000000) f j (by rw[hF];omega);have d0:Hid (val (((L.set (off+i) (x - (c+F) % 1000000000)).drop off).take (i+1))+f*val (b.take (i+1))=val ((A.drop off).take (i+1))+1000000000 ^ (i+1)*((c+F) / 1000000000)):=by
   unfold Hid
   rw[If L off i _ (by omega),Gs,Ok,hx,hy,J5];exact Z
  have f5:=hR.frozen (off+i);have c8:Hid (∀ (u:Nat) (v:Int) (hv:v=(((x - (c+F) % 1000000000):Nat):Int)),O7 ((wr.setCell ⟨R,off+i,none⟩ (.int .u32 (X+1000000000))).setCell ⟨R,off+i,none⟩ (.int .u32 v)) R (L.set (off+i) (x - (c+F) % 1000000000))):=fun u v hv=>by
   have e:X+1000000000=((x+1000000000:Nat):Int):=by have:=HX.o;omega
   have h:=(hR.set (off+i) (x+1000000000) (by omega)).set (off+i) (x - (c+F) % 1000000000) (by simp;omega);rw[Ux] at h;rw[hv,e];exact h
  have c6:Hid (∀ v:Int,v=(((x - (c+F) % 1000000000):Nat):Int)->O7 (wr.setCell ⟨R,off+i,none⟩ (.int .u32 v)) R (L.set (off+i) (x - (c+F) % 1000000000))):=fun v hv=>by
   rw[hv];exact hR.set (off+i) _ (by omega)
  have O:Hid (∀ u v,Only R w (wr.setCell ⟨R,off+i,none⟩ u)/\Only R w ((wr.setCell ⟨R,off+i,none⟩ u).setCell ⟨R,off+i,none⟩ v)):=fun u v=>⟨hB.setCell _ u,(hB.setCell _ u).setCell _ v⟩;have b9:Hid (okL (L.set (off+i) (x - (c+F) % 1000000000))):=U4 L E (off+i) _ (by omega);have U:Hid ((L.set (off+i) (x - (c+F) % 1000000000)).drop (off+(i+1))=A.drop (off+(i+1))/\(L.set (off+i) (x - (c+F) % 1000000000)).take off=A.take off):=⟨Kx L A (off+i) _ K,Ql L A off i _ M⟩;have b8:Hid (((c+F) / 1000000000)<=f):=by
   unfold Hid
   omega
  have t1:(C+G*Y) % 1000000000<=X:=by have:=HX.o;have:=HC.o;have:=I.o;omega
  have d:Hid _:=b4;clear Z j hx hy hR hB E K M hX d3 b4 hC hG hY V d4 hF d6 hc d2
  go_wp2
  go_roundw
  case rel=>
   refine⟨i+1,((c+F) / 1000000000),L.set (off+i) (x - (c+F) % 1000000000),by omega,b8.o,by simp[d1],b9.o,?_,U.o.1,U.o.2,?_,by go_num,d0.o,?_⟩
   ·have a7:∀ v:Int,v=(((x - (c+F) % 1000000000):Nat):Int)->v=(((x - (c+F) % 1000000000):Nat):Int):=fun _ h=>h
    first
     | exact c6.o _ (a7 _ (by have:=HX.o;have:=HC.o;have:=d.o;have:=I.o;omega))
     | exact c8.o 0 _ (a7 _ (by have:=HX.o;have:=HC.o;have:=d.o;have:=I.o;omega))
   ·congr 1;have:=HX.o;have:=HC.o;have:=d.o;have:=I.o;omega
   first|exact (O.o _ (.bool true)).1|exact (O.o _ _).2
  simp[intOf];omega
 obtain rfl:i=b.length:=by omega
 rw[Jn (Nat.le_refl b.length)] at j;have HE:Hid (O7 wr R L/\L.length=A.length/\okL L/\L.drop (off+b.length)=A.drop (off+b.length)/\L.take off=A.take off/\val ((L.drop off).take b.length)+f*val b=val ((A.drop off).take b.length)+1000000000 ^ b.length*c/\Only R w wr):=⟨hR,d1,E,K,M,j,hB⟩;clear j hR hB E K M
 go_wp2
 go_ret
 obtain⟨e1,e2,e3,e4,e5,e6,e7⟩:=HE.o;exact⟨c,L,rfl,e1,e2,e3,e4,e5,d2,e6,e7⟩
theorem Li (R off cap:Nat)(pb:Option Addr)(cb:Nat)(A b:List Nat)(w:World)(hR:O7 w R A)(hAok:okL A)(hn:off+b.length<=A.length)(hA:A.length<=1000000)(hbok:okL b)
 (hcb:∀ i,i<b.length->∃ c off,pb=some ⟨c,off,none⟩/\(c<w.heap.size/\c≠R)/\w.cell? ⟨c,off+i,none⟩=some (.int .u32 (b.getD i 0:Nat))) :
 Calls prog 232 #[.slice (some ⟨R,off,none⟩) b.length cap,.slice pb b.length cb] w fun e w'=>∃ c L,e=.returned (.int .u32 (c:Nat))/\O7 w' R L/\L.length=A.length/\okL L/\L.drop (off+b.length)=A.drop (off+b.length)/\L.take off=A.take off/\c<=1 /\
  val ((L.drop off).take b.length)+1000000000 ^ b.length*c=val ((A.drop off).take b.length)+val b/\Only R w w':=by
 have HB:=Hd hcb;clear hcb
 go_in
 go_wp2
 go_loopw [5,10] (fun cv iv wr=>∃ (i c:Nat) (L:List Nat),i<=b.length/\c<=1/\L.length=A.length/\okL L/\O7 wr R L/\L.drop (off+i)=A.drop (off+i)/\L.take off=A.take off/\cv=.int .u32 (c:Nat)/\iv=.int .i64 i /\
  val ((L.drop off).take i)+1000000000 ^ i*c=val ((A.drop off).take i)+val (b.take i)/\Only R w wr) (fun _ iv _=>b.length - (intOf iv).toNat)
 case atStart=>exact⟨0,0,A,by omega,by omega,rfl,hAok,hR,rfl,rfl,rfl,rfl,by simp[val],Only.refl _ _⟩
 clear hR;obtain⟨i,c,L,hi,hc,b4,h,hR,E,G,rfl,rfl,d,hB⟩:=hrel
 by_cases b7:i<b.length
 ·have j:=hR.cell (off+i) (by omega);have U:=Iw L A (off+i) E;have b5:=O9 A hAok (off+i) (by omega);rw[U] at j;clear U;obtain⟨x,U⟩:=O1 (A.getD (off+i) 0);rw[U] at b5 j;obtain⟨bb,ob,rfl,O,hcb⟩:=HB.o i b7;rw[<-hB.cell (p:=⟨bb,ob+i,none⟩) O.1 O.2] at hcb;have b6:=O9 b hbok i b7;obtain⟨y,hy⟩:=O1 (b.getD i 0);rw[hy] at hcb b6;obtain⟨X,hX⟩:∃ X:Int,(x:Int)=X:=⟨_,rfl⟩;have HX:=Hd hX;have x1:0<=X:=by omega
  have x2:X<1000000000:=by omega
  rw[hX] at j;obtain⟨C,hC⟩:∃ C:Int,(c:Int)=C:=⟨_,rfl⟩;have HC:=Hd hC;have c1:0<=C:=by omega
  have c2:C<=1:=by omega
  rw[hC];obtain⟨Y,hY⟩:∃ Y:Int,(y:Int)=Y:=⟨_,rfl⟩;have HY:=Hd hY;have y1:0<=Y:=by omega
  have y2:Y<1000000000:=by omega
  rw[hY] at hcb
  by_cases M:1000000000<=x+c+y
  ·skip
   have K:=Hf (1000000000 ^ i) _ _ _ c x y (x+c+y - 1000000000) 1 d (by omega);have a8:Hid (val (((L.set (off+i) (x+c+y - 1000000000)).drop off).take (i+1))+1000000000 ^ (i+1)*1=val ((A.drop off).take (i+1))+val (b.take (i+1))):=by
    unfold Hid
    rw[If L off i _ (by omega),Gs,Ok,U,hy,J5];exact K
   have d3:=hR.frozen (off+i);have a7:Hid (∀ v:Int,v=(((x+c+y - 1000000000):Nat):Int)->O7 (wr.setCell ⟨R,off+i,none⟩ (.int .u32 v)) R (L.set (off+i) (x+c+y - 1000000000))):=fun v hv=>by
    rw[hv];exact hR.set (off+i) _ (by omega)
   have V:Hid (∀ u,Only R w (wr.setCell ⟨R,off+i,none⟩ u)):=fun u=>hB.setCell _ u;have Z:Hid (okL (L.set (off+i) (x+c+y - 1000000000))):=U4 L h (off+i) _ (by omega);have I:Hid ((L.set (off+i) (x+c+y - 1000000000)).drop (off+(i+1))=A.drop (off+(i+1))/\(L.set (off+i) (x+c+y - 1000000000)).take off=A.take off):=⟨Kx L A (off+i) _ E,Ql L A off i _ G⟩;have t1:1000000000<=X+C+Y:=by have:=HX.o;have:=HC.o;have:=HY.o;omega
   have J:Hid _:=M;clear K d U hy hR hB h E G hX b5 M hC hY b6
   go_wp2
   go_roundw
   case rel=>exact⟨i+1,1,L.set (off+i) (x+c+y - 1000000000),by omega,by omega,by simp[b4],Z.o,a7.o _ (by have:=J.o;have:=HX.o;have:=HC.o;have:=HY.o;omega),I.o.1,I.o.2,rfl,by go_num,a8.o,V.o _⟩
   simp[intOf];omega
  skip
  have K:=Hf (1000000000 ^ i) _ _ _ c x y (x+c+y) 0 d (by omega);have a8:Hid (val (((L.set (off+i) (x+c+y)).drop off).take (i+1))+1000000000 ^ (i+1)*0=val ((A.drop off).take (i+1))+val (b.take (i+1))):=by
   unfold Hid
   rw[If L off i _ (by omega),Gs,Ok,U,hy,J5];exact K
  have d3:=hR.frozen (off+i);have a7:Hid (∀ v:Int,v=(((x+c+y):Nat):Int)->O7 (wr.setCell ⟨R,off+i,none⟩ (.int .u32 v)) R (L.set (off+i) (x+c+y))):=fun v hv=>by
   rw[hv];exact hR.set (off+i) _ (by omega)
  have V:Hid (∀ u,Only R w (wr.setCell ⟨R,off+i,none⟩ u)):=fun u=>hB.setCell _ u;have Z:Hid (okL (L.set (off+i) (x+c+y))):=U4 L h (off+i) _ (by omega);have I:Hid ((L.set (off+i) (x+c+y)).drop (off+(i+1))=A.drop (off+(i+1))/\(L.set (off+i) (x+c+y)).take off=A.take off):=⟨Kx L A (off+i) _ E,Ql L A off i _ G⟩;have t1:X+C+Y<1000000000:=by have:=HX.o;have:=HC.o;have:=HY.o;omega
  have J:Hid _:=M;clear K d U hy hR hB h E G hX b5 M hC hY b6
  go_wp2
  go_roundw
  case rel=>exact⟨i+1,0,L.set (off+i) (x+c+y),by omega,by omega,by simp[b4],Z.o,a7.o _ (by have:=J.o;have:=HX.o;have:=HC.o;have:=HY.o;omega),I.o.1,I.o.2,rfl,by go_num,a8.o,V.o _⟩
  simp[intOf];omega
 obtain rfl:i=b.length:=by omega
 rw[Jn (Nat.le_refl b.length)] at d;have HE:Hid (O7 wr R L/\L.length=A.length/\okL L/\L.drop (off+b.length)=A.drop (off+b.length)/\L.take off=A.take off/\val ((L.drop off).take b.length)+1000000000 ^ b.length*c=val ((A.drop off).take b.length)+val b/\Only R w wr):=⟨hR,b4,h,E,G,d,hB⟩;clear d hR hB h E G
 go_wp2
 go_ret
 obtain⟨e1,e2,e3,e4,e5,e6,e7⟩:=HE.o;exact⟨c,L,rfl,e1,e2,e3,e4,e5,hc,e6,e7⟩
theorem EA (P VL VN c m x Va d c' F:Nat)(h:VL+P*c=Va*m)(hs:VN+P*0=VL+P*d)(hF:x*m=F)(hd:d+1000000000*c'=F+c):VN+P*1000000000*c'=(Va+P*x)*m:=by
 have j:P*(d+1000000000*c')=P*(F+c):=by rw[hd]
 have A:(Va+P*x)*m=Va*m+P*(x*m):=by grind
 rw[A,<-h,hF];rw[Yf,Yf,<-Yt] at j;omega
theorem Xe (B:Nat)(va:Value)(a:List Nat)(m:Nat)(w:World)(ha:U1 B w va a)(hla:a.length<=100000)(hm:m<1000000000) :
 Calls prog 165 #[va,.int .u64 (m:Nat)] w fun e w'=>∃ v L,e=.returned v/\U1 w.heap.size w' v L/\isTrim L/\val L=val a*m/\L.length<=a.length+1/\Up w w':=by
 obtain⟨i0,d2,e8,e9,f5⟩:=info_parts info_u32;obtain⟨pa,ca,rfl,_⟩:=id ha;obtain⟨_,_,_,c6,K⟩:=ha.cells;have HA:=Hd K;clear K ha
 go_in
 go_wp2_with (at_make;refine wpList_make_full _ rfl _ _ 121 rfl w.heap.size 154 i0 (.int .u32 0) 1 underlying121 d2 e8 e9 .i64 .i64 _ _ (a.length+1) rfl rfl (by first|rfl|omega) (by first|rfl|omega) (by first|omega|(rw[f5];omega)) (by unfold maxLen;omega) Of ?_)
 intro w1 E d0
 first|rw[K8] at E|rw[Ka] at E
 have U:O7 w1 w.heap.size (List.replicate (a.length+1) 0):=(Kp E).tail;have b8:Up w w1:=(Jh _ _).grown d0 Of (fun k h=>by cases h);clear E d0
 go_wp2
 go_loopw [6,16] (fun cv iv wr=>∃ (i c:Nat) (L:List Nat),i<=a.length/\c<=m/\L.length=a.length+1/\okL L/\O7 wr w.heap.size L/\(∀ j,i<=j->L.getD j 0=0)/\cv=.int .u64 (c:Nat)/\iv=.int .i64 i /\
  val L+1000000000 ^ i*c=val (a.take i)*m/\Up w wr) (fun _ iv _=>a.length - (intOf iv).toNat)
 case atStart=>exact⟨0,0,_,by omega,by omega,by simp,fun x hx=>by rw[Yq hx];omega,U,fun j hj=>by simp[List.getD_eq_getElem?_getD,List.getElem?_replicate];split<;>rfl,rfl,rfl,by simp[G6,val],b8⟩
 clear U b8;obtain⟨i,c,L,hi,e7,b9,A,U,V,rfl,rfl,I,hB⟩:=hrel
 by_cases d1:i<a.length
 ·obtain⟨ba,oa,rfl,d3,K⟩:=HA.o i d1;rw[<-hB.cell (p:=⟨ba,oa+i,none⟩) d3] at K;have d4:=O9 a c6 i d1;have a8:=Ok a i;obtain⟨x,hx⟩:=O1 (a.getD i 0);rw[hx] at K d4 a8;obtain⟨F,hF⟩:=O1 (x*m);have e3:F<=999999999*m:=by rw[<-hF];exact Yh m (by omega)
  have M:=Cn L i ((F+c) % 1000000000) (by omega);rw[V i Of] at M;have d9:Hid (val (L.set i ((F+c) % 1000000000))+1000000000 ^ (i+1)*((F+c) / 1000000000)=val (a.take (i+1))*m):=by
   unfold Hid
   rw[a8,J5];exact EA _ _ _ c m x _ _ _ F I M hF (by omega)
  have d:=U.cell i (by omega);have c8:=U.frozen i;have J:Hid (∀ v:Int,v=(((F+c) % 1000000000:Nat):Int)->O7 (wr.setCell ⟨w.heap.size,i,none⟩ (.int .u32 v)) w.heap.size (L.set i ((F+c) % 1000000000))):=fun v hv=>by
   rw[hv];exact U.set i _ (by omega)
  have O:Hid (∀ u,Up w (wr.setCell ⟨w.heap.size,i,none⟩ u)):=fun u=>hB.setCell Of u;have b6:Hid (okL (L.set i ((F+c) % 1000000000))/\(L.set i ((F+c) % 1000000000)).length=a.length+1):=⟨U4 L A i _ (Zx _ (by decide)),by simp[b9]⟩;have HZ:Hid (∀ j,i+1<=j->(L.set i ((F+c) % 1000000000)).getD j 0=0):=fun j hj=>by
   rw[Dq _ _ _ _ (by omega)];exact V j (by omega)
  have d7:Hid ((F+c) / 1000000000<=m):=by unfold Hid;omega
  clear I hx U hB A V M a8;obtain⟨X,hX⟩:∃ X:Int,(x:Int)=X:=⟨_,rfl⟩;have x1:0<=X:=by omega
  have x2:X<1000000000:=by omega
  rw[hX] at K;obtain⟨C,hC⟩:∃ C:Int,(c:Int)=C:=⟨_,rfl⟩;have HC:=Hd hC;have c1:0<=C:=by omega
  have c2:C<1000000000:=by omega
  rw[hC];obtain⟨G,hG⟩:∃ G:Int,(m:Int)=G:=⟨_,rfl⟩;rw[hG];have Z:(F:Int)=X*G:=by rw[<-hF,<-hG,<-hX];rfl
  have b5:=Hd Z;have g1:0<=X*G:=by rw[<-Z];omega
  have g2:X*G<=999999999000000000:=by rw[<-Z];omega
  clear hX d4 hC hG Z hF e3 e7
  go_wp2
  go_roundw
  case rel=>exact⟨i+1,(F+c) / 1000000000,L.set i ((F+c) % 1000000000),by omega,d7.o,b6.o.2,b6.o.1,J.o _ (by have:=HC.o;have:=b5.o;omega),HZ.o,(by congr 1;have:=HC.o;have:=b5.o;omega),by go_num,d9.o,O.o _⟩
  simp[intOf];omega
 obtain rfl:i=a.length:=by omega
 rw[Jn Of] at I;have M:=Cn L a.length c (by omega);rw[V _ Of] at M;have d:=U.cell a.length (by omega);have c8:=U.frozen a.length;obtain⟨N,hN⟩:=O1 (L.set a.length c);have Y:Hid (val N=val a*m/\okL N/\N.length=a.length+1):=by
  rw[<-hN];exact⟨by omega,U4 L A _ _ (by omega),by simp[b9]⟩
 have J:Hid (O7 (wr.setCell ⟨w.heap.size,a.length,none⟩ (.int .u32 (c:Nat))) w.heap.size N):=by rw[<-hN];exact U.set _ _ (by omega)
 have O:Hid (Up w (wr.setCell ⟨w.heap.size,a.length,none⟩ (.int .u32 (c:Nat)))):=hB.setCell Of _;have g8:c<1000000000:=by omega
 clear I M U hB A V hN;obtain⟨W3,a7⟩:=O1 (wr.setCell ⟨w.heap.size,a.length,none⟩ (.int .u32 (c:Nat)));have e0:=Hd a7;rw[a7] at J O;clear a7
 go_wp2
 rw[e0.o];clear d c8;have HI:Hid (∀ k,k<=a.length+1->Oe N=N.take k->U1 w.heap.size W3 (.slice (some ⟨w.heap.size,0,none⟩) k (a.length+1)) (Oe N)):=fun k hk he=>by
  have hl:(Oe N).length=k:=by rw[he,J4];have:=Y.o.2.2;omega
  refine⟨_,a.length+1,by rw[hl],by omega,by unfold maxLen;omega,trimL_ok N Y.o.2.1,.inr ⟨w.heap.size,0,rfl,Of,J.o.lt,fun i hi=>?_⟩⟩;rw[Y4,J.o.cell i (by have:=Y.o.2.2;omega),Xy N i hi]
 have HT:Hid (isTrim (Oe N)/\val (Oe N)=val a*m/\(Oe N).length<=a.length+1):=⟨trimL_trim _,by rw[O3];exact Y.o.1,by have:=Ku N;have:=Y.o.2.2;omega⟩
 go_loop [9] (fun n=>∃ k:Nat,k<=a.length+1/\n=.int .i64 k/\Oe (N.take k)=Oe N) (fun n=>(intOf n).toNat)
 case atStart=>exact⟨a.length+1,Of,Ob (by omega),by rw[Jn (by have:=Y.o.2.2;omega)]⟩
 obtain⟨k,hk,rfl,hp⟩:=hrel;have HP:=Hd hp;clear hp
 cases k with
 | zero=>
   have HE:Hid (U1 w.heap.size W3 (.slice (some ⟨w.heap.size,0,none⟩) 0 (a.length+1)) (Oe N)):=HI.o 0 (by omega) (by rw[<-HP.o];rfl)
   go_wp2
   go_ret
   exact⟨_,rfl,_,HE.o,HT.o.1,HT.o.2.1,HT.o.2.2,O.o⟩
 | succ j=>
   have d:=J.o.cell j (by have:=Y.o.2.2;omega);obtain⟨x,hx⟩:=O1 (N.getD j 0);rw[hx] at d;have HX:=Hd hx;clear hx
   by_cases h0:x=0
   ·have hz:((x:Int)==0)=true:=by rw[Yc];omega
    have HE:Hid (Oe (N.take j)=Oe N):=by rw[<-Ex N j (by have:=Y.o.2.2;omega) (by rw[HX.o,h0])];exact HP.o
    clear h0
    go_wp2
    go_round
    case rel=>exact⟨j,by omega,Ob (by omega),HE.o⟩
    simp[intOf]
   have hz:((x:Int)==0)=false:=by rw[Jc];omega
   have HE:Hid (U1 w.heap.size W3 (.slice (some ⟨w.heap.size,0,none⟩) (j+1) (a.length+1)) (Oe N)):=HI.o (j+1) hk (HP.o.symm.trans (Ea N j (by have:=Y.o.2.2;omega) (by rw[HX.o];exact h0)));clear h0
   go_wp2
   go_ret
   exact⟨_,rfl,_,HE.o,HT.o.1,HT.o.2.1,HT.o.2.2,O.o⟩
theorem Fy (B:Nat)(va vb:Value)(a b:List Nat)(w:World)(ha:U1 B w va a)(hb:U1 B w vb b)(hla:a.length<=1000000)(hlb:b.length<=a.length)(hle:val b<=val a) :
 Calls prog 166 #[va,vb] w fun e w'=>∃ L,e=.returned (.slice (some ⟨w.heap.size,0,none⟩) a.length a.length)/\U1 w.heap.size w' (.slice (some ⟨w.heap.size,0,none⟩) a.length a.length) L/\val L+val b=val a/\L.length=a.length/\Up w w':=by
 obtain⟨i0,c6,d7,d8,d9⟩:=info_parts info_u32;obtain⟨pa,ca,rfl,_⟩:=id ha;obtain⟨pb,cb,rfl,_⟩:=id hb;obtain⟨_,_,_,b4,Y⟩:=ha.cells;obtain⟨_,_,_,b5,Z⟩:=hb.cells;have HA:=Hd Y;have HB:=Hd Z;have d3:=Hd hle;clear Y Z ha hb hle
 go_in
 go_wp2_with (at_make;refine wpList_make_full _ rfl _ _ 121 rfl w.heap.size 154 i0 (.int .u32 0) 1 underlying121 c6 d7 d8 .i64 .i64 _ _ a.length rfl rfl ?m0 ?m1 ?m2 ?m3 ?m4 ?_)
 try (case m0=>first|rfl|omega)
 try (case m1=>first|rfl|omega)
 try (case m2=>(first|omega|(rw[d9];omega)))
 try (case m3=>(unfold maxLen;omega))
 try (case m4=>exact Of)
 intro w1 O b7
 first|rw[K8] at O|rw[Ka] at O
 have E:Gw w1 w.heap.size (List.replicate a.length 0):=Kp O;have b3:Up w w1:=(Jh _ _).grown b7 Of (fun k h=>by cases h);clear O b7
 go_wp2
 go_loopw [6,14] (fun cv iv wr=>∃ (i c:Nat) (L:List Nat),i<=a.length/\c<=1/\L.length=a.length/\okL L/\Gw wr w.heap.size L/\cv=.int .i64 (c:Nat)/\iv=.int .i64 i /\
  val (L.take i)+val (b.take i)=val (a.take i)+1000000000 ^ i*c/\Up w wr) (fun _ iv _=>a.length - (intOf iv).toNat)
 case atStart=>exact⟨0,0,_,by omega,by omega,by simp,fun x hx=>by rw[Yq hx];omega,E,rfl,rfl,by simp[val],b3⟩
 clear E b3;obtain⟨i,c,L,hi,hc,U,d,E,rfl,rfl,j,V⟩:=hrel
 by_cases b9:i<a.length
 ·obtain⟨ba,oa,rfl,c8,Y⟩:=HA.o i b9;rw[<-V.cell (p:=⟨ba,oa+i,none⟩) c8] at Y;have d5:=O9 a b4 i b9;obtain⟨x,hx⟩:=O1 (a.getD i 0);rw[hx] at Y d5
  by_cases b8:i<b.length
  ·obtain⟨bb,ob,rfl,d0,Z⟩:=HB.o i b8;rw[<-V.cell (p:=⟨bb,ob+i,none⟩) d0] at Z;have d6:=O9 b b5 i b8;obtain⟨y,hy⟩:=O1 (b.getD i 0);rw[hy] at Z d6
   by_cases b6:x<c+y
   ·have A:=Hz (1000000000 ^ i) _ _ _ c x y (x+1000000000 - c - y) 1 j (by omega);have K:Hid (val ((L.set i (x+1000000000 - c - y)).take (i+1))+val (b.take (i+1))=val (a.take (i+1))+1000000000 ^ (i+1)*1):=by
     unfold Hid
     rw[O2 L i _ (by omega),Ok,Ok,hx,hy,J5];exact A
    have M:=E.cell i (by omega);have a8:=E.frozen i;have J:Hid (Gw (wr.setCell ⟨w.heap.size,i,none⟩ (.int .u32 (((x+1000000000 - c - y):Nat):Int))) w.heap.size (L.set i (x+1000000000 - c - y))):=E.set i _;have G:Hid (∀ u,Up w (wr.setCell ⟨w.heap.size,i,none⟩ u)):=fun u=>V.setCell Of u;have I:Hid (okL (L.set i (x+1000000000 - c - y))):=U4 L d i _ (by omega);clear A j hx hy E V d
    go_wp2
    go_roundw
    case rel=>
     refine⟨i+1,1,L.set i (x+1000000000 - c - y),by omega,by omega,by simp[U],I.o,?_,rfl,by go_num,K.o,G.o _⟩;have h:=J.o;rw[show ((((x+1000000000 - c - y)):Nat):Int)=_ from ?_] at h
     ·exact h
     omega
    simp[intOf];omega
   have A:=Hz (1000000000 ^ i) _ _ _ c x y (x - c - y) 0 j (by omega);have K:Hid (val ((L.set i (x - c - y)).take (i+1))+val (b.take (i+1))=val (a.take (i+1))+1000000000 ^ (i+1)*0):=by
    unfold Hid
    rw[O2 L i _ (by omega),Ok,Ok,hx,hy,J5];exact A
   have M:=E.cell i (by omega);have a8:=E.frozen i;have J:Hid (Gw (wr.setCell ⟨w.heap.size,i,none⟩ (.int .u32 (((x - c - y):Nat):Int))) w.heap.size (L.set i (x - c - y))):=E.set i _;have G:Hid (∀ u,Up w (wr.setCell ⟨w.heap.size,i,none⟩ u)):=fun u=>V.setCell Of u;have I:Hid (okL (L.set i (x - c - y))):=U4 L d i _ (by omega);clear A j hx hy E V d
   go_wp2
   go_roundw
   case rel=>
    refine⟨i+1,0,L.set i (x - c - y),by omega,by omega,by simp[U],I.o,?_,rfl,by go_num,K.o,G.o _⟩;have h:=J.o;rw[show ((((x - c - y)):Nat):Int)=_ from ?_] at h
    ·exact h
    omega
   simp[intOf];omega
  have a7:b.getD i 0=0:=by rw[Jk,Yj (by omega)];rfl
  by_cases b6:x<c
  ·have A:=Hz (1000000000 ^ i) _ _ _ c x 0 (x+1000000000 - c) 1 j (by omega);have K:Hid (val ((L.set i (x+1000000000 - c)).take (i+1))+val (b.take (i+1))=val (a.take (i+1))+1000000000 ^ (i+1)*1):=by
    unfold Hid
    rw[O2 L i _ (by omega),Ok,Ok,hx,a7,J5];exact A
   have M:=E.cell i (by omega);have a8:=E.frozen i;have J:Hid (Gw (wr.setCell ⟨w.heap.size,i,none⟩ (.int .u32 (((x+1000000000 - c):Nat):Int))) w.heap.size (L.set i (x+1000000000 - c))):=E.set i _;have G:Hid (∀ u,Up w (wr.setCell ⟨w.heap.size,i,none⟩ u)):=fun u=>V.setCell Of u;have I:Hid (okL (L.set i (x+1000000000 - c))):=U4 L d i _ (by omega);clear A j hx a7 E V d
   go_wp2
   go_roundw
   case rel=>
    refine⟨i+1,1,L.set i (x+1000000000 - c),by omega,by omega,by simp[U],I.o,?_,rfl,by go_num,K.o,G.o _⟩;have h:=J.o;rw[show ((((x+1000000000 - c)):Nat):Int)=_ from ?_] at h
    ·exact h
    omega
   simp[intOf];omega
  have A:=Hz (1000000000 ^ i) _ _ _ c x 0 (x - c) 0 j (by omega);have K:Hid (val ((L.set i (x - c)).take (i+1))+val (b.take (i+1))=val (a.take (i+1))+1000000000 ^ (i+1)*0):=by
   unfold Hid
   rw[O2 L i _ (by omega),Ok,Ok,hx,a7,J5];exact A
  have M:=E.cell i (by omega);have a8:=E.frozen i;have J:Hid (Gw (wr.setCell ⟨w.heap.size,i,none⟩ (.int .u32 (((x - c):Nat):Int))) w.heap.size (L.set i (x - c))):=E.set i _;have G:Hid (∀ u,Up w (wr.setCell ⟨w.heap.size,i,none⟩ u)):=fun u=>V.setCell Of u;have I:Hid (okL (L.set i (x - c))):=U4 L d i _ (by omega);clear A j hx a7 E V d
  go_wp2
  go_roundw
  case rel=>
   refine⟨i+1,0,L.set i (x - c),by omega,by omega,by simp[U],I.o,?_,rfl,by go_num,K.o,G.o _⟩;have h:=J.o;rw[show ((((x - c)):Nat):Int)=_ from ?_] at h
   ·exact h
   omega
  simp[intOf];omega
 obtain rfl:i=a.length:=by omega
 have hE:=Ad (1000000000 ^ a.length) c _ _ _ j (by rw[Jn (by omega)];exact N1 L d _ (by omega)) (by rw[Jn (by omega),Jn (by omega)];exact d3.o);rw[Jn (by omega),Jn (by omega),Jn (by omega)] at hE;have HE:=Hd hE;have HL:Hid (U1 w.heap.size wr (.slice (some ⟨w.heap.size,0,none⟩) a.length a.length) L):=by
  have:=E.isL (B:=w.heap.size) (cap:=a.length) Of d (by omega) (by unfold maxLen;omega);rw[U] at this;exact this
 have d2:=Hd V;clear hE j E V d
 go_wp2
 go_ret
 exact⟨L,rfl,HL.o,HE.o,U,d2.o⟩
theorem Du (l:List Nat)(k x:Nat)(hk:k<l.length):Ek (l.set k x) k=Ek l (k+1)*1000000000+x:=by
 rw[Ik _ _ (by simpa using hk)];have d:Ek (l.set k x) (k+1)=Ek l (k+1):=by
  unfold Ek;rw[List.drop_set_of_lt (by omega)]
 have h:(l.set k x).getD k 0=x:=by rw[Jk,Y3 (by omega)];rfl
 rw[d,h]
theorem IM (Va Vq d r x Z:Nat)(h:Va=Vq*d+r)(hZ:r*1000000000+x=Z):Va*1000000000+x=(Vq*1000000000+Z / d)*d+Z % d:=by
 have j:=Uc Z d;rw[Zl,h,Zl,Nat.mul_right_comm,Yy (Z / d) d];omega
theorem CU (d r x Z:Nat)(hd:0<d)(hr:r<d)(hx:x<1000000000)(hZ:r*1000000000+x=Z):Z / d<1000000000:=by
 rw[Nat.div_lt_iff_lt_mul hd];have:(r+1)*1000000000<=d*1000000000:=Yh _ hr;omega
theorem Qw (B:Nat)(va:Value)(a:List Nat)(d:Nat)(w:World)(ha:U1 B w va a)(hla:a.length<=100000)(hd:0<d)(hd2:d<=1000000000) :
 Calls prog 230 #[va,.int .u32 (d:Nat)] w fun e w'=>∃ v q r,e=.returned (.tuple #[v,.int .u32 (r:Nat)])/\U1 w.heap.size w' v q/\isTrim q/\q.length<=a.length/\val a=val q*d+r/\r<d/\Up w w':=by
 obtain⟨i0,b6,e4,e5,e6⟩:=info_parts info_u32;obtain⟨pa,ca,rfl,_⟩:=id ha;obtain⟨_,_,_,b4,J⟩:=ha.cells;have HA:=Hd J;clear J ha
 go_in
 go_wp2_with (at_make;refine wpList_make_full _ rfl _ _ 121 rfl w.heap.size 154 i0 (.int .u32 0) 1 underlying121 b6 e4 e5 .i64 .i64 _ _ a.length rfl rfl ?m0 ?m1 ?m2 ?m3 ?m4 ?_)
 try (case m0=>first|rfl|omega)
 try (case m1=>first|rfl|omega)
 try (case m2=>(first|omega|(rw[e6];omega)))
 try (case m3=>(unfold maxLen;omega))
 try (case m4=>exact Of)
 intro w1 I b5
 first|rw[K8] at I|rw[Ka] at I
 have K:O7 w1 w.heap.size (List.replicate a.length 0):=(Kp I).tail;have a8:Up w w1:=(Jh _ _).grown b5 Of (fun k h=>by cases h);clear I b5
 go_wp2
 go_loopw [7,8] (fun rv iv wr=>∃ (j r:Nat) (L:List Nat),j<=a.length/\r<d/\L.length=a.length/\okL L/\O7 wr w.heap.size L/\rv=.int .u64 (r:Nat)/\iv=.int .i64 ((j:Int) - 1) /\
  Ek a j=Ek L j*d+r/\Up w wr) (fun _ iv _=>(intOf iv+1).toNat)
 case atStart=>exact⟨a.length,0,_,by omega,by omega,by simp,fun x hx=>by rw[Yq hx];omega,K,rfl,Ob (by omega),by rw[Dz];unfold Ek;simp[val],a8⟩
 clear K a8;obtain⟨j,r,L,hj,hr,d9,E,K,rfl,rfl,A,hB⟩:=hrel
 cases j with
 | zero=>
   unfold Ek at A;rw[Y5,Y5] at A;have HI:Hid (U1 w.heap.size wr (.slice (some ⟨w.heap.size,0,none⟩) a.length a.length) L):=by
    have h:=K.isL (B:=w.heap.size) (cap:=a.length) Of E (by omega) (by unfold maxLen;omega);rw[d9] at h;exact h
   have HT:Hid (val a=val (Oe L)*d+r/\(Oe L).length<=a.length/\isTrim (Oe L)):=⟨by rw[O3];exact A,by have:=Ku L;omega,trimL_trim _⟩;have d2:=Hd hB;clear A K hB E
   go_wp2_with fail
   refine (E4 w.heap.size _ L _ HI.o).mono ?_;rintro e w5 ⟨v,rfl,hcut,rfl⟩;have HW:Hid (U1 w.heap.size w5 v (Oe L)):=hcut _ _ HI.o;obtain⟨pv,cv,hv,_⟩:=HW.o;subst hv;clear hcut
   go_wp2
   go_ret2
   exact⟨_,_,r,rfl,HW.o,HT.o.2.2,HT.o.2.1,HT.o.1,hr,d2.o⟩
 | succ k=>
   obtain⟨ba,oa,rfl,b7,J⟩:=HA.o k (by omega);rw[<-hB.cell (p:=⟨ba,oa+k,none⟩) b7] at J;have V:=O9 a b4 k (by omega);have U:=Ik a k (by omega);obtain⟨x,hx⟩:=O1 (a.getD k 0);rw[hx] at J V U;obtain⟨Z,hZ⟩:=O1 (r*1000000000+x);have O:=CU d r x Z hd hr V hZ;have b8:=Zx Z hd;have d7:Hid (Ek a k=Ek (L.set k (Z / d)) k*d+Z % d):=by
    unfold Hid
    rw[U,Du L k _ (by omega)];exact IM _ _ d r x Z A hZ
   have e0:=K.cell k (by omega);have g0:=K.frozen k;have d6:Hid (∀ v:Int,v=((Z / d:Nat):Int)->O7 (wr.setCell ⟨w.heap.size,k,none⟩ (.int .u32 v)) w.heap.size (L.set k (Z / d))):=fun v hv=>by
    rw[hv];exact K.set _ _ (by omega)
   have d1:Hid (∀ v,Up w (wr.setCell ⟨w.heap.size,k,none⟩ v)):=fun v=>hB.setCell Of _;have M:Hid (okL (L.set k (Z / d))/\(L.set k (Z / d)).length=a.length):=⟨U4 L E _ _ O,by simp;omega⟩;obtain⟨X,hX⟩:∃ X:Int,(x:Int)=X:=⟨_,rfl⟩;rw[hX] at J;obtain⟨G,hG⟩:∃ G:Int,(d:Int)=G:=⟨_,rfl⟩;obtain⟨Y,hY⟩:∃ Y:Int,(r:Int)=Y:=⟨_,rfl⟩;have e1:(Y*1000000000+X) / G=((Z / d:Nat):Int):=by rw[<-hZ,<-hX,<-hG,<-hY];rfl
   have e2:(Y*1000000000+X) % G=((Z % d:Nat):Int):=by rw[<-hZ,<-hX,<-hG,<-hY];rfl
   have x1:0<=X:=by omega
   have x2:X<1000000000:=by omega
   have y1:0<=Y:=by omega
   have y2:Y<1000000000:=by omega
   have g1:0<G:=by omega
   have g2:G<=1000000000:=by omega
   have k1:0<=(Y*1000000000+X) / G:=by rw[e1];exact Ut _
   have k2:(Y*1000000000+X) / G<1000000000:=by rw[e1];exact Int.ofNat_lt.2 O
   have d3:Hid ((Y*1000000000+X) / G=((Z / d:Nat):Int)):=e1;have d4:Hid ((Y*1000000000+X) % G=((Z % d:Nat):Int)):=e2;have d5:=Hd b8;rw[hG,hY];clear K E A hB U e1 e2 hx hX hG hY hZ V hr O b8
   go_wp2
   go_roundw
   case rel=>exact⟨k,Z % d,L.set k (Z / d),by omega,d5.o,M.o.2,M.o.1,d6.o _ d3.o,Ob d4.o,by go_num,d7.o,d1.o _⟩
   simp[intOf]
def Rx (x2 x1 x0 d1 d0 g:Nat):Prop:=
 g*(d1*1000000000+d0)<=(x2*1000000000+x1)*1000000000+x0/\(x2*1000000000+x1)*1000000000+x0<(g+1)*(d1*1000000000+d0)
def I7 (x2 x1 x0 d1 d0 g l:Nat):Prop:=
 g*d1+l=x2*1000000000+x1/\l<=2000000001/\g<=1000000001/\(x2*1000000000+x1)*1000000000+x0<(g+1)*(d1*1000000000+d0)
theorem S0 (x2 x1 x0 d1 d0:Nat)(h1:500000000<=d1)(h2:d1<1000000000)(hx2:x2<=d1)(hx1:x1<1000000000)(hx0:x0<1000000000) :
 I7 x2 x1 x0 d1 d0 ((x2*1000000000+x1) / d1) ((x2*1000000000+x1) % d1):=by
 have e:=Uc (x2*1000000000+x1) d1;have l:=Zx (x2*1000000000+x1) (show d1 > 0 by omega);have g:(x2*1000000000+x1) / d1<=1000000001:=by
  apply Nat.le_of_lt_succ;rw[Nat.div_lt_iff_lt_mul (by omega)];omega
 obtain⟨q,d⟩:=O1 ((x2*1000000000+x1) / d1);obtain⟨r,h⟩:=O1 ((x2*1000000000+x1) % d1);rw[d,h];rw[d,h] at e;rw[h] at l;rw[d] at g;clear d h;refine⟨by rw[Yy];exact e,by omega,g,?_⟩;rw[Yf,<-Yt,Zl q 1 d1,Zq,Yy q d1];have:0<=(q+1)*d0:=Jy _;omega
theorem LV (T v l x0 u:Nat)(e:v+l=T)(hc:l*1000000000+x0<u):T*1000000000+x0<v*1000000000+u:=by
 subst e;rw[Zl,Uo];exact Nat.add_lt_add_left hc _
theorem Sj {x2 x1 x0 d1 d0 g l:Nat}(h:I7 x2 x1 x0 d1 d0 g l)(h2:d1<1000000000)(hd0:d0<1000000000)(hc:l*1000000000+x0<g*d0) :
 1<=g/\I7 x2 x1 x0 d1 d0 (g - 1) (l+d1):=by
 obtain⟨e,hl,j,hb⟩:=h;have A:1<=g:=by
  apply Yp;rintro rfl;rw[Vu] at hc;omega
 obtain⟨k,rfl⟩:∃ k,g=k+1:=⟨g - 1,by omega⟩;have p:(k+1)*d0<=1000000001*999999999:=V8 j (by omega);rw[Z7];rw[Zl,Zq] at e;have d:l<1000000000:=by
  have:(1000000001*999999999:Nat)=1000000000*1000000000 - 1:=by decide
  omega
 refine⟨by omega,by omega,by omega,by omega,?_⟩;clear hb p d hl j A;rw[Yf,<-Yt,Zl k 1 d1,Zq];exact LV _ _ l _ _ e hc
theorem EY {x2 x1 x0 d1 d0 g l:Nat}(h:I7 x2 x1 x0 d1 d0 g l)(hc:g*d0<=l*1000000000+x0):Rx x2 x1 x0 d1 d0 g:=by
 obtain⟨e,hl,d,hb⟩:=h;refine⟨?_,hb⟩;rw[Yf,<-Yt];omega
theorem Lf (R off cap D doff dcap n:Nat)(x2 x1 x0 d1 d0:Nat)(w:World)(hR:R<w.heap.size)(hn:2<=n)(hn2:n<=200000)
 (c2:w.cell? ⟨R,off+n,none⟩=some (.int .u32 (x2:Nat))) (c1:w.cell? ⟨R,off+(n - 1),none⟩=some (.int .u32 (x1:Nat))) (c0:w.cell? ⟨R,off+(n - 2),none⟩=some (.int .u32 (x0:Nat)))
 (e1:w.cell? ⟨D,doff+(n - 1),none⟩=some (.int .u32 (d1:Nat))) (e0:w.cell? ⟨D,doff+(n - 2),none⟩=some (.int .u32 (d0:Nat)))
 (h1:500000000<=d1) (h2:d1<1000000000) (h3:d0<1000000000) (hx2:x2<=d1) (hx1:x1<1000000000) (hx0:x0<1000000000) :
 Calls prog 252 #[.slice (some ⟨R,off,none⟩) (n+1) cap,.slice (some ⟨D,doff,none⟩) n dcap] w fun e w'=>∃ g:Nat,e=.returned (.int .u64 (g:Nat))/\Rx x2 x1 x0 d1 d0 g/\Up w w':=by
 have d7:Hid (I7 x2 x1 x0 d1 d0 ((x2*1000000000+x1) / d1) ((x2*1000000000+x1) % d1)):=S0 x2 x1 x0 d1 d0 h1 h2 hx2 hx1 hx0;obtain⟨k,rfl⟩:∃ k,n=k+2:=⟨n - 2,by omega⟩;rw[show k+2 - 1=k+1 by omega] at c1 e1;rw[show k+2 - 2=k by omega] at c0 e0;have a8:Hid (∀ W,Up w W->W.cell? ⟨R,off+k,none⟩=some (.int .u32 (x0:Nat))):=fun W hW=>(hW.cell (p:=⟨R,off+k,none⟩) hR).trans c0;obtain⟨Z,J⟩:∃ X:Int,(x2:Int)=X:=⟨_,rfl⟩;obtain⟨Y,I⟩:∃ X:Int,(x1:Int)=X:=⟨_,rfl⟩;obtain⟨M,E⟩:∃ X:Int,(d1:Int)=X:=⟨_,rfl⟩;obtain⟨K,O⟩:∃ X:Int,(d0:Int)=X:=⟨_,rfl⟩;obtain⟨X0,V⟩:∃ X:Int,(x0:Int)=X:=⟨_,rfl⟩;have q1:(Z*1000000000+Y) / M=(((x2*1000000000+x1) / d1:Nat):Int):=by rw[<-J,<-I,<-E];rfl
 have q2:(Z*1000000000+Y) % M=(((x2*1000000000+x1) % d1:Nat):Int):=by rw[<-J,<-I,<-E];rfl
 have d5:Hid ((Z*1000000000+Y) / M=(((x2*1000000000+x1) / d1:Nat):Int)):=q1;have d6:Hid ((Z*1000000000+Y) % M=(((x2*1000000000+x1) % d1:Nat):Int)):=q2;have HL:Hid ((d1:Int)=M/\(d0:Int)=K/\(x0:Int)=X0):=⟨E,O,V⟩;have HH:Hid (d1<1000000000/\d0<1000000000):=⟨h2,h3⟩;rw[J] at c2;rw[I] at c1;rw[V] at c0 a8;rw[E] at e1;rw[O] at e0;have b1:0<=Z:=by omega
 have b2:Z<1000000000:=by omega
 have b3:0<=Y:=by omega
 have b4:Y<1000000000:=by omega
 have b5:500000000<=M:=by omega
 have b6:M<1000000000:=by omega
 have b7:0<=K:=by omega
 have b8:K<1000000000:=by omega
 have b9:0<=X0:=by omega
 have e6:X0<1000000000:=by omega
 clear J I E O V q1 q2 h1 h2 h3 hx2 hx1 hx0
 go_in
 go_wp2
 go_quiet (fail)
 go_wp2
 go_quiet (fail)
 go_wp2
 go_quiet (fail)
 go_wp2
 go_loopw [9,10] (fun gv lv wr=>∃ g l:Nat,gv=.int .u64 (g:Nat)/\lv=.int .u64 (l:Nat)/\I7 x2 x1 x0 d1 d0 g l/\Up w wr) (fun gv _ _=>(intOf gv).toNat)
 case atStart=>exact⟨_,_,Ob d5.o,Ob d6.o,d7.o,below_drewN (below_drewN (below_drewN (Jh _ _) _) _) _⟩
 obtain⟨g,l,rfl,rfl,U,hB⟩:=hrel;have e7:=a8.o _ hB;have HB:=Hd hB;have hg:=U.2.2.1;have hl:=U.2.1;have HG:=Hd U;have hp:g*d0<=1000000001*999999999:=V8 hg (by have:=HH.o;omega);obtain⟨P,hP⟩:=O1 (g*d0);rw[hP] at hp;obtain⟨G,d⟩:∃ G:Int,(g:Int)=G:=⟨_,rfl⟩;obtain⟨L,h⟩:∃ L:Int,(l:Int)=L:=⟨_,rfl⟩;have j:G*K=(P:Int):=by rw[<-hP,<-d,<-HL.o.2.1];rfl
 have m1:0<=G*K:=by rw[j];omega
 have m2:G*K<=1000000001000000000:=by rw[j];omega
 have m3:0<=L:=by omega
 have m4:L<=2000000001:=by omega
 have m5:0<=G:=by omega
 have m6:G<=1000000001:=by omega
 by_cases hc:l*1000000000+x0<g*d0
 ·have HN:Hid (1<=g/\I7 x2 x1 x0 d1 d0 (g - 1) (l+d1)):=Sj U HH.o.1 HH.o.2 hc;have t1:L*1000000000+X0<G*K:=by rw[j];rw[hP] at hc;have:=HL.o.2.2;omega
  have m7:1<=G:=by have:=HN.o.1;omega
  have A:Hid ((g:Int)=G/\(l:Int)=L):=⟨d,h⟩;rw[d,h];clear hB U hp hP j d h hg hl hc
  go_wp2
  go_roundw
  case rel=>exact⟨g - 1,l+d1,Ob (by have:=A.o;have:=HN.o.1;omega),Ob (by have:=A.o;have:=HL.o.1;omega),HN.o.2,HB.o⟩
  simp[intOf];have:=A.o;have:=HN.o.1;omega
 have HE:Hid (Rx x2 x1 x0 d1 d0 g):=EY U (by omega);have t1:G*K<=L*1000000000+X0:=by rw[j];rw[hP] at hc;have:=HL.o.2.2;omega
 have A:Hid ((g:Int)=G/\(l:Int)=L):=⟨d,h⟩;rw[d,h];clear hB U hp hP j d h hg hl hc
 go_wp2
 go_ret
 exact⟨g,K5 A.o.1.symm,HE.o,HB.o⟩
theorem FH (X3 D2 K xl dl g:Nat)(hxl:xl<K)(hdl:dl<K)(h1:g*D2<=X3)(h2:X3<(g+1)*D2)(hX3:X3<1000000000000000000000000000)(hD2:500000000000000000<=D2)
 (hX:X3*K+xl<(D2*K+dl)*1000000000) :
 g*(D2*K+dl)<=X3*K+xl+(D2*K+dl)/\X3*K+xl<(g+1)*(D2*K+dl)/\g<=1000000000:=by
 have a1:X3*K+xl<(g+1)*(D2*K+dl):=by
  have d:(X3+1)*K<=(g+1)*D2*K:=Yh K h2;have j:(g+1)*(D2*K+dl)=(g+1)*D2*K+(g+1)*dl:=by rw[Yf,Yt]
  rw[Zl,Zq] at d;omega
 have A:g<=D2:=by
  apply Zz;intro h;have d:500000000000000001*500000000000000000<=g*D2:=V8 (by omega) hD2;omega
 have a2:g*(D2*K+dl)<=X3*K+xl+(D2*K+dl):=by
  have d:g*D2*K<=X3*K:=Yh K h1;have j:g*(D2*K+dl)=g*D2*K+g*dl:=by rw[Yf,Yt]
  have E:g*dl<=D2*K:=V8 A (by omega);omega
 refine⟨a2,a1,?_⟩;apply Zz;intro h;have d:1000000001*(D2*K+dl)<=g*(D2*K+dl):=Yh _ h;omega
theorem VY (P Wn x Dv g c W':Nat)(h:W'+g*Dv=Wn+P*c)(hc:c<=x)(hX:Wn+P*x<(g+1)*Dv)(hD:Dv<=P):c=x/\Wn+P*x=g*Dv+W'/\W'<Dv:=by
 rw[Zl,Zq] at hX;have d:c=x:=by
  apply Nat.le_antisymm hc;apply Zz;intro j;have e:P*(c+1)<=P*x:=J8 P j;rw[Yf,Z0] at e;omega
 subst d;exact⟨rfl,by omega,by omega⟩
theorem VZ (P Wn x Dv g c W' W2 c2:Nat)(h:W'+g*Dv=Wn+P*c)(hc:x<c)(hX:g*Dv<=Wn+P*x+Dv)(hW:W'<P)(hD:Dv<=P)(h2:W2+P*c2=W'+Dv)(hW2:W2<P) :
 1<=g/\Wn+P*x=(g - 1)*Dv+W2/\W2<Dv:=by
 obtain⟨k,rfl⟩:∃ k,c=x+1+k:=⟨c - x - 1,by omega⟩;have A:P*(x+1+k)=P*x+P+P*k:=by rw[Yf,Yf,Z0]
 rw[A] at h;have E:1<=g:=by
  apply Yp;rintro rfl;rw[Vu] at h;omega
 obtain⟨q,rfl⟩:∃ q,g=q+1:=⟨g - 1,by omega⟩;rw[Zl,Zq] at h hX;rw[Z7];have G:k=0:=by
  apply Nat.eq_zero_of_not_pos;intro j;have:P*1<=P*k:=J8 P j;omega
 subst G;rw[Z9] at h;have d:c2=1:=by
  have u:c2<2:=by
   apply Um;intro j;have:P*2<=P*c2:=J8 P j;omega
  have l:c2≠0:=by
   rintro rfl;rw[Z9] at h2;omega
  omega
 subst d;rw[Z0] at h2;exact⟨E,by omega,by omega⟩
theorem LH (V a b K:Nat):V+K*a+K*1000000000*b=(b*1000000000+a)*K+V:=by grind
theorem LI (V a b c K:Nat):(b*1000000000+a)*K+V+K*1000000000*1000000000*c=((c*1000000000+b)*1000000000+a)*K+V:=by grind
theorem Wq (l:List Nat)(k:Nat):val (l.take (k+2))=(l.getD (k+1) 0*1000000000+l.getD k 0)*1000000000 ^ k+val (l.take k):=by
 rw[Ok l (k+1),Ok l k,J5];exact LH _ _ _ _
theorem RX (l:List Nat)(k:Nat):val (l.take (k+3))=((l.getD (k+2) 0*1000000000+l.getD (k+1) 0)*1000000000+l.getD k 0)*1000000000 ^ k+val (l.take k):=by
 rw[Ok l (k+2),Wq,J5,J5];exact LI _ _ _ _ _
theorem Mt (l:List Nat)(h:okL l)(n:Nat):okL (l.take n):=fun x hx=>h x (Yv hx)
theorem X5 (l:List Nat)(h:okL l)(n:Nat):okL (l.drop n):=fun x hx=>h x (Zy hx)
theorem Na (l:List Nat)(h:okL l)(n:Nat):val (l.take n)<1000000000 ^ n:=N1 _ (Mt l h n) n (by rw[J4];omega)
theorem UZ (T x N:Nat)(hT:T<N)(hx:x<1000000000):T*1000000000+x<N*1000000000:=by
 have h:(T+1)*1000000000<=N*1000000000:=Yh _ hT;rw[Zl,Zq] at h;exact Jz (Nat.add_lt_add_left hx _) h
theorem CA (x2 d1 W T P:Nat)(h:W+P*1000000000*x2<T*1000000000)(hT:T<P*(d1+1)):x2<=d1:=by
 apply Zz;intro d;have e:P*1000000000*(d1+1)<=P*1000000000*x2:=J8 _ d;have j:P*1000000000*(d1+1)=P*(d1+1)*1000000000:=by grind
 omega
theorem S1 (M Dl:List Nat)(k g:Nat)(hM:okL M)(hD:okL Dl)(hl:Dl.length=k+2)(htop:500000000<=Dl.getD (k+1) 0)
 (hlt:val (M.take (k+3))<val Dl*1000000000) (hg:Rx (M.getD (k+2) 0) (M.getD (k+1) 0) (M.getD k 0) (Dl.getD (k+1) 0) (Dl.getD k 0) g) (hml:k+3<=M.length) :
 g*val Dl<=val (M.take (k+3))+val Dl/\val (M.take (k+3))<(g+1)*val Dl/\g<=1000000000:=by
 have h:=RX M k;have d:=Wq Dl k;rw[Jn (by omega)] at d;have G:=Na M hM k;have E:=Na Dl hD k;have b2:=O9 M hM (k+2) (by omega);have b1:=O9 M hM (k+1) (by omega);have b0:=O9 M hM k (by omega);obtain⟨j,A⟩:=hg;rw[h,d] at hlt ⊢;exact FH _ _ _ _ _ g G E j A (UZ _ _ 1000000000000000000 (UZ _ _ 1000000000 b2 b1) b0) (by omega) hlt
theorem FW (M Dl:List Nat)(k:Nat)(hD:okL Dl)(hl:Dl.length=k+2)(hlt:val (M.take (k+3))<val Dl*1000000000):M.getD (k+2) 0<=Dl.getD (k+1) 0:=by
 have h:=Ok M (k+2);have d:=Ok Dl (k+1);rw[Jn (by omega)] at d;have j:=Na Dl hD (k+1);rw[h,J5] at hlt;exact CA _ _ _ _ (1000000000 ^ (k+1)) hlt (by rw[d,Yf,Z0];omega)
theorem Sd (R off cap D dcap k:Nat)(A Dl:List Nat)(w:World)(hR:O7 w R A)(hAok:okL A)(hl:Dl.length=k+2)(hn:off+(k+3)<=A.length)(hA:A.length<=150000)(hD:O7 w D Dl)(hDR:D≠R)(hDok:okL Dl)
 (htop:500000000<=Dl.getD (k+1) 0) (hlt:val ((A.drop off).take (k+3))<val Dl*1000000000) (hcap:k+3<=cap) :
 Calls prog 245 #[.slice (some ⟨R,off,none⟩) (k+3) cap,.slice (some ⟨D,0,none⟩) (k+2) dcap] w fun e w'=>∃ (q:Nat) (L:List Nat),e=.returned (.int .u32 (q:Nat))/\O7 w' R L/\L.length=A.length/\okL L/\L.take off=A.take off/\q<1000000000 /\
  val ((A.drop off).take (k+3))=q*val Dl+val ((L.drop off).take (k+2))/\val ((L.drop off).take (k+2))<val Dl/\Only R w w':=by
 have HM:Hid (okL (A.drop off)/\k+3<=(A.drop off).length):=⟨X5 A hAok off,by simp;omega⟩;have c2:=hR.cell (off+(k+2)) (by omega);have c1:=hR.cell (off+(k+1)) (by omega);have c0:=hR.cell (off+k) (by omega);have e1:=hD.cell (k+1) (by omega);have e0:=hD.cell k (by omega);have b1:=O9 A hAok (off+(k+1)) (by omega);have b0:=O9 A hAok (off+k) (by omega);have d1:=O9 Dl hDok (k+1) (by omega);have d0:=O9 Dl hDok k (by omega);have d2:=FW (A.drop off) Dl k hDok hl hlt;rw[Hc] at d2;have e5:=hR.lt;have g3:=hD.lt;have HG:Hid (∀ W,True->Calls prog 252 #[.slice (some ⟨R,off,none⟩) (k+3) cap,.slice (some ⟨D,0,none⟩) (k+2) dcap] w fun e w'=>∃ g:Nat,e=.returned (.int .u64 (g:Nat))/\Rx (A.getD (off+(k+2)) 0) (A.getD (off+(k+1)) 0) (A.getD (off+k) 0) (Dl.getD (k+1) 0) (Dl.getD k 0) g/\Up w w'):=fun (_:World) _=>
  Lf R off cap D 0 dcap (k+2) _ _ _ _ _ w e5 (by omega) (by omega) c2 (by rw[show k+2 - 1=k+1 by omega];exact c1) (by rw[show k+2 - 2=k by omega];exact c0) (by rw[show 0+(k+2 - 1)=k+1 by omega];exact e1) (by rw[show 0+(k+2 - 2)=k by omega];exact e0) htop d1 d0 d2 b1 b0
 have d6:Hid (O7 w R A/\O7 w D Dl):=⟨hR,hD⟩;have b6:Hid (val ((A.drop off).take (k+3))<val Dl*1000000000/\500000000<=Dl.getD (k+1) 0):=⟨hlt,htop⟩;clear c2 c1 c0 e1 e0 b1 b0 d1 d0 d2 hR hD hlt htop
 go_in
 go_wp2_with fail
 refine (HG.o w trivial).mono ?_;rintro e w1 ⟨g,rfl,hg,a8⟩;have b9:Only R w w1:=Only.of a8 (by omega);have f8:=Hd b9;have J:Hid (O7 w1 R A/\O7 w1 D Dl):=by
  refine⟨?_,b9.rowT hDR d6.o.2⟩;obtain⟨t,h⟩:=d6.o.1;exact⟨t,(a8.block R e5).trans h⟩
 have hw:=S1 (A.drop off) Dl k g HM.o.1 hDok hl b6.o.2 b6.o.1 (by rw[Hc,Hc,Hc];exact hg) HM.o.2;have HW:Hid (g*val Dl<=val ((A.drop off).take (k+3))+val Dl/\val ((A.drop off).take (k+3))<(g+1)*val Dl):=⟨hw.1,hw.2.1⟩;have g6:=hw.2.2;have d8:Hid (D<w1.heap.size):=Jz g3 a8.size;clear hg a8 b9 hw
 go_wp2_with fail
 have Y:=Co R off cap g (some ⟨D,0,none⟩) dcap A Dl w1 J.o.1 hAok (by omega) (by omega) hDok g6 (fun i hi=>⟨D,0,rfl,⟨d8.o,hDR⟩,by rw[Y4];exact J.o.2.cell i hi⟩);rw[hl] at Y;refine Y.mono ?_;clear Y;rintro e w2 ⟨c,L,rfl,M,b8,U,c6,c8,j2,I,K⟩;have d5:Hid (Only R w w2):=f8.o.trans K;have d7:Hid (O7 w2 R L/\O7 w2 D Dl):=⟨M,K.rowT hDR J.o.2⟩;have e6:=M.cell (off+(k+2)) (by omega);have hx:=Iw L A (off+(k+2)) c6;rw[hx] at e6;obtain⟨x,d3⟩:=O1 (A.getD (off+(k+2)) 0);rw[d3] at e6;have g8:=O9 A hAok (off+(k+2)) (by omega);rw[d3] at g8;have j:=Gs A off (k+2);rw[d3] at j;have b7:val Dl<1000000000 ^ (k+2):=N1 Dl hDok _ (by omega);have g0:Hid (D<w2.heap.size):=Jz d8.o K.bl.size;have d:Hid (O7 w2 R L/\L.length=A.length/\okL L/\L.take off=A.take off):=⟨M,b8,U,c8⟩
 by_cases g5:c<=x
 ·have hr:=VY (1000000000 ^ (k+2)) _ x (val Dl) g c _ I g5 (by rw[<-j];exact HW.o.2) (by omega);have HE:Hid (g<1000000000/\val ((A.drop off).take (k+3))=g*val Dl+val ((L.drop off).take (k+2))/\val ((L.drop off).take (k+2))<val Dl):=by
   have hE:val ((A.drop off).take (k+3))=g*val Dl+val ((L.drop off).take (k+2)):=j.trans hr.2.1;refine⟨?_,hE,hr.2.2⟩;apply Um;intro h9;have h8:1000000000*val Dl<=g*val Dl:=Yh _ h9;have:=b6.o.1;omega
  have t1:(c:Int)<=(x:Int):=by omega
  have gb:g<1000000000:=HE.o.1;clear I j hr M b8 U c6 c8 K hx b7
  go_wp2
  go_ret
  exact⟨g,L,rfl,d.o.1,d.o.2.1,d.o.2.2.1,d.o.2.2.2,HE.o.1,HE.o.2.1,HE.o.2.2,d5.o⟩
 have t1:(x:Int)<(c:Int):=by omega
 have HV:Hid (val ((L.drop off).take (k+2))+g*val Dl=val ((A.drop off).take (k+2))+1000000000 ^ (k+2)*c/\val ((A.drop off).take (k+3))=val ((A.drop off).take (k+2))+1000000000 ^ (k+2)*x/\val Dl<1000000000 ^ (k+2)/\x<c):=⟨I,j,b7,by omega⟩;have cb:(c:Int)<=1000000000:=by omega
 clear I j M b8 U c6 c8 K hx b7
 go_wp2_with fail
 have O:=Li R off cap (some ⟨D,0,none⟩) dcap L Dl w2 d.o.1 d.o.2.2.1 (by have:=d.o.2.1;omega) (by have:=d.o.2.1;omega) hDok (fun i hi=>⟨D,0,rfl,⟨g0.o,hDR⟩,by rw[Y4];exact d7.o.2.cell i hi⟩);rw[hl] at O;refine O.mono ?_;clear O;rintro e w3 ⟨c3,L3,rfl,e4,e2,V,e7,b5,j1,Z,e3⟩;have hr:=VZ (1000000000 ^ (k+2)) _ x (val Dl) g c _ _ c3 HV.o.1 HV.o.2.2.2 (by rw[<-HV.o.2.1];exact HW.o.1) (Na _ (X5 L d.o.2.2.1 off) _) (by have:=HV.o.2.2.1;omega) Z (Na _ (X5 L3 V off) _);have HE:Hid (1<=g/\g - 1<1000000000/\val ((A.drop off).take (k+3))=(g - 1)*val Dl+val ((L3.drop off).take (k+2))/\val ((L3.drop off).take (k+2))<val Dl):=⟨hr.1,by omega,HV.o.2.1.trans hr.2.1,hr.2.2⟩;have E:Hid (O7 w3 R L3/\L3.length=A.length/\okL L3/\L3.take off=A.take off):=⟨e4,by rw[e2];exact d.o.2.1,V,b5.trans d.o.2.2.2⟩;have f9:Hid (Only R w w3):=d5.o.trans e3;obtain⟨G,hG⟩:∃ G:Int,(g:Int)=G:=⟨_,rfl⟩;have g1:1<=G:=by have:=HE.o.1;omega
 have g2:G<=1000000000:=by omega
 have f5:=Hd hG;rw[hG];clear hr e4 e2 V e7 b5 Z e3 hG
 go_wp2
 go_ret
 exact⟨g - 1,L3,K5 (by have:=f5.o;have:=HE.o.1;omega),E.o.1,E.o.2.1,E.o.2.2.1,E.o.2.2.2,HE.o.2.1,HE.o.2.2.1,HE.o.2.2.2,f9.o⟩
theorem ZM (t s:Nat)(ht:1<=t)(ht2:t<1000000000)(h1:s*(t+1)<=1000000000)(h2:1000000000<(s+1)*(t+1)):500000000<=s*t:=by
 by_cases a:t=1
 ·subst a;omega
 by_cases b:s=1
 ·subst b;omega
 by_cases c:s=0
 ·subst c;omega
 obtain⟨u,rfl⟩:∃ u,s=u+2:=⟨s - 2,by omega⟩;obtain⟨v,rfl⟩:∃ v,t=v+2:=⟨t - 2,by omega⟩;have d:(u+2+1)*(v+2+1)=u*v+3*u+3*v+9:=by grind
 have h:(u+2)*(v+2)=u*v+2*u+2*v+4:=by grind
 rw[d] at h2;rw[h];omega
theorem GY (s t P vb:Nat)(hs:1<=s)(h1:s*(t+1)<=1000000000)(hb:vb<P*(t+1)):s*vb<P*1000000000:=by
 have d:s*(vb+1)<=s*(P*(t+1)):=J8 s hb;have h:s*(P*(t+1))=P*(s*(t+1)):=by grind
 have j:P*(s*(t+1))<=P*1000000000:=J8 P h1;rw[Yf,Z0] at d;omega
theorem GZ (s t P vb dt W:Nat)(hb:vb=W+P*t)(hd:s*vb<P*(dt+1)):s*t<=dt:=by
 apply Nat.le_of_lt_succ;apply Um;intro h;have j:P*(dt+1)<=P*(s*t):=J8 P h;have d:s*(W+P*t)=s*W+P*(s*t):=by grind
 rw[hb,d] at hd;omega
theorem KA (P Q V s va vb:Nat)(h:P*V<=s*va)(hva:va<P*Q)(hvb:Q<=vb)(hs:1<=s):V<s*vb:=by
 have d:s*(va+1)<=s*(P*Q):=J8 s hva;have A:s*(P*Q)=P*(s*Q):=by grind
 have j:s*Q<=s*vb:=J8 s hvb;apply Jz ?_ j;apply Um;intro h3;have E:P*(s*Q)<=P*V:=J8 P h3;rw[Yf,Z0] at d;omega
theorem Bu (x T Dv:Nat)(hx:x<1000000000)(hT:T<Dv):x+1000000000*T<Dv*1000000000:=by
 have:1000000000*(T+1)<=1000000000*Dv:=J8 _ hT;omega
theorem QH (S Vq P Dv Lo X q W:Nat)(h:S=Vq*(P*1000000000)*Dv+(Lo+P*X))(hX:X=q*Dv+W):S=(Vq*1000000000+q)*P*Dv+(Lo+P*W):=by
 rw[h,hX]
 grind
theorem PP (s va vb Q W U r:Nat)(hs:1<=s)(h:s*va=Q*(s*vb)+W)(hW:W<s*vb)(hU:W=U*s+r)(hr:r<s):va=Q*vb+U/\U<vb:=by
 have E:Q*(s*vb)=s*(Q*vb):=by grind
 rw[E,hU] at h;have I:Q*vb<=va:=by
  apply Zz;intro d;have:s*(va+1)<=s*(Q*vb):=J8 s d;rw[Yf,Z0] at this;omega
 obtain⟨y,rfl⟩:∃ y,va=Q*vb+y:=⟨va - Q*vb,by omega⟩;have G:s*y=U*s+r:=by
  rw[Yf] at h;omega
 have A:U=y:=by
  have J:y*s=U*s+r:=by rw[Yy];exact G
  apply Nat.le_antisymm
  ·apply Zz;intro d;have:(y+1)*s<=U*s:=Yh s d;rw[Zl,Zq] at this;omega
  apply Zz;intro d;have:(U+1)*s<=y*s:=Yh s d;rw[Zl,Zq] at this;omega
 subst A;refine⟨rfl,?_⟩;apply Um;intro j;have:s*vb<=s*U:=J8 s j;omega
theorem Ab (L:List Nat)(i n:Nat)(h:i<=L.length):val (L.take (i+n))=val (L.take i)+1000000000 ^ i*val ((L.drop i).take n):=by
 rw[List.take_add,Rh,J4,Zi h]
theorem Am (L:List Nat)(i n:Nat)(h:i<L.length):val ((L.drop i).take (n+1))=L.getD i 0+1000000000*val ((L.drop (i+1)).take n):=by
 rw[Vm h,List.take_succ_cons,val,Jk,Jf h];rfl
theorem O7.other {w:World}{R:Nat}{l:List Nat}(h:O7 w R l)(p:Addr)(u:Value)(hp:p.block≠R):O7 (w.setCell p u) R l:=by
 obtain⟨t,h⟩:=h;refine⟨t,Eq.trans ?_ h⟩
 show (w.heap.modify p.block _)[R]? = _
 rw[Array.getElem?_modify,if_neg hp]
theorem O7.kept {w w':World}{R:Nat}{l:List Nat}(h:O7 w R l)(hb:Up w w'):O7 w' R l:=by
 have d:=h.lt;obtain⟨t,h⟩:=h;exact⟨t,(hb.block R d).trans h⟩
theorem O7.keptB {w w':World}{R N:Nat}{l:List Nat}(h:O7 w R l)(hb:Below N w w')(hR:R<N):O7 w' R l:=by
 obtain⟨t,h⟩:=h;exact⟨t,(hb.block R hR).trans h⟩
structure DivAt (a b:List Nat)(s k m:Nat)(Dl L Q:List Nat)(j:Nat):Prop where
 len:L.length=k+2+m+1
 ok:okL L
 qlen:Q.length=m+1
 qok:okL Q
 le:j<=m+1
 eq:s*val a=Ek Q j*1000000000 ^ j*val Dl+val (L.take (j+(k+2)))
 top:val ((L.drop j).take (k+2))<val Dl
theorem DivAt.step {a b:List Nat}{s k m:Nat}{Dl L Q:List Nat}{i:Nat}(h:DivAt a b s k m Dl L Q (i+1)){q:Nat}{L':List Nat}(hq:q<1000000000)(hL:L'.length=L.length)(hok:okL L')(htk:L'.take i=L.take i)
 (hX:val ((L.drop i).take (k+3))=q*val Dl+val ((L'.drop i).take (k+2))) (ht:val ((L'.drop i).take (k+2))<val Dl):DivAt a b s k m Dl L' (Q.set i q) i:=by
 have d:=h.le;refine⟨hL.trans h.len,hok,by simp[h.qlen],U4 Q h.qok i q hq,by omega,?_,ht⟩;have e:=h.eq;rw[show i+1+(k+2)=i+(k+3) by omega,Ab L i (k+3) (by have:=h.len;omega),J5] at e;rw[Du Q i q (by have:=h.qlen;omega),Ab L' i (k+2) (by have:=h.len;omega),htk];exact QH _ _ _ _ _ _ q _ e hX
theorem DivAt.window {a b:List Nat}{s k m:Nat}{Dl L Q:List Nat}{i:Nat}(h:DivAt a b s k m Dl L Q (i+1)):val ((L.drop i).take (k+3))<val Dl*1000000000:=by
 have d:=h.le;have hl:=h.len;rw[Am L i (k+2) (by omega)];exact Bu _ _ _ (O9 L h.ok i (by omega)) h.top
theorem Rw (b:List Nat)(k:Nat)(hl:b.length=k+1)(ht:isTrim b):1<=b.getD k 0:=by
 have d:b≠[]:=by intro h;rw[h] at hl;simp at hl
 have h:=ht d;rw[List.getLast_eq_getElem] at h;have e:b.getD k 0=b[b.length - 1]'(by omega):=by
  rw[Jk,Jf (by omega)];simp[hl]
 omega
theorem Sp (B:Nat)(va vb:Value)(a b:List Nat)(k m:Nat)(w:World)(ha:U1 B w va a)(hb:U1 B w vb b)(hlb:b.length=k+2)(hla:a.length=k+2+m)(hmx:k+2+m<=100000)(htb:isTrim b) :
 Calls prog 231 #[va,vb] w fun e w'=>∃ v u Q U,e=.returned (.tuple #[v,u])/\U1 w.heap.size w' v Q/\U1 w.heap.size w' u U/\isTrim Q/\isTrim U/\Q.length<=m+1/\U.length<=k+2/\val a=val Q*val b+val U/\val U<val b/\Up w w':=by
 obtain⟨i0,b7,g6,g7,g8⟩:=info_parts info_u32;obtain⟨pa,ca,rfl,_⟩:=id ha;obtain⟨pb,cb,rfl,_⟩:=id hb;obtain⟨_,_,_,d7,j7⟩:=ha.cells;obtain⟨_,_,_,b5,f8⟩:=hb.cells;have HA:=Hd j7;have HB:=Hd f8;obtain⟨bb,ob,rfl,q5,g0⟩:=f8 (k+1) (by omega);have k8:=Rw b (k+1) hlb htb;have k9:=O9 b b5 (k+1) (by omega);obtain⟨t,ht⟩:=O1 (b.getD (k+1) 0);obtain⟨s,hs⟩:=O1 (1000000000 / (t+1));have g1:s*(t+1)<=1000000000:=by rw[<-hs];exact Nat.div_mul_le_self _ _
 have k1:1000000000<(s+1)*(t+1):=by
  have:=Nat.lt_div_mul_add (a:=1000000000) (b:=t+1) (by omega);rw[hs] at this;rw[Zl,Zq];exact this
 rw[ht] at k8 k9 g0;have k7:1<=s:=by
  apply Yp;rintro rfl;omega
 have n9:s<=500000000:=by
  have:s*2<=s*(t+1):=J8 s (by omega);omega
 have J:Hid (1<=s/\s*(t+1)<=1000000000/\500000000<=s*t/\b.getD (k+1) 0=t/\s<=500000000):=⟨k7,g1,ZM t s k8 k9 g1 k1,ht,n9⟩;rw[hlb,hla];obtain⟨T,hT⟩:∃ T:Int,(t:Int)=T:=⟨_,rfl⟩;have o0:1000000000 / (T+1)=(s:Int):=by rw[<-hs,<-hT];rfl
 rw[hT] at g0;have t1:1<=T:=by omega
 have t2:T<1000000000:=by omega
 clear j7 f8 ha hb g1 k1 hs ht hT
 go_in
 go_wp2_with (at_make;refine wpList_make_full _ rfl _ _ 121 rfl w.heap.size 154 i0 (.int .u32 0) 1 underlying121 b7 g6 g7 .i64 .i64 _ _ (k+2+m+1) rfl rfl (by first|rfl|omega) (by first|rfl|omega) (by first|omega|(rw[g8];omega)) (by unfold maxLen;omega) Of ?_)
 intro w1 d O
 first|rw[K8] at d|rw[Ka] at d
 have e5:O7 w1 w.heap.size (List.replicate (k+2+m+1) 0):=(Kp d).tail;have i8:Up w w1:=(Jh _ _).grown O Of (fun k h=>by cases h);have m8:=Hd e5;have h6:=Hd i8;have o2:Hid (w.heap.size<w1.heap.size):=e5.lt;clear d O e5 i8 g0 t1 t2 o0
 go_wp2_with fail
 have I:=Qa w.heap.size 0 (k+2+m+1) s _ pa ca (List.replicate (k+2+m+1) 0) a w1 m8.o (fun x hx=>by rw[Yq hx];omega) (by simp;omega) (by simp;omega) d7 rfl (by omega) (by have:=J.o.2.2.2.2;omega) (fun i hi=>by
  obtain⟨c,b8,e,hc,f9⟩:=HA.o i hi;exact⟨c,b8,e,hc,by rw[h6.o.cell (p:=⟨c,b8+i,none⟩) hc];exact f9⟩)
 rw[hla] at I;refine I.mono ?_;clear I;rintro e Z ⟨c,L,rfl,b4,b3,d8,j8,hc,g3,j5⟩;have b6:=b4.cell (k+2+m) (by rw[b3];simp);have k0:=b4.frozen (k+2+m);have h0:L.getD (k+2+m) 0=0:=by
  rw[Bb L _ (0+(k+2+m)) (k+2+m) j8 (by omega)];simp[List.getD_eq_getElem?_getD]
 have g5:=Cn L (k+2+m) c (by rw[b3];simp);rw[h0,Z9,Z8] at g5;rw[G6,Y4,Y4,Nat.pow_zero,Zq] at g3;have Y:Hid (val (L.set (k+2+m) c)=s*val a/\okL (L.set (k+2+m) c)/\(L.set (k+2+m) c).length=k+2+m+1):=⟨g5.trans g3,U4 L d8 _ _ (by have:=J.o.2.2.2.2;omega),by simp[b3]⟩;have e3:Hid (O7 (Z.setCell ⟨w.heap.size,k+2+m,none⟩ (.int .u32 (c:Nat))) w.heap.size (L.set (k+2+m) c)):=b4.set _ _ (by rw[b3];simp);have h7:Hid (Up w (Z.setCell ⟨w.heap.size,k+2+m,none⟩ (.int .u32 (c:Nat)))):=(h6.o.trans j5).setCell Of _;have q6:c<1000000000:=by have:=J.o.2.2.2.2;omega
 have i1:Hid (w.heap.size<Z.heap.size):=b4.lt;clear b4 b3 d8 j8 hc g3 j5 h0 g5;obtain⟨W3,e6⟩:=O1 (Z.setCell ⟨w.heap.size,k+2+m,none⟩ (.int .u32 (c:Nat)));have i7:=Hd e6;generalize L.set (k+2+m) c=N at Y e3;rw[e6] at e3 h7;clear e6;have k7:W3.heap.size=Z.heap.size:=by rw[<-i7.o];simp
 have E:Hid (w.heap.size<Z.heap.size):=i1.o
 go_wp2_with (at_make;refine wpList_make_full _ rfl _ _ 121 rfl Z.heap.size 154 i0 (.int .u32 0) 1 underlying121 b7 g6 g7 .i64 .i64 _ _ (k+2) rfl rfl (by first|rfl|omega) (by first|rfl|omega) (by first|omega|(rw[g8];omega)) (by unfold maxLen;omega) (by simp) ?_)
 intro w4 d O;rw[i7.o] at O
 first|rw[K8] at d|rw[Ka] at d
 have j0:O7 w4 Z.heap.size (List.replicate (k+2) 0):=(Kp d).tail;have c8:Below Z.heap.size W3 w4:=(Jh _ _).grown O (by omega) (fun k h=>by cases h);have m6:=Hd j0;have p7:=Hd c8;have d4:Hid (Up w w4):=h7.o.trans (c8.mono (by have:=E.o;omega));have m9:Hid (O7 w4 w.heap.size N):=e3.o.keptB c8 E.o;clear d O j0 c8 b6 k0
 go_wp2_with fail
 have I:=Qa Z.heap.size 0 (k+2) s _ (some ⟨bb,ob,none⟩) cb (List.replicate (k+2) 0) b w4 m6.o (fun x hx=>by rw[Yq hx];omega) (by simp;omega) (by simp;omega) b5 rfl (by omega) (by have:=J.o.2.2.2.2;omega) (fun i hi=>by
  obtain⟨c,b8,e,hc,f9⟩:=HB.o i hi;exact⟨c,b8,e,by have:=E.o;omega,by rw[d4.o.cell (p:=⟨c,b8+i,none⟩) hc];exact f9⟩)
 rw[hlb] at I;refine I.mono ?_;clear I;rintro e K ⟨c5,V,rfl,j1,d5,a8,j9,n5,g4,e8⟩;rw[G6,Y4,Y4,Nat.pow_zero,Zq] at g4;have f5:val b=val (b.take (k+1))+1000000000 ^ (k+1)*t:=by
  have h:=Ok b (k+1);rw[Jn (by omega),J.o.2.2.2.1] at h;exact h
 have j6:val b<1000000000 ^ (k+1)*(t+1):=by
  rw[f5,Yf,Z0];have:=Na b b5 (k+1);omega
 have d6:V.length=k+2:=by rw[d5];simp
 have d1:val V=s*val b:=by
  have h1:s*val b<1000000000 ^ (k+2):=by rw[J5];exact GY s t _ _ J.o.1 J.o.2.1 j6
  rw[<-g4] at h1 ⊢;have:c5=0:=by
   apply Nat.eq_zero_of_not_pos;intro hp;have:1000000000 ^ (k+2)*1<=1000000000 ^ (k+2)*c5:=J8 _ hp;omega
  rw[this,Z9,Z8]
 have m7:Hid (500000000<=V.getD (k+1) 0):=by
  unfold Hid
  have h1:val V<1000000000 ^ (k+1)*(V.getD (k+1) 0+1):=by
   have h:=Ok V (k+1);rw[Jn (by omega)] at h;rw[h,Yf,Z0];have:=Na V a8 (k+1);omega
  rw[d1] at h1;have:=GZ s t _ _ _ _ f5 h1;have:=J.o.2.2.1;omega
 have b9:Hid (val V=s*val b/\okL V/\V.length=k+2):=⟨d1,a8,d6⟩;have n0:Hid (O7 K w.heap.size N):=m9.o.keptB e8 E.o;have h8:=Hd j1;have l9:Hid (Up w K):=d4.o.trans (e8.mono (by have:=E.o;omega));have n2:Hid (DivAt a b s k m V N (List.replicate (m+1) 0) (m+1)):=by
  refine⟨Y.o.2.2,Y.o.2.1,by simp,fun x hx=>by rw[Yq hx];omega,Of,?_,?_⟩
  ·have e1:Ek (List.replicate (m+1) 0) (m+1)=0:=by unfold Ek;simp[val]
   rw[e1,Vu,Vu,Y4,Jn (by have:=Y.o.2.2;omega)];exact Y.o.1.symm
  rw[d1];refine KA (1000000000 ^ (m+1)) (1000000000 ^ (k+1)) _ s (val a) (val b) ?_ ?_ ?_ J.o.1
  ·have h:=Ab N (m+1) (k+2) (by have:=Y.o.2.2;omega);rw[Jn (by have:=Y.o.2.2;omega),Y.o.1] at h;omega
  ·have h:=Gu a d7;rw[hla] at h;rw[<-Nat.pow_add,show m+1+(k+1)=k+2+m by omega];exact h
  have h:=Xd b htb (by intro h;rw[h] at hlb;simp at hlb);rw[hlb,show k+2 - 1=k+1 by omega] at h;exact h
 clear d5 a8 j9 n5 g4 e8 f5 j6 d6 d1 j1;have a7:Hid (Z.heap.size<K.heap.size):=h8.o.lt
 go_wp2_with (at_make;refine wpList_make_full _ rfl _ _ 121 rfl K.heap.size 154 i0 (.int .u32 0) 1 underlying121 b7 g6 g7 .i64 .i64 _ _ (m+1) rfl rfl (by first|rfl|omega) (by first|rfl|omega) (by first|omega|(rw[g8];omega)) (by unfold maxLen;omega) Of ?_)
 intro w6 d O
 first|rw[K8] at d|rw[Ka] at d
 have e4:O7 w6 K.heap.size (List.replicate (m+1) 0):=(Kp d).tail;have d0:Up K w6:=(Jh _ _).grown O Of (fun k h=>by cases h);have c6:Hid (O7 w6 K.heap.size (List.replicate (m+1) 0)/\O7 w6 w.heap.size N/\O7 w6 Z.heap.size V/\Up w w6):=⟨e4,n0.o.kept d0,h8.o.kept d0,l9.o.trans (d0.mono (by have:=a7.o;have:=E.o;omega))⟩;have o3:Hid (K.heap.size<w6.heap.size):=e4.lt;clear d O e4 d0
 go_wp2
 go_loopw [10] (fun iv wr=>∃ (j:Nat) (L Q:List Nat),DivAt a b s k m V L Q j/\iv=.int .i64 ((j:Int) - 1)/\O7 wr w.heap.size L/\O7 wr Z.heap.size V/\O7 wr K.heap.size Q/\Up w wr) (fun iv _=>(intOf iv+1).toNat)
 case atStart=>exact⟨m+1,N,_,n2.o,Ob (by omega),c6.o.2.1,c6.o.2.2.1,c6.o.1,c6.o.2.2.2⟩
 obtain⟨j,L,Q,e7,rfl,hR,hD,hQ,hB⟩:=hrel;have G:=Hd e7;have A:Hid (O7 wr w.heap.size L/\O7 wr Z.heap.size V/\O7 wr K.heap.size Q/\Up w wr):=⟨hR,hD,hQ,hB⟩;have n6:=e7.le;clear hR hD hQ hB e7
 cases j with
 | zero=>
   clear n6;have hL:=G.o.len;have g2:(L.take (k+2)).length=k+2:=by rw[J4];omega
   have HI:Hid (U1 w.heap.size wr (.slice (some ⟨w.heap.size,0,none⟩) (k+2) (k+2+m+1)) (L.take (k+2))):=by
    refine⟨_,k+2+m+1,by rw[g2],by omega,by unfold maxLen;omega,Mt L G.o.ok _,.inr ⟨w.heap.size,0,rfl,Of,A.o.1.lt,fun i hi=>?_⟩⟩;rw[Y4,A.o.1.cell i (by omega)];rw[Jk,Jk,List.getElem?_take_of_lt (by omega)]
   have h9:=Hd g2;clear hL g2
   go_wp2_with fail
   refine (Qw w.heap.size _ (L.take (k+2)) s _ HI.o (by have:=h9.o;omega) J.o.1 (by have:=J.o.2.2.2.2;omega)).mono ?_;rintro e w7 ⟨u,U,r,rfl,hU,l1,n7,l2,hr,e9⟩;have HU:=Hd hU;have i6:Hid (U1 w.heap.size w7 (.slice (some ⟨K.heap.size,0,none⟩) (m+1) (m+1)) Q):=by
    have h:=(A.o.2.2.1.kept e9).isL (B:=w.heap.size) (cap:=m+1) (by have:=a7.o;have:=E.o;omega) G.o.qok (by have:=G.o.qlen;omega) (by unfold maxLen;omega);rw[G.o.qlen] at h;exact h
   have HE:Hid (val a=val Q*val b+val U/\val U<val b/\isTrim U/\U.length<=k+2):=by
    have e:=G.o.eq;have tp:=G.o.top;unfold Ek at e;rw[Y5,Nat.pow_zero,Z0,Y4,b9.o.1] at e;rw[Y5,b9.o.1] at tp;have h:=PP s (val a) (val b) (val Q) _ (val U) r J.o.1 e tp l2 hr;exact⟨h.1,h.2,l1,by have:=h9.o;omega⟩
   have m5:Hid (Up w w7):=A.o.2.2.2.trans (e9.mono A.o.2.2.2.size);have n1:Hid (w.heap.size<=wr.heap.size):=A.o.2.2.2.size;obtain⟨pu,cu,hu,_⟩:=hU;subst hu;clear l1 n7 l2 hr e9
   go_wp2_with fail
   refine (E4 w.heap.size _ Q _ i6.o).mono ?_;rintro e w8 ⟨v,rfl,hcut,rfl⟩;have HW:Hid (U1 w.heap.size w8 v (Oe Q)):=hcut _ _ i6.o;have HT:Hid (val (Oe Q)=val Q/\(Oe Q).length<=m+1):=⟨O3 Q,by have:=Ku Q;have:=G.o.qlen;omega⟩;obtain⟨pv,cv,hv,_⟩:=HW.o;subst hv;clear hcut
   go_wp2
   go_ret2
   exact⟨_,_,Oe Q,U,rfl,HW.o,HU.o.mono n1.o,trimL_trim _,HE.o.2.2.1,HT.o.2,HE.o.2.2.2,by rw[HT.o.1];exact HE.o.1,HE.o.2.1,m5.o⟩
 | succ i=>
   go_wp2_with fail
   rw[show i+(k+2)+1 - i=k+3 by omega];refine (Sd w.heap.size i (k+2+m+1 - i) Z.heap.size (k+2) k L V wr A.o.1 G.o.ok b9.o.2.2 (by have:=G.o.len;omega) (by have:=G.o.len;omega) A.o.2.1 (by have:=E.o;omega) b9.o.2.1 m7.o G.o.window (by omega)).mono ?_;rintro e w7 ⟨q,L7,rfl,j3,j2,d9,e0,n8,j4,l0,d2⟩;have h2:Hid (DivAt a b s k m V L7 (Q.set i q) i):=G.o.step n8 j2 d9 e0 j4 l0;have d3:O7 w7 K.heap.size Q:=d2.rowT (by have:=a7.o;have:=E.o;omega) A.o.2.2.1;have b6:=d3.cell i (by have:=G.o.qlen;omega);have k0:=d3.frozen i;have M:Hid (O7 (w7.setCell ⟨K.heap.size,i,none⟩ (.int .u32 (q:Nat))) w.heap.size L7/\O7 (w7.setCell ⟨K.heap.size,i,none⟩ (.int .u32 (q:Nat))) Z.heap.size V/\O7 (w7.setCell ⟨K.heap.size,i,none⟩ (.int .u32 (q:Nat))) K.heap.size (Q.set i q)/\Up w (w7.setCell ⟨K.heap.size,i,none⟩ (.int .u32 (q:Nat)))):=by
    have l5:=a7.o;have l3:=E.o;refine⟨j3.other _ _ (by show K.heap.size≠w.heap.size;omega),(d2.rowT (by omega) A.o.2.1).other _ _ (by show K.heap.size≠Z.heap.size;omega),d3.set _ _ (by have:=G.o.qlen;omega),(A.o.2.2.2.trans d2.bl).setCell (by show w.heap.size<=K.heap.size;omega) _⟩
   clear j3 j2 d9 e0 j4 l0 d2 d3
   go_wp2
   go_roundw
   case rel=>exact⟨i,L7,Q.set i q,h2.o,by go_num,M.o.1,M.o.2.1,M.o.2.2.1,M.o.2.2.2⟩
   simp[intOf]
def RD (B:Nat)(w:World)(v u:Value)(a b Q U:List Nat):Prop:=
 (U1 B w v Q/\U1 B w u U)/\(isTrim Q/\isTrim U)/\(Q.length<=a.length/\U.length<=b.length+3)/\val a=val Q*val b+val U/\val U<val b
theorem DO (x y:Nat)(h:Ay x y<0):x<y:=by
 unfold Ay at h
 split at h
 ·assumption
 split at h<;>omega
theorem Xa (a b:List Nat)(ha:okL a)(hb:okL b)(ta:isTrim a)(tb:isTrim b)(hcm:El a b<0):val a<val b:=by
 rw[Gf a b ha hb ta tb] at hcm;exact DO _ _ hcm
theorem IQ (a b:List Nat)(hcm:0<=El a b):b.length<=a.length:=by
 unfold El at hcm
 by_cases h3:a.length<b.length
 ·simp[h3] at hcm<;>omega
 omega
theorem Sy (a b:List Nat)(hcm:El a b<0):a.length<=b.length:=by
 unfold El at hcm
 by_cases h3:b.length<a.length
 ·by_cases h4:a.length<b.length
  ·omega
  simp[h3,h4] at hcm<;>omega
 omega
theorem Rm (B:Nat)(va vb:Value)(a b:List Nat)(w:World)(hBw:B<=w.heap.size)(ha:U1 B w va a)(hb:U1 B w vb b)(hla:a.length<=100000)(hta:isTrim a)(htb:isTrim b)(hne:b≠[]) :
 Calls prog 204 #[va,vb] w fun e w'=>∃ v u Q U,e=.returned (.tuple #[v,u])/\RD B w' v u a b Q U/\Up w w':=by
 have HA:=Hd ha;have HB:=Hd hb;have I:Hid (isTrim a/\isTrim b/\b≠[]/\B<=w.heap.size):=⟨hta,htb,hne,hBw⟩;obtain⟨pa,ca,rfl,g2,c8,K,_⟩:=ha;obtain⟨pb,cb,rfl,g3,d0,M,_⟩:=hb;have a7:Hid (okL a/\okL b):=⟨K,M⟩;obtain⟨c,hc⟩:=O1 (El a b);have HC:=Hd hc;have J : -1<=c/\c<=1:=by rw[<-hc];exact Qe a b
 obtain⟨h2,h6⟩:=J;clear hc hta htb hne hBw K M c8 d0
 by_cases d2:c<0
 ·have Z:Hid (RD B w (.slice none 0 0) (.slice pa a.length ca) a b [] a):=by
   have hv:=Xa a b a7.o.1 a7.o.2 I.o.1 I.o.2.1 (by rw[HC.o];exact d2);have hl:=Sy a b (by rw[HC.o];exact d2);exact⟨⟨⟨none,0,rfl,Of,(by unfold maxLen;omega),(fun x hx=>by cases hx),.inl rfl⟩,HA.o⟩,⟨fun h=>absurd rfl h,I.o.1⟩,⟨Jy _,by omega⟩,by simp[val],hv⟩
  go_in
  go_wp2_with fail
  refine (Ed B _ _ a b _ HA.o HB.o).mono ?_;rintro e w1 ⟨rfl,j⟩;rw[HC.o];have d:=Hd j;clear j
  go_wp2
  go_ret2
  exact⟨_,_,[],a,rfl,⟨⟨Z.o.1.1.bl d.o,Z.o.1.2.bl d.o⟩,Z.o.2⟩,d.o⟩
 have e3:Hid (b.length<=a.length):=IQ a b (by rw[HC.o];omega)
 by_cases h1:b.length=1
 ·obtain⟨y,rfl⟩:∃ y,b=[y]:=by
   match b,h1 with
   | [y],_=>exact⟨y,rfl⟩
  have d8:=Rw [y] 0 rfl I.o.2.1;have h8:=a7.o.2 y (by simp);have f5:0<y:=by
   simp at d8;omega
  obtain⟨_,_,_,_,J⟩:=HB.o.cells;obtain⟨bb,ob,rfl,e5,d1⟩:=J 0 (by simp);have O:w.cell? ⟨bb,ob+0,none⟩=some (.int .u32 (y:Nat)):=d1;have e2:Hid (∀ W,Up w W->W.cell? ⟨bb,ob,none⟩=some (.int .u32 (y:Nat))):=fun W hW=>(hW.cell (p:=⟨bb,ob,none⟩) e5).trans O;clear d1 O J d8
  go_in
  go_wp2_with fail
  refine (Ed B _ _ a [y] _ HA.o HB.o).mono ?_;rintro e w1 ⟨rfl,j⟩;rw[HC.o];have d:=Hd j;have b3:=e2.o _ j;clear j
  go_wp2_with fail
  refine (Qw B _ a y _ (HA.o.bl d.o) hla f5 (by omega)).mono ?_;rintro e w2 ⟨v,q,r,rfl,hL,d5,V,A,hr,E⟩;have HL:Hid (U1 B w2 v q):=hL.mono (by have:=d.o.size;have:=I.o.2.2.2;omega);have HV:Hid (isTrim q/\q.length<=a.length/\val a=val q*y+r/\r<y):=⟨d5,V,A,hr⟩;have G:=d.up E;obtain⟨pv,cv,hv,_⟩:=hL;subst hv;clear d5 V A E b3
  go_wp2_with fail
  refine (Xg r _ (by omega)).mono ?_;rintro e w3 ⟨u,t,rfl,hu,d6,b4,e8,a8⟩;have Z:Hid (RD B w3 (.slice pv q.length cv) u a [y] q t):=by
   refine⟨⟨HL.o.bl a8,hu.mono (by have:=G.o.size;have:=I.o.2.2.2;omega)⟩,⟨HV.o.1,d6⟩,⟨HV.o.2.1,by omega⟩,?_,?_⟩
   ·rw[b4];simp only[val];exact HV.o.2.2.1
   rw[b4];simp only[val];exact HV.o.2.2.2
  have e1:=G.up a8;obtain⟨pu,cu,e9,_⟩:=hu;subst e9;clear d6 b4 e8 a8
  go_wp2
  go_ret2
  exact⟨_,_,q,t,rfl,Z.o,e1.o⟩
 have hp:b.length≠0:=fun h=>I.o.2.2.1 (Jv h);obtain⟨k,hk⟩:∃ k,b.length=k+2:=⟨b.length - 2,by omega⟩;obtain⟨m,hm⟩:∃ m,a.length=k+2+m:=⟨a.length - (k+2),by have:=e3.o;omega⟩;have HK:Hid (b.length=k+2/\a.length=k+2+m/\k+2+m<=100000):=⟨hk,hm,by omega⟩;have z1:((b.length:Int)==1)=false:=by rw[Jc];omega
 clear hk hm
 go_in
 go_wp2_with fail
 refine (Ed B _ _ a b _ HA.o HB.o).mono ?_;rintro e w1 ⟨rfl,j⟩;rw[HC.o];have d:=Hd j;clear j
 go_wp2_with fail
 refine (Sp B (.slice pa a.length ca) (.slice pb b.length cb) a b k m w1 (HA.o.bl d.o) (HB.o.bl d.o) HK.o.1 HK.o.2.1 HK.o.2.2 I.o.2.1).mono ?_;rintro e w2 ⟨v,u,Q,U,rfl,hv,hu,d3,d4,e6,e7,A,Y,E⟩;have Z:Hid (RD B w2 v u a b Q U):=by
  have c6:B<=w1.heap.size:=by have:=d.o.size;have:=I.o.2.2.2;omega
  exact⟨⟨hv.mono c6,hu.mono c6⟩,⟨d3,d4⟩,⟨by have:=HK.o;omega,by have:=HK.o;omega⟩,A,Y⟩
 have G:=d.up E;clear hv hu d3 d4 e6 e7 A Y E
 go_wp2
 go_ret2
 exact⟨_,_,Q,U,rfl,Z.o,G.o⟩
end Go.Proofs.YtipgjenolpofpaaGreatDoor.Q
namespace Go.Proofs.YtipgjenolpofpaaGreatDoor.Q
open ChangeShapes WideShapes ChangeAt RowKit Shelf Proofs.Tryz
def II:Go.Shelf.Ren:=⟨fun|41=>233|n=>n,fun|22=>121|23=>154|4=>4|n=>n,fun|n=>n⟩
theorem KU:Go.Proofs.SlLaysE0.n41 prog II:={
 mixed:=by kernel_rfl
 f41:=⟨Tryz.f233.name,by decide,func233.trans (congrArg some (by kernel_rfl))⟩
 t4:=underlying4
 a4:=Tryz.isAgg4
 z4:=Tryz.sizeOf4
 v4:=Tryz.zeroValue4
 t22:=underlying121
 a22:=Tryz.isAgg121
 z22:=Tryz.sizeOf121
 v22:=Tryz.zeroValue121 }
theorem KK (b off n c:Nat)(a:List Nat)(w:World)(hl:a.length=n)(hn:n<=1000000)(hc:∀ j,j<a.length->w.cell? ⟨b,off+j,none⟩=some (.int .u32 (a.getD j 0:Nat))) :
 Calls prog 233 #[.slice (some ⟨b,off,none⟩) n c] w fun e w'=>∃ g cap,e=.returned (.slice (some ⟨g,0,none⟩) n cap)/\n<=cap/\cap<=maxLen/\w.heap.size<=g/\O7 w' g a/\Up w w':=by
 obtain⟨i0,d,J,K,M⟩:=info_parts info_u32;refine (AnyE.slices_Clone KU i0 (.int .u32 0) 1 4 d J K M rfl (by omega) Tryz.sizeOf154 b off n c (Nx a) w (by simp[hl]) (by unfold maxLen;omega) (by omega) ?_ ?_).mono ?_
 ·intro j u U;simp only[Nx,Y1,Option.map_eq_some_iff] at U;obtain⟨x,hx,rfl⟩:=U;obtain⟨G,b4⟩:=Zr.1 hx;rw[hc j G,Jk,hx];rfl
 ·intro v Z;simp only[Nx,Zm] at Z;obtain⟨x,_,rfl⟩:=Z;rfl
 rintro e w' ⟨v',rfl,h,I,hb⟩
 rcases h.2 with⟨e,_⟩|⟨g,cap,A,e,hg,E,O,V,b3,Y⟩
 ·exact absurd e I
 refine⟨g,cap,by rw[e],by omega,by omega,hg,⟨A.toList.drop n,?_⟩,hb⟩;rw[E];rw[Z0] at Y;rw[<-Y,Ze,Array.toArray_toList];rfl
end Go.Proofs.YtipgjenolpofpaaGreatDoor.Q
namespace Go.Proofs.YtipgjenolpofpaaGreatDoor.Q
open ChangeShapes WideShapes ChangeAt RowKit Proofs.Tryz
theorem Ap (B ba oa ca:Nat)(vb:Value)(a b:List Nat)(w:World)(ha:U1 B w (.slice (some ⟨ba,oa,none⟩) a.length ca) a)(hb:U1 B w vb b)(hla:a.length<=100000)(hlb:b.length<=a.length)(hle:val b<=val a) :
 Calls prog 206 #[.slice (some ⟨ba,oa,none⟩) a.length ca,vb] w fun e w'=>∃ v L,e=.returned v/\U1 w.heap.size w' v L/\val L+val b=val a/\L.length<=a.length/\isTrim L/\Up w w':=by
 obtain⟨pb,cb,rfl,_⟩:=id hb;obtain⟨_,_,_,J,U⟩:=ha.cells;obtain⟨_,_,_,O,Y⟩:=hb.cells;have HA:Hid (∀ i,i<a.length->w.cell? ⟨ba,oa+i,none⟩=some (.int .u32 (a.getD i 0:Nat))):=fun i hi=>by
  obtain⟨b',d0,e,_,hc⟩:=U i hi;simp only[Option.some.injEq,Addr.mk.injEq,and_true] at e;obtain⟨rfl,rfl⟩:=e;exact hc
 have HB:=Hd Y;have a8:=Hd hle;clear U Y ha hb hle
 go_in
 go_wp2_with fail
 refine (KK ba oa a.length ca a _ rfl (by omega) HA.o).mono ?_;rintro e w1 ⟨g,cap,rfl,V,E,hg,hR,K⟩;have HR:=Hd hR;have G:=Hd K;have b3:=Hd E;clear hR K E
 go_wp2_with fail
 refine (L8 g a.length cap 1 _ pb cb a b w1 HR.o J Of (by omega) hlb O rfl V (by omega) ?_).mono ?_
 ·intro i hi;obtain⟨c,Z,e,hc,b5⟩:=HB.o i hi;exact⟨c,Z,e,by omega,by rw[G.o.cell (p:=⟨c,Z+i,none⟩) hc];exact b5⟩
 rintro e w3 ⟨c,L,rfl,I,A,d,b6,hc,j,M⟩;have a7:Hid (Up w w3):=G.o.trans (M.mono hg);have HI:Hid (U1 w.heap.size w3 (.slice (some ⟨g,0,none⟩) a.length cap) L):=by
  have h:=I.isL (B:=w.heap.size) (cap:=cap) hg d (by omega) b3.o;rw[A] at h;exact h
 have HV:Hid (val L+val b=val a/\L.length=a.length):=by
  refine⟨?_,A⟩;rw[Zq,Jn (by omega),Jn Of] at j;exact Ad (1000000000 ^ a.length) c _ _ _ j (by rw[<-A];exact Gu L d) a8.o
 clear I A d b6 j M
 go_wp2_with fail
 refine (E4 w.heap.size _ L _ HI.o).mono ?_;rintro e w5 ⟨v,rfl,hcut,rfl⟩;have HW:Hid (U1 w.heap.size w5 v (Oe L)):=hcut _ _ HI.o;have HT:Hid (val (Oe L)+val b=val a/\(Oe L).length<=a.length/\isTrim (Oe L)):=⟨by rw[O3];exact HV.o.1,by have:=Ku L;have:=HV.o.2;omega,trimL_trim _⟩;obtain⟨pv,cv,hv,_⟩:=HW.o;subst hv;clear hcut
 go_wp2
 go_ret
 exact⟨_,_,rfl,HW.o,HT.o.1,HT.o.2.1,HT.o.2.2,a7.o⟩
theorem Ar (B:Nat)(va vb:Value)(a b:List Nat)(w:World)(ha:U1 B w va a)(hb:U1 B w vb b)(hne:a≠[])(hla:a.length<=100000)(hlb:b.length<=a.length)(hle:val b<=val a) :
 Calls prog 206 #[va,vb] w fun e w'=>∃ v L,e=.returned v/\U1 w.heap.size w' v L/\val L+val b=val a/\L.length<=a.length/\isTrim L/\Up w w':=by
 obtain⟨J,j,rfl,hl,d,A,E⟩:=id ha
 rcases E with h|⟨I,G,rfl,_⟩
 ·exact absurd h hne
 exact Ap B _ _ j vb a b w ha hb hla hlb hle
theorem Sn (w w1:World)(R n:Nat)(pa:Option Addr)(ca:Nat)(a:List Nat)(hn:a.length<=n)(hR:Gw w1 R (List.replicate n 0))(hRw:w.heap.size<=R)(hB1:Up w w1)
 (hA:∀ i,i<a.length->∃ b off,pa=some ⟨b,off,none⟩/\b<w.heap.size/\w.cell? ⟨b,off+i,none⟩=some (.int .u32 (a.getD i 0:Nat))) :
 ∃ w2,(∀ ty,(Builtin.copy_ #[121,121] ty #[.slice (some ⟨R,0,none⟩) n n,.slice pa a.length ca]).run prog w1=.ok (goInt a.length) w2)/\Gw w2 R (a++List.replicate (n - a.length) 0)/\Up w w2:=by
 have O:=underlying121;have M:(prog.info? 154).map (·.size)=some 1:=by
  obtain⟨i0,d,a7,I,a8⟩:=info_parts info_u32;rw[d];simp[I]
 by_cases J:a.length=0
 ·have e:a=[]:=Jv J;refine⟨w1,fun ty=>?_,?_,hB1⟩
  ·rw[J];exact Go.run_copy_none w1 _ _ ty _ _ pa n n 0 ca O M (by simp)
  subst e;simpa using hR
 obtain⟨b,off,rfl,hb,_⟩:=hA 0 (by omega);refine⟨w1.setRow R (Nx (a++List.replicate (n - a.length) 0)).toArray,fun ty=>?_,setRow_heap w1 R _ _ _ _ hR,below_setRow hB1 hRw _⟩;have h:=Go.run_copy_row (P:=prog) w1 121 121 ty 154 R 0 n n ⟨b,off,none⟩ a.length ca _ _ (Nx a) O M hR ?_ ?_ ?_ ?_
 ·have e:(Nx (List.replicate n 0)).drop a.length=Nx (List.replicate (n - a.length) 0):=by simp[Nx]
  simp only[List.take_zero,Zw,Y4,Zv,e,<-Zc] at h;exact h
 ·simp[hn]
 ·intro j v K;simp only[Nx,Y1,Option.map_eq_some_iff] at K;obtain⟨x,V,rfl⟩:=K;obtain⟨G,Z⟩:=Zr.1 V;obtain⟨b',Y,e,A,E⟩:=hA j G;simp only[Option.some.injEq,Addr.mk.injEq,and_true] at e;obtain⟨rfl,rfl⟩:=e;rw[show (Addr.add ⟨b,off,none⟩ j)=⟨b,off+j,none⟩ by simp[Addr.add],hB1.cell (p:=⟨b,off+j,none⟩) A,E,Jk,V];rfl
 ·simp;omega
 intro v U;simp only[Nx,Zm] at U;obtain⟨x,_,rfl⟩:=U;rfl
theorem Aj (B:Nat)(va vb:Value)(a b:List Nat)(w:World)(ha:U1 B w va a)(hb:U1 B w vb b)(hla:a.length<=100000)(hlb:b.length<=a.length) :
 Calls prog 205 #[va,vb] w fun e w'=>∃ v L,e=.returned v/\U1 w.heap.size w' v L/\val L=val a+val b/\L.length<=a.length+1/\isTrim L/\Up w w':=by
 obtain⟨i0,b8,d6,d7,d8⟩:=info_parts info_u32;obtain⟨pa,ca,rfl,_⟩:=id ha;obtain⟨pb,cb,rfl,_⟩:=id hb;obtain⟨_,_,_,a8,b5⟩:=ha.cells;obtain⟨_,_,_,b4,b6⟩:=hb.cells;have HA:=Hd b5;have HB:=Hd b6;clear b5 b6 ha hb
 go_in
 go_wp2_with (at_make;refine wpList_make_full _ rfl _ _ 121 rfl w.heap.size 154 i0 (.int .u32 0) 1 underlying121 b8 d6 d7 .i64 .i64 _ _ (a.length+1) rfl rfl ?m0 ?m1 ?m2 ?m3 ?m4 ?_)
 try (case m0=>first|rfl|omega)
 try (case m1=>first|rfl|omega)
 try (case m2=>(first|omega|(rw[d8];omega)))
 try (case m3=>(unfold maxLen;omega))
 try (case m4=>exact Of)
 intro w1 d b7
 first|rw[K8] at d|rw[Ka] at d
 have hR:Gw w1 w.heap.size (List.replicate (a.length+1) 0):=Kp d;have V:Up w w1:=(Jh _ _).grown b7 Of (fun k h=>by cases h);clear d b7;obtain⟨w2,e3,K,Y⟩:=Sn w w1 w.heap.size (a.length+1) pa ca a (by omega) hR Of V HA.o;rw[show a.length+1 - a.length=1 by omega] at K;have d0:=Hd K;have O:=Hd Y;have b9:okL (a++List.replicate 1 0):=fun x hx=>by
  rcases Z6.1 hx with h|h
  ·exact a8 x h
  simp at h;omega
 clear hR V K Y
 go_wp2_with fail
 refine (Dn w.heap.size a.length (a.length+1) _ pb cb (a++List.replicate 1 0) b w2 d0.o b9 (by simp) (by simp;omega) hlb b4 rfl (by omega) ?_).mono ?_
 ·intro i hi;obtain⟨c,c6,e,hc,d3⟩:=HB.o i hi;exact⟨c,c6,e,hc,by rw[O.o.cell (p:=⟨c,c6+i,none⟩) hc];exact d3⟩
 rintro e w3 ⟨c,L,rfl,A,J,E,d4,hc,G,b3⟩;have Z:Up w w3:=O.o.trans b3;have M:=A.cell a.length (by rw[J];simp);have d5:=A.frozen a.length;have I:Hid (Gw (w3.setCell ⟨w.heap.size,a.length,none⟩ (.int .u32 (c:Nat))) w.heap.size (L.set a.length c)):=A.set _ _;have U:Hid (Up w (w3.setCell ⟨w.heap.size,a.length,none⟩ (.int .u32 (c:Nat)))):=Z.setCell Of _;have j:Hid (okL (L.set a.length c)/\(L.set a.length c).length=a.length+1/\val (L.set a.length c)=val a+val b):=by
  have hl:L.length=a.length+1:=by rw[J];simp
  refine⟨U4 L E _ _ (by omega),by simp[hl],?_⟩;have h1:=O2 L a.length c (by omega);rw[Jn (by simp[hl])] at h1;rw[h1,G];simp
 clear A J E d4 G b3 Z
 go_wp2_with fail
 obtain⟨W4,a7⟩:=O1 (w3.setCell ⟨w.heap.size,a.length,none⟩ (.int .u32 (c:Nat)));rw[a7] at I U ⊢;generalize L.set a.length c=N at I j;have hI:U1 w.heap.size W4 (.slice (some ⟨w.heap.size,0,none⟩) (a.length+1) (a.length+1)) N:=by
  have h:=I.o.isL (B:=w.heap.size) (cap:=a.length+1) Of j.o.1 (by have:=j.o.2.1;omega) (by unfold maxLen;omega);rw[j.o.2.1] at h;exact h
 clear a7 M d5;refine (E4 w.heap.size _ N _ hI).mono ?_;rintro e w5 ⟨v,rfl,hcut,rfl⟩;have HV:Hid (U1 w.heap.size w5 v (Oe N)):=hcut _ _ hI;have HT:Hid (val (Oe N)=val a+val b/\(Oe N).length<=a.length+1/\isTrim (Oe N)):=⟨by rw[O3];exact j.o.2.2,by have:=Ku N;have:=j.o.2.1;omega,trimL_trim _⟩;obtain⟨pv,cv,hv,_⟩:=HV.o;subst hv;clear hcut hI
 go_wp2
 go_ret
 exact⟨_,_,rfl,HV.o,HT.o.1,HT.o.2.1,HT.o.2.2,U.o⟩
theorem A0 (B:Nat)(va vb:Value)(a b:List Nat)(w:World)(ha:U1 B w va a)(hb:U1 B w vb b)(hla:a.length<=100000)(hlb:b.length<a.length) :
 Calls prog 205 #[vb,va] w fun e w'=>∃ v L,e=.returned v/\U1 w.heap.size w' v L/\val L=val a+val b/\L.length<=a.length+1/\isTrim L/\Up w w':=by
 obtain⟨i0,b8,d6,d7,d8⟩:=info_parts info_u32;obtain⟨pa,ca,rfl,_⟩:=id ha;obtain⟨pb,cb,rfl,_⟩:=id hb;obtain⟨_,_,_,a8,b5⟩:=ha.cells;obtain⟨_,_,_,b4,b6⟩:=hb.cells;have HA:=Hd b5;have HB:=Hd b6;clear b5 b6 ha hb
 go_in
 go_wp2_with (at_make;refine wpList_make_full _ rfl _ _ 121 rfl w.heap.size 154 i0 (.int .u32 0) 1 underlying121 b8 d6 d7 .i64 .i64 _ _ (a.length+1) rfl rfl ?m0 ?m1 ?m2 ?m3 ?m4 ?_)
 try (case m0=>first|rfl|omega)
 try (case m1=>first|rfl|omega)
 try (case m2=>(first|omega|(rw[d8];omega)))
 try (case m3=>(unfold maxLen;omega))
 try (case m4=>exact Of)
 intro w1 d b7
 first|rw[K8] at d|rw[Ka] at d
 have hR:Gw w1 w.heap.size (List.replicate (a.length+1) 0):=Kp d;have V:Up w w1:=(Jh _ _).grown b7 Of (fun k h=>by cases h);clear d b7;obtain⟨w2,e3,K,Y⟩:=Sn w w1 w.heap.size (a.length+1) pa ca a (by omega) hR Of V HA.o;rw[show a.length+1 - a.length=1 by omega] at K;have d0:=Hd K;have O:=Hd Y;have b9:okL (a++List.replicate 1 0):=fun x hx=>by
  rcases Z6.1 hx with h|h
  ·exact a8 x h
  simp at h;omega
 clear hR V K Y
 go_wp2_with fail
 refine (Dn w.heap.size a.length (a.length+1) _ pb cb (a++List.replicate 1 0) b w2 d0.o b9 (by simp) (by simp;omega) (by omega) b4 rfl (by omega) ?_).mono ?_
 ·intro i hi;obtain⟨c,c6,e,hc,d3⟩:=HB.o i hi;exact⟨c,c6,e,hc,by rw[O.o.cell (p:=⟨c,c6+i,none⟩) hc];exact d3⟩
 rintro e w3 ⟨c,L,rfl,A,J,E,d4,hc,G,b3⟩;have Z:Up w w3:=O.o.trans b3;have M:=A.cell a.length (by rw[J];simp);have d5:=A.frozen a.length;have I:Hid (Gw (w3.setCell ⟨w.heap.size,a.length,none⟩ (.int .u32 (c:Nat))) w.heap.size (L.set a.length c)):=A.set _ _;have U:Hid (Up w (w3.setCell ⟨w.heap.size,a.length,none⟩ (.int .u32 (c:Nat)))):=Z.setCell Of _;have j:Hid (okL (L.set a.length c)/\(L.set a.length c).length=a.length+1/\val (L.set a.length c)=val a+val b):=by
  have hl:L.length=a.length+1:=by rw[J];simp
  refine⟨U4 L E _ _ (by omega),by simp[hl],?_⟩;have h1:=O2 L a.length c (by omega);rw[Jn (by simp[hl])] at h1;rw[h1,G];simp
 clear A J E d4 G b3 Z
 go_wp2_with fail
 obtain⟨W4,a7⟩:=O1 (w3.setCell ⟨w.heap.size,a.length,none⟩ (.int .u32 (c:Nat)));rw[a7] at I U ⊢;generalize L.set a.length c=N at I j;have hI:U1 w.heap.size W4 (.slice (some ⟨w.heap.size,0,none⟩) (a.length+1) (a.length+1)) N:=by
  have h:=I.o.isL (B:=w.heap.size) (cap:=a.length+1) Of j.o.1 (by have:=j.o.2.1;omega) (by unfold maxLen;omega);rw[j.o.2.1] at h;exact h
 clear a7 M d5;refine (E4 w.heap.size _ N _ hI).mono ?_;rintro e w5 ⟨v,rfl,hcut,rfl⟩;have HV:Hid (U1 w.heap.size w5 v (Oe N)):=hcut _ _ hI;have HT:Hid (val (Oe N)=val a+val b/\(Oe N).length<=a.length+1/\isTrim (Oe N)):=⟨by rw[O3];exact j.o.2.2,by have:=Ku N;have:=j.o.2.1;omega,trimL_trim _⟩;obtain⟨pv,cv,hv,_⟩:=HV.o;subst hv;clear hcut hI
 go_wp2
 go_ret
 exact⟨_,_,rfl,HV.o,HT.o.1,HT.o.2.1,HT.o.2.2,U.o⟩
theorem Bh (B:Nat)(va vb:Value)(a b:List Nat)(w:World)(ha:U1 B w va a)(hb:U1 B w vb b)(hla:a.length<=100000)(hlb:b.length<=100000) :
 Calls prog 205 #[va,vb] w fun e w'=>∃ v L,e=.returned v/\U1 w.heap.size w' v L/\val L=val a+val b/\(L.length<=a.length+1∨L.length<=b.length+1)/\isTrim L/\Up w w':=by
 by_cases h:b.length<=a.length
 ·refine (Aj B va vb a b w ha hb hla h).mono ?_;rintro e w' ⟨v,L,d,j,h3,h4,h5⟩;exact⟨v,L,d,j,h3,.inl h4,h5⟩
 refine (A0 B vb va b a w hb ha hlb (by omega)).mono ?_;rintro e w' ⟨v,L,d,j,h3,h4,h5⟩;exact⟨v,L,d,j,by rw[h3,Nat.add_comm],.inr h4,h5⟩
theorem KC (x z:Int)(y:Bool)(w:World):(Instr.field 215 (.agg #[.int .i64 x,.bool y,.int .i64 z]) 2).run prog w=.ok (.int .i64 z) w:=by kernel_rfl
theorem Sv (B:Nat)(na nb:Bool)(va vb:Value)(a b:List Nat)(w:World)(ha:U1 B w va a)(hb:U1 B w vb b)(h:SP w) :
 Calls prog 208 #[.agg #[.bool na,va],.agg #[.bool nb,vb]] w fun e w'=>e=.returned (.int .i64 (Ww na nb a b))/\Up w w':=by
 obtain⟨V,M,rfl,_⟩:=id ha;obtain⟨Y,O,rfl,_⟩:=id hb;obtain⟨G,d⟩:=O1 ((w.alloc (.cells #[.bool na,.slice V a.length M] 162)).alloc (.cells #[.bool nb,.slice Y b.length O] 162));have b3:=Hd d;have j:Up w G:=by rw[<-d];exact ((Jh _ w).alloc Of _).alloc (by simp) _
 have b9:G.heap.size=w.heap.size+2:=by rw[<-d];simp
 have HA:Hid (U1 B G (.slice V a.length M) a):=ha.bl j;have HB:Hid (U1 B G (.slice Y b.length O) b):=hb.bl j;have HS:Hid (SP G):=h.bl j;have a7:=Hd j;have HX:Hid (∀ W,Up G W->W.cell? ⟨w.heap.size,0,none⟩=some (.bool na)/\W.cell? ⟨w.heap.size,1,none⟩=some (.slice V a.length M)/\W.cell? ⟨w.heap.size+1,1,none⟩=some (.slice Y b.length O)):=fun W hW=>by
  refine⟨?_,?_,?_⟩
  ·rw[hW.cell (p:=⟨w.heap.size,0,none⟩) (by show w.heap.size<_;omega),<-d,Jt _ _ _ (by simp),Jp _ _ _ _ rfl];rfl
  ·rw[hW.cell (p:=⟨w.heap.size,1,none⟩) (by show w.heap.size<_;omega),<-d,Jt _ _ _ (by simp),Jp _ _ _ _ rfl];rfl
  rw[hW.cell (p:=⟨w.heap.size+1,1,none⟩) (by show w.heap.size+1<_;omega),<-d,Jp _ _ _ _ (by simp)];rfl
 clear ha hb h j d;have b8:=KC
 go_in
 go_wp2_with fail
 rw[b3.o];refine (Ic na nb V a.length M Y b.length O G HS.o).mono ?_;rintro e Z ⟨rfl,A⟩;obtain⟨x0,x1,x2⟩:=HX.o Z A;have J:Hid (U1 B Z (.slice V a.length M) a):=HA.o.bl A;have K:Hid (U1 B Z (.slice Y b.length O) b):=HB.o.bl A;have E:Hid (Up w Z):=a7.o.trans (A.mono (by omega));clear A HA HB HS HX
 cases na<;>cases nb
 case' _=>
  have I:Hid (Ww false false a b=El a b):=rfl;simp only[T9,Wo,if_true]
  go_wp2_with fail
  refine (Ed B _ _ a b _ J.o K.o).mono ?_
 rotate_left
 ·have I:Hid (Ww false true a b=1):=rfl;simp only[T9,Wo]
  go_wp2
  go_ret
  exact⟨K5 I.o.symm,E.o⟩
 ·have I:Hid (Ww true false a b = -1):=rfl;simp only[T9,Wo]
  go_wp2
  go_ret
  exact⟨K5 I.o.symm,E.o⟩
 case' _=>
  have I:Hid (Ww true true a b=El b a):=rfl;simp only[T9,Wo,if_true]
  go_wp2_with fail
  refine (Ed B _ _ b a _ K.o J.o).mono ?_
 rotate_left
 all_goals
  rintro e w2 ⟨rfl,U⟩;have a8:=E.up U;clear U
  go_wp2
  go_ret
  exact⟨K5 I.o.symm,a8.o⟩
end Go.Proofs.YtipgjenolpofpaaGreatDoor.Q
namespace Go.Proofs.YtipgjenolpofpaaGreatDoor.Q
open ChangeShapes WideShapes ChangeAt RowKit
def Gt (B:Nat)(w:World)(z:Value)(x:Int)(n:Nat):Prop:=∃ neg v t,z=.agg #[.bool (U0 neg t),v]/\U1 B w v t/\isTrim t/\sg neg (val t)=x/\t.length<=n
structure BoxI (g:Nat)(W:World)(x:Bool)(pa:Option Addr)(la ca:Nat)(y:Bool)(pb:Option Addr)(lb cb:Nat):Prop where
 a0:W.cell? ⟨g,0,none⟩=some (.bool x)
 a1:W.cell? ⟨g,1,none⟩=some (.slice pa la ca)
 b0:W.cell? ⟨g+1,0,none⟩=some (.bool y)
 b1:W.cell? ⟨g+1,1,none⟩=some (.slice pb lb cb)
 r0:W.cell? ⟨g+2,0,none⟩=some (.bool false)
 r1:W.cell? ⟨g+2,1,none⟩=some (.slice none 0 0)
 f:∀ k,k<3->∀ i,W.frozen? ⟨g+k,i,none⟩=false
theorem BoxI.bl {g:Nat}{W W':World}{x:Bool}{pa:Option Addr}{la ca:Nat}{y:Bool}{pb:Option Addr}{lb cb:Nat}(h:BoxI g W x pa la ca y pb lb cb){N:Nat}(hN:g+3<=N)(hb:Below N W W'):BoxI g W' x pa la ca y pb lb cb:=by
 have q:∀ k,k<3->∀ i,W'.cell? ⟨g+k,i,none⟩=W.cell? ⟨g+k,i,none⟩:=fun k hk i=>hb.cell (p:=⟨g+k,i,none⟩) (by show g+k<N;omega);have f:∀ k,k<3->∀ i,W'.frozen? ⟨g+k,i,none⟩=W.frozen? ⟨g+k,i,none⟩:=fun k hk i=>hb.frozen (p:=⟨g+k,i,none⟩) (by show g+k<N;omega);exact⟨(q 0 (by omega) 0).trans h.a0,(q 0 (by omega) 1).trans h.a1,(q 1 (by omega) 0).trans h.b0,(q 1 (by omega) 1).trans h.b1,(q 2 (by omega) 0).trans h.r0,(q 2 (by omega) 1).trans h.r1,fun k hk i=>(f k hk i).trans (h.f k hk i)⟩
theorem UK (a b:List Nat)(ha:okL a)(hb:okL b)(ta:isTrim a)(tb:isTrim b)(hcm:0<=El a b):b.length<=a.length/\val b<=val a:=by
 have h:=Gf a b ha hb ta tb;have d:=hcm;rw[h] at d;refine⟨?_,?_⟩
 ·unfold El at hcm
  by_cases h3:a.length<b.length
  ·simp[h3] at hcm<;>omega
  by_cases h4:b.length<a.length
  ·simp[h3,h4] at hcm<;>omega
  omega
 unfold Ay at d
 split at d<;>(try split at d)<;>omega
end Go.Proofs.YtipgjenolpofpaaGreatDoor.Q
namespace Go.Proofs.YtipgjenolpofpaaGreatDoor.Q
open ChangeShapes WideShapes ChangeAt RowKit Proofs.Tryz
theorem Gt.bl {B:Nat}{w w':World}{z:Value}{x:Int}{n:Nat}(h:Gt B w z x n)(hb:Up w w'):Gt B w' z x n:=by
 obtain⟨neg,v,t,d,j,h3⟩:=h;exact⟨neg,v,t,d,j.bl hb,h3⟩
theorem Gt.mono {B B':Nat}{w:World}{z:Value}{x:Int}{n n':Nat}(h:Gt B w z x n)(hb:B'<=B)(hn:n<=n'):Gt B' w z x n':=by
 obtain⟨neg,v,t,d,j,h3,h4,h5⟩:=h;exact⟨neg,v,t,d,j.mono hb,h3,h4,by omega⟩
theorem Tr (B:Nat)(z:Value)(x:Int)(n:Nat)(w:World)(h:Gt B w z x n) :
 Calls prog 188 #[z] w fun e w'=>∃ z',e=.returned z'/\Gt B w' z' (-x) n/\Up w w':=by
 obtain⟨neg,v,t,rfl,O,Y,Z,hl⟩:=h;obtain⟨p,c,rfl,_⟩:=id O;obtain⟨s,M⟩:=O1 (U0 neg t);have HX:Hid (sg (!s) (val t) = -x):=by
  unfold Hid
  rw[<-M,ZT,Io,Z]
 have U:Hid (∀ W,Up w W->U1 B W (.slice p t.length c) t):=fun W hW=>O.bl hW;have HT:Hid (isTrim t/\t.length<=n):=⟨Y,hl⟩;obtain⟨j,d⟩:=O1 ((w.alloc (.cells #[.bool s,.slice p t.length c] 162)).alloc (.cells #[.bool false,.slice none 0 0] 162));have K:=Ec d;have E:Hid (Up w j):=by rw[<-d];exact Om (Oy _ _) _
 have J:j.heap.size=w.heap.size+2:=by rw[<-d];simp
 have HR:Hid (∀ W,Up j W->(W.cell? ⟨w.heap.size+1,0,none⟩=some (.bool false)/\W.cell? ⟨w.heap.size+1,1,none⟩=some (.slice none 0 0)/\W.frozen? ⟨w.heap.size+1,0,none⟩=false/\W.frozen? ⟨w.heap.size+1,1,none⟩=false)/\W.cell? ⟨w.heap.size,0,none⟩=some (.bool s)/\W.cell? ⟨w.heap.size,1,none⟩=some (.slice p t.length c)):=fun W hW=>by
  have q:∀ k,k<2->∀ i,W.cell? ⟨w.heap.size+k,i,none⟩=j.cell? ⟨w.heap.size+k,i,none⟩:=fun k hk i=>hW.cell (p:=⟨w.heap.size+k,i,none⟩) (by show w.heap.size+k<j.heap.size;omega);have f:∀ i,W.frozen? ⟨w.heap.size+1,i,none⟩=j.frozen? ⟨w.heap.size+1,i,none⟩:=fun i=>hW.frozen (p:=⟨w.heap.size+1,i,none⟩) (by show w.heap.size+1<j.heap.size;omega);refine⟨⟨?_,?_,?_,?_⟩,?_,?_⟩
  ·rw[q 1 (by omega),<-d,Jp _ _ _ _ (by simp)];rfl
  ·rw[q 1 (by omega),<-d,Jp _ _ _ _ (by simp)];rfl
  ·rw[f,<-d,J7 _ _ _ _ (by simp)]
  ·rw[f,<-d,J7 _ _ _ _ (by simp)]
  ·refine (q 0 (by omega) 0).trans ?_;rw[<-d,Jt _ _ _ (by simp),Jp _ _ _ _ (by simp)];rfl
  refine (q 0 (by omega) 1).trans ?_;rw[<-d,Jt _ _ _ (by simp),Jp _ _ _ _ (by simp)];rfl
 have b3:=Hd J;rw[M];clear M Z Y hl O d J
 go_in
 go_wp2_with fail
 rw[K.o];refine (Kd B _ _ t _ (U.o _ E.o)).mono ?_;rintro e w2 ⟨v',rfl,hcut,A⟩;have G:=E.up A;have I:Hid (∀ W,Up w W->U1 B W v' (Oe t)):=fun W hW=>hcut _ _ (U.o _ hW);obtain⟨⟨r0,r1,f0,f1⟩,_,_⟩:=HR.o w2 A;obtain⟨pw,cw,hw,_⟩:=I.o _ G.o;subst hw;clear hcut A
 go_wp2
 have V:Up w ((w2.setCell ⟨w.heap.size+1,0,none⟩ (.bool (U0 (!s) (Oe t)))).setCell ⟨w.heap.size+1,1,none⟩ (.slice pw (Oe t).length cw)):=(G.o.setCell (by simp) _).setCell (by simp) _;refine Jj ?_ rfl ⟨_,rfl,⟨!s,_,Oe t,rfl,I.o _ V,trimL_trim _,by rw[O3];exact HX.o,by have:=Ku t;have:=HT.o.2;omega⟩,V⟩;simp[results,results188,go_sem,r0,r1]
end Go.Proofs.YtipgjenolpofpaaGreatDoor.Q
namespace Go.Proofs.YtipgjenolpofpaaGreatDoor.Q
open ChangeShapes WideShapes ChangeAt RowKit
theorem Gt.shape {B:Nat}{w:World}{z:Value}{x:Int}{n:Nat}(h:Gt B w z x n):∃ (s:Bool) (p:Option Addr) (l c:Nat),z=.agg #[.bool s,.slice p l c]:=by
 obtain⟨neg,v,t,rfl,⟨p,c,rfl,_⟩,_⟩:=h;exact⟨_,_,_,_,rfl⟩
theorem Gt.setCell {B:Nat}{w:World}{z:Value}{x:Int}{n:Nat}(h:Gt B w z x n)(p:Addr)(u:Value)(hp:p.block<B):Gt B (w.setCell p u) z x n:=by
 obtain⟨neg,v,t,d,j,h3⟩:=h;exact⟨neg,v,t,d,j.setCell p u hp,h3⟩
end Go.Proofs.YtipgjenolpofpaaGreatDoor.Q
namespace Go.Proofs.YtipgjenolpofpaaGreatDoor.Q
open ChangeShapes WideShapes ChangeAt RowKit Proofs.Tryz
theorem I0 (s:ByteArray)(h:isIntB s=true):(lim s).length<=280:=by
 have j:(dgs s).size<=2500:=by
  by_cases d:2500<(dgs s).size
  ·rw[Xv s _ rfl d] at h;cases h
  omega
 have h3:=Ku (Et (dgs s).data.toList);have h4:(Et (dgs s).data.toList).length=Qn (dgs s).data.toList.length:=by simp[Et]
 have h5:(dgs s).data.toList.length=(dgs s).size:=by simp
 unfold lim;rw[h4,h5] at h3;have A:Qn (dgs s).size<=280:=by unfold Qn;omega
 omega
theorem P7 (B:Nat)(z:Value)(x:Int)(n:Nat)(w:World)(h:Gt B w z x n)(hn:n<=600)(hLT:LT w) :
 Calls prog 191 #[z] w fun e w'=>∃ u,e=.returned (.string u)/\Ef x u/\Up w w':=by
 obtain⟨neg,v,t,rfl,j,A,E,hl⟩:=h;have d:okL t:=by obtain⟨_,_,_,_,_,h,_⟩:=j;exact h
 refine (RV B _ v t w j (by omega) hLT).mono ?_;rintro e w' ⟨rfl,hb⟩;exact⟨_,rfl,⟨neg,t,d,A,E,rfl⟩,hb⟩
end Go.Proofs.YtipgjenolpofpaaGreatDoor.Q
namespace Go.Proofs.YtipgjenolpofpaaGreatDoor.Q
open ChangeShapes WideShapes ChangeAt RowKit
def No (x y q r:Int):Prop:=x=q*y+r/\0<=r/\r<y.natAbs
theorem Ru (u b:List Nat)(hu:isTrim u)(hb:okL b)(h:val u<val b):u.length<=b.length:=by
 by_cases d:u=[]
 ·rw[d];exact Jy _
 have A:=Xd u hu d;have E:=Gu b hb;apply Zz;intro j;have h3:1000000000 ^ b.length<=1000000000 ^ (u.length - 1):=Yx (by decide) (by omega);omega
theorem Mx (t:Bool)(va vb Q U:Nat)(h:va=Q*vb+U)(hU:U<vb):No (sg false va) (sg t vb) (sg (false != t) Q) (sg false U):=by
 refine⟨?_,?_,?_⟩
 ·rw[h]
  cases t<;>simp[sg,Int.neg_mul_neg]
 ·simp[sg]
 cases t<;>simp[sg]<;>omega
theorem C2 (t:Bool)(va vb Q:Nat)(h:va=Q*vb+0)(hU:0<vb):No (sg true va) (sg t vb) (sg (true != t) Q) (sg false 0):=by
 refine⟨?_,?_,?_⟩
 ·rw[h]
  cases t<;>simp[sg,Int.neg_mul,Int.mul_neg]
 ·simp[sg]
 cases t<;>simp[sg]<;>omega
theorem Pd (t:Bool)(va vb Q U V:Nat)(h:va=Q*vb+U)(hV:V+U=vb)(hU:0<U):No (sg true va) (sg t vb) (sg (true != t) (Q+1)) (sg false V):=by
 refine⟨?_,?_,?_⟩
 ·rw[h,<-hV]
  cases t<;>simp[sg]<;>grind
 ·simp[sg]
 cases t<;>simp[sg]<;>omega
theorem R2 {x y q r q' r':Int}(h:No x y q r)(h':No x y q' r'):q=q'/\r=r':=by
 obtain⟨d,G,h3⟩:=h;obtain⟨E,k2,k3⟩:=h';have e:(q - q')*y=r' - r:=by
  have:=d.symm.trans E;rw[Int.sub_mul];omega
 have A:q - q'=0:=by
  apply Classical.byContradiction;intro j;have h4:(r' - r).natAbs<y.natAbs:=by omega
  rw[<-e,Int.natAbs_mul] at h4;have h5:1*y.natAbs<=(q - q').natAbs*y.natAbs:=Yh _ (by omega);omega
 rw[A,Int.zero_mul] at e;exact⟨by omega,by omega⟩
def Ew (w:World)(g:Nat):Prop:=∀ i x,w.cell? ⟨g,i,none⟩≠some (.int .u32 x)
def Kq (g h:Nat)(w W:World):Prop:=w.heap.size<=W.heap.size/\∀ b,b≠g->b≠h->W.heap[b]? = w.heap[b]?
theorem Kq.refl (g h:Nat)(w:World):Kq g h w w:=⟨Of,fun _ _ _=>rfl⟩
theorem Kq.setCell {g h:Nat}{w W:World}(k:Kq g h w W)(p:Addr)(u:Value)(hp:p.block=g∨p.block=h):Kq g h w (W.setCell p u):=by
 refine⟨by simpa using k.1,fun b h1 h2=>Eq.trans ?_ (k.2 b h1 h2)⟩
 show (W.heap.modify p.block _)[b]? = _
 rw[Array.getElem?_modify,if_neg (by rcases hp with e|e<;>omega)]
theorem U1.keeps {B:Nat}{w W:World}{v:Value}{l:List Nat}{g h:Nat}(hl:U1 B w v l)(n1:Ew w g)(n2:Ew w h)(k:Kq g h w W):U1 B W v l:=by
 obtain⟨a,cap,rfl,K,M,A,E⟩:=hl;refine⟨a,cap,rfl,K,M,A,?_⟩
 by_cases d:l=[]
 ·exact .inl d
 rcases E with E|⟨b,G,rfl,O,j,hc⟩
 ·exact .inl E
 have U:0<l.length:=by
  apply Yp;intro e;exact d (Jv e)
 have c0:=hc 0 U;have I:b≠g:=by rintro rfl;exact n1 _ _ c0
 have J:b≠h:=by rintro rfl;exact n2 _ _ c0
 refine .inr ⟨b,G,rfl,O,Jz j k.1,fun i hi=>?_⟩;rw[<-hc i hi];unfold World.cell?;rw[k.2 b I J]
structure BoxD (g:Nat)(W:World)(x:Bool)(pa:Option Addr)(la ca:Nat)(y:Bool)(pb:Option Addr)(lb cb:Nat):Prop where
 a0:W.cell? ⟨g,0,none⟩=some (.bool x)
 a1:W.cell? ⟨g,1,none⟩=some (.slice pa la ca)
 b0:W.cell? ⟨g+1,0,none⟩=some (.bool y)
 b1:W.cell? ⟨g+1,1,none⟩=some (.slice pb lb cb)
 r0:W.cell? ⟨g+2,0,none⟩=some (.bool false)
 r1:W.cell? ⟨g+2,1,none⟩=some (.slice none 0 0)
 t0:W.cell? ⟨g+3,0,none⟩=some (.bool false)
 t1:W.cell? ⟨g+3,1,none⟩=some (.slice none 0 0)
 f:∀ k,k<4->∀ i,W.frozen? ⟨g+k,i,none⟩=false
 z:∀ k,k<4->Ew W (g+k)
theorem BoxD.bl {g:Nat}{W W':World}{x:Bool}{pa:Option Addr}{la ca:Nat}{y:Bool}{pb:Option Addr}{lb cb:Nat}(h:BoxD g W x pa la ca y pb lb cb){N:Nat}(hN:g+4<=N)(hb:Below N W W'):BoxD g W' x pa la ca y pb lb cb:=by
 have q:∀ k,k<4->∀ i,W'.cell? ⟨g+k,i,none⟩=W.cell? ⟨g+k,i,none⟩:=fun k hk i=>hb.cell (p:=⟨g+k,i,none⟩) (by show g+k<N;omega);have f:∀ k,k<4->∀ i,W'.frozen? ⟨g+k,i,none⟩=W.frozen? ⟨g+k,i,none⟩:=fun k hk i=>hb.frozen (p:=⟨g+k,i,none⟩) (by show g+k<N;omega);exact⟨(q 0 (by omega) 0).trans h.a0,(q 0 (by omega) 1).trans h.a1,(q 1 (by omega) 0).trans h.b0,(q 1 (by omega) 1).trans h.b1,(q 2 (by omega) 0).trans h.r0,(q 2 (by omega) 1).trans h.r1,(q 3 (by omega) 0).trans h.t0,(q 3 (by omega) 1).trans h.t1,fun k hk i=>(f k hk i).trans (h.f k hk i),fun k hk i x e=>h.z k hk i x ((q k hk i).symm.trans e)⟩
theorem Ws (w:World)(x:Bool)(pa:Option Addr)(la ca:Nat)(y:Bool)(pb:Option Addr)(lb cb:Nat)(ty:TypeId) :
 BoxD w.heap.size ((((w.alloc (.cells #[.bool x,.slice pa la ca] ty)).alloc (.cells #[.bool y,.slice pb lb cb] ty)).alloc (.cells #[.bool false,.slice none 0 0] ty)).alloc (.cells #[.bool false,.slice none 0 0] ty)) x pa la ca y pb lb cb:=by
 refine⟨?_,?_,?_,?_,?_,?_,?_,?_,?_,?_⟩
 case' _=>
  skip
 rotate_left
 case' _=>
  skip
 rotate_left
 ·rw[Jt _ _ _ (by simp<;>omega),Jt _ _ _ (by simp),Jp _ _ _ _ (by simp)];rfl
 ·rw[Jt _ _ _ (by simp<;>omega),Jt _ _ _ (by simp),Jp _ _ _ _ (by simp)];rfl
 ·rw[Jt _ _ _ (by simp),Jp _ _ _ _ (by simp)];rfl
 ·rw[Jt _ _ _ (by simp),Jp _ _ _ _ (by simp)];rfl
 ·rw[Jp _ _ _ _ (by simp)];rfl
 ·rw[Jp _ _ _ _ (by simp)];rfl
 ·intro k h i
  match k,h with
  | 0,_=>rw[Yr _ _ _ (by simp<;>omega),Yr _ _ _ (by simp<;>omega),Yr _ _ _ (by simp),J7 _ _ _ _ (by simp)]
  | 1,_=>rw[Yr _ _ _ (by simp<;>omega),Yr _ _ _ (by simp),J7 _ _ _ _ (by simp)]
  | 2,_=>rw[Yr _ _ _ (by simp),J7 _ _ _ _ (by simp)]
  | 3,_=>rw[J7 _ _ _ _ (by simp)]
 ·have d:∀ (p q:Value) (i:Nat) (x:Int),(∀ x,p≠.int .u32 x)->(∀ x,q≠.int .u32 x)->(#[p,q]:Array Value)[i]? ≠ some (.int .u32 x):=fun p q i x hp hq=>by
   match i with
   | 0=>simpa using hp x
   | 1=>simpa using hq x
   | i+2=>simp
  intro k h i x
  match k,h with
  | 0,_=>
    rw[Jt _ _ _ (by simp<;>omega),Jt _ _ _ (by simp<;>omega),Jt _ _ _ (by simp),Jp _ _ _ _ (by simp)];exact d _ _ i x (by simp) (by simp)
  | 1,_=>
    rw[Jt _ _ _ (by simp<;>omega),Jt _ _ _ (by simp<;>omega),Jp _ _ _ _ (by simp)];exact d _ _ i x (by simp) (by simp)
  | 2,_=>
    rw[Jt _ _ _ (by simp<;>omega),Jp _ _ _ _ (by simp)];exact d _ _ i x (by simp) (by simp)
  | 3,_=>
    rw[Jp _ _ _ _ (by simp)];exact d _ _ i x (by simp) (by simp)
 all_goals rw[Jt _ _ _ (by simp<;>omega),Jt _ _ _ (by simp<;>omega),Jt _ _ _ (by simp),Jp _ _ _ _ rfl];rfl
structure SD (a b R Q:List Nat)(j:Nat):Prop where
 le:j<=a.length
 qlen:Q.length=a.length
 qok:okL Q
 low:∀ i,i<j->Q.getD i 0=0
 rok:okL R
 rlen:R.length<=b.length
 eq:Ek a j=Ek Q j*val b+val R
 lt:val R<val b
theorem SD.window {a b R Q:List Nat}{i x:Nat}(h:SD a b R Q (i+1))(hx:x<1000000000):val (x::R)<val b*1000000000:=Bu x (val R) (val b) hx h.lt
theorem FP (Va Vq vb r x q r':Nat)(h:Va=Vq*vb+r)(hX:x+1000000000*r=q*vb+r'):Va*1000000000+x=(Vq*1000000000+q)*vb+r':=by
 have e:(Vq*1000000000+q)*vb+r'=Vq*vb*1000000000+(q*vb+r'):=by grind
 rw[e,<-hX,h]
 grind
theorem SD.put {a b R Q:List Nat}{i:Nat}(h:SD a b R Q (i+1)){q:Nat}{R':List Nat}(hq:q<1000000000)(hX:val (a.getD i 0::R)=q*val b+val R')(hlt:val R'<val b)(hok:okL R')(htr:isTrim R')(hb:okL b):SD a b R' (Q.set i q) i:=by
 have d:=h.le;refine⟨by omega,by simp[h.qlen],U4 Q h.qok i q hq,fun j hj=>?_,hok,Ru R' b htr hb hlt,?_,hlt⟩
 ·rw[Dq _ _ _ _ (by omega)];exact h.low j (by omega)
 rw[Ik a i (by omega),Du Q i q (by have:=h.qlen;omega)];exact FP _ _ _ _ _ q _ h.eq (by simpa[val] using hX)
theorem QX (Q:List Nat)(i:Nat)(h:Q.getD i 0=0):Q.set i 0=Q:=by
 by_cases d:i<Q.length
 ·have e:Q[i]=0:=by rw[Jk,Jf d] at h;exact h
  rw[<-e,List.set_getElem_self]
 exact List.set_eq_of_length_le (by omega)
theorem SD.cont {a b R Q:List Nat}{i:Nat}(h:SD a b R Q (i+1))(hlt:val (Oe (a.getD i 0::R))<val b)(hx:a.getD i 0<1000000000)(hb:okL b):SD a b (Oe (a.getD i 0::R)) Q i:=by
 have d:=h.put (q:=0) (R':=Oe (a.getD i 0::R)) (by omega) (by rw[O3,Vu,Y4]) hlt (trimL_ok _ (fun y hy=>by
  rcases Vz.1 hy with e|e
  ·omega
  exact h.rok y e)) (trimL_trim _) hb
 rw[QX Q i (h.low i (by omega))] at d;exact d
theorem QI (a b:List Nat)(ha:okL a)(hb:isTrim b)(hne:b≠[]):SD a b (a.drop (a.length+1 - b.length)) (List.replicate a.length 0) (a.length+1 - b.length):=by
 have j:0<b.length:=by
  apply Yp;intro e;exact hne (Jv e)
 refine⟨by omega,by simp,fun x hx=>by rw[Yq hx];omega,fun i hi=>?_,X5 a ha _,by simp;omega,?_,?_⟩
 ·simp[List.getD_eq_getElem?_getD,List.getElem?_replicate]
  split<;>rfl
 ·have e:Ek (List.replicate a.length 0) (a.length+1 - b.length)=0:=by unfold Ek;simp[G6]
  rw[e,Vu,Y4];rfl
 have d:=N1 (a.drop (a.length+1 - b.length)) (X5 a ha _) (b.length - 1) (by simp;omega);have h:=Xd b hb hne;omega
def Gp (vb X lo hi:Nat):Prop:=lo<=hi/\hi<=999999999/\lo*vb<=X/\X<(hi+1)*vb
theorem Qs (vb X:Nat)(h:X<vb*1000000000):Gp vb X 0 999999999:=⟨by omega,by omega,by rw[Vu];omega,by omega⟩
theorem Cf {vb X lo hi:Nat}(h:Gp vb X lo hi)(hlt:lo<hi)(hc:(lo+hi+1) / 2*vb<=X):Gp vb X ((lo+hi+1) / 2) hi:=⟨by omega,h.2.1,hc,h.2.2.2⟩
theorem Rr {vb X lo hi:Nat}(h:Gp vb X lo hi)(hlt:lo<hi)(hc:X<(lo+hi+1) / 2*vb):Gp vb X lo ((lo+hi+1) / 2 - 1):=by
 refine⟨by omega,by have:=h.2.1;omega,h.2.2.1,?_⟩;rw[show (lo+hi+1) / 2 - 1+1=(lo+hi+1) / 2 by omega];exact hc
def Hr (base:Nat)(W:World)(v:Value)(R:List Nat):Prop:=
 okL R/\((v=.slice none 0 0/\R=[])∨∃ g cap,v=.slice (some ⟨g,0,none⟩) R.length cap/\base<=g/\g<W.heap.size/\R.length<=cap/\cap<=maxLen/\∀ i,i<R.length->W.cell? ⟨g,i,none⟩=some (.int .u32 (R.getD i 0:Nat)))
theorem Hr.isL {base:Nat}{W:World}{v:Value}{R:List Nat}(h:Hr base W v R):U1 base W v R:=by
 obtain⟨d,⟨rfl,rfl⟩|⟨g,cap,rfl,hb,j,hl,A,hc⟩⟩:=h
 ·exact⟨none,0,rfl,Of,(by unfold maxLen;omega),d,.inl rfl⟩
 exact⟨_,cap,rfl,hl,A,d,.inr ⟨g,0,rfl,hb,j,fun i hi=>by rw[Y4];exact hc i hi⟩⟩
theorem Hr.bl {base:Nat}{W W':World}{v:Value}{R:List Nat}(h:Hr base W v R)(hb:Up W W'):Hr base W' v R:=by
 obtain⟨d,h|⟨g,cap,A,E,j,h3,h4,hc⟩⟩:=h
 ·exact⟨d,.inl h⟩
 exact⟨d,.inr ⟨g,cap,A,E,Jz j hb.size,h3,h4,fun i hi=>(hb.cell (p:=⟨g,i,none⟩) j).trans (hc i hi)⟩⟩
theorem Hr.setCell {base:Nat}{W:World}{v:Value}{R:List Nat}(h:Hr base W v R)(p:Addr)(u:Value)(hp:p.block<base):Hr base (W.setCell p u) v R:=by
 obtain⟨d,h|⟨g,cap,j,A,E,h3,h4,hc⟩⟩:=h
 ·exact⟨d,.inl h⟩
 refine⟨d,.inr ⟨g,cap,j,A,by simpa using E,h3,h4,fun i hi=>?_⟩⟩;rw[<-hc i hi];exact Vf (Jq W p u g (by omega))
theorem Hr.of_owns {base e:Nat}{W:World}{v:Value}{R:List Nat}(h:W.ownsRow base e 1 v R.length (Nx R))(hok:okL R):Hr base W v R:=by
 have j:=fun g hg=>h.cells (g:=g) hg;have A:=h.lt;obtain⟨_,h⟩:=h
 rcases h with⟨rfl,hn⟩|⟨g,cap,G,rfl,I,E,hn,d,_,_⟩
 ·exact⟨hok,.inl ⟨rfl,Jv hn⟩⟩
 refine⟨hok,.inr ⟨g,cap,rfl,I,(A g rfl).2,hn,d,fun i hi=>?_⟩⟩;have:=j g rfl i (.int .u32 (R.getD i 0:Nat)) (by rw[Y1];simp[List.getD_eq_getElem?_getD,hi])
 by_cases i0:i=0
 ·subst i0;simpa[Addr.add] using this
 simpa[Addr.add,i0] using this
theorem Hr.cut {base g cap:Nat}{W:World}{N:List Nat}(hg:base<=g)(hlt:g<W.heap.size)(hm:cap<=maxLen)(hok:okL N)(hl:N.length<=cap)(hc:∀ i,i<N.length->W.cell? ⟨g,i,none⟩=some (.int .u32 (N.getD i 0:Nat)))(k:Nat)(hk:k<=N.length)(he:Oe N=N.take k) :
 Hr base W (.slice (some ⟨g,0,none⟩) k cap) (Oe N):=by
 have d:(Oe N).length=k:=by rw[he,J4];omega
 refine⟨trimL_ok N hok,.inr ⟨g,cap,by rw[d],hg,hlt,by omega,hm,fun i hi=>?_⟩⟩;rw[hc i (by omega),Xy N i hi]
end Go.Proofs.YtipgjenolpofpaaGreatDoor.Q
