import Derived.Test.YtipgjenolpofpaaGreatDoorP07
import Derived.Ground.SlgnProg
import Derived.Shelf.SlicesE.Clone
import Derived.Laws.CopyOwn
import Derived.Test.YtipgjenolpofpaaGreatDoorP06
set_option maxRecDepth 100000
set_option maxHeartbeats 4000000
namespace Go.Proofs.YtipgjenolpofpaaGreatDoor.Q
open Go.ChangeShapes Go.WideShapes Go.ChangeAt Go.RowKit Go.Proofs.Tryz
theorem RB (n k:Nat)(h0:n / 1000000000 ^ k=0)(h1:k=0∨n / 1000000000 ^ (k - 1)≠0):isTrim (wl n k):=by
 intro d
 cases k with
 | zero=>exact absurd rfl d
 | succ k=>
   have j:n / 1000000000 ^ k≠0:=by
    rcases h1 with h|h
    ·omega
    ·rwa [Z7] at h
   have e:(wl n (k+1)).getLast d=n / 1000000000 ^ k % 1000000000:=by simp[Ak]
   rw[e];rw[J5,<-Z3] at h0;omega
theorem L8 (n:Nat)(w:World)(hn:n<18446744073709551616) :
 Calls prog 202 #[.int .u64 (n:Nat)] w fun e w'=>∃ v k,e=.returned v/\k<=3/\U1 w.heap.size w' v (wl n k)/\val (wl n k)=n/\(n / 1000000000 ^ k=0/\(k=0∨n / 1000000000 ^ (k - 1)≠0))/\Up w w':=by
 obtain⟨i0,G,O,U,K⟩:=info_parts info_u32;have HN:=Hd hn;clear hn
 go_enter func202,ntmps202
 go_wp2
 go_loopw [0,3] (fun q v wr=>∃ k:Nat,(k<=3/\(k=0∨n / 1000000000 ^ (k - 1)≠0))/\q=.int .u64 (n / 1000000000 ^ k:Nat) /\
  wr.ownsRow w.heap.size 154 1 v k ((wl n k).map (fun x=>Value.int .u32 (x:Nat)))/\Up w wr) (fun q _ _=>(intOf q).toNat)
 case atStart=>exact⟨0,⟨by omega,.inl rfl⟩,Ob (by simp),Vr _ _ _ _,Jh _ _⟩
 case round=>
  obtain⟨k,⟨hk,J⟩,rfl,d,A⟩:=hrel;have a7:=Hd J;clear J;obtain⟨q,hq⟩:=O1 (n / 1000000000 ^ k);have E:=Hd hq;rw[hq];clear hq
  by_cases I:q=0
  ·have HV:Hid (val (wl n k)=n):=by
    unfold Hid
    have:=CQ n k;rw[E.o,I] at this
    simpa using this
   have hL:U1 w.heap.size wr u3 (wl n k):=Iq (e:=154) (by rw[P7];exact d) (FY n k);have HL:=Hd hL;have HB:=Hd A;have Y:Hid (n / 1000000000 ^ k=0):=E.o.trans I;clear hL d A;subst I
   go_wp2
   go_ret
   exact⟨_,k,rfl,hk,HL.o,HV.o,⟨Y.o,a7.o⟩,HB.o⟩
  ·have d1:k<3:=by
    apply Classical.byContradiction;intro hc;obtain rfl:k=3:=by omega
    have:=E.o;have h3:(1000000000:Nat) ^ 3=1000000000000000000000000000:=by decide
    rw[h3] at this;have:=HN.o;omega
   obtain⟨x,M⟩:∃ x:Int,(q:Int)=x:=⟨_,rfl⟩;have HX:=Hd M;rw[M];have x0:0<x:=by omega
   have x1:x<18446744073709551616:=by
    have h1:=Nat.div_le_self n (1000000000 ^ k);rw[E.o] at h1;have:=HN.o;omega
   have HM:Hid (x % 1000000000=(n / 1000000000 ^ k % 1000000000:Nat)):=by unfold Hid;rw[E.o,<-HX.o];rfl
   have HD:Hid (x / 1000000000=(n / 1000000000 ^ (k+1):Nat)):=by
    unfold Hid
    rw[J5,<-Z3,E.o,<-HX.o];rfl
   have Z:Hid (n / 1000000000 ^ k≠0):=by unfold Hid;rw[E.o];exact I
   clear M I
   go_wp2_with (at_builtin;refine wpList_append_own _ rfl _ _ 121 rfl w.heap.size 154 i0 (.int .u32 0) 1 4 underlying121 G O U K rfl (by decide) _ _ _ rfl (d.alloc _) ⟨wr.heap.size,0,none⟩ 1 1 [_] rfl rfl (cell_one_new _ _ _) ?c2 ?c3 ?c4 ?c5 ?_)
   case c2=>first|rfl|(intro u hu;simp at hu;subst hu;rfl)
   case c3=>unfold maxLen;omega
   case c4=>omega
   case c5=>have:=A.size;simp;omega
   intro v' w1 j h _;have V:Up w w1:=(A.alloc A.size _).grown h (by have:=A.size;simp;omega) (fun q hq=>(d.lt q hq).1);have HO:Hid (w1.ownsRow w.heap.size 154 1 v' (k+1) ((wl n (k+1)).map (fun x=>Value.int .u32 (x:Nat)))):=by
    unfold Hid
    rw[Ak,Zd,Vy,Ua,<-HM.o];exact j
   clear h d A j
   go_wp2
   go_roundw
   case rel=>exact⟨k+1,⟨by omega,.inr (by rw[Z7];exact Z.o)⟩,Ob HD.o,HO.o,V⟩
   case measure=>simp[intOf];omega
theorem Xi (n:Nat)(w:World)(hn:n<18446744073709551616) :
 Calls prog 202 #[.int .u64 (n:Nat)] w fun e w'=>∃ v t,e=.returned v/\U1 w.heap.size w' v t/\isTrim t/\val t=n/\t.length<=3/\Up w w':=by
 refine (L8 n w hn).mono ?_;rintro e w' ⟨v,k,rfl,j,d,E,⟨h,A⟩,hb⟩;exact⟨v,_,rfl,d,RB n k h A,E,by rw[P7];exact j,hb⟩
structure Only (R:Nat)(w w':World):Prop where
 below:Below R w w'
 block:∀ k,k<w.heap.size->k≠R->w'.heap[k]? = w.heap[k]?
theorem Only.refl (R:Nat)(w:World):Only R w w:=⟨Jh _ _,fun _ _ _=>rfl⟩
theorem Only.trans {R:Nat}{a b c:World}(h:Only R a b)(k:Only R b c):Only R a c:=
 ⟨h.below.trans k.below,fun i hi hn=>(k.block i (Jz hi h.below.size) hn).trans (h.block i hi hn)⟩
theorem Only.of {R:Nat}{w w':World}(h:Up w w')(hR:R<=w.heap.size):Only R w w':=⟨h.mono hR,fun k hk _=>h.block k hk⟩
theorem Only.setCell {R:Nat}{w w':World}(h:Only R w w')(i:Nat)(u:Value):Only R w (w'.setCell ⟨R,i,none⟩ u):=
 ⟨h.below.setCell Of u,fun k hk hn=>by
  refine Eq.trans ?_ (h.block k hk hn)
  show (w'.heap.modify R _)[k]? = _
  rw[Array.getElem?_modify,if_neg (fun e=>hn e.symm)]⟩
theorem Only.cell {R:Nat}{w w':World}(h:Only R w w'){p:Addr}(hp:p.block<w.heap.size)(hn:p.block≠R):w'.cell? p=w.cell? p:=by
 unfold World.cell?;rw[h.block _ hp hn]
theorem Only.rowT {R D:Nat}{w w':World}{l:List Nat}(h:Only R w w')(hD:D≠R)(hr:O6 w D l):O6 w' D l:=by
 have d:=hr.lt;obtain⟨t,hr⟩:=hr;exact⟨t,(h.block D d hD).trans hr⟩
theorem US (L:List Nat)(off i x:Nat):(L.set (off+i) x).drop off=(L.drop off).set i x:=by
 rw[List.drop_set,if_neg (by omega),V6]
theorem Hp (A:List Nat)(off i:Nat):(A.drop off).getD i 0=A.getD (off+i) 0:=by
 rw[Jk,Jk,Ut]
theorem Qp (L A:List Nat)(off i x:Nat)(h:L.take off=A.take off):(L.set (off+i) x).take off=A.take off:=by
 rw[List.take_set_of_le (by omega),h]
theorem Ih (L:List Nat)(off i x:Nat)(hi:off+i<L.length):val (((L.set (off+i) x).drop off).take (i+1))=val ((L.drop off).take i)+1000000000 ^ i*x:=by
 rw[US,O2 _ _ _ (by simp;omega)]
theorem Gd (A:List Nat)(off i:Nat):val ((A.drop off).take (i+1))=val ((A.drop off).take i)+1000000000 ^ i*A.getD (off+i) 0:=by
 rw[Ok,Hp]
theorem Cy (R off cap f:Nat)(pb:Option Addr)(cb:Nat)(A b:List Nat)(w:World)(hR:O6 w R A)(hAok:okL A)(hn:off+b.length<=A.length)(hA:A.length<=1000000)(hbok:okL b)(hf:f<=1000000000)
 (hcb:∀ i,i<b.length->∃ c off,pb=some ⟨c,off,none⟩/\(c<w.heap.size/\c≠R)/\w.cell? ⟨c,off+i,none⟩=some (.int .u32 (b.getD i 0:Nat))) :
 Calls prog 234 #[.slice (some ⟨R,off,none⟩) b.length cap,.slice pb b.length cb,.int .u64 (f:Nat)] w fun e w'=>∃ c L,e=.returned (.int .u64 (c:Nat))/\O6 w' R L/\L.length=A.length/\okL L/\L.drop (off+b.length)=A.drop (off+b.length)/\L.take off=A.take off/\c<=f /\
  val ((L.drop off).take b.length)+f*val b=val ((A.drop off).take b.length)+1000000000 ^ b.length*c/\Only R w w':=by
 have HB:=Hd hcb;clear hcb
 go_enter func234,ntmps234
 go_wp2
 go_loopw [7,12] (fun cv iv wr=>∃ (i c:Nat) (L:List Nat),i<=b.length/\c<=f/\L.length=A.length/\okL L/\O6 wr R L/\L.drop (off+i)=A.drop (off+i)/\L.take off=A.take off/\cv=.int .u64 (c:Nat)/\iv=.int .i64 i /\
  val ((L.drop off).take i)+f*val (b.take i)=val ((A.drop off).take i)+1000000000 ^ i*c/\Only R w wr) (fun _ iv _=>b.length - (intOf iv).toNat)
 case atStart=>exact⟨0,0,A,by omega,by omega,rfl,hAok,hR,rfl,rfl,rfl,rfl,by simp[val],Only.refl _ _⟩
 case round=>
  clear hR;obtain⟨i,c,L,hi,c8,d0,E,hR,K,M,rfl,rfl,j,hB⟩:=hrel;have hc:c<=1000000000:=by omega
  by_cases d6:i<b.length
  ·have J:=hR.cell (off+i) (by omega);have hx:=Ia L A (off+i) K;have d1:=O9 A hAok (off+i) (by omega);rw[hx] at J;clear hx;obtain⟨x,hx⟩:=O1 (A.getD (off+i) 0);rw[hx] at d1 J;obtain⟨bb,ob,rfl,b7,hcb⟩:=HB.o i d6;rw[<-hB.cell (p:=⟨bb,ob+i,none⟩) b7.1 b7.2] at hcb;have d4:=O9 b hbok i d6;obtain⟨y,hy⟩:=O1 (b.getD i 0);rw[hy] at hcb d4;obtain⟨F,hF⟩:=O1 (f*y);have d8:F<=f*999999999:=by rw[<-hF];exact J8 f (by omega)
   obtain⟨X,hX⟩:∃ X:Int,(x:Int)=X:=⟨_,rfl⟩;have HX:=Hd hX;have x1:0<=X:=by omega
   have x2:X<1000000000:=by omega
   rw[hX] at J;obtain⟨C,hC⟩:∃ C:Int,(c:Int)=C:=⟨_,rfl⟩;have HC:=Hd hC;have c1:0<=C:=by omega
   have c2:C<=1000000000:=by omega
   rw[hC];obtain⟨G,hG⟩:∃ G:Int,(f:Int)=G:=⟨_,rfl⟩;rw[hG];obtain⟨Y,hY⟩:∃ Y:Int,(y:Int)=Y:=⟨_,rfl⟩;have Z:(F:Int)=G*Y:=by rw[<-hF,<-hG,<-hY];rfl
   have I:=Hd Z;have g1:0<=G*Y:=by rw[<-Z];omega
   have g2:G*Y<=999999999000000000:=by rw[<-Z];omega
   have y1:0<=Y:=by omega
   have y2:Y<1000000000:=by omega
   rw[hY] at hcb
   by_cases b4:x<(c+F) % 1000000000
   ·skip
    have a7:=Gk (1000000000 ^ i) _ _ _ c x y (x+1000000000 - (c+F) % 1000000000) ((c+F) / 1000000000+1) f j (by rw[hF];omega);have b9:Hid (val (((L.set (off+i) (x+1000000000 - (c+F) % 1000000000)).drop off).take (i+1))+f*val (b.take (i+1))=val ((A.drop off).take (i+1))+1000000000 ^ (i+1)*((c+F) / 1000000000+1)):=by
     unfold Hid
     rw[Ih L off i _ (by omega),Gd,Ok,hx,hy,J5];exact a7
    have f5:=hR.frozen (off+i);have b8:Hid (∀ (u:Nat) (v:Int) (hv:v=(((x+1000000000 - (c+F) % 1000000000):Nat):Int)),O6 ((wr.setCell ⟨R,off+i,none⟩ (.int .u32 (X+1000000000))).setCell ⟨R,off+i,none⟩ (.int .u32 v)) R (L.set (off+i) (x+1000000000 - (c+F) % 1000000000))):=fun u v hv=>by
     have e:X+1000000000=((x+1000000000:Nat):Int):=by have:=HX.o;omega
     have h:=(hR.set (off+i) (x+1000000000) (by omega)).set (off+i) (x+1000000000 - (c+F) % 1000000000) (by simp;omega);rw[Uy] at h;rw[hv,e];exact h
    have c6:Hid (∀ v:Int,v=(((x+1000000000 - (c+F) % 1000000000):Nat):Int)->O6 (wr.setCell ⟨R,off+i,none⟩ (.int .u32 v)) R (L.set (off+i) (x+1000000000 - (c+F) % 1000000000))):=fun v hv=>by
     rw[hv];exact hR.set (off+i) _ (by omega)
    have V:Hid (∀ u v,Only R w (wr.setCell ⟨R,off+i,none⟩ u)/\Only R w ((wr.setCell ⟨R,off+i,none⟩ u).setCell ⟨R,off+i,none⟩ v)):=fun u v=>⟨hB.setCell _ u,(hB.setCell _ u).setCell _ v⟩;have d2:Hid (okL (L.set (off+i) (x+1000000000 - (c+F) % 1000000000))):=U4 L E (off+i) _ (by omega);have O:Hid ((L.set (off+i) (x+1000000000 - (c+F) % 1000000000)).drop (off+(i+1))=A.drop (off+(i+1))/\(L.set (off+i) (x+1000000000 - (c+F) % 1000000000)).take off=A.take off):=⟨Kx L A (off+i) _ K,Qp L A off i _ M⟩;have d3:Hid (((c+F) / 1000000000+1)<=f):=by
     unfold Hid
     omega
    have t1:X<(C+G*Y) % 1000000000:=by have:=HX.o;have:=HC.o;have:=I.o;omega
    have d:Hid _:=b4;clear a7 j hx hy hR hB E K M hX d1 b4 hC hG hY Z d4 hF d8 hc c8
    go_wp2
    go_roundw
    case rel=>
     refine⟨i+1,((c+F) / 1000000000+1),L.set (off+i) (x+1000000000 - (c+F) % 1000000000),by omega,d3.o,by simp[d0],d2.o,?_,O.o.1,O.o.2,?_,by go_num,b9.o,?_⟩
     ·have U:∀ v:Int,v=(((x+1000000000 - (c+F) % 1000000000):Nat):Int)->v=(((x+1000000000 - (c+F) % 1000000000):Nat):Int):=fun _ h=>h
      first
       | exact c6.o _ (U _ (by have:=HX.o;have:=HC.o;have:=d.o;have:=I.o;omega))
       | exact b8.o 0 _ (U _ (by have:=HX.o;have:=HC.o;have:=d.o;have:=I.o;omega))
     ·congr 1;have:=HX.o;have:=HC.o;have:=d.o;have:=I.o;omega
     ·first|exact (V.o _ (.bool true)).1|exact (V.o _ _).2
    case measure=>simp[intOf];omega
   ·skip
    have a7:=Gk (1000000000 ^ i) _ _ _ c x y (x - (c+F) % 1000000000) ((c+F) / 1000000000) f j (by rw[hF];omega);have b9:Hid (val (((L.set (off+i) (x - (c+F) % 1000000000)).drop off).take (i+1))+f*val (b.take (i+1))=val ((A.drop off).take (i+1))+1000000000 ^ (i+1)*((c+F) / 1000000000)):=by
     unfold Hid
     rw[Ih L off i _ (by omega),Gd,Ok,hx,hy,J5];exact a7
    have f5:=hR.frozen (off+i);have b8:Hid (∀ (u:Nat) (v:Int) (hv:v=(((x - (c+F) % 1000000000):Nat):Int)),O6 ((wr.setCell ⟨R,off+i,none⟩ (.int .u32 (X+1000000000))).setCell ⟨R,off+i,none⟩ (.int .u32 v)) R (L.set (off+i) (x - (c+F) % 1000000000))):=fun u v hv=>by
     have e:X+1000000000=((x+1000000000:Nat):Int):=by have:=HX.o;omega
     have h:=(hR.set (off+i) (x+1000000000) (by omega)).set (off+i) (x - (c+F) % 1000000000) (by simp;omega);rw[Uy] at h;rw[hv,e];exact h
    have c6:Hid (∀ v:Int,v=(((x - (c+F) % 1000000000):Nat):Int)->O6 (wr.setCell ⟨R,off+i,none⟩ (.int .u32 v)) R (L.set (off+i) (x - (c+F) % 1000000000))):=fun v hv=>by
     rw[hv];exact hR.set (off+i) _ (by omega)
    have V:Hid (∀ u v,Only R w (wr.setCell ⟨R,off+i,none⟩ u)/\Only R w ((wr.setCell ⟨R,off+i,none⟩ u).setCell ⟨R,off+i,none⟩ v)):=fun u v=>⟨hB.setCell _ u,(hB.setCell _ u).setCell _ v⟩;have d2:Hid (okL (L.set (off+i) (x - (c+F) % 1000000000))):=U4 L E (off+i) _ (by omega);have O:Hid ((L.set (off+i) (x - (c+F) % 1000000000)).drop (off+(i+1))=A.drop (off+(i+1))/\(L.set (off+i) (x - (c+F) % 1000000000)).take off=A.take off):=⟨Kx L A (off+i) _ K,Qp L A off i _ M⟩;have d3:Hid (((c+F) / 1000000000)<=f):=by
     unfold Hid
     omega
    have t1:(C+G*Y) % 1000000000<=X:=by have:=HX.o;have:=HC.o;have:=I.o;omega
    have d:Hid _:=b4;clear a7 j hx hy hR hB E K M hX d1 b4 hC hG hY Z d4 hF d8 hc c8
    go_wp2
    go_roundw
    case rel=>
     refine⟨i+1,((c+F) / 1000000000),L.set (off+i) (x - (c+F) % 1000000000),by omega,d3.o,by simp[d0],d2.o,?_,O.o.1,O.o.2,?_,by go_num,b9.o,?_⟩
     ·have U:∀ v:Int,v=(((x - (c+F) % 1000000000):Nat):Int)->v=(((x - (c+F) % 1000000000):Nat):Int):=fun _ h=>h
      first
       | exact c6.o _ (U _ (by have:=HX.o;have:=HC.o;have:=d.o;have:=I.o;omega))
       | exact b8.o 0 _ (U _ (by have:=HX.o;have:=HC.o;have:=d.o;have:=I.o;omega))
     ·congr 1;have:=HX.o;have:=HC.o;have:=d.o;have:=I.o;omega
     ·first|exact (V.o _ (.bool true)).1|exact (V.o _ _).2
    case measure=>simp[intOf];omega
  ·obtain rfl:i=b.length:=by omega
   rw[Jn (Nat.le_refl b.length)] at j;have HE:Hid (O6 wr R L/\L.length=A.length/\okL L/\L.drop (off+b.length)=A.drop (off+b.length)/\L.take off=A.take off/\val ((L.drop off).take b.length)+f*val b=val ((A.drop off).take b.length)+1000000000 ^ b.length*c/\Only R w wr):=⟨hR,d0,E,K,M,j,hB⟩;clear j hR hB E K M
   go_wp2
   go_ret
   obtain⟨e1,e2,e3,e4,e5,e6,e7⟩:=HE.o;exact⟨c,L,rfl,e1,e2,e3,e4,e5,c8,e6,e7⟩
theorem L0 (R off cap:Nat)(pb:Option Addr)(cb:Nat)(A b:List Nat)(w:World)(hR:O6 w R A)(hAok:okL A)(hn:off+b.length<=A.length)(hA:A.length<=1000000)(hbok:okL b)
 (hcb:∀ i,i<b.length->∃ c off,pb=some ⟨c,off,none⟩/\(c<w.heap.size/\c≠R)/\w.cell? ⟨c,off+i,none⟩=some (.int .u32 (b.getD i 0:Nat))) :
 Calls prog 232 #[.slice (some ⟨R,off,none⟩) b.length cap,.slice pb b.length cb] w fun e w'=>∃ c L,e=.returned (.int .u32 (c:Nat))/\O6 w' R L/\L.length=A.length/\okL L/\L.drop (off+b.length)=A.drop (off+b.length)/\L.take off=A.take off/\c<=1 /\
  val ((L.drop off).take b.length)+1000000000 ^ b.length*c=val ((A.drop off).take b.length)+val b/\Only R w w':=by
 have HB:=Hd hcb;clear hcb
 go_enter func232,ntmps232
 go_wp2
 go_loopw [5,10] (fun cv iv wr=>∃ (i c:Nat) (L:List Nat),i<=b.length/\c<=1/\L.length=A.length/\okL L/\O6 wr R L/\L.drop (off+i)=A.drop (off+i)/\L.take off=A.take off/\cv=.int .u32 (c:Nat)/\iv=.int .i64 i /\
  val ((L.drop off).take i)+1000000000 ^ i*c=val ((A.drop off).take i)+val (b.take i)/\Only R w wr) (fun _ iv _=>b.length - (intOf iv).toNat)
 case atStart=>exact⟨0,0,A,by omega,by omega,rfl,hAok,hR,rfl,rfl,rfl,rfl,by simp[val],Only.refl _ _⟩
 case round=>
  clear hR;obtain⟨i,c,L,hi,hc,a8,h,hR,E,G,rfl,rfl,d,hB⟩:=hrel
  by_cases b7:i<b.length
  ·have j:=hR.cell (off+i) (by omega);have O:=Ia L A (off+i) E;have b3:=O9 A hAok (off+i) (by omega);rw[O] at j;clear O;obtain⟨x,O⟩:=O1 (A.getD (off+i) 0);rw[O] at b3 j;obtain⟨bb,ob,rfl,U,hcb⟩:=HB.o i b7;rw[<-hB.cell (p:=⟨bb,ob+i,none⟩) U.1 U.2] at hcb;have b6:=O9 b hbok i b7;obtain⟨y,hy⟩:=O1 (b.getD i 0);rw[hy] at hcb b6;obtain⟨X,hX⟩:∃ X:Int,(x:Int)=X:=⟨_,rfl⟩;have HX:=Hd hX;have x1:0<=X:=by omega
   have x2:X<1000000000:=by omega
   rw[hX] at j;obtain⟨C,hC⟩:∃ C:Int,(c:Int)=C:=⟨_,rfl⟩;have HC:=Hd hC;have c1:0<=C:=by omega
   have c2:C<=1:=by omega
   rw[hC];obtain⟨Y,hY⟩:∃ Y:Int,(y:Int)=Y:=⟨_,rfl⟩;have HY:=Hd hY;have y1:0<=Y:=by omega
   have y2:Y<1000000000:=by omega
   rw[hY] at hcb
   by_cases M:1000000000<=x+c+y
   ·skip
    have K:=Hl (1000000000 ^ i) _ _ _ c x y (x+c+y - 1000000000) 1 d (by omega);have V:Hid (val (((L.set (off+i) (x+c+y - 1000000000)).drop off).take (i+1))+1000000000 ^ (i+1)*1=val ((A.drop off).take (i+1))+val (b.take (i+1))):=by
     unfold Hid
     rw[Ih L off i _ (by omega),Gd,Ok,O,hy,J5];exact K
    have d3:=hR.frozen (off+i);have Z:Hid (∀ v:Int,v=(((x+c+y - 1000000000):Nat):Int)->O6 (wr.setCell ⟨R,off+i,none⟩ (.int .u32 v)) R (L.set (off+i) (x+c+y - 1000000000))):=fun v hv=>by
     rw[hv];exact hR.set (off+i) _ (by omega)
    have b4:Hid (∀ u,Only R w (wr.setCell ⟨R,off+i,none⟩ u)):=fun u=>hB.setCell _ u;have b5:Hid (okL (L.set (off+i) (x+c+y - 1000000000))):=U4 L h (off+i) _ (by omega);have J:Hid ((L.set (off+i) (x+c+y - 1000000000)).drop (off+(i+1))=A.drop (off+(i+1))/\(L.set (off+i) (x+c+y - 1000000000)).take off=A.take off):=⟨Kx L A (off+i) _ E,Qp L A off i _ G⟩;have t1:1000000000<=X+C+Y:=by have:=HX.o;have:=HC.o;have:=HY.o;omega
    have I:Hid _:=M;clear K d O hy hR hB h E G hX b3 M hC hY b6
    go_wp2
    go_roundw
    case rel=>exact⟨i+1,1,L.set (off+i) (x+c+y - 1000000000),by omega,by omega,by simp[a8],b5.o,Z.o _ (by have:=I.o;have:=HX.o;have:=HC.o;have:=HY.o;omega),J.o.1,J.o.2,rfl,by go_num,V.o,b4.o _⟩
    case measure=>simp[intOf];omega
   ·skip
    have K:=Hl (1000000000 ^ i) _ _ _ c x y (x+c+y) 0 d (by omega);have V:Hid (val (((L.set (off+i) (x+c+y)).drop off).take (i+1))+1000000000 ^ (i+1)*0=val ((A.drop off).take (i+1))+val (b.take (i+1))):=by
     unfold Hid
     rw[Ih L off i _ (by omega),Gd,Ok,O,hy,J5];exact K
    have d3:=hR.frozen (off+i);have Z:Hid (∀ v:Int,v=(((x+c+y):Nat):Int)->O6 (wr.setCell ⟨R,off+i,none⟩ (.int .u32 v)) R (L.set (off+i) (x+c+y))):=fun v hv=>by
     rw[hv];exact hR.set (off+i) _ (by omega)
    have b4:Hid (∀ u,Only R w (wr.setCell ⟨R,off+i,none⟩ u)):=fun u=>hB.setCell _ u;have b5:Hid (okL (L.set (off+i) (x+c+y))):=U4 L h (off+i) _ (by omega);have J:Hid ((L.set (off+i) (x+c+y)).drop (off+(i+1))=A.drop (off+(i+1))/\(L.set (off+i) (x+c+y)).take off=A.take off):=⟨Kx L A (off+i) _ E,Qp L A off i _ G⟩;have t1:X+C+Y<1000000000:=by have:=HX.o;have:=HC.o;have:=HY.o;omega
    have I:Hid _:=M;clear K d O hy hR hB h E G hX b3 M hC hY b6
    go_wp2
    go_roundw
    case rel=>exact⟨i+1,0,L.set (off+i) (x+c+y),by omega,by omega,by simp[a8],b5.o,Z.o _ (by have:=I.o;have:=HX.o;have:=HC.o;have:=HY.o;omega),J.o.1,J.o.2,rfl,by go_num,V.o,b4.o _⟩
    case measure=>simp[intOf];omega
  ·obtain rfl:i=b.length:=by omega
   rw[Jn (Nat.le_refl b.length)] at d;have HE:Hid (O6 wr R L/\L.length=A.length/\okL L/\L.drop (off+b.length)=A.drop (off+b.length)/\L.take off=A.take off/\val ((L.drop off).take b.length)+1000000000 ^ b.length*c=val ((A.drop off).take b.length)+val b/\Only R w wr):=⟨hR,a8,h,E,G,d,hB⟩;clear d hR hB h E G
   go_wp2
   go_ret
   obtain⟨e1,e2,e3,e4,e5,e6,e7⟩:=HE.o;exact⟨c,L,rfl,e1,e2,e3,e4,e5,hc,e6,e7⟩
theorem EC (P VL VN c m x Va d c' F:Nat)(h:VL+P*c=Va*m)(hs:VN+P*0=VL+P*d)(hF:x*m=F)(hd:d+1000000000*c'=F+c):VN+P*1000000000*c'=(Va+P*x)*m:=by
 have j:P*(d+1000000000*c')=P*(F+c):=by rw[hd]
 have A:(Va+P*x)*m=Va*m+P*(x*m):=by grind
 rw[A,<-h,hF];rw[Yf,Yf,<-Yt] at j;omega
theorem Xz (B:Nat)(va:Value)(a:List Nat)(m:Nat)(w:World)(ha:U1 B w va a)(hla:a.length<=100000)(hm:m<1000000000) :
 Calls prog 165 #[va,.int .u64 (m:Nat)] w fun e w'=>∃ v L,e=.returned v/\U1 w.heap.size w' v L/\isTrim L/\val L=val a*m/\L.length<=a.length+1/\Up w w':=by
 obtain⟨i0,b6,e1,e2,d7⟩:=info_parts info_u32;obtain⟨pa,ca,rfl,_⟩:=id ha;obtain⟨_,_,_,d3,M⟩:=ha.cells;have HA:=Hd M;clear M ha
 go_enter func165,ntmps165
 go_wp2_with (at_make;refine wpList_make_full _ rfl _ _ 121 rfl w.heap.size 154 i0 (.int .u32 0) 1 underlying121 b6 e1 e2 .i64 .i64 _ _ (a.length+1) rfl rfl (by first|rfl|omega) (by first|rfl|omega) (by first|omega|(rw[d7];omega)) (by unfold maxLen;omega) Of ?_)
 intro w1 A d4
 first|rw[K8] at A|rw[Ka] at A
 have O:O6 w1 w.heap.size (List.replicate (a.length+1) 0):=(Kp A).tail;have b4:Up w w1:=(Jh _ _).grown d4 Of (fun k h=>by cases h);clear A d4
 go_wp2
 go_loopw [6,16] (fun cv iv wr=>∃ (i c:Nat) (L:List Nat),i<=a.length/\c<=m/\L.length=a.length+1/\okL L/\O6 wr w.heap.size L/\(∀ j,i<=j->L.getD j 0=0)/\cv=.int .u64 (c:Nat)/\iv=.int .i64 i /\
  val L+1000000000 ^ i*c=val (a.take i)*m/\Up w wr) (fun _ iv _=>a.length - (intOf iv).toNat)
 case atStart=>exact⟨0,0,_,by omega,by omega,by simp,fun x hx=>by rw[Yr hx];omega,O,fun j hj=>by simp[List.getD_eq_getElem?_getD,List.getElem?_replicate];split<;>rfl,rfl,rfl,by simp[G4,val],b4⟩
 case round=>
  clear O b4;obtain⟨i,c,L,hi,e0,b8,E,O,V,rfl,rfl,I,hB⟩:=hrel
  by_cases b5:i<a.length
  ·obtain⟨ba,oa,rfl,d2,M⟩:=HA.o i b5;rw[<-hB.cell (p:=⟨ba,oa+i,none⟩) d2] at M;have c8:=O9 a d3 i b5;have a7:=Ok a i;obtain⟨x,hx⟩:=O1 (a.getD i 0);rw[hx] at M c8 a7;obtain⟨F,hF⟩:=O1 (x*m);have e9:F<=999999999*m:=by rw[<-hF];exact Yh m (by omega)
   have K:=Cz L i ((F+c) % 1000000000) (by omega);rw[V i Of] at K;have d8:Hid (val (L.set i ((F+c) % 1000000000))+1000000000 ^ (i+1)*((F+c) / 1000000000)=val (a.take (i+1))*m):=by
    unfold Hid
    rw[a7,J5];exact EC _ _ _ c m x _ _ _ F I K hF (by omega)
   have d:=O.cell i (by omega);have c6:=O.frozen i;have J:Hid (∀ v:Int,v=(((F+c) % 1000000000:Nat):Int)->O6 (wr.setCell ⟨w.heap.size,i,none⟩ (.int .u32 v)) w.heap.size (L.set i ((F+c) % 1000000000))):=fun v hv=>by
    rw[hv];exact O.set i _ (by omega)
   have U:Hid (∀ u,Up w (wr.setCell ⟨w.heap.size,i,none⟩ u)):=fun u=>hB.setCell Of u;have d1:Hid (okL (L.set i ((F+c) % 1000000000))/\(L.set i ((F+c) % 1000000000)).length=a.length+1):=⟨U4 L E i _ (Zx _ (by decide)),by simp[b8]⟩;have HZ:Hid (∀ j,i+1<=j->(L.set i ((F+c) % 1000000000)).getD j 0=0):=fun j hj=>by
    rw[D3 _ _ _ _ (by omega)];exact V j (by omega)
   have e7:Hid ((F+c) / 1000000000<=m):=by unfold Hid;omega
   clear I hx O hB E V K a7;obtain⟨X,hX⟩:∃ X:Int,(x:Int)=X:=⟨_,rfl⟩;have x1:0<=X:=by omega
   have x2:X<1000000000:=by omega
   rw[hX] at M;obtain⟨C,hC⟩:∃ C:Int,(c:Int)=C:=⟨_,rfl⟩;have HC:=Hd hC;have c1:0<=C:=by omega
   have c2:C<1000000000:=by omega
   rw[hC];obtain⟨G,hG⟩:∃ G:Int,(m:Int)=G:=⟨_,rfl⟩;rw[hG];have Z:(F:Int)=X*G:=by rw[<-hF,<-hG,<-hX];rfl
   have d0:=Hd Z;have g1:0<=X*G:=by rw[<-Z];omega
   have g2:X*G<=999999999000000000:=by rw[<-Z];omega
   clear hX c8 hC hG Z hF e9 e0
   go_wp2
   go_roundw
   case rel=>exact⟨i+1,(F+c) / 1000000000,L.set i ((F+c) % 1000000000),by omega,e7.o,d1.o.2,d1.o.1,J.o _ (by have:=HC.o;have:=d0.o;omega),HZ.o,(by congr 1;have:=HC.o;have:=d0.o;omega),by go_num,d8.o,U.o _⟩
   case measure=>simp[intOf];omega
  ·obtain rfl:i=a.length:=by omega
   rw[Jn Of] at I;have K:=Cz L a.length c (by omega);rw[V _ Of] at K;have d:=O.cell a.length (by omega);have c6:=O.frozen a.length;obtain⟨N,hN⟩:=O1 (L.set a.length c);have Y:Hid (val N=val a*m/\okL N/\N.length=a.length+1):=by
    rw[<-hN];exact⟨by omega,U4 L E _ _ (by omega),by simp[b8]⟩
   have J:Hid (O6 (wr.setCell ⟨w.heap.size,a.length,none⟩ (.int .u32 (c:Nat))) w.heap.size N):=by rw[<-hN];exact O.set _ _ (by omega)
   have U:Hid (Up w (wr.setCell ⟨w.heap.size,a.length,none⟩ (.int .u32 (c:Nat)))):=hB.setCell Of _;have g5:c<1000000000:=by omega
   clear I K O hB E V hN;obtain⟨W3,a8⟩:=O1 (wr.setCell ⟨w.heap.size,a.length,none⟩ (.int .u32 (c:Nat)));have e4:=Hd a8;rw[a8] at J U;clear a8
   go_wp2
   rw[e4.o];clear d c6;have HI:Hid (∀ k,k<=a.length+1->Oe N=N.take k->U1 w.heap.size W3 (.slice (some ⟨w.heap.size,0,none⟩) k (a.length+1)) (Oe N)):=fun k hk he=>by
    have hl:(Oe N).length=k:=by rw[he,J3];have:=Y.o.2.2;omega
    refine⟨_,a.length+1,by rw[hl],by omega,by unfold maxLen;omega,trimL_ok N Y.o.2.1,.inr ⟨w.heap.size,0,rfl,Of,J.o.lt,fun i hi=>?_⟩⟩;rw[Y3,J.o.cell i (by have:=Y.o.2.2;omega),Xy N i hi]
   have HT:Hid (isTrim (Oe N)/\val (Oe N)=val a*m/\(Oe N).length<=a.length+1):=⟨trimL_trim _,by rw[O3];exact Y.o.1,by have:=Ku N;have:=Y.o.2.2;omega⟩
   go_loop [9] (fun n=>∃ k:Nat,k<=a.length+1/\n=.int .i64 k/\Oe (N.take k)=Oe N) (fun n=>(intOf n).toNat)
   case atStart=>exact⟨a.length+1,Of,Ob (by omega),by rw[Jn (by have:=Y.o.2.2;omega)]⟩
   case round=>
    obtain⟨k,hk,rfl,hp⟩:=hrel;have HP:=Hd hp;clear hp
    cases k with
    | zero=>
      have HE:Hid (U1 w.heap.size W3 (.slice (some ⟨w.heap.size,0,none⟩) 0 (a.length+1)) (Oe N)):=HI.o 0 (by omega) (by rw[<-HP.o];rfl)
      go_wp2
      go_ret
      exact⟨_,rfl,_,HE.o,HT.o.1,HT.o.2.1,HT.o.2.2,U.o⟩
    | succ j=>
      have d:=J.o.cell j (by have:=Y.o.2.2;omega);obtain⟨x,hx⟩:=O1 (N.getD j 0);rw[hx] at d;have HX:=Hd hx;clear hx
      by_cases h0:x=0
      ·have hz:((x:Int)==0)=true:=by rw[Yc];omega
       have HE:Hid (Oe (N.take j)=Oe N):=by rw[<-Eh N j (by have:=Y.o.2.2;omega) (by rw[HX.o,h0])];exact HP.o
       clear h0
       go_wp2
       go_round
       case rel=>exact⟨j,by omega,Ob (by omega),HE.o⟩
       case measure=>simp[intOf]
      ·have hz:((x:Int)==0)=false:=by rw[Jc];omega
       have HE:Hid (U1 w.heap.size W3 (.slice (some ⟨w.heap.size,0,none⟩) (j+1) (a.length+1)) (Oe N)):=HI.o (j+1) hk (HP.o.symm.trans (Eb N j (by have:=Y.o.2.2;omega) (by rw[HX.o];exact h0)));clear h0
       go_wp2
       go_ret
       exact⟨_,rfl,_,HE.o,HT.o.1,HT.o.2.1,HT.o.2.2,U.o⟩
theorem Cq (B:Nat)(va vb:Value)(a b:List Nat)(w:World)(ha:U1 B w va a)(hb:U1 B w vb b)(hla:a.length<=1000000)(hlb:b.length<=a.length)(hle:val b<=val a) :
 Calls prog 166 #[va,vb] w fun e w'=>∃ L,e=.returned (.slice (some ⟨w.heap.size,0,none⟩) a.length a.length)/\U1 w.heap.size w' (.slice (some ⟨w.heap.size,0,none⟩) a.length a.length) L/\val L+val b=val a/\L.length=a.length/\Up w w':=by
 obtain⟨i0,b4,d3,d4,d2⟩:=info_parts info_u32;obtain⟨pa,ca,rfl,_⟩:=id ha;obtain⟨pb,cb,rfl,_⟩:=id hb;obtain⟨_,_,_,c6,Z⟩:=ha.cells;obtain⟨_,_,_,b5,Y⟩:=hb.cells;have HA:=Hd Z;have HB:=Hd Y;have d6:=Hd hle;clear Z Y ha hb hle
 go_enter func166,ntmps166
 go_wp2_with (at_make;refine wpList_make_full _ rfl _ _ 121 rfl w.heap.size 154 i0 (.int .u32 0) 1 underlying121 b4 d3 d4 .i64 .i64 _ _ a.length rfl rfl ?m0 ?m1 ?m2 ?m3 ?m4 ?_)
 try (case m0=>first|rfl|omega)
 try (case m1=>first|rfl|omega)
 try (case m2=>(first|omega|(rw[d2];omega)))
 try (case m3=>(unfold maxLen;omega))
 try (case m4=>exact Of)
 intro w1 O d1
 first|rw[K8] at O|rw[Ka] at O
 have E:Gw w1 w.heap.size (List.replicate a.length 0):=Kp O;have b3:Up w w1:=(Jh _ _).grown d1 Of (fun k h=>by cases h);clear O d1
 go_wp2
 go_loopw [6,14] (fun cv iv wr=>∃ (i c:Nat) (L:List Nat),i<=a.length/\c<=1/\L.length=a.length/\okL L/\Gw wr w.heap.size L/\cv=.int .i64 (c:Nat)/\iv=.int .i64 i /\
  val (L.take i)+val (b.take i)=val (a.take i)+1000000000 ^ i*c/\Up w wr) (fun _ iv _=>a.length - (intOf iv).toNat)
 case atStart=>exact⟨0,0,_,by omega,by omega,by simp,fun x hx=>by rw[Yr hx];omega,E,rfl,rfl,by simp[val],b3⟩
 case round=>
  clear E b3;obtain⟨i,c,L,hi,hc,U,d,E,rfl,rfl,j,V⟩:=hrel
  by_cases b6:i<a.length
  ·obtain⟨ba,oa,rfl,c8,Z⟩:=HA.o i b6;rw[<-V.cell (p:=⟨ba,oa+i,none⟩) c8] at Z;have d7:=O9 a c6 i b6;obtain⟨x,hx⟩:=O1 (a.getD i 0);rw[hx] at Z d7
   by_cases b9:i<b.length
   ·obtain⟨bb,ob,rfl,b8,Y⟩:=HB.o i b9;rw[<-V.cell (p:=⟨bb,ob+i,none⟩) b8] at Y;have d9:=O9 b b5 i b9;obtain⟨y,hy⟩:=O1 (b.getD i 0);rw[hy] at Y d9
    by_cases b7:x<c+y
    ·have A:=Hy (1000000000 ^ i) _ _ _ c x y (x+1000000000 - c - y) 1 j (by omega);have J:Hid (val ((L.set i (x+1000000000 - c - y)).take (i+1))+val (b.take (i+1))=val (a.take (i+1))+1000000000 ^ (i+1)*1):=by
      unfold Hid
      rw[O2 L i _ (by omega),Ok,Ok,hx,hy,J5];exact A
     have G:=E.cell i (by omega);have a8:=E.frozen i;have I:Hid (Gw (wr.setCell ⟨w.heap.size,i,none⟩ (.int .u32 (((x+1000000000 - c - y):Nat):Int))) w.heap.size (L.set i (x+1000000000 - c - y))):=E.set i _;have K:Hid (∀ u,Up w (wr.setCell ⟨w.heap.size,i,none⟩ u)):=fun u=>V.setCell Of u;have M:Hid (okL (L.set i (x+1000000000 - c - y))):=U4 L d i _ (by omega);clear A j hx hy E V d
     go_wp2
     go_roundw
     case rel=>
      refine⟨i+1,1,L.set i (x+1000000000 - c - y),by omega,by omega,by simp[U],M.o,?_,rfl,by go_num,J.o,K.o _⟩;have h:=I.o;rw[show ((((x+1000000000 - c - y)):Nat):Int)=_ from ?_] at h
      ·exact h
      ·omega
     case measure=>simp[intOf];omega
    ·have A:=Hy (1000000000 ^ i) _ _ _ c x y (x - c - y) 0 j (by omega);have J:Hid (val ((L.set i (x - c - y)).take (i+1))+val (b.take (i+1))=val (a.take (i+1))+1000000000 ^ (i+1)*0):=by
      unfold Hid
      rw[O2 L i _ (by omega),Ok,Ok,hx,hy,J5];exact A
     have G:=E.cell i (by omega);have a8:=E.frozen i;have I:Hid (Gw (wr.setCell ⟨w.heap.size,i,none⟩ (.int .u32 (((x - c - y):Nat):Int))) w.heap.size (L.set i (x - c - y))):=E.set i _;have K:Hid (∀ u,Up w (wr.setCell ⟨w.heap.size,i,none⟩ u)):=fun u=>V.setCell Of u;have M:Hid (okL (L.set i (x - c - y))):=U4 L d i _ (by omega);clear A j hx hy E V d
     go_wp2
     go_roundw
     case rel=>
      refine⟨i+1,0,L.set i (x - c - y),by omega,by omega,by simp[U],M.o,?_,rfl,by go_num,J.o,K.o _⟩;have h:=I.o;rw[show ((((x - c - y)):Nat):Int)=_ from ?_] at h
      ·exact h
      ·omega
     case measure=>simp[intOf];omega
   ·have a7:b.getD i 0=0:=by rw[Jk,Yj (by omega)];rfl
    by_cases b7:x<c
    ·have A:=Hy (1000000000 ^ i) _ _ _ c x 0 (x+1000000000 - c) 1 j (by omega);have J:Hid (val ((L.set i (x+1000000000 - c)).take (i+1))+val (b.take (i+1))=val (a.take (i+1))+1000000000 ^ (i+1)*1):=by
      unfold Hid
      rw[O2 L i _ (by omega),Ok,Ok,hx,a7,J5];exact A
     have G:=E.cell i (by omega);have a8:=E.frozen i;have I:Hid (Gw (wr.setCell ⟨w.heap.size,i,none⟩ (.int .u32 (((x+1000000000 - c):Nat):Int))) w.heap.size (L.set i (x+1000000000 - c))):=E.set i _;have K:Hid (∀ u,Up w (wr.setCell ⟨w.heap.size,i,none⟩ u)):=fun u=>V.setCell Of u;have M:Hid (okL (L.set i (x+1000000000 - c))):=U4 L d i _ (by omega);clear A j hx a7 E V d
     go_wp2
     go_roundw
     case rel=>
      refine⟨i+1,1,L.set i (x+1000000000 - c),by omega,by omega,by simp[U],M.o,?_,rfl,by go_num,J.o,K.o _⟩;have h:=I.o;rw[show ((((x+1000000000 - c)):Nat):Int)=_ from ?_] at h
      ·exact h
      ·omega
     case measure=>simp[intOf];omega
    ·have A:=Hy (1000000000 ^ i) _ _ _ c x 0 (x - c) 0 j (by omega);have J:Hid (val ((L.set i (x - c)).take (i+1))+val (b.take (i+1))=val (a.take (i+1))+1000000000 ^ (i+1)*0):=by
      unfold Hid
      rw[O2 L i _ (by omega),Ok,Ok,hx,a7,J5];exact A
     have G:=E.cell i (by omega);have a8:=E.frozen i;have I:Hid (Gw (wr.setCell ⟨w.heap.size,i,none⟩ (.int .u32 (((x - c):Nat):Int))) w.heap.size (L.set i (x - c))):=E.set i _;have K:Hid (∀ u,Up w (wr.setCell ⟨w.heap.size,i,none⟩ u)):=fun u=>V.setCell Of u;have M:Hid (okL (L.set i (x - c))):=U4 L d i _ (by omega);clear A j hx a7 E V d
     go_wp2
     go_roundw
     case rel=>
      refine⟨i+1,0,L.set i (x - c),by omega,by omega,by simp[U],M.o,?_,rfl,by go_num,J.o,K.o _⟩;have h:=I.o;rw[show ((((x - c)):Nat):Int)=_ from ?_] at h
      ·exact h
      ·omega
     case measure=>simp[intOf];omega
  ·obtain rfl:i=a.length:=by omega
   have hE:=Bh (1000000000 ^ a.length) c _ _ _ j (by rw[Jn (by omega)];exact N1 L d _ (by omega)) (by rw[Jn (by omega),Jn (by omega)];exact d6.o);rw[Jn (by omega),Jn (by omega),Jn (by omega)] at hE;have HE:=Hd hE;have HL:Hid (U1 w.heap.size wr (.slice (some ⟨w.heap.size,0,none⟩) a.length a.length) L):=by
    have:=E.isL (B:=w.heap.size) (cap:=a.length) Of d (by omega) (by unfold maxLen;omega);rw[U] at this;exact this
   have d5:=Hd V;clear hE j E V d
   go_wp2
   go_ret
   exact⟨L,rfl,HL.o,HE.o,U,d5.o⟩
theorem Pj (l:List Nat)(k x:Nat)(hk:k<l.length):Ek (l.set k x) k=Ek l (k+1)*1000000000+x:=by
 rw[H8 _ _ (by simpa using hk)];have d:Ek (l.set k x) (k+1)=Ek l (k+1):=by
  unfold Ek;rw[List.drop_set_of_lt (by omega)]
 have h:(l.set k x).getD k 0=x:=by rw[Jk,Y4 (by omega)];rfl
 rw[d,h]
theorem XS (Va Vq d r x Z:Nat)(h:Va=Vq*d+r)(hZ:r*1000000000+x=Z):Va*1000000000+x=(Vq*1000000000+Z / d)*d+Z % d:=by
 have j:=Uc Z d;rw[Zl,h,Zl,Nat.mul_right_comm,Yy (Z / d) d];omega
theorem CC (d r x Z:Nat)(hd:0<d)(hr:r<d)(hx:x<1000000000)(hZ:r*1000000000+x=Z):Z / d<1000000000:=by
 rw[Nat.div_lt_iff_lt_mul hd];have:(r+1)*1000000000<=d*1000000000:=Yh _ hr;omega
theorem Qs (B:Nat)(va:Value)(a:List Nat)(d:Nat)(w:World)(ha:U1 B w va a)(hla:a.length<=100000)(hd:0<d)(hd2:d<=1000000000) :
 Calls prog 230 #[va,.int .u32 (d:Nat)] w fun e w'=>∃ v q r,e=.returned (.tuple #[v,.int .u32 (r:Nat)])/\U1 w.heap.size w' v q/\isTrim q/\q.length<=a.length/\val a=val q*d+r/\r<d/\Up w w':=by
 obtain⟨i0,a8,d6,d7,d2⟩:=info_parts info_u32;obtain⟨pa,ca,rfl,_⟩:=id ha;obtain⟨_,_,_,b6,J⟩:=ha.cells;have HA:=Hd J;clear J ha
 go_enter func230,ntmps230
 go_wp2_with (at_make;refine wpList_make_full _ rfl _ _ 121 rfl w.heap.size 154 i0 (.int .u32 0) 1 underlying121 a8 d6 d7 .i64 .i64 _ _ a.length rfl rfl ?m0 ?m1 ?m2 ?m3 ?m4 ?_)
 try (case m0=>first|rfl|omega)
 try (case m1=>first|rfl|omega)
 try (case m2=>(first|omega|(rw[d2];omega)))
 try (case m3=>(unfold maxLen;omega))
 try (case m4=>exact Of)
 intro w1 E b8
 first|rw[K8] at E|rw[Ka] at E
 have K:O6 w1 w.heap.size (List.replicate a.length 0):=(Kp E).tail;have a7:Up w w1:=(Jh _ _).grown b8 Of (fun k h=>by cases h);clear E b8
 go_wp2
 go_loopw [7,8] (fun rv iv wr=>∃ (j r:Nat) (L:List Nat),j<=a.length/\r<d/\L.length=a.length/\okL L/\O6 wr w.heap.size L/\rv=.int .u64 (r:Nat)/\iv=.int .i64 ((j:Int) - 1) /\
  Ek a j=Ek L j*d+r/\Up w wr) (fun _ iv _=>(intOf iv+1).toNat)
 case atStart=>exact⟨a.length,0,_,by omega,by omega,by simp,fun x hx=>by rw[Yr hx];omega,K,rfl,Ob (by omega),by rw[De];unfold Ek;simp[val],a7⟩
 case round=>
  clear K a7;obtain⟨j,r,L,hj,hr,d8,I,K,rfl,rfl,A,hB⟩:=hrel
  cases j with
  | zero=>
    unfold Ek at A;rw[Y5,Y5] at A;have HI:Hid (U1 w.heap.size wr (.slice (some ⟨w.heap.size,0,none⟩) a.length a.length) L):=by
     have h:=K.isL (B:=w.heap.size) (cap:=a.length) Of I (by omega) (by unfold maxLen;omega);rw[d8] at h;exact h
    have HT:Hid (val a=val (Oe L)*d+r/\(Oe L).length<=a.length/\isTrim (Oe L)):=⟨by rw[O3];exact A,by have:=Ku L;omega,trimL_trim _⟩;have d9:=Hd hB;clear A K hB I
    go_wp2_with fail
    refine (E0 w.heap.size _ L _ HI.o).mono ?_;rintro e w5 ⟨v,rfl,hcut,rfl⟩;have HW:Hid (U1 w.heap.size w5 v (Oe L)):=hcut _ _ HI.o;obtain⟨pv,cv,hv,_⟩:=HW.o;subst hv;clear hcut
    go_wp2
    go_ret2
    exact⟨_,_,r,rfl,HW.o,HT.o.2.2,HT.o.2.1,HT.o.1,hr,d9.o⟩
  | succ k=>
    obtain⟨ba,oa,rfl,b5,J⟩:=HA.o k (by omega);rw[<-hB.cell (p:=⟨ba,oa+k,none⟩) b5] at J;have V:=O9 a b6 k (by omega);have U:=H8 a k (by omega);obtain⟨x,hx⟩:=O1 (a.getD k 0);rw[hx] at J V U;obtain⟨Z,hZ⟩:=O1 (r*1000000000+x);have O:=CC d r x Z hd hr V hZ;have b7:=Zx Z hd;have d4:Hid (Ek a k=Ek (L.set k (Z / d)) k*d+Z % d):=by
     unfold Hid
     rw[U,Pj L k _ (by omega)];exact XS _ _ d r x Z A hZ
    have d1:=K.cell k (by omega);have g0:=K.frozen k;have e6:Hid (∀ v:Int,v=((Z / d:Nat):Int)->O6 (wr.setCell ⟨w.heap.size,k,none⟩ (.int .u32 v)) w.heap.size (L.set k (Z / d))):=fun v hv=>by
     rw[hv];exact K.set _ _ (by omega)
    have e5:Hid (∀ v,Up w (wr.setCell ⟨w.heap.size,k,none⟩ v)):=fun v=>hB.setCell Of _;have M:Hid (okL (L.set k (Z / d))/\(L.set k (Z / d)).length=a.length):=⟨U4 L I _ _ O,by simp;omega⟩;obtain⟨X,hX⟩:∃ X:Int,(x:Int)=X:=⟨_,rfl⟩;rw[hX] at J;obtain⟨G,hG⟩:∃ G:Int,(d:Int)=G:=⟨_,rfl⟩;obtain⟨Y,hY⟩:∃ Y:Int,(r:Int)=Y:=⟨_,rfl⟩;have e1:(Y*1000000000+X) / G=((Z / d:Nat):Int):=by rw[<-hZ,<-hX,<-hG,<-hY];rfl
    have e2:(Y*1000000000+X) % G=((Z % d:Nat):Int):=by rw[<-hZ,<-hX,<-hG,<-hY];rfl
    have x1:0<=X:=by omega
    have x2:X<1000000000:=by omega
    have y1:0<=Y:=by omega
    have y2:Y<1000000000:=by omega
    have g1:0<G:=by omega
    have g2:G<=1000000000:=by omega
    have k1:0<=(Y*1000000000+X) / G:=by rw[e1];exact Uu _
    have k2:(Y*1000000000+X) / G<1000000000:=by rw[e1];exact Int.ofNat_lt.2 O
    have d3:Hid ((Y*1000000000+X) / G=((Z / d:Nat):Int)):=e1;have e4:Hid ((Y*1000000000+X) % G=((Z % d:Nat):Int)):=e2;have e3:=Hd b7;rw[hG,hY];clear K I A hB U e1 e2 hx hX hG hY hZ V hr O b7
    go_wp2
    go_roundw
    case rel=>exact⟨k,Z % d,L.set k (Z / d),by omega,e3.o,M.o.2,M.o.1,e6.o _ d3.o,Ob e4.o,by go_num,d4.o,e5.o _⟩
    case measure=>simp[intOf]
def R4 (x2 x1 x0 d1 d0 g:Nat):Prop:=
 g*(d1*1000000000+d0)<=(x2*1000000000+x1)*1000000000+x0/\(x2*1000000000+x1)*1000000000+x0<(g+1)*(d1*1000000000+d0)
def Xq (x2 x1 x0 d1 d0 g l:Nat):Prop:=
 g*d1+l=x2*1000000000+x1/\l<=2000000001/\g<=1000000001/\(x2*1000000000+x1)*1000000000+x0<(g+1)*(d1*1000000000+d0)
theorem S8 (x2 x1 x0 d1 d0:Nat)(h1:500000000<=d1)(h2:d1<1000000000)(hx2:x2<=d1)(hx1:x1<1000000000)(hx0:x0<1000000000) :
 Xq x2 x1 x0 d1 d0 ((x2*1000000000+x1) / d1) ((x2*1000000000+x1) % d1):=by
 have e:=Uc (x2*1000000000+x1) d1;have l:=Zx (x2*1000000000+x1) (show d1 > 0 by omega);have g:(x2*1000000000+x1) / d1<=1000000001:=by
  apply Nat.le_of_lt_succ;rw[Nat.div_lt_iff_lt_mul (by omega)];omega
 obtain⟨q,d⟩:=O1 ((x2*1000000000+x1) / d1);obtain⟨r,h⟩:=O1 ((x2*1000000000+x1) % d1);rw[d,h];rw[d,h] at e;rw[h] at l;rw[d] at g;clear d h;refine⟨by rw[Yy];exact e,by omega,g,?_⟩;rw[Yf,<-Yt,Zl q 1 d1,Zp,Yy q d1];have:0<=(q+1)*d0:=Jy _;omega
theorem LO (T v l x0 u:Nat)(e:v+l=T)(hc:l*1000000000+x0<u):T*1000000000+x0<v*1000000000+u:=by
 subst e;rw[Zl,Uo];exact Nat.add_lt_add_left hc _
theorem A9 {x2 x1 x0 d1 d0 g l:Nat}(h:Xq x2 x1 x0 d1 d0 g l)(h2:d1<1000000000)(hd0:d0<1000000000)(hc:l*1000000000+x0<g*d0) :
 1<=g/\Xq x2 x1 x0 d1 d0 (g - 1) (l+d1):=by
 obtain⟨e,hl,j,hb⟩:=h;have A:1<=g:=by
  apply Yp;rintro rfl;rw[Vs] at hc;omega
 obtain⟨k,rfl⟩:∃ k,g=k+1:=⟨g - 1,by omega⟩;have p:(k+1)*d0<=1000000001*999999999:=V7 j (by omega);rw[Z7];rw[Zl,Zp] at e;have d:l<1000000000:=by
  have:(1000000001*999999999:Nat)=1000000000*1000000000 - 1:=by decide
  omega
 refine⟨by omega,by omega,by omega,by omega,?_⟩;clear hb p d hl j A;rw[Yf,<-Yt,Zl k 1 d1,Zp];exact LO _ _ l _ _ e hc
theorem NJ {x2 x1 x0 d1 d0 g l:Nat}(h:Xq x2 x1 x0 d1 d0 g l)(hc:g*d0<=l*1000000000+x0):R4 x2 x1 x0 d1 d0 g:=by
 obtain⟨e,hl,d,hb⟩:=h;refine⟨?_,hb⟩;rw[Yf,<-Yt];omega
theorem Ls (R off cap D doff dcap n:Nat)(x2 x1 x0 d1 d0:Nat)(w:World)(hR:R<w.heap.size)(hn:2<=n)(hn2:n<=200000)
 (c2:w.cell? ⟨R,off+n,none⟩=some (.int .u32 (x2:Nat))) (c1:w.cell? ⟨R,off+(n - 1),none⟩=some (.int .u32 (x1:Nat))) (c0:w.cell? ⟨R,off+(n - 2),none⟩=some (.int .u32 (x0:Nat)))
 (e1:w.cell? ⟨D,doff+(n - 1),none⟩=some (.int .u32 (d1:Nat))) (e0:w.cell? ⟨D,doff+(n - 2),none⟩=some (.int .u32 (d0:Nat)))
 (h1:500000000<=d1) (h2:d1<1000000000) (h3:d0<1000000000) (hx2:x2<=d1) (hx1:x1<1000000000) (hx0:x0<1000000000) :
 Calls prog 252 #[.slice (some ⟨R,off,none⟩) (n+1) cap,.slice (some ⟨D,doff,none⟩) n dcap] w fun e w'=>∃ g:Nat,e=.returned (.int .u64 (g:Nat))/\R4 x2 x1 x0 d1 d0 g/\Up w w':=by
 have d6:Hid (Xq x2 x1 x0 d1 d0 ((x2*1000000000+x1) / d1) ((x2*1000000000+x1) % d1)):=S8 x2 x1 x0 d1 d0 h1 h2 hx2 hx1 hx0;obtain⟨k,rfl⟩:∃ k,n=k+2:=⟨n - 2,by omega⟩;rw[show k+2 - 1=k+1 by omega] at c1 e1;rw[show k+2 - 2=k by omega] at c0 e0;have a8:Hid (∀ W,Up w W->W.cell? ⟨R,off+k,none⟩=some (.int .u32 (x0:Nat))):=fun W hW=>(hW.cell (p:=⟨R,off+k,none⟩) hR).trans c0;obtain⟨Y,I⟩:∃ X:Int,(x2:Int)=X:=⟨_,rfl⟩;obtain⟨X1,J⟩:∃ X:Int,(x1:Int)=X:=⟨_,rfl⟩;obtain⟨M,E⟩:∃ X:Int,(d1:Int)=X:=⟨_,rfl⟩;obtain⟨K,U⟩:∃ X:Int,(d0:Int)=X:=⟨_,rfl⟩;obtain⟨X0,O⟩:∃ X:Int,(x0:Int)=X:=⟨_,rfl⟩;have q1:(Y*1000000000+X1) / M=(((x2*1000000000+x1) / d1:Nat):Int):=by rw[<-I,<-J,<-E];rfl
 have q2:(Y*1000000000+X1) % M=(((x2*1000000000+x1) % d1:Nat):Int):=by rw[<-I,<-J,<-E];rfl
 have d8:Hid ((Y*1000000000+X1) / M=(((x2*1000000000+x1) / d1:Nat):Int)):=q1;have d5:Hid ((Y*1000000000+X1) % M=(((x2*1000000000+x1) % d1:Nat):Int)):=q2;have HL:Hid ((d1:Int)=M/\(d0:Int)=K/\(x0:Int)=X0):=⟨E,U,O⟩;have HH:Hid (d1<1000000000/\d0<1000000000):=⟨h2,h3⟩;rw[I] at c2;rw[J] at c1;rw[O] at c0 a8;rw[E] at e1;rw[U] at e0;have b1:0<=Y:=by omega
 have b2:Y<1000000000:=by omega
 have b3:0<=X1:=by omega
 have b4:X1<1000000000:=by omega
 have b5:500000000<=M:=by omega
 have b6:M<1000000000:=by omega
 have b7:0<=K:=by omega
 have b8:K<1000000000:=by omega
 have b9:0<=X0:=by omega
 have e5:X0<1000000000:=by omega
 clear I J E U O q1 q2 h1 h2 h3 hx2 hx1 hx0
 go_enter func252,ntmps252
 go_wp2
 go_quiet (fail)
 go_wp2
 go_quiet (fail)
 go_wp2
 go_quiet (fail)
 go_wp2
 go_loopw [9,10] (fun gv lv wr=>∃ g l:Nat,gv=.int .u64 (g:Nat)/\lv=.int .u64 (l:Nat)/\Xq x2 x1 x0 d1 d0 g l/\Up w wr) (fun gv _ _=>(intOf gv).toNat)
 case atStart=>exact⟨_,_,Ob d8.o,Ob d5.o,d6.o,below_drewN (below_drewN (below_drewN (Jh _ _) _) _) _⟩
 case round=>
  obtain⟨g,l,rfl,rfl,V,hB⟩:=hrel;have e7:=a8.o _ hB;have HB:=Hd hB;have hg:=V.2.2.1;have hl:=V.2.1;have HG:=Hd V;have hp:g*d0<=1000000001*999999999:=V7 hg (by have:=HH.o;omega);obtain⟨P,Z⟩:=O1 (g*d0);rw[Z] at hp;obtain⟨G,d⟩:∃ G:Int,(g:Int)=G:=⟨_,rfl⟩;obtain⟨L,j⟩:∃ L:Int,(l:Int)=L:=⟨_,rfl⟩;have h:G*K=(P:Int):=by rw[<-Z,<-d,<-HL.o.2.1];rfl
  have m1:0<=G*K:=by rw[h];omega
  have m2:G*K<=1000000001000000000:=by rw[h];omega
  have m3:0<=L:=by omega
  have m4:L<=2000000001:=by omega
  have m5:0<=G:=by omega
  have m6:G<=1000000001:=by omega
  by_cases hc:l*1000000000+x0<g*d0
  ·have HN:Hid (1<=g/\Xq x2 x1 x0 d1 d0 (g - 1) (l+d1)):=A9 V HH.o.1 HH.o.2 hc;have t1:L*1000000000+X0<G*K:=by rw[h];rw[Z] at hc;have:=HL.o.2.2;omega
   have m7:1<=G:=by have:=HN.o.1;omega
   have A:Hid ((g:Int)=G/\(l:Int)=L):=⟨d,j⟩;rw[d,j];clear hB V hp Z h d j hg hl hc
   go_wp2
   go_roundw
   case rel=>exact⟨g - 1,l+d1,Ob (by have:=A.o;have:=HN.o.1;omega),Ob (by have:=A.o;have:=HL.o.1;omega),HN.o.2,HB.o⟩
   case measure=>simp[intOf];have:=A.o;have:=HN.o.1;omega
  ·have HE:Hid (R4 x2 x1 x0 d1 d0 g):=NJ V (by omega);have t1:G*K<=L*1000000000+X0:=by rw[h];rw[Z] at hc;have:=HL.o.2.2;omega
   have A:Hid ((g:Int)=G/\(l:Int)=L):=⟨d,j⟩;rw[d,j];clear hB V hp Z h d j hg hl hc
   go_wp2
   go_ret
   exact⟨g,K5 A.o.1.symm,HE.o,HB.o⟩
theorem FA (X3 D2 K xl dl g:Nat)(hxl:xl<K)(hdl:dl<K)(h1:g*D2<=X3)(h2:X3<(g+1)*D2)(hX3:X3<1000000000000000000000000000)(hD2:500000000000000000<=D2)
 (hX:X3*K+xl<(D2*K+dl)*1000000000) :
 g*(D2*K+dl)<=X3*K+xl+(D2*K+dl)/\X3*K+xl<(g+1)*(D2*K+dl)/\g<=1000000000:=by
 have a1:X3*K+xl<(g+1)*(D2*K+dl):=by
  have d:(X3+1)*K<=(g+1)*D2*K:=Yh K h2;have j:(g+1)*(D2*K+dl)=(g+1)*D2*K+(g+1)*dl:=by rw[Yf,Yt]
  rw[Zl,Zp] at d;omega
 have A:g<=D2:=by
  apply Z0;intro h;have d:500000000000000001*500000000000000000<=g*D2:=V7 (by omega) hD2;omega
 have a2:g*(D2*K+dl)<=X3*K+xl+(D2*K+dl):=by
  have d:g*D2*K<=X3*K:=Yh K h1;have j:g*(D2*K+dl)=g*D2*K+g*dl:=by rw[Yf,Yt]
  have E:g*dl<=D2*K:=V7 A (by omega);omega
 refine⟨a2,a1,?_⟩;apply Z0;intro h;have d:1000000001*(D2*K+dl)<=g*(D2*K+dl):=Yh _ h;omega
theorem Wt (P Wn x Dv g c W':Nat)(h:W'+g*Dv=Wn+P*c)(hc:c<=x)(hX:Wn+P*x<(g+1)*Dv)(hD:Dv<=P):c=x/\Wn+P*x=g*Dv+W'/\W'<Dv:=by
 rw[Zl,Zp] at hX;have d:c=x:=by
  apply Nat.le_antisymm hc;apply Z0;intro j;have e:P*(c+1)<=P*x:=J8 P j;rw[Yf,Zz] at e;omega
 subst d;exact⟨rfl,by omega,by omega⟩
theorem YH (P Wn x Dv g c W' W2 c2:Nat)(h:W'+g*Dv=Wn+P*c)(hc:x<c)(hX:g*Dv<=Wn+P*x+Dv)(hW:W'<P)(hD:Dv<=P)(h2:W2+P*c2=W'+Dv)(hW2:W2<P) :
 1<=g/\Wn+P*x=(g - 1)*Dv+W2/\W2<Dv:=by
 obtain⟨k,rfl⟩:∃ k,c=x+1+k:=⟨c - x - 1,by omega⟩;have E:P*(x+1+k)=P*x+P+P*k:=by rw[Yf,Yf,Zz]
 rw[E] at h;have A:1<=g:=by
  apply Yp;rintro rfl;rw[Vs] at h;omega
 obtain⟨q,rfl⟩:∃ q,g=q+1:=⟨g - 1,by omega⟩;rw[Zl,Zp] at h hX;rw[Z7];have G:k=0:=by
  apply Nat.eq_zero_of_not_pos;intro j;have:P*1<=P*k:=J8 P j;omega
 subst G;rw[Z8] at h;have d:c2=1:=by
  have u:c2<2:=by
   apply Un;intro j;have:P*2<=P*c2:=J8 P j;omega
  have l:c2≠0:=by
   rintro rfl;rw[Z8] at h2;omega
  omega
 subst d;rw[Zz] at h2;exact⟨A,by omega,by omega⟩
theorem LQ (V a b K:Nat):V+K*a+K*1000000000*b=(b*1000000000+a)*K+V:=by grind
theorem LE (V a b c K:Nat):(b*1000000000+a)*K+V+K*1000000000*1000000000*c=((c*1000000000+b)*1000000000+a)*K+V:=by grind
theorem Tx (l:List Nat)(k:Nat):val (l.take (k+2))=(l.getD (k+1) 0*1000000000+l.getD k 0)*1000000000 ^ k+val (l.take k):=by
 rw[Ok l (k+1),Ok l k,J5];exact LQ _ _ _ _
theorem IH (l:List Nat)(k:Nat):val (l.take (k+3))=((l.getD (k+2) 0*1000000000+l.getD (k+1) 0)*1000000000+l.getD k 0)*1000000000 ^ k+val (l.take k):=by
 rw[Ok l (k+2),Tx,J5,J5];exact LE _ _ _ _ _
theorem M9 (l:List Nat)(h:okL l)(n:Nat):okL (l.take n):=fun x hx=>h x (Yw hx)
theorem X6 (l:List Nat)(h:okL l)(n:Nat):okL (l.drop n):=fun x hx=>h x (Zy hx)
theorem Nq (l:List Nat)(h:okL l)(n:Nat):val (l.take n)<1000000000 ^ n:=N1 _ (M9 l h n) n (by rw[J3];omega)
theorem UU (T x N:Nat)(hT:T<N)(hx:x<1000000000):T*1000000000+x<N*1000000000:=by
 have h:(T+1)*1000000000<=N*1000000000:=Yh _ hT;rw[Zl,Zp] at h;exact Jz (Nat.add_lt_add_left hx _) h
theorem DS (x2 d1 W T P:Nat)(h:W+P*1000000000*x2<T*1000000000)(hT:T<P*(d1+1)):x2<=d1:=by
 apply Z0;intro d;have e:P*1000000000*(d1+1)<=P*1000000000*x2:=J8 _ d;have j:P*1000000000*(d1+1)=P*(d1+1)*1000000000:=by grind
 omega
theorem Wy (M Dl:List Nat)(k g:Nat)(hM:okL M)(hD:okL Dl)(hl:Dl.length=k+2)(htop:500000000<=Dl.getD (k+1) 0)
 (hlt:val (M.take (k+3))<val Dl*1000000000) (hg:R4 (M.getD (k+2) 0) (M.getD (k+1) 0) (M.getD k 0) (Dl.getD (k+1) 0) (Dl.getD k 0) g) (hml:k+3<=M.length) :
 g*val Dl<=val (M.take (k+3))+val Dl/\val (M.take (k+3))<(g+1)*val Dl/\g<=1000000000:=by
 have j:=IH M k;have d:=Tx Dl k;rw[Jn (by omega)] at d;have A:=Nq M hM k;have h:=Nq Dl hD k;have b2:=O9 M hM (k+2) (by omega);have b1:=O9 M hM (k+1) (by omega);have b0:=O9 M hM k (by omega);obtain⟨G,E⟩:=hg;rw[j,d] at hlt ⊢;exact FA _ _ _ _ _ g A h G E (UU _ _ 1000000000000000000 (UU _ _ 1000000000 b2 b1) b0) (by omega) hlt
theorem FX (M Dl:List Nat)(k:Nat)(hD:okL Dl)(hl:Dl.length=k+2)(hlt:val (M.take (k+3))<val Dl*1000000000):M.getD (k+2) 0<=Dl.getD (k+1) 0:=by
 have h:=Ok M (k+2);have d:=Ok Dl (k+1);rw[Jn (by omega)] at d;have j:=Nq Dl hD (k+1);rw[h,J5] at hlt;exact DS _ _ _ _ (1000000000 ^ (k+1)) hlt (by rw[d,Yf,Zz];omega)
theorem Wo (R off cap D dcap k:Nat)(A Dl:List Nat)(w:World)(hR:O6 w R A)(hAok:okL A)(hl:Dl.length=k+2)(hn:off+(k+3)<=A.length)(hA:A.length<=150000)(hD:O6 w D Dl)(hDR:D≠R)(hDok:okL Dl)
 (htop:500000000<=Dl.getD (k+1) 0) (hlt:val ((A.drop off).take (k+3))<val Dl*1000000000) (hcap:k+3<=cap) :
 Calls prog 245 #[.slice (some ⟨R,off,none⟩) (k+3) cap,.slice (some ⟨D,0,none⟩) (k+2) dcap] w fun e w'=>∃ (q:Nat) (L:List Nat),e=.returned (.int .u32 (q:Nat))/\O6 w' R L/\L.length=A.length/\okL L/\L.take off=A.take off/\q<1000000000 /\
  val ((A.drop off).take (k+3))=q*val Dl+val ((L.drop off).take (k+2))/\val ((L.drop off).take (k+2))<val Dl/\Only R w w':=by
 have HM:Hid (okL (A.drop off)/\k+3<=(A.drop off).length):=⟨X6 A hAok off,by simp;omega⟩;have c2:=hR.cell (off+(k+2)) (by omega);have c1:=hR.cell (off+(k+1)) (by omega);have c0:=hR.cell (off+k) (by omega);have e1:=hD.cell (k+1) (by omega);have e0:=hD.cell k (by omega);have b1:=O9 A hAok (off+(k+1)) (by omega);have b0:=O9 A hAok (off+k) (by omega);have d1:=O9 Dl hDok (k+1) (by omega);have d0:=O9 Dl hDok k (by omega);have c6:=FX (A.drop off) Dl k hDok hl hlt;rw[Hp] at c6;have d6:=hR.lt;have g3:=hD.lt;have HG:Hid (∀ W,True->Calls prog 252 #[.slice (some ⟨R,off,none⟩) (k+3) cap,.slice (some ⟨D,0,none⟩) (k+2) dcap] w fun e w'=>∃ g:Nat,e=.returned (.int .u64 (g:Nat))/\R4 (A.getD (off+(k+2)) 0) (A.getD (off+(k+1)) 0) (A.getD (off+k) 0) (Dl.getD (k+1) 0) (Dl.getD k 0) g/\Up w w'):=fun (_:World) _=>
  Ls R off cap D 0 dcap (k+2) _ _ _ _ _ w d6 (by omega) (by omega) c2 (by rw[show k+2 - 1=k+1 by omega];exact c1) (by rw[show k+2 - 2=k by omega];exact c0) (by rw[show 0+(k+2 - 1)=k+1 by omega];exact e1) (by rw[show 0+(k+2 - 2)=k by omega];exact e0) htop d1 d0 c6 b1 b0
 have e4:Hid (O6 w R A/\O6 w D Dl):=⟨hR,hD⟩;have d2:Hid (val ((A.drop off).take (k+3))<val Dl*1000000000/\500000000<=Dl.getD (k+1) 0):=⟨hlt,htop⟩;clear c2 c1 c0 e1 e0 b1 b0 d1 d0 c6 hR hD hlt htop
 go_enter func245,ntmps245
 go_wp2_with fail
 refine (HG.o w trivial).mono ?_;rintro e w1 ⟨g,rfl,hg,a8⟩;have b7:Only R w w1:=Only.of a8 (by omega);have g0:=Hd b7;have U:Hid (O6 w1 R A/\O6 w1 D Dl):=by
  refine⟨?_,b7.rowT hDR e4.o.2⟩;obtain⟨t,h⟩:=e4.o.1;exact⟨t,(a8.block R d6).trans h⟩
 have hw:=Wy (A.drop off) Dl k g HM.o.1 hDok hl d2.o.2 d2.o.1 (by rw[Hp,Hp,Hp];exact hg) HM.o.2;have HW:Hid (g*val Dl<=val ((A.drop off).take (k+3))+val Dl/\val ((A.drop off).take (k+3))<(g+1)*val Dl):=⟨hw.1,hw.2.1⟩;have f9:=hw.2.2;have e8:Hid (D<w1.heap.size):=Jz g3 a8.size;clear hg a8 b7 hw
 go_wp2_with fail
 have K:=Cy R off cap g (some ⟨D,0,none⟩) dcap A Dl w1 U.o.1 hAok (by omega) (by omega) hDok f9 (fun i hi=>⟨D,0,rfl,⟨e8.o,hDR⟩,by rw[Y3];exact U.o.2.cell i hi⟩);rw[hl] at K;refine K.mono ?_;clear K;rintro e w2 ⟨c,L,rfl,J,b9,M,c8,b8,j0,I,Z⟩;have e6:Hid (Only R w w2):=g0.o.trans Z;have e2:Hid (O6 w2 R L/\O6 w2 D Dl):=⟨J,Z.rowT hDR U.o.2⟩;have d8:=J.cell (off+(k+2)) (by omega);have hx:=Ia L A (off+(k+2)) c8;rw[hx] at d8;obtain⟨x,b6⟩:=O1 (A.getD (off+(k+2)) 0);rw[b6] at d8;have g6:=O9 A hAok (off+(k+2)) (by omega);rw[b6] at g6;have j:=Gd A off (k+2);rw[b6] at j;have d3:val Dl<1000000000 ^ (k+2):=N1 Dl hDok _ (by omega);have g5:Hid (D<w2.heap.size):=Jz e8.o Z.below.size;have d:Hid (O6 w2 R L/\L.length=A.length/\okL L/\L.take off=A.take off):=⟨J,b9,M,b8⟩
 by_cases g4:c<=x
 ·have hr:=Wt (1000000000 ^ (k+2)) _ x (val Dl) g c _ I g4 (by rw[<-j];exact HW.o.2) (by omega);have HE:Hid (g<1000000000/\val ((A.drop off).take (k+3))=g*val Dl+val ((L.drop off).take (k+2))/\val ((L.drop off).take (k+2))<val Dl):=by
   have hE:val ((A.drop off).take (k+3))=g*val Dl+val ((L.drop off).take (k+2)):=j.trans hr.2.1;refine⟨?_,hE,hr.2.2⟩;apply Un;intro h9;have h8:1000000000*val Dl<=g*val Dl:=Yh _ h9;have:=d2.o.1;omega
  have t1:(c:Int)<=(x:Int):=by omega
  have gb:g<1000000000:=HE.o.1;clear I j hr J b9 M c8 b8 Z hx d3
  go_wp2
  go_ret
  exact⟨g,L,rfl,d.o.1,d.o.2.1,d.o.2.2.1,d.o.2.2.2,HE.o.1,HE.o.2.1,HE.o.2.2,e6.o⟩
 have t1:(x:Int)<(c:Int):=by omega
 have HV:Hid (val ((L.drop off).take (k+2))+g*val Dl=val ((A.drop off).take (k+2))+1000000000 ^ (k+2)*c/\val ((A.drop off).take (k+3))=val ((A.drop off).take (k+2))+1000000000 ^ (k+2)*x/\val Dl<1000000000 ^ (k+2)/\x<c):=⟨I,j,d3,by omega⟩;have cb:(c:Int)<=1000000000:=by omega
 clear I j J b9 M c8 b8 Z hx d3
 go_wp2_with fail
 have O:=L0 R off cap (some ⟨D,0,none⟩) dcap L Dl w2 d.o.1 d.o.2.2.1 (by have:=d.o.2.1;omega) (by have:=d.o.2.1;omega) hDok (fun i hi=>⟨D,0,rfl,⟨g5.o,hDR⟩,by rw[Y3];exact e2.o.2.cell i hi⟩);rw[hl] at O;refine O.mono ?_;clear O;rintro e w3 ⟨c3,L3,rfl,e5,e7,V,d9,b4,j1,Y,e3⟩;have hr:=YH (1000000000 ^ (k+2)) _ x (val Dl) g c _ _ c3 HV.o.1 HV.o.2.2.2 (by rw[<-HV.o.2.1];exact HW.o.1) (Nq _ (X6 L d.o.2.2.1 off) _) (by have:=HV.o.2.2.1;omega) Y (Nq _ (X6 L3 V off) _);have HE:Hid (1<=g/\g - 1<1000000000/\val ((A.drop off).take (k+3))=(g - 1)*val Dl+val ((L3.drop off).take (k+2))/\val ((L3.drop off).take (k+2))<val Dl):=⟨hr.1,by omega,HV.o.2.1.trans hr.2.1,hr.2.2⟩;have E:Hid (O6 w3 R L3/\L3.length=A.length/\okL L3/\L3.take off=A.take off):=⟨e5,by rw[e7];exact d.o.2.1,V,b4.trans d.o.2.2.2⟩;have g7:Hid (Only R w w3):=e6.o.trans e3;obtain⟨G,hG⟩:∃ G:Int,(g:Int)=G:=⟨_,rfl⟩;have g1:1<=G:=by have:=HE.o.1;omega
 have g2:G<=1000000000:=by omega
 have f8:=Hd hG;rw[hG];clear hr e5 e7 V d9 b4 Y e3 hG
 go_wp2
 go_ret
 exact⟨g - 1,L3,K5 (by have:=f8.o;have:=HE.o.1;omega),E.o.1,E.o.2.1,E.o.2.2.1,E.o.2.2.2,HE.o.2.1,HE.o.2.2.1,HE.o.2.2.2,g7.o⟩
theorem Ws (t s:Nat)(ht:1<=t)(ht2:t<1000000000)(h1:s*(t+1)<=1000000000)(h2:1000000000<(s+1)*(t+1)):500000000<=s*t:=by
 by_cases a:t=1
 ·subst a;omega
 by_cases b:s=1
 ·subst b;omega
 by_cases c:s=0
 ·subst c;omega
 obtain⟨u,rfl⟩:∃ u,s=u+2:=⟨s - 2,by omega⟩;obtain⟨v,rfl⟩:∃ v,t=v+2:=⟨t - 2,by omega⟩;have d:(u+2+1)*(v+2+1)=u*v+3*u+3*v+9:=by grind
 have h:(u+2)*(v+2)=u*v+2*u+2*v+4:=by grind
 rw[d] at h2;rw[h];omega
theorem EB (s t P vb:Nat)(hs:1<=s)(h1:s*(t+1)<=1000000000)(hb:vb<P*(t+1)):s*vb<P*1000000000:=by
 have d:s*(vb+1)<=s*(P*(t+1)):=J8 s hb;have h:s*(P*(t+1))=P*(s*(t+1)):=by grind
 have j:P*(s*(t+1))<=P*1000000000:=J8 P h1;rw[Yf,Zz] at d;omega
theorem NH (s t P vb dt W:Nat)(hb:vb=W+P*t)(hd:s*vb<P*(dt+1)):s*t<=dt:=by
 apply Nat.le_of_lt_succ;apply Un;intro h;have j:P*(dt+1)<=P*(s*t):=J8 P h;have d:s*(W+P*t)=s*W+P*(s*t):=by grind
 rw[hb,d] at hd;omega
theorem GG (P Q V s va vb:Nat)(h:P*V<=s*va)(hva:va<P*Q)(hvb:Q<=vb)(hs:1<=s):V<s*vb:=by
 have d:s*(va+1)<=s*(P*Q):=J8 s hva;have A:s*(P*Q)=P*(s*Q):=by grind
 have j:s*Q<=s*vb:=J8 s hvb;apply Jz ?_ j;apply Un;intro h3;have E:P*(s*Q)<=P*V:=J8 P h3;rw[Yf,Zz] at d;omega
theorem Mz (x T Dv:Nat)(hx:x<1000000000)(hT:T<Dv):x+1000000000*T<Dv*1000000000:=by
 have:1000000000*(T+1)<=1000000000*Dv:=J8 _ hT;omega
theorem QY (S Vq P Dv Lo X q W:Nat)(h:S=Vq*(P*1000000000)*Dv+(Lo+P*X))(hX:X=q*Dv+W):S=(Vq*1000000000+q)*P*Dv+(Lo+P*W):=by
 rw[h,hX]
 grind
theorem PU (s va vb Q W U r:Nat)(hs:1<=s)(h:s*va=Q*(s*vb)+W)(hW:W<s*vb)(hU:W=U*s+r)(hr:r<s):va=Q*vb+U/\U<vb:=by
 have E:Q*(s*vb)=s*(Q*vb):=by grind
 rw[E,hU] at h;have I:Q*vb<=va:=by
  apply Z0;intro d;have:s*(va+1)<=s*(Q*vb):=J8 s d;rw[Yf,Zz] at this;omega
 obtain⟨y,rfl⟩:∃ y,va=Q*vb+y:=⟨va - Q*vb,by omega⟩;have G:s*y=U*s+r:=by
  rw[Yf] at h;omega
 have A:U=y:=by
  have J:y*s=U*s+r:=by rw[Yy];exact G
  apply Nat.le_antisymm
  ·apply Z0;intro d;have:(y+1)*s<=U*s:=Yh s d;rw[Zl,Zp] at this;omega
  apply Z0;intro d;have:(U+1)*s<=y*s:=Yh s d;rw[Zl,Zp] at this;omega
 subst A;refine⟨rfl,?_⟩;apply Un;intro j;have:s*vb<=s*U:=J8 s j;omega
theorem B9 (L:List Nat)(i n:Nat)(h:i<=L.length):val (L.take (i+n))=val (L.take i)+1000000000 ^ i*val ((L.drop i).take n):=by
 rw[List.take_add,Rk,J3,Zi h]
theorem Bl (L:List Nat)(i n:Nat)(h:i<L.length):val ((L.drop i).take (n+1))=L.getD i 0+1000000000*val ((L.drop (i+1)).take n):=by
 rw[Vk h,List.take_succ_cons,val,Jk,Jf h];rfl
theorem O6.other {w:World}{R:Nat}{l:List Nat}(h:O6 w R l)(p:Addr)(u:Value)(hp:p.block≠R):O6 (w.setCell p u) R l:=by
 obtain⟨t,h⟩:=h;refine⟨t,Eq.trans ?_ h⟩
 show (w.heap.modify p.block _)[R]? = _
 rw[Array.getElem?_modify,if_neg hp]
theorem O6.kept {w w':World}{R:Nat}{l:List Nat}(h:O6 w R l)(hb:Up w w'):O6 w' R l:=by
 have d:=h.lt;obtain⟨t,h⟩:=h;exact⟨t,(hb.block R d).trans h⟩
theorem O6.keptB {w w':World}{R N:Nat}{l:List Nat}(h:O6 w R l)(hb:Below N w w')(hR:R<N):O6 w' R l:=by
 obtain⟨t,h⟩:=h;exact⟨t,(hb.block R hR).trans h⟩
structure DivAt (a b:List Nat)(s k m:Nat)(Dl L Q:List Nat)(j:Nat):Prop where
 len:L.length=k+2+m+1
 ok:okL L
 qlen:Q.length=m+1
 qok:okL Q
 le:j<=m+1
 eq:s*val a=Ek Q j*1000000000 ^ j*val Dl+val (L.take (j+(k+2)))
 top:val ((L.drop j).take (k+2))<val Dl
theorem DivAt.step {a b:List Nat}{s k m:Nat}{Dl L Q:List Nat}{i:Nat}(h:DivAt a b s k m Dl L Q (i+1)){q:Nat}{L':List Nat}(hq:q<1000000000)(hL:L'.length=L.length)(hok:okL L')(htk:L'.take i=L.take i)
 (hX:val ((L.drop i).take (k+3))=q*val Dl+val ((L'.drop i).take (k+2))) (ht:val ((L'.drop i).take (k+2))<val Dl):DivAt a b s k m Dl L' (Q.set i q) i:=by
 have d:=h.le;refine⟨hL.trans h.len,hok,by simp[h.qlen],U4 Q h.qok i q hq,by omega,?_,ht⟩;have e:=h.eq;rw[show i+1+(k+2)=i+(k+3) by omega,B9 L i (k+3) (by have:=h.len;omega),J5] at e;rw[Pj Q i q (by have:=h.qlen;omega),B9 L' i (k+2) (by have:=h.len;omega),htk];exact QY _ _ _ _ _ _ q _ e hX
theorem DivAt.window {a b:List Nat}{s k m:Nat}{Dl L Q:List Nat}{i:Nat}(h:DivAt a b s k m Dl L Q (i+1)):val ((L.drop i).take (k+3))<val Dl*1000000000:=by
 have d:=h.le;have hl:=h.len;rw[Bl L i (k+2) (by omega)];exact Mz _ _ _ (O9 L h.ok i (by omega)) h.top
theorem Rm (b:List Nat)(k:Nat)(hl:b.length=k+1)(ht:isTrim b):1<=b.getD k 0:=by
 have d:b≠[]:=by intro h;rw[h] at hl;simp at hl
 have h:=ht d;rw[List.getLast_eq_getElem] at h;have e:b.getD k 0=b[b.length - 1]'(by omega):=by
  rw[Jk,Jf (by omega)];simp[hl]
 omega
theorem A1 (B:Nat)(va vb:Value)(a b:List Nat)(k m:Nat)(w:World)(ha:U1 B w va a)(hb:U1 B w vb b)(hlb:b.length=k+2)(hla:a.length=k+2+m)(hmx:k+2+m<=100000)(htb:isTrim b) :
 Calls prog 231 #[va,vb] w fun e w'=>∃ v u Q U,e=.returned (.tuple #[v,u])/\U1 w.heap.size w' v Q/\U1 w.heap.size w' u U/\isTrim Q/\isTrim U/\Q.length<=m+1/\U.length<=k+2/\val a=val Q*val b+val U/\val U<val b/\Up w w':=by
 obtain⟨i0,b5,g5,f8,g3⟩:=info_parts info_u32;obtain⟨pa,ca,rfl,_⟩:=id ha;obtain⟨pb,cb,rfl,_⟩:=id hb;obtain⟨_,_,_,e2,j0⟩:=ha.cells;obtain⟨_,_,_,b4,e8⟩:=hb.cells;have HA:=Hd j0;have HB:=Hd e8;obtain⟨bb,ob,rfl,r5,e7⟩:=e8 (k+1) (by omega);have l1:=Rm b (k+1) hlb htb;have l2:=O9 b b4 (k+1) (by omega);obtain⟨t,ht⟩:=O1 (b.getD (k+1) 0);obtain⟨s,hs⟩:=O1 (1000000000 / (t+1));have f5:s*(t+1)<=1000000000:=by rw[<-hs];exact Nat.div_mul_le_self _ _
 have l0:1000000000<(s+1)*(t+1):=by
  have:=Nat.lt_div_mul_add (a:=1000000000) (b:=t+1) (by omega);rw[hs] at this;rw[Zl,Zp];exact this
 rw[ht] at l1 l2 e7;have j3:1<=s:=by
  apply Yp;rintro rfl;omega
 have n0:s<=500000000:=by
  have:s*2<=s*(t+1):=J8 s (by omega);omega
 have J:Hid (1<=s/\s*(t+1)<=1000000000/\500000000<=s*t/\b.getD (k+1) 0=t/\s<=500000000):=⟨j3,f5,Ws t s l1 l2 f5 l0,ht,n0⟩;rw[hlb,hla];obtain⟨T,hT⟩:∃ T:Int,(t:Int)=T:=⟨_,rfl⟩;have n3:1000000000 / (T+1)=(s:Int):=by rw[<-hs,<-hT];rfl
 rw[hT] at e7;have t1:1<=T:=by omega
 have t2:T<1000000000:=by omega
 clear j0 e8 ha hb f5 l0 hs ht hT
 go_enter func231,ntmps231
 go_wp2_with (at_make;refine wpList_make_full _ rfl _ _ 121 rfl w.heap.size 154 i0 (.int .u32 0) 1 underlying121 b5 g5 f8 .i64 .i64 _ _ (k+2+m+1) rfl rfl (by first|rfl|omega) (by first|rfl|omega) (by first|omega|(rw[g3];omega)) (by unfold maxLen;omega) Of ?_)
 intro w1 d O
 first|rw[K8] at d|rw[Ka] at d
 have g6:O6 w1 w.heap.size (List.replicate (k+2+m+1) 0):=(Kp d).tail;have j9:Up w w1:=(Jh _ _).grown O Of (fun k h=>by cases h);have n7:=Hd g6;have j7:=Hd j9;have o7:Hid (w.heap.size<w1.heap.size):=g6.lt;clear d O g6 j9 e7 t1 t2 n3
 go_wp2_with fail
 have I:=Q0 w.heap.size 0 (k+2+m+1) s _ pa ca (List.replicate (k+2+m+1) 0) a w1 n7.o (fun x hx=>by rw[Yr hx];omega) (by simp;omega) (by simp;omega) e2 rfl (by omega) (by have:=J.o.2.2.2.2;omega) (fun i hi=>by
  obtain⟨c,b6,e,hc,e9⟩:=HA.o i hi;exact⟨c,b6,e,hc,by rw[j7.o.cell (p:=⟨c,b6+i,none⟩) hc];exact e9⟩)
 rw[hla] at I;refine I.mono ?_;clear I;rintro e Y ⟨c,L,rfl,a8,b7,d9,h7,hc,g0,k9⟩;have b8:=a8.cell (k+2+m) (by rw[b7];simp);have j5:=a8.frozen (k+2+m);have h0:L.getD (k+2+m) 0=0:=by
  rw[Ad L _ (0+(k+2+m)) (k+2+m) h7 (by omega)];simp[List.getD_eq_getElem?_getD]
 have g4:=Cz L (k+2+m) c (by rw[b7];simp);rw[h0,Z8,Z9] at g4;rw[G4,Y3,Y3,Nat.pow_zero,Zp] at g0;have Z:Hid (val (L.set (k+2+m) c)=s*val a/\okL (L.set (k+2+m) c)/\(L.set (k+2+m) c).length=k+2+m+1):=⟨g4.trans g0,U4 L d9 _ _ (by have:=J.o.2.2.2.2;omega),by simp[b7]⟩;have f9:Hid (O6 (Y.setCell ⟨w.heap.size,k+2+m,none⟩ (.int .u32 (c:Nat))) w.heap.size (L.set (k+2+m) c)):=a8.set _ _ (by rw[b7];simp);have h8:Hid (Up w (Y.setCell ⟨w.heap.size,k+2+m,none⟩ (.int .u32 (c:Nat)))):=(j7.o.trans k9).setCell Of _;have r4:c<1000000000:=by have:=J.o.2.2.2.2;omega
 have i6:Hid (w.heap.size<Y.heap.size):=a8.lt;clear a8 b7 d9 h7 hc g0 k9 h0 g4;obtain⟨W3,g8⟩:=O1 (Y.setCell ⟨w.heap.size,k+2+m,none⟩ (.int .u32 (c:Nat)));have j6:=Hd g8;generalize L.set (k+2+m) c=N at Z f9;rw[g8] at f9 h8;clear g8;have j3:W3.heap.size=Y.heap.size:=by rw[<-j6.o];simp
 have E:Hid (w.heap.size<Y.heap.size):=i6.o
 go_wp2_with (at_make;refine wpList_make_full _ rfl _ _ 121 rfl Y.heap.size 154 i0 (.int .u32 0) 1 underlying121 b5 g5 f8 .i64 .i64 _ _ (k+2) rfl rfl (by first|rfl|omega) (by first|rfl|omega) (by first|omega|(rw[g3];omega)) (by unfold maxLen;omega) (by simp) ?_)
 intro w4 d O;rw[j6.o] at O
 first|rw[K8] at d|rw[Ka] at d
 have i8:O6 w4 Y.heap.size (List.replicate (k+2) 0):=(Kp d).tail;have d3:Below Y.heap.size W3 w4:=(Jh _ _).grown O (by omega) (fun k h=>by cases h);have n8:=Hd i8;have q6:=Hd d3;have d7:Hid (Up w w4):=h8.o.trans (d3.mono (by have:=E.o;omega));have o1:Hid (O6 w4 w.heap.size N):=f9.o.keptB d3 E.o;clear d O i8 d3 b8 j5
 go_wp2_with fail
 have I:=Q0 Y.heap.size 0 (k+2) s _ (some ⟨bb,ob,none⟩) cb (List.replicate (k+2) 0) b w4 n8.o (fun x hx=>by rw[Yr hx];omega) (by simp;omega) (by simp;omega) b4 rfl (by omega) (by have:=J.o.2.2.2.2;omega) (fun i hi=>by
  obtain⟨c,b6,e,hc,e9⟩:=HB.o i hi;exact⟨c,b6,e,by have:=E.o;omega,by rw[d7.o.cell (p:=⟨c,b6+i,none⟩) hc];exact e9⟩)
 rw[hlb] at I;refine I.mono ?_;clear I;rintro e K ⟨c5,V,rfl,i7,d6,b3,h6,m5,e6,g2⟩;rw[G4,Y3,Y3,Nat.pow_zero,Zp] at e6;have e5:val b=val (b.take (k+1))+1000000000 ^ (k+1)*t:=by
  have h:=Ok b (k+1);rw[Jn (by omega),J.o.2.2.2.1] at h;exact h
 have j2:val b<1000000000 ^ (k+1)*(t+1):=by
  rw[e5,Yf,Zz];have:=Nq b b4 (k+1);omega
 have d4:V.length=k+2:=by rw[d6];simp
 have c6:val V=s*val b:=by
  have h1:s*val b<1000000000 ^ (k+2):=by rw[J5];exact EB s t _ _ J.o.1 J.o.2.1 j2
  rw[<-e6] at h1 ⊢;have:c5=0:=by
   apply Nat.eq_zero_of_not_pos;intro hp;have:1000000000 ^ (k+2)*1<=1000000000 ^ (k+2)*c5:=J8 _ hp;omega
  rw[this,Z8,Z9]
 have n9:Hid (500000000<=V.getD (k+1) 0):=by
  unfold Hid
  have h1:val V<1000000000 ^ (k+1)*(V.getD (k+1) 0+1):=by
   have h:=Ok V (k+1);rw[Jn (by omega)] at h;rw[h,Yf,Zz];have:=Nq V b3 (k+1);omega
  rw[c6] at h1;have:=NH s t _ _ _ _ e5 h1;have:=J.o.2.2.1;omega
 have c8:Hid (val V=s*val b/\okL V/\V.length=k+2):=⟨c6,b3,d4⟩;have m9:Hid (O6 K w.heap.size N):=o1.o.keptB g2 E.o;have k0:=Hd i7;have l9:Hid (Up w K):=d7.o.trans (g2.mono (by have:=E.o;omega));have n6:Hid (DivAt a b s k m V N (List.replicate (m+1) 0) (m+1)):=by
  refine⟨Z.o.2.2,Z.o.2.1,by simp,fun x hx=>by rw[Yr hx];omega,Of,?_,?_⟩
  ·have e1:Ek (List.replicate (m+1) 0) (m+1)=0:=by unfold Ek;simp[val]
   rw[e1,Vs,Vs,Y3,Jn (by have:=Z.o.2.2;omega)];exact Z.o.1.symm
  rw[c6];refine GG (1000000000 ^ (m+1)) (1000000000 ^ (k+1)) _ s (val a) (val b) ?_ ?_ ?_ J.o.1
  ·have h:=B9 N (m+1) (k+2) (by have:=Z.o.2.2;omega);rw[Jn (by have:=Z.o.2.2;omega),Z.o.1] at h;omega
  ·have h:=Gu a e2;rw[hla] at h;rw[<-Nat.pow_add,show m+1+(k+1)=k+2+m by omega];exact h
  have h:=Xe b htb (by intro h;rw[h] at hlb;simp at hlb);rw[hlb,show k+2 - 1=k+1 by omega] at h;exact h
 clear d6 b3 h6 m5 e6 g2 e5 j2 d4 c6 i7;have a7:Hid (Y.heap.size<K.heap.size):=k0.o.lt
 go_wp2_with (at_make;refine wpList_make_full _ rfl _ _ 121 rfl K.heap.size 154 i0 (.int .u32 0) 1 underlying121 b5 g5 f8 .i64 .i64 _ _ (m+1) rfl rfl (by first|rfl|omega) (by first|rfl|omega) (by first|omega|(rw[g3];omega)) (by unfold maxLen;omega) Of ?_)
 intro w6 d O
 first|rw[K8] at d|rw[Ka] at d
 have g1:O6 w6 K.heap.size (List.replicate (m+1) 0):=(Kp d).tail;have b9:Up K w6:=(Jh _ _).grown O Of (fun k h=>by cases h);have d1:Hid (O6 w6 K.heap.size (List.replicate (m+1) 0)/\O6 w6 w.heap.size N/\O6 w6 Y.heap.size V/\Up w w6):=⟨g1,m9.o.kept b9,k0.o.kept b9,l9.o.trans (b9.mono (by have:=a7.o;have:=E.o;omega))⟩;have p4:Hid (K.heap.size<w6.heap.size):=g1.lt;clear d O g1 b9
 go_wp2
 go_loopw [10] (fun iv wr=>∃ (j:Nat) (L Q:List Nat),DivAt a b s k m V L Q j/\iv=.int .i64 ((j:Int) - 1)/\O6 wr w.heap.size L/\O6 wr Y.heap.size V/\O6 wr K.heap.size Q/\Up w wr) (fun iv _=>(intOf iv+1).toNat)
 case atStart=>exact⟨m+1,N,_,n6.o,Ob (by omega),d1.o.2.1,d1.o.2.2.1,d1.o.1,d1.o.2.2.2⟩
 case round=>
  obtain⟨j,L,Q,g7,rfl,hR,hD,hQ,hB⟩:=hrel;have G:=Hd g7;have A:Hid (O6 wr w.heap.size L/\O6 wr Y.heap.size V/\O6 wr K.heap.size Q/\Up w wr):=⟨hR,hD,hQ,hB⟩;have n4:=g7.le;clear hR hD hQ hB g7
  cases j with
  | zero=>
    clear n4;have hL:=G.o.len;have e3:(L.take (k+2)).length=k+2:=by rw[J3];omega
    have HI:Hid (U1 w.heap.size wr (.slice (some ⟨w.heap.size,0,none⟩) (k+2) (k+2+m+1)) (L.take (k+2))):=by
     refine⟨_,k+2+m+1,by rw[e3],by omega,by unfold maxLen;omega,M9 L G.o.ok _,.inr ⟨w.heap.size,0,rfl,Of,A.o.1.lt,fun i hi=>?_⟩⟩;rw[Y3,A.o.1.cell i (by omega)];rw[Jk,Jk,List.getElem?_take_of_lt (by omega)]
    have j1:=Hd e3;clear hL e3
    go_wp2_with fail
    refine (Qs w.heap.size _ (L.take (k+2)) s _ HI.o (by have:=j1.o;omega) J.o.1 (by have:=J.o.2.2.2.2;omega)).mono ?_;rintro e w7 ⟨u,U,r,rfl,hU,j8,o0,j4,hr,g9⟩;have HU:=Hd hU;have k8:Hid (U1 w.heap.size w7 (.slice (some ⟨K.heap.size,0,none⟩) (m+1) (m+1)) Q):=by
     have h:=(A.o.2.2.1.kept g9).isL (B:=w.heap.size) (cap:=m+1) (by have:=a7.o;have:=E.o;omega) G.o.qok (by have:=G.o.qlen;omega) (by unfold maxLen;omega);rw[G.o.qlen] at h;exact h
    have HE:Hid (val a=val Q*val b+val U/\val U<val b/\isTrim U/\U.length<=k+2):=by
     have e:=G.o.eq;have tp:=G.o.top;unfold Ek at e;rw[Y5,Nat.pow_zero,Zz,Y3,c8.o.1] at e;rw[Y5,c8.o.1] at tp;have h:=PU s (val a) (val b) (val Q) _ (val U) r J.o.1 e tp j4 hr;exact⟨h.1,h.2,j8,by have:=j1.o;omega⟩
    have m6:Hid (Up w w7):=A.o.2.2.2.trans (g9.mono A.o.2.2.2.size);have n5:Hid (w.heap.size<=wr.heap.size):=A.o.2.2.2.size;obtain⟨pu,cu,hu,_⟩:=hU;subst hu;clear j8 o0 j4 hr g9
    go_wp2_with fail
    refine (E0 w.heap.size _ Q _ k8.o).mono ?_;rintro e w8 ⟨v,rfl,hcut,rfl⟩;have HW:Hid (U1 w.heap.size w8 v (Oe Q)):=hcut _ _ k8.o;have HT:Hid (val (Oe Q)=val Q/\(Oe Q).length<=m+1):=⟨O3 Q,by have:=Ku Q;have:=G.o.qlen;omega⟩;obtain⟨pv,cv,hv,_⟩:=HW.o;subst hv;clear hcut
    go_wp2
    go_ret2
    exact⟨_,_,Oe Q,U,rfl,HW.o,HU.o.mono n5.o,trimL_trim _,HE.o.2.2.1,HT.o.2,HE.o.2.2.2,by rw[HT.o.1];exact HE.o.1,HE.o.2.1,m6.o⟩
  | succ i=>
    go_wp2_with fail
    rw[show i+(k+2)+1 - i=k+3 by omega];refine (Wo w.heap.size i (k+2+m+1 - i) Y.heap.size (k+2) k L V wr A.o.1 G.o.ok c8.o.2.2 (by have:=G.o.len;omega) (by have:=G.o.len;omega) A.o.2.1 (by have:=E.o;omega) c8.o.2.1 n9.o G.o.window (by omega)).mono ?_;rintro e w7 ⟨q,L7,rfl,k1,i1,d5,e0,m7,h9,k7,d2⟩;have h2:Hid (DivAt a b s k m V L7 (Q.set i q) i):=G.o.step m7 i1 d5 e0 h9 k7;have d0:O6 w7 K.heap.size Q:=d2.rowT (by have:=a7.o;have:=E.o;omega) A.o.2.2.1;have b8:=d0.cell i (by have:=G.o.qlen;omega);have j5:=d0.frozen i;have M:Hid (O6 (w7.setCell ⟨K.heap.size,i,none⟩ (.int .u32 (q:Nat))) w.heap.size L7/\O6 (w7.setCell ⟨K.heap.size,i,none⟩ (.int .u32 (q:Nat))) Y.heap.size V/\O6 (w7.setCell ⟨K.heap.size,i,none⟩ (.int .u32 (q:Nat))) K.heap.size (Q.set i q)/\Up w (w7.setCell ⟨K.heap.size,i,none⟩ (.int .u32 (q:Nat)))):=by
     have l5:=a7.o;have l3:=E.o;refine⟨k1.other _ _ (by show K.heap.size≠w.heap.size;omega),(d2.rowT (by omega) A.o.2.1).other _ _ (by show K.heap.size≠Y.heap.size;omega),d0.set _ _ (by have:=G.o.qlen;omega),(A.o.2.2.2.trans d2.below).setCell (by show w.heap.size<=K.heap.size;omega) _⟩
    clear k1 i1 d5 e0 h9 k7 d2 d0
    go_wp2
    go_roundw
    case rel=>exact⟨i,L7,Q.set i q,h2.o,by go_num,M.o.1,M.o.2.1,M.o.2.2.1,M.o.2.2.2⟩
    case measure=>simp[intOf]
def PY (B:Nat)(w:World)(v u:Value)(a b Q U:List Nat):Prop:=
 (U1 B w v Q/\U1 B w u U)/\(isTrim Q/\isTrim U)/\(Q.length<=a.length/\U.length<=b.length+3)/\val a=val Q*val b+val U/\val U<val b
theorem PE (x y:Nat)(h:Bd x y<0):x<y:=by
 unfold Bd at h
 split at h
 ·assumption
 split at h<;>omega
theorem X7 (a b:List Nat)(ha:okL a)(hb:okL b)(ta:isTrim a)(tb:isTrim b)(hcm:El a b<0):val a<val b:=by
 rw[Ga a b ha hb ta tb] at hcm;exact PE _ _ hcm
theorem QU (a b:List Nat)(hcm:0<=El a b):b.length<=a.length:=by
 unfold El at hcm
 by_cases h3:a.length<b.length
 ·simp[h3] at hcm<;>omega
 omega
theorem Ts (a b:List Nat)(hcm:El a b<0):a.length<=b.length:=by
 unfold El at hcm
 by_cases h3:b.length<a.length
 ·by_cases h4:a.length<b.length
  ·omega
  simp[h3,h4] at hcm<;>omega
 omega
theorem Rd (B:Nat)(va vb:Value)(a b:List Nat)(w:World)(hBw:B<=w.heap.size)(ha:U1 B w va a)(hb:U1 B w vb b)(hla:a.length<=100000)(hta:isTrim a)(htb:isTrim b)(hne:b≠[]) :
 Calls prog 204 #[va,vb] w fun e w'=>∃ v u Q U,e=.returned (.tuple #[v,u])/\PY B w' v u a b Q U/\Up w w':=by
 have HA:=Hd ha;have HB:=Hd hb;have I:Hid (isTrim a/\isTrim b/\b≠[]/\B<=w.heap.size):=⟨hta,htb,hne,hBw⟩;obtain⟨pa,ca,rfl,g3,d2,M,_⟩:=ha;obtain⟨pb,cb,rfl,g4,d1,K,_⟩:=hb;have b3:Hid (okL a/\okL b):=⟨M,K⟩;obtain⟨c,hc⟩:=O1 (El a b);have HC:=Hd hc;have G : -1<=c/\c<=1:=by rw[<-hc];exact Qb a b
 obtain⟨g7,g8⟩:=G;clear hc hta htb hne hBw M K d2 d1
 by_cases c8:c<0
 ·have HE:Hid (PY B w (.slice none 0 0) (.slice pa a.length ca) a b [] a):=by
   have hv:=X7 a b b3.o.1 b3.o.2 I.o.1 I.o.2.1 (by rw[HC.o];exact c8);have hl:=Ts a b (by rw[HC.o];exact c8);exact⟨⟨⟨none,0,rfl,Of,(by unfold maxLen;omega),(fun x hx=>by cases hx),.inl rfl⟩,HA.o⟩,⟨fun h=>absurd rfl h,I.o.1⟩,⟨Jy _,by omega⟩,by simp[val],hv⟩
  go_enter func204,ntmps204
  go_wp2_with fail
  refine (Ed B _ _ a b _ HA.o HB.o).mono ?_;rintro e w1 ⟨rfl,j⟩;rw[HC.o];have d:=Hd j;clear j
  go_wp2
  go_ret2
  exact⟨_,_,[],a,rfl,⟨⟨HE.o.1.1.below d.o,HE.o.1.2.below d.o⟩,HE.o.2⟩,d.o⟩
 have e7:Hid (b.length<=a.length):=QU a b (by rw[HC.o];omega)
 by_cases h1:b.length=1
 ·obtain⟨y,rfl⟩:∃ y,b=[y]:=by
   match b,h1 with
   | [y],_=>exact⟨y,rfl⟩
  have d5:=Rm [y] 0 rfl I.o.2.1;have i1:=b3.o.2 y (by simp);have f9:0<y:=by
   simp at d5;omega
  obtain⟨_,_,_,_,G⟩:=HB.o.cells;obtain⟨bb,ob,rfl,e2,d7⟩:=G 0 (by simp);have Y:w.cell? ⟨bb,ob+0,none⟩=some (.int .u32 (y:Nat)):=d7;have f8:Hid (∀ W,Up w W->W.cell? ⟨bb,ob,none⟩=some (.int .u32 (y:Nat))):=fun W hW=>(hW.cell (p:=⟨bb,ob,none⟩) e2).trans Y;clear d7 Y G d5
  go_enter func204,ntmps204
  go_wp2_with fail
  refine (Ed B _ _ a [y] _ HA.o HB.o).mono ?_;rintro e w1 ⟨rfl,j⟩;rw[HC.o];have d:=Hd j;have Z:=f8.o _ j;clear j
  go_wp2_with fail
  refine (Qs B _ a y _ (HA.o.below d.o) hla f9 (by omega)).mono ?_;rintro e w2 ⟨v,q,r,rfl,hL,b8,O,A,hr,E⟩;have HL:Hid (U1 B w2 v q):=hL.mono (by have:=d.o.size;have:=I.o.2.2.2;omega);have HV:Hid (isTrim q/\q.length<=a.length/\val a=val q*y+r/\r<y):=⟨b8,O,A,hr⟩;have J:=d.up E;obtain⟨pv,cv,hv,_⟩:=hL;subst hv;clear b8 O A E Z
  go_wp2_with fail
  refine (Xi r _ (by omega)).mono ?_;rintro e w3 ⟨u,t,rfl,hu,b9,b4,e3,a7⟩;have HE:Hid (PY B w3 (.slice pv q.length cv) u a [y] q t):=by
   refine⟨⟨HL.o.below a7,hu.mono (by have:=J.o.size;have:=I.o.2.2.2;omega)⟩,⟨HV.o.1,b9⟩,⟨HV.o.2.1,by omega⟩,?_,?_⟩
   ·rw[b4];simp only[val];exact HV.o.2.2.1
   rw[b4];simp only[val];exact HV.o.2.2.2
  have e8:=J.up a7;obtain⟨pu,cu,e5,_⟩:=hu;subst e5;clear b9 b4 e3 a7
  go_wp2
  go_ret2
  exact⟨_,_,q,t,rfl,HE.o,e8.o⟩
 have hp:b.length≠0:=fun h=>I.o.2.2.1 (Jv h);obtain⟨k,hk⟩:∃ k,b.length=k+2:=⟨b.length - 2,by omega⟩;obtain⟨m,hm⟩:∃ m,a.length=k+2+m:=⟨a.length - (k+2),by have:=e7.o;omega⟩;have HK:Hid (b.length=k+2/\a.length=k+2+m/\k+2+m<=100000):=⟨hk,hm,by omega⟩;have z1:((b.length:Int)==1)=false:=by rw[Jc];omega
 clear hk hm
 go_enter func204,ntmps204
 go_wp2_with fail
 refine (Ed B _ _ a b _ HA.o HB.o).mono ?_;rintro e w1 ⟨rfl,j⟩;rw[HC.o];have d:=Hd j;clear j
 go_wp2_with fail
 refine (A1 B (.slice pa a.length ca) (.slice pb b.length cb) a b k m w1 (HA.o.below d.o) (HB.o.below d.o) HK.o.1 HK.o.2.1 HK.o.2.2 I.o.2.1).mono ?_;rintro e w2 ⟨v,u,Q,U,rfl,hv,hu,d3,d0,e4,e6,A,V,E⟩;have HE:Hid (PY B w2 v u a b Q U):=by
  have d6:B<=w1.heap.size:=by have:=d.o.size;have:=I.o.2.2.2;omega
  exact⟨⟨hv.mono d6,hu.mono d6⟩,⟨d3,d0⟩,⟨by have:=HK.o;omega,by have:=HK.o;omega⟩,A,V⟩
 have J:=d.up E;clear hv hu d3 d0 e4 e6 A V E
 go_wp2
 go_ret2
 exact⟨_,_,Q,U,rfl,HE.o,J.o⟩
end Go.Proofs.YtipgjenolpofpaaGreatDoor.Q
namespace Go.Proofs.YtipgjenolpofpaaGreatDoor.Q
open Go.ChangeShapes Go.WideShapes Go.ChangeAt Go.RowKit Go.Shelf Go.Proofs.Tryz
def QZ:Go.Shelf.Ren:=⟨fun|41=>233|n=>n,fun|22=>121|23=>154|4=>4|n=>n,fun|n=>n⟩
theorem EM:Go.Proofs.SlLaysE0.n41 prog QZ:={
 mixed:=by kernel_rfl
 f41:=⟨Tryz.f233.name,by decide,func233.trans (congrArg some (by kernel_rfl))⟩
 t4:=underlying4
 a4:=Tryz.isAgg4
 z4:=Tryz.sizeOf4
 v4:=Tryz.zeroValue4
 t22:=underlying121
 a22:=Tryz.isAgg121
 z22:=Tryz.sizeOf121
 v22:=Tryz.zeroValue121 }
theorem KL (b off n c:Nat)(a:List Nat)(w:World)(hl:a.length=n)(hn:n<=1000000)(hc:∀ j,j<a.length->w.cell? ⟨b,off+j,none⟩=some (.int .u32 (a.getD j 0:Nat))) :
 Calls prog 233 #[.slice (some ⟨b,off,none⟩) n c] w fun e w'=>∃ g cap,e=.returned (.slice (some ⟨g,0,none⟩) n cap)/\n<=cap/\cap<=maxLen/\w.heap.size<=g/\O6 w' g a/\Up w w':=by
 obtain⟨i0,d,I,J,A⟩:=info_parts info_u32;refine (AnyE.slices_Clone EM i0 (.int .u32 0) 1 4 d I J A rfl (by omega) Tryz.sizeOf154 b off n c (Nb a) w (by simp[hl]) (by unfold maxLen;omega) (by omega) ?_ ?_).mono ?_
 ·intro j u V;simp only[Nb,Y2,Option.map_eq_some_iff] at V;obtain⟨x,O,rfl⟩:=V;obtain⟨G,b3⟩:=Zs.1 O;rw[hc j G,Jk,O];rfl
 ·intro v U;simp only[Nb,Zm] at U;obtain⟨x,_,rfl⟩:=U;rfl
 rintro e w' ⟨v',rfl,h,E,hb⟩
 rcases h.2 with⟨e,_⟩|⟨g,cap,M,e,hg,K,a7,Z,b4,Y⟩
 ·exact absurd e E
 refine⟨g,cap,by rw[e],by omega,by omega,hg,⟨M.toList.drop n,?_⟩,hb⟩;rw[K];rw[Zz] at Y;rw[<-Y,Ze,Array.toArray_toList];rfl
end Go.Proofs.YtipgjenolpofpaaGreatDoor.Q
namespace Go.Proofs.YtipgjenolpofpaaGreatDoor.Q
open Go.ChangeShapes Go.WideShapes Go.ChangeAt Go.RowKit Go.Proofs.Tryz
theorem Av (B ba oa ca:Nat)(vb:Value)(a b:List Nat)(w:World)(ha:U1 B w (.slice (some ⟨ba,oa,none⟩) a.length ca) a)(hb:U1 B w vb b)(hla:a.length<=100000)(hlb:b.length<=a.length)(hle:val b<=val a) :
 Calls prog 206 #[.slice (some ⟨ba,oa,none⟩) a.length ca,vb] w fun e w'=>∃ v L,e=.returned v/\U1 w.heap.size w' v L/\val L+val b=val a/\L.length<=a.length/\isTrim L/\Up w w':=by
 obtain⟨pb,cb,rfl,_⟩:=id hb;obtain⟨_,_,_,M,V⟩:=ha.cells;obtain⟨_,_,_,I,G⟩:=hb.cells;have HA:Hid (∀ i,i<a.length->w.cell? ⟨ba,oa+i,none⟩=some (.int .u32 (a.getD i 0:Nat))):=fun i hi=>by
  obtain⟨b',d1,e,_,hc⟩:=V i hi;simp only[Option.some.injEq,Addr.mk.injEq,and_true] at e;obtain⟨rfl,rfl⟩:=e;exact hc
 have HB:=Hd G;have b5:=Hd hle;clear V G ha hb hle
 go_enter func206,ntmps206
 go_wp2_with fail
 refine (KL ba oa a.length ca a _ rfl (by omega) HA.o).mono ?_;rintro e w1 ⟨g,cap,rfl,Y,E,hg,hR,U⟩;have HR:=Hd hR;have O:=Hd U;have a8:=Hd E;clear hR U E
 go_wp2_with fail
 refine (Mo g a.length cap 1 _ pb cb a b w1 HR.o M Of (by omega) hlb I rfl Y (by omega) ?_).mono ?_
 ·intro i hi;obtain⟨c,J,e,hc,a7⟩:=HB.o i hi;exact⟨c,J,e,by omega,by rw[O.o.cell (p:=⟨c,J+i,none⟩) hc];exact a7⟩
 rintro e w3 ⟨c,L,rfl,Z,A,d,b4,hc,j,K⟩;have b6:Hid (Up w w3):=O.o.trans (K.mono hg);have HI:Hid (U1 w.heap.size w3 (.slice (some ⟨g,0,none⟩) a.length cap) L):=by
  have h:=Z.isL (B:=w.heap.size) (cap:=cap) hg d (by omega) a8.o;rw[A] at h;exact h
 have HV:Hid (val L+val b=val a/\L.length=a.length):=by
  refine⟨?_,A⟩;rw[Zp,Jn (by omega),Jn Of] at j;exact Bh (1000000000 ^ a.length) c _ _ _ j (by rw[<-A];exact Gu L d) b5.o
 clear Z A d b4 j K
 go_wp2_with fail
 refine (E0 w.heap.size _ L _ HI.o).mono ?_;rintro e w5 ⟨v,rfl,hcut,rfl⟩;have HW:Hid (U1 w.heap.size w5 v (Oe L)):=hcut _ _ HI.o;have HT:Hid (val (Oe L)+val b=val a/\(Oe L).length<=a.length/\isTrim (Oe L)):=⟨by rw[O3];exact HV.o.1,by have:=Ku L;have:=HV.o.2;omega,trimL_trim _⟩;obtain⟨pv,cv,hv,_⟩:=HW.o;subst hv;clear hcut
 go_wp2
 go_ret
 exact⟨_,_,rfl,HW.o,HT.o.1,HT.o.2.1,HT.o.2.2,b6.o⟩
theorem B8 (B:Nat)(va vb:Value)(a b:List Nat)(w:World)(ha:U1 B w va a)(hb:U1 B w vb b)(hne:a≠[])(hla:a.length<=100000)(hlb:b.length<=a.length)(hle:val b<=val a) :
 Calls prog 206 #[va,vb] w fun e w'=>∃ v L,e=.returned v/\U1 w.heap.size w' v L/\val L+val b=val a/\L.length<=a.length/\isTrim L/\Up w w':=by
 obtain⟨I,A,rfl,hl,d,G,j⟩:=id ha
 rcases j with h|⟨J,E,rfl,_⟩
 ·exact absurd h hne
 exact Av B _ _ A vb a b w ha hb hla hlb hle
theorem A8 (w w1:World)(R n:Nat)(pa:Option Addr)(ca:Nat)(a:List Nat)(hn:a.length<=n)(hR:Gw w1 R (List.replicate n 0))(hRw:w.heap.size<=R)(hB1:Up w w1)
 (hA:∀ i,i<a.length->∃ b off,pa=some ⟨b,off,none⟩/\b<w.heap.size/\w.cell? ⟨b,off+i,none⟩=some (.int .u32 (a.getD i 0:Nat))) :
 ∃ w2,(∀ ty,(Builtin.copy_ #[121,121] ty #[.slice (some ⟨R,0,none⟩) n n,.slice pa a.length ca]).run prog w1=.ok (goInt a.length) w2)/\Gw w2 R (a++List.replicate (n - a.length) 0)/\Up w w2:=by
 have O:=underlying121;have V:(prog.info? 154).map (·.size)=some 1:=by
  obtain⟨i0,d,a7,G,Z⟩:=info_parts info_u32;rw[d];simp[G]
 by_cases U:a.length=0
 ·have e:a=[]:=Jv U;refine⟨w1,fun ty=>?_,?_,hB1⟩
  ·rw[U];exact Go.run_copy_none w1 _ _ ty _ _ pa n n 0 ca O V (by simp)
  subst e;simpa using hR
 obtain⟨b,off,rfl,hb,_⟩:=hA 0 (by omega);refine⟨w1.setRow R (Nb (a++List.replicate (n - a.length) 0)).toArray,fun ty=>?_,setRow_heap w1 R _ _ _ _ hR,below_setRow hB1 hRw _⟩;have h:=Go.run_copy_row (P:=prog) w1 121 121 ty 154 R 0 n n ⟨b,off,none⟩ a.length ca _ _ (Nb a) O V hR ?_ ?_ ?_ ?_
 ·have e:(Nb (List.replicate n 0)).drop a.length=Nb (List.replicate (n - a.length) 0):=by simp[Nb]
  simp only[List.take_zero,Zw,Y3,Zv,e,<-Zd] at h;exact h
 ·simp[hn]
 ·intro j v J;simp only[Nb,Y2,Option.map_eq_some_iff] at J;obtain⟨x,K,rfl⟩:=J;obtain⟨I,a8⟩:=Zs.1 K;obtain⟨b',M,e,A,E⟩:=hA j I;simp only[Option.some.injEq,Addr.mk.injEq,and_true] at e;obtain⟨rfl,rfl⟩:=e;rw[show (Addr.add ⟨b,off,none⟩ j)=⟨b,off+j,none⟩ by simp[Addr.add],hB1.cell (p:=⟨b,off+j,none⟩) A,E,Jk,K];rfl
 ·simp;omega
 intro v Y;simp only[Nb,Zm] at Y;obtain⟨x,_,rfl⟩:=Y;rfl
theorem Sw (B:Nat)(va vb:Value)(a b:List Nat)(w:World)(ha:U1 B w va a)(hb:U1 B w vb b)(hla:a.length<=100000)(hlb:b.length<=a.length) :
 Calls prog 205 #[va,vb] w fun e w'=>∃ v L,e=.returned v/\U1 w.heap.size w' v L/\val L=val a+val b/\L.length<=a.length+1/\isTrim L/\Up w w':=by
 obtain⟨i0,Z,d5,d6,d1⟩:=info_parts info_u32;obtain⟨pa,ca,rfl,_⟩:=id ha;obtain⟨pb,cb,rfl,_⟩:=id hb;obtain⟨_,_,_,b6,b8⟩:=ha.cells;obtain⟨_,_,_,a7,O⟩:=hb.cells;have HA:=Hd b8;have HB:=Hd O;clear b8 O ha hb
 go_enter func205,ntmps205
 go_wp2_with (at_make;refine wpList_make_full _ rfl _ _ 121 rfl w.heap.size 154 i0 (.int .u32 0) 1 underlying121 Z d5 d6 .i64 .i64 _ _ (a.length+1) rfl rfl ?m0 ?m1 ?m2 ?m3 ?m4 ?_)
 try (case m0=>first|rfl|omega)
 try (case m1=>first|rfl|omega)
 try (case m2=>(first|omega|(rw[d1];omega)))
 try (case m3=>(unfold maxLen;omega))
 try (case m4=>exact Of)
 intro w1 d b9
 first|rw[K8] at d|rw[Ka] at d
 have hR:Gw w1 w.heap.size (List.replicate (a.length+1) 0):=Kp d;have Y:Up w w1:=(Jh _ _).grown b9 Of (fun k h=>by cases h);clear d b9;obtain⟨w2,e2,J,V⟩:=A8 w w1 w.heap.size (a.length+1) pa ca a (by omega) hR Of Y HA.o;rw[show a.length+1 - a.length=1 by omega] at J;have d0:=Hd J;have b4:=Hd V;have U:okL (a++List.replicate 1 0):=fun x hx=>by
  rcases Z5.1 hx with h|h
  ·exact b6 x h
  simp at h;omega
 clear hR Y J V
 go_wp2_with fail
 refine (Dh w.heap.size a.length (a.length+1) _ pb cb (a++List.replicate 1 0) b w2 d0.o U (by simp) (by simp;omega) hlb a7 rfl (by omega) ?_).mono ?_
 ·intro i hi;obtain⟨c,a8,e,hc,d2⟩:=HB.o i hi;exact⟨c,a8,e,hc,by rw[b4.o.cell (p:=⟨c,a8+i,none⟩) hc];exact d2⟩
 rintro e w3 ⟨c,L,rfl,A,M,E,d7,hc,G,b3⟩;have b7:Up w w3:=b4.o.trans b3;have I:=A.cell a.length (by rw[M];simp);have d8:=A.frozen a.length;have K:Hid (Gw (w3.setCell ⟨w.heap.size,a.length,none⟩ (.int .u32 (c:Nat))) w.heap.size (L.set a.length c)):=A.set _ _;have c6:Hid (Up w (w3.setCell ⟨w.heap.size,a.length,none⟩ (.int .u32 (c:Nat)))):=b7.setCell Of _;have j:Hid (okL (L.set a.length c)/\(L.set a.length c).length=a.length+1/\val (L.set a.length c)=val a+val b):=by
  have hl:L.length=a.length+1:=by rw[M];simp
  refine⟨U4 L E _ _ (by omega),by simp[hl],?_⟩;have h1:=O2 L a.length c (by omega);rw[Jn (by simp[hl])] at h1;rw[h1,G];simp
 clear A M E d7 G b3 b7
 go_wp2_with fail
 obtain⟨W4,b5⟩:=O1 (w3.setCell ⟨w.heap.size,a.length,none⟩ (.int .u32 (c:Nat)));rw[b5] at K c6 ⊢;generalize L.set a.length c=N at K j;have hI:U1 w.heap.size W4 (.slice (some ⟨w.heap.size,0,none⟩) (a.length+1) (a.length+1)) N:=by
  have h:=K.o.isL (B:=w.heap.size) (cap:=a.length+1) Of j.o.1 (by have:=j.o.2.1;omega) (by unfold maxLen;omega);rw[j.o.2.1] at h;exact h
 clear b5 I d8;refine (E0 w.heap.size _ N _ hI).mono ?_;rintro e w5 ⟨v,rfl,hcut,rfl⟩;have HV:Hid (U1 w.heap.size w5 v (Oe N)):=hcut _ _ hI;have HT:Hid (val (Oe N)=val a+val b/\(Oe N).length<=a.length+1/\isTrim (Oe N)):=⟨by rw[O3];exact j.o.2.2,by have:=Ku N;have:=j.o.2.1;omega,trimL_trim _⟩;obtain⟨pv,cv,hv,_⟩:=HV.o;subst hv;clear hcut hI
 go_wp2
 go_ret
 exact⟨_,_,rfl,HV.o,HT.o.1,HT.o.2.1,HT.o.2.2,c6.o⟩
theorem Se (B:Nat)(va vb:Value)(a b:List Nat)(w:World)(ha:U1 B w va a)(hb:U1 B w vb b)(hla:a.length<=100000)(hlb:b.length<a.length) :
 Calls prog 205 #[vb,va] w fun e w'=>∃ v L,e=.returned v/\U1 w.heap.size w' v L/\val L=val a+val b/\L.length<=a.length+1/\isTrim L/\Up w w':=by
 obtain⟨i0,Z,d5,d6,d1⟩:=info_parts info_u32;obtain⟨pa,ca,rfl,_⟩:=id ha;obtain⟨pb,cb,rfl,_⟩:=id hb;obtain⟨_,_,_,b6,b8⟩:=ha.cells;obtain⟨_,_,_,a7,O⟩:=hb.cells;have HA:=Hd b8;have HB:=Hd O;clear b8 O ha hb
 go_enter func205,ntmps205
 go_wp2_with (at_make;refine wpList_make_full _ rfl _ _ 121 rfl w.heap.size 154 i0 (.int .u32 0) 1 underlying121 Z d5 d6 .i64 .i64 _ _ (a.length+1) rfl rfl ?m0 ?m1 ?m2 ?m3 ?m4 ?_)
 try (case m0=>first|rfl|omega)
 try (case m1=>first|rfl|omega)
 try (case m2=>(first|omega|(rw[d1];omega)))
 try (case m3=>(unfold maxLen;omega))
 try (case m4=>exact Of)
 intro w1 d b9
 first|rw[K8] at d|rw[Ka] at d
 have hR:Gw w1 w.heap.size (List.replicate (a.length+1) 0):=Kp d;have Y:Up w w1:=(Jh _ _).grown b9 Of (fun k h=>by cases h);clear d b9;obtain⟨w2,e2,J,V⟩:=A8 w w1 w.heap.size (a.length+1) pa ca a (by omega) hR Of Y HA.o;rw[show a.length+1 - a.length=1 by omega] at J;have d0:=Hd J;have b4:=Hd V;have U:okL (a++List.replicate 1 0):=fun x hx=>by
  rcases Z5.1 hx with h|h
  ·exact b6 x h
  simp at h;omega
 clear hR Y J V
 go_wp2_with fail
 refine (Dh w.heap.size a.length (a.length+1) _ pb cb (a++List.replicate 1 0) b w2 d0.o U (by simp) (by simp;omega) (by omega) a7 rfl (by omega) ?_).mono ?_
 ·intro i hi;obtain⟨c,a8,e,hc,d2⟩:=HB.o i hi;exact⟨c,a8,e,hc,by rw[b4.o.cell (p:=⟨c,a8+i,none⟩) hc];exact d2⟩
 rintro e w3 ⟨c,L,rfl,A,M,E,d7,hc,G,b3⟩;have b7:Up w w3:=b4.o.trans b3;have I:=A.cell a.length (by rw[M];simp);have d8:=A.frozen a.length;have K:Hid (Gw (w3.setCell ⟨w.heap.size,a.length,none⟩ (.int .u32 (c:Nat))) w.heap.size (L.set a.length c)):=A.set _ _;have c6:Hid (Up w (w3.setCell ⟨w.heap.size,a.length,none⟩ (.int .u32 (c:Nat)))):=b7.setCell Of _;have j:Hid (okL (L.set a.length c)/\(L.set a.length c).length=a.length+1/\val (L.set a.length c)=val a+val b):=by
  have hl:L.length=a.length+1:=by rw[M];simp
  refine⟨U4 L E _ _ (by omega),by simp[hl],?_⟩;have h1:=O2 L a.length c (by omega);rw[Jn (by simp[hl])] at h1;rw[h1,G];simp
 clear A M E d7 G b3 b7
 go_wp2_with fail
 obtain⟨W4,b5⟩:=O1 (w3.setCell ⟨w.heap.size,a.length,none⟩ (.int .u32 (c:Nat)));rw[b5] at K c6 ⊢;generalize L.set a.length c=N at K j;have hI:U1 w.heap.size W4 (.slice (some ⟨w.heap.size,0,none⟩) (a.length+1) (a.length+1)) N:=by
  have h:=K.o.isL (B:=w.heap.size) (cap:=a.length+1) Of j.o.1 (by have:=j.o.2.1;omega) (by unfold maxLen;omega);rw[j.o.2.1] at h;exact h
 clear b5 I d8;refine (E0 w.heap.size _ N _ hI).mono ?_;rintro e w5 ⟨v,rfl,hcut,rfl⟩;have HV:Hid (U1 w.heap.size w5 v (Oe N)):=hcut _ _ hI;have HT:Hid (val (Oe N)=val a+val b/\(Oe N).length<=a.length+1/\isTrim (Oe N)):=⟨by rw[O3];exact j.o.2.2,by have:=Ku N;have:=j.o.2.1;omega,trimL_trim _⟩;obtain⟨pv,cv,hv,_⟩:=HV.o;subst hv;clear hcut hI
 go_wp2
 go_ret
 exact⟨_,_,rfl,HV.o,HT.o.1,HT.o.2.1,HT.o.2.2,c6.o⟩
theorem Ar (B:Nat)(va vb:Value)(a b:List Nat)(w:World)(ha:U1 B w va a)(hb:U1 B w vb b)(hla:a.length<=100000)(hlb:b.length<=100000) :
 Calls prog 205 #[va,vb] w fun e w'=>∃ v L,e=.returned v/\U1 w.heap.size w' v L/\val L=val a+val b/\(L.length<=a.length+1∨L.length<=b.length+1)/\isTrim L/\Up w w':=by
 by_cases h:b.length<=a.length
 ·refine (Sw B va vb a b w ha hb hla h).mono ?_;rintro e w' ⟨v,L,d,j,h3,h4,h5⟩;exact⟨v,L,d,j,h3,.inl h4,h5⟩
 refine (Se B vb va b a w hb ha hlb (by omega)).mono ?_;rintro e w' ⟨v,L,d,j,h3,h4,h5⟩;exact⟨v,L,d,j,by rw[h3,Nat.add_comm],.inr h4,h5⟩
theorem EY (x z:Int)(y:Bool)(w:World):(Instr.field 215 (.agg #[.int .i64 x,.bool y,.int .i64 z]) 2).run prog w=.ok (.int .i64 z) w:=by kernel_rfl
theorem Sm (B:Nat)(na nb:Bool)(va vb:Value)(a b:List Nat)(w:World)(ha:U1 B w va a)(hb:U1 B w vb b)(h:SP w) :
 Calls prog 208 #[.agg #[.bool na,va],.agg #[.bool nb,vb]] w fun e w'=>e=.returned (.int .i64 (YZ na nb a b))/\Up w w':=by
 obtain⟨Y,J,rfl,_⟩:=id ha;obtain⟨M,K,rfl,_⟩:=id hb;obtain⟨G,d⟩:=O1 ((w.alloc (.cells #[.bool na,.slice Y a.length J] 162)).alloc (.cells #[.bool nb,.slice M b.length K] 162));have a8:=Hd d;have j:Up w G:=by rw[<-d];exact ((Jh _ w).alloc Of _).alloc (by simp) _
 have b9:G.heap.size=w.heap.size+2:=by rw[<-d];simp
 have HA:Hid (U1 B G (.slice Y a.length J) a):=ha.below j;have HB:Hid (U1 B G (.slice M b.length K) b):=hb.below j;have HS:Hid (SP G):=h.below j;have a7:=Hd j;have HX:Hid (∀ W,Up G W->W.cell? ⟨w.heap.size,0,none⟩=some (.bool na)/\W.cell? ⟨w.heap.size,1,none⟩=some (.slice Y a.length J)/\W.cell? ⟨w.heap.size+1,1,none⟩=some (.slice M b.length K)):=fun W hW=>by
  refine⟨?_,?_,?_⟩
  ·rw[hW.cell (p:=⟨w.heap.size,0,none⟩) (by show w.heap.size<_;omega),<-d,Jt _ _ _ (by simp),Jp _ _ _ _ rfl];rfl
  ·rw[hW.cell (p:=⟨w.heap.size,1,none⟩) (by show w.heap.size<_;omega),<-d,Jt _ _ _ (by simp),Jp _ _ _ _ rfl];rfl
  rw[hW.cell (p:=⟨w.heap.size+1,1,none⟩) (by show w.heap.size+1<_;omega),<-d,Jp _ _ _ _ (by simp)];rfl
 clear ha hb h j d;have b8:=EY
 go_enter func208,ntmps208
 go_wp2_with fail
 rw[a8.o];refine (Ix na nb Y a.length J M b.length K G HS.o).mono ?_;rintro e Z ⟨rfl,A⟩;obtain⟨x0,x1,x2⟩:=HX.o Z A;have V:Hid (U1 B Z (.slice Y a.length J) a):=HA.o.below A;have U:Hid (U1 B Z (.slice M b.length K) b):=HB.o.below A;have E:Hid (Up w Z):=a7.o.trans (A.mono (by omega));clear A HA HB HS HX
 cases na<;>cases nb
 case' _=>
  have I:Hid (YZ false false a b=El a b):=rfl;simp only[S2,Sh,if_true]
  go_wp2_with fail
  refine (Ed B _ _ a b _ V.o U.o).mono ?_
 rotate_left
 ·have I:Hid (YZ false true a b=1):=rfl;simp only[S2,Sh]
  go_wp2
  go_ret
  exact⟨K5 I.o.symm,E.o⟩
 ·have I:Hid (YZ true false a b = -1):=rfl;simp only[S2,Sh]
  go_wp2
  go_ret
  exact⟨K5 I.o.symm,E.o⟩
 case' _=>
  have I:Hid (YZ true true a b=El b a):=rfl;simp only[S2,Sh,if_true]
  go_wp2_with fail
  refine (Ed B _ _ b a _ U.o V.o).mono ?_
 rotate_left
 all_goals
  rintro e w2 ⟨rfl,O⟩;have b3:=E.up O;clear O
  go_wp2
  go_ret
  exact⟨K5 I.o.symm,b3.o⟩
end Go.Proofs.YtipgjenolpofpaaGreatDoor.Q
namespace Go.Proofs.YtipgjenolpofpaaGreatDoor.Q
open Go.ChangeShapes Go.WideShapes Go.ChangeAt Go.RowKit
def Gt (B:Nat)(w:World)(z:Value)(x:Int)(n:Nat):Prop:=∃ neg v t,z=.agg #[.bool (U0 neg t),v]/\U1 B w v t/\isTrim t/\sg neg (val t)=x/\t.length<=n
structure BoxI (g:Nat)(W:World)(x:Bool)(pa:Option Addr)(la ca:Nat)(y:Bool)(pb:Option Addr)(lb cb:Nat):Prop where
 a0:W.cell? ⟨g,0,none⟩=some (.bool x)
 a1:W.cell? ⟨g,1,none⟩=some (.slice pa la ca)
 b0:W.cell? ⟨g+1,0,none⟩=some (.bool y)
 b1:W.cell? ⟨g+1,1,none⟩=some (.slice pb lb cb)
 r0:W.cell? ⟨g+2,0,none⟩=some (.bool false)
 r1:W.cell? ⟨g+2,1,none⟩=some (.slice none 0 0)
 f:∀ k,k<3->∀ i,W.frozen? ⟨g+k,i,none⟩=false
theorem BoxI.below {g:Nat}{W W':World}{x:Bool}{pa:Option Addr}{la ca:Nat}{y:Bool}{pb:Option Addr}{lb cb:Nat}(h:BoxI g W x pa la ca y pb lb cb){N:Nat}(hN:g+3<=N)(hb:Below N W W'):BoxI g W' x pa la ca y pb lb cb:=by
 have q:∀ k,k<3->∀ i,W'.cell? ⟨g+k,i,none⟩=W.cell? ⟨g+k,i,none⟩:=fun k hk i=>hb.cell (p:=⟨g+k,i,none⟩) (by show g+k<N;omega);have f:∀ k,k<3->∀ i,W'.frozen? ⟨g+k,i,none⟩=W.frozen? ⟨g+k,i,none⟩:=fun k hk i=>hb.frozen (p:=⟨g+k,i,none⟩) (by show g+k<N;omega);exact⟨(q 0 (by omega) 0).trans h.a0,(q 0 (by omega) 1).trans h.a1,(q 1 (by omega) 0).trans h.b0,(q 1 (by omega) 1).trans h.b1,(q 2 (by omega) 0).trans h.r0,(q 2 (by omega) 1).trans h.r1,fun k hk i=>(f k hk i).trans (h.f k hk i)⟩
theorem UD (a b:List Nat)(ha:okL a)(hb:okL b)(ta:isTrim a)(tb:isTrim b)(hcm:0<=El a b):b.length<=a.length/\val b<=val a:=by
 have h:=Ga a b ha hb ta tb;have d:=hcm;rw[h] at d;refine⟨?_,?_⟩
 ·unfold El at hcm
  by_cases h3:a.length<b.length
  ·simp[h3] at hcm<;>omega
  by_cases h4:b.length<a.length
  ·simp[h3,h4] at hcm<;>omega
  omega
 unfold Bd at d
 split at d<;>(try split at d)<;>omega
end Go.Proofs.YtipgjenolpofpaaGreatDoor.Q
namespace Go.Proofs.YtipgjenolpofpaaGreatDoor.Q
open Go.ChangeShapes Go.WideShapes Go.ChangeAt Go.RowKit Go.Proofs.Tryz
theorem Gt.below {B:Nat}{w w':World}{z:Value}{x:Int}{n:Nat}(h:Gt B w z x n)(hb:Up w w'):Gt B w' z x n:=by
 obtain⟨neg,v,t,d,j,h3⟩:=h;exact⟨neg,v,t,d,j.below hb,h3⟩
theorem Gt.mono {B B':Nat}{w:World}{z:Value}{x:Int}{n n':Nat}(h:Gt B w z x n)(hb:B'<=B)(hn:n<=n'):Gt B' w z x n':=by
 obtain⟨neg,v,t,d,j,h3,h4,h5⟩:=h;exact⟨neg,v,t,d,j.mono hb,h3,h4,by omega⟩
theorem Te (B:Nat)(z:Value)(x:Int)(n:Nat)(w:World)(h:Gt B w z x n) :
 Calls prog 188 #[z] w fun e w'=>∃ z',e=.returned z'/\Gt B w' z' (-x) n/\Up w w':=by
 obtain⟨neg,v,t,rfl,M,Y,V,hl⟩:=h;obtain⟨p,c,rfl,_⟩:=id M;obtain⟨s,O⟩:=O1 (U0 neg t);have HX:Hid (sg (!s) (val t) = -x):=by
  unfold Hid
  rw[<-O,OW,Hj,V]
 have U:Hid (∀ W,Up w W->U1 B W (.slice p t.length c) t):=fun W hW=>M.below hW;have HT:Hid (isTrim t/\t.length<=n):=⟨Y,hl⟩;obtain⟨j,d⟩:=O1 ((w.alloc (.cells #[.bool s,.slice p t.length c] 162)).alloc (.cells #[.bool false,.slice none 0 0] 162));have K:=Ec d;have I:Hid (Up w j):=by rw[<-d];exact Om (Oy _ _) _
 have J:j.heap.size=w.heap.size+2:=by rw[<-d];simp
 have HR:Hid (∀ W,Up j W->(W.cell? ⟨w.heap.size+1,0,none⟩=some (.bool false)/\W.cell? ⟨w.heap.size+1,1,none⟩=some (.slice none 0 0)/\W.frozen? ⟨w.heap.size+1,0,none⟩=false/\W.frozen? ⟨w.heap.size+1,1,none⟩=false)/\W.cell? ⟨w.heap.size,0,none⟩=some (.bool s)/\W.cell? ⟨w.heap.size,1,none⟩=some (.slice p t.length c)):=fun W hW=>by
  have q:∀ k,k<2->∀ i,W.cell? ⟨w.heap.size+k,i,none⟩=j.cell? ⟨w.heap.size+k,i,none⟩:=fun k hk i=>hW.cell (p:=⟨w.heap.size+k,i,none⟩) (by show w.heap.size+k<j.heap.size;omega);have f:∀ i,W.frozen? ⟨w.heap.size+1,i,none⟩=j.frozen? ⟨w.heap.size+1,i,none⟩:=fun i=>hW.frozen (p:=⟨w.heap.size+1,i,none⟩) (by show w.heap.size+1<j.heap.size;omega);refine⟨⟨?_,?_,?_,?_⟩,?_,?_⟩
  ·rw[q 1 (by omega),<-d,Jp _ _ _ _ (by simp)];rfl
  ·rw[q 1 (by omega),<-d,Jp _ _ _ _ (by simp)];rfl
  ·rw[f,<-d,J7 _ _ _ _ (by simp)]
  ·rw[f,<-d,J7 _ _ _ _ (by simp)]
  ·refine (q 0 (by omega) 0).trans ?_;rw[<-d,Jt _ _ _ (by simp),Jp _ _ _ _ (by simp)];rfl
  refine (q 0 (by omega) 1).trans ?_;rw[<-d,Jt _ _ _ (by simp),Jp _ _ _ _ (by simp)];rfl
 have b9:=Hd J;rw[O];clear O V Y hl M d J
 go_enter func188,ntmps188
 go_wp2_with fail
 rw[K.o];refine (Kc B _ _ t _ (U.o _ I.o)).mono ?_;rintro e w2 ⟨v',rfl,hcut,A⟩;have G:=I.up A;have E:Hid (∀ W,Up w W->U1 B W v' (Oe t)):=fun W hW=>hcut _ _ (U.o _ hW);obtain⟨⟨r0,r1,f0,f1⟩,_,_⟩:=HR.o w2 A;obtain⟨pw,cw,hw,_⟩:=E.o _ G.o;subst hw;clear hcut A
 go_wp2
 have Z:Up w ((w2.setCell ⟨w.heap.size+1,0,none⟩ (.bool (U0 (!s) (Oe t)))).setCell ⟨w.heap.size+1,1,none⟩ (.slice pw (Oe t).length cw)):=(G.o.setCell (by simp) _).setCell (by simp) _;refine Jj ?_ rfl ⟨_,rfl,⟨!s,_,Oe t,rfl,E.o _ Z,trimL_trim _,by rw[O3];exact HX.o,by have:=Ku t;have:=HT.o.2;omega⟩,Z⟩;simp[results,results188,go_sem,r0,r1]
end Go.Proofs.YtipgjenolpofpaaGreatDoor.Q
namespace Go.Proofs.YtipgjenolpofpaaGreatDoor.Q
open Go.ChangeShapes Go.WideShapes Go.ChangeAt Go.RowKit
theorem Gt.shape {B:Nat}{w:World}{z:Value}{x:Int}{n:Nat}(h:Gt B w z x n):∃ (s:Bool) (p:Option Addr) (l c:Nat),z=.agg #[.bool s,.slice p l c]:=by
 obtain⟨neg,v,t,rfl,⟨p,c,rfl,_⟩,_⟩:=h;exact⟨_,_,_,_,rfl⟩
theorem Gt.setCell {B:Nat}{w:World}{z:Value}{x:Int}{n:Nat}(h:Gt B w z x n)(p:Addr)(u:Value)(hp:p.block<B):Gt B (w.setCell p u) z x n:=by
 obtain⟨neg,v,t,d,j,h3⟩:=h;exact⟨neg,v,t,d,j.setCell p u hp,h3⟩
end Go.Proofs.YtipgjenolpofpaaGreatDoor.Q
namespace Go.Proofs.YtipgjenolpofpaaGreatDoor.Q
open Go.ChangeShapes Go.WideShapes Go.ChangeAt Go.RowKit Go.Proofs.Tryz
theorem I1 (s:ByteArray)(h:isIntB s=true):(lim s).length<=280:=by
 have A:(dgs s).size<=2500:=by
  by_cases d:2500<(dgs s).size
  ·rw[Xd s _ rfl d] at h;cases h
  omega
 have h3:=Ku (Et (dgs s).data.toList);have h4:(Et (dgs s).data.toList).length=Qh (dgs s).data.toList.length:=by simp[Et]
 have h5:(dgs s).data.toList.length=(dgs s).size:=by simp
 unfold lim;rw[h4,h5] at h3;have j:Qh (dgs s).size<=280:=by unfold Qh;omega
 omega
theorem Ps (B:Nat)(z:Value)(x:Int)(n:Nat)(w:World)(h:Gt B w z x n)(hn:n<=600)(hLT:LT w) :
 Calls prog 191 #[z] w fun e w'=>∃ u,e=.returned (.string u)/\Ef x u/\Up w w':=by
 obtain⟨neg,v,t,rfl,j,A,E,hl⟩:=h;have d:okL t:=by obtain⟨_,_,_,_,_,h,_⟩:=j;exact h
 refine (XQ B _ v t w j (by omega) hLT).mono ?_;rintro e w' ⟨rfl,hb⟩;exact⟨_,rfl,⟨neg,t,d,A,E,rfl⟩,hb⟩
end Go.Proofs.YtipgjenolpofpaaGreatDoor.Q
namespace Go.Proofs.YtipgjenolpofpaaGreatDoor.Q
open Go.ChangeShapes Go.WideShapes Go.ChangeAt Go.RowKit
def Ny (x y q r:Int):Prop:=x=q*y+r/\0<=r/\r<y.natAbs
theorem Ru (u b:List Nat)(hu:isTrim u)(hb:okL b)(h:val u<val b):u.length<=b.length:=by
 by_cases d:u=[]
 ·rw[d];exact Jy _
 have A:=Xe u hu d;have E:=Gu b hb;apply Z0;intro j;have h3:1000000000 ^ b.length<=1000000000 ^ (u.length - 1):=Yu (by decide) (by omega);omega
theorem Mn (t:Bool)(va vb Q U:Nat)(h:va=Q*vb+U)(hU:U<vb):Ny (sg false va) (sg t vb) (sg (false != t) Q) (sg false U):=by
 refine⟨?_,?_,?_⟩
 ·rw[h]
  cases t<;>simp[sg,Int.neg_mul_neg]
 ·simp[sg]
 cases t<;>simp[sg]<;>omega
theorem Cg (t:Bool)(va vb Q:Nat)(h:va=Q*vb+0)(hU:0<vb):Ny (sg true va) (sg t vb) (sg (true != t) Q) (sg false 0):=by
 refine⟨?_,?_,?_⟩
 ·rw[h]
  cases t<;>simp[sg,Int.neg_mul,Int.mul_neg]
 ·simp[sg]
 cases t<;>simp[sg]<;>omega
theorem Pr (t:Bool)(va vb Q U V:Nat)(h:va=Q*vb+U)(hV:V+U=vb)(hU:0<U):Ny (sg true va) (sg t vb) (sg (true != t) (Q+1)) (sg false V):=by
 refine⟨?_,?_,?_⟩
 ·rw[h,<-hV]
  cases t<;>simp[sg]<;>grind
 ·simp[sg]
 cases t<;>simp[sg]<;>omega
theorem Pi {x y q r q' r':Int}(h:Ny x y q r)(h':Ny x y q' r'):q=q'/\r=r':=by
 obtain⟨E,G,h3⟩:=h;obtain⟨d,k2,k3⟩:=h';have e:(q - q')*y=r' - r:=by
  have:=E.symm.trans d;rw[Int.sub_mul];omega
 have j:q - q'=0:=by
  apply Classical.byContradiction;intro A;have h4:(r' - r).natAbs<y.natAbs:=by omega
  rw[<-e,Int.natAbs_mul] at h4;have h5:1*y.natAbs<=(q - q').natAbs*y.natAbs:=Yh _ (by omega);omega
 rw[j,Int.zero_mul] at e;exact⟨by omega,by omega⟩
def Ej (w:World)(g:Nat):Prop:=∀ i x,w.cell? ⟨g,i,none⟩≠some (.int .u32 x)
def Kq (g h:Nat)(w W:World):Prop:=w.heap.size<=W.heap.size/\∀ b,b≠g->b≠h->W.heap[b]? = w.heap[b]?
theorem Kq.refl (g h:Nat)(w:World):Kq g h w w:=⟨Of,fun _ _ _=>rfl⟩
theorem Kq.setCell {g h:Nat}{w W:World}(k:Kq g h w W)(p:Addr)(u:Value)(hp:p.block=g∨p.block=h):Kq g h w (W.setCell p u):=by
 refine⟨by simpa using k.1,fun b h1 h2=>Eq.trans ?_ (k.2 b h1 h2)⟩
 show (W.heap.modify p.block _)[b]? = _
 rw[Array.getElem?_modify,if_neg (by rcases hp with e|e<;>omega)]
theorem U1.keeps {B:Nat}{w W:World}{v:Value}{l:List Nat}{g h:Nat}(hl:U1 B w v l)(n1:Ej w g)(n2:Ej w h)(k:Kq g h w W):U1 B W v l:=by
 obtain⟨a,cap,rfl,O,U,j,A⟩:=hl;refine⟨a,cap,rfl,O,U,j,?_⟩
 by_cases d:l=[]
 ·exact .inl d
 rcases A with A|⟨b,E,rfl,M,G,hc⟩
 ·exact .inl A
 have K:0<l.length:=by
  apply Yp;intro e;exact d (Jv e)
 have c0:=hc 0 K;have I:b≠g:=by rintro rfl;exact n1 _ _ c0
 have J:b≠h:=by rintro rfl;exact n2 _ _ c0
 refine .inr ⟨b,E,rfl,M,Jz G k.1,fun i hi=>?_⟩;rw[<-hc i hi];unfold World.cell?;rw[k.2 b I J]
structure BoxD (g:Nat)(W:World)(x:Bool)(pa:Option Addr)(la ca:Nat)(y:Bool)(pb:Option Addr)(lb cb:Nat):Prop where
 a0:W.cell? ⟨g,0,none⟩=some (.bool x)
 a1:W.cell? ⟨g,1,none⟩=some (.slice pa la ca)
 b0:W.cell? ⟨g+1,0,none⟩=some (.bool y)
 b1:W.cell? ⟨g+1,1,none⟩=some (.slice pb lb cb)
 r0:W.cell? ⟨g+2,0,none⟩=some (.bool false)
 r1:W.cell? ⟨g+2,1,none⟩=some (.slice none 0 0)
 t0:W.cell? ⟨g+3,0,none⟩=some (.bool false)
 t1:W.cell? ⟨g+3,1,none⟩=some (.slice none 0 0)
 f:∀ k,k<4->∀ i,W.frozen? ⟨g+k,i,none⟩=false
 z:∀ k,k<4->Ej W (g+k)
theorem BoxD.below {g:Nat}{W W':World}{x:Bool}{pa:Option Addr}{la ca:Nat}{y:Bool}{pb:Option Addr}{lb cb:Nat}(h:BoxD g W x pa la ca y pb lb cb){N:Nat}(hN:g+4<=N)(hb:Below N W W'):BoxD g W' x pa la ca y pb lb cb:=by
 have q:∀ k,k<4->∀ i,W'.cell? ⟨g+k,i,none⟩=W.cell? ⟨g+k,i,none⟩:=fun k hk i=>hb.cell (p:=⟨g+k,i,none⟩) (by show g+k<N;omega);have f:∀ k,k<4->∀ i,W'.frozen? ⟨g+k,i,none⟩=W.frozen? ⟨g+k,i,none⟩:=fun k hk i=>hb.frozen (p:=⟨g+k,i,none⟩) (by show g+k<N;omega);exact⟨(q 0 (by omega) 0).trans h.a0,(q 0 (by omega) 1).trans h.a1,(q 1 (by omega) 0).trans h.b0,(q 1 (by omega) 1).trans h.b1,(q 2 (by omega) 0).trans h.r0,(q 2 (by omega) 1).trans h.r1,(q 3 (by omega) 0).trans h.t0,(q 3 (by omega) 1).trans h.t1,fun k hk i=>(f k hk i).trans (h.f k hk i),fun k hk i x e=>h.z k hk i x ((q k hk i).symm.trans e)⟩
theorem OJ (w:World)(x:Bool)(pa:Option Addr)(la ca:Nat)(y:Bool)(pb:Option Addr)(lb cb:Nat)(ty:TypeId) :
 BoxD w.heap.size ((((w.alloc (.cells #[.bool x,.slice pa la ca] ty)).alloc (.cells #[.bool y,.slice pb lb cb] ty)).alloc (.cells #[.bool false,.slice none 0 0] ty)).alloc (.cells #[.bool false,.slice none 0 0] ty)) x pa la ca y pb lb cb:=by
 refine⟨?_,?_,?_,?_,?_,?_,?_,?_,?_,?_⟩
 case' _=>
  skip
 rotate_left
 case' _=>
  skip
 rotate_left
 ·rw[Jt _ _ _ (by simp<;>omega),Jt _ _ _ (by simp),Jp _ _ _ _ (by simp)];rfl
 ·rw[Jt _ _ _ (by simp<;>omega),Jt _ _ _ (by simp),Jp _ _ _ _ (by simp)];rfl
 ·rw[Jt _ _ _ (by simp),Jp _ _ _ _ (by simp)];rfl
 ·rw[Jt _ _ _ (by simp),Jp _ _ _ _ (by simp)];rfl
 ·rw[Jp _ _ _ _ (by simp)];rfl
 ·rw[Jp _ _ _ _ (by simp)];rfl
 ·intro k h i
  match k,h with
  | 0,_=>rw[Yq _ _ _ (by simp<;>omega),Yq _ _ _ (by simp<;>omega),Yq _ _ _ (by simp),J7 _ _ _ _ (by simp)]
  | 1,_=>rw[Yq _ _ _ (by simp<;>omega),Yq _ _ _ (by simp),J7 _ _ _ _ (by simp)]
  | 2,_=>rw[Yq _ _ _ (by simp),J7 _ _ _ _ (by simp)]
  | 3,_=>rw[J7 _ _ _ _ (by simp)]
 ·have d:∀ (p q:Value) (i:Nat) (x:Int),(∀ x,p≠.int .u32 x)->(∀ x,q≠.int .u32 x)->(#[p,q]:Array Value)[i]? ≠ some (.int .u32 x):=fun p q i x hp hq=>by
   match i with
   | 0=>simpa using hp x
   | 1=>simpa using hq x
   | i+2=>simp
  intro k h i x
  match k,h with
  | 0,_=>
    rw[Jt _ _ _ (by simp<;>omega),Jt _ _ _ (by simp<;>omega),Jt _ _ _ (by simp),Jp _ _ _ _ (by simp)];exact d _ _ i x (by simp) (by simp)
  | 1,_=>
    rw[Jt _ _ _ (by simp<;>omega),Jt _ _ _ (by simp<;>omega),Jp _ _ _ _ (by simp)];exact d _ _ i x (by simp) (by simp)
  | 2,_=>
    rw[Jt _ _ _ (by simp<;>omega),Jp _ _ _ _ (by simp)];exact d _ _ i x (by simp) (by simp)
  | 3,_=>
    rw[Jp _ _ _ _ (by simp)];exact d _ _ i x (by simp) (by simp)
 all_goals rw[Jt _ _ _ (by simp<;>omega),Jt _ _ _ (by simp<;>omega),Jt _ _ _ (by simp),Jp _ _ _ _ rfl];rfl
structure SD (a b R Q:List Nat)(j:Nat):Prop where
 le:j<=a.length
 qlen:Q.length=a.length
 qok:okL Q
 low:∀ i,i<j->Q.getD i 0=0
 rok:okL R
 rlen:R.length<=b.length
 eq:Ek a j=Ek Q j*val b+val R
 lt:val R<val b
theorem SD.window {a b R Q:List Nat}{i x:Nat}(h:SD a b R Q (i+1))(hx:x<1000000000):val (x::R)<val b*1000000000:=Mz x (val R) (val b) hx h.lt
theorem FD (Va Vq vb r x q r':Nat)(h:Va=Vq*vb+r)(hX:x+1000000000*r=q*vb+r'):Va*1000000000+x=(Vq*1000000000+q)*vb+r':=by
 have e:(Vq*1000000000+q)*vb+r'=Vq*vb*1000000000+(q*vb+r'):=by grind
 rw[e,<-hX,h]
 grind
theorem SD.put {a b R Q:List Nat}{i:Nat}(h:SD a b R Q (i+1)){q:Nat}{R':List Nat}(hq:q<1000000000)(hX:val (a.getD i 0::R)=q*val b+val R')(hlt:val R'<val b)(hok:okL R')(htr:isTrim R')(hb:okL b):SD a b R' (Q.set i q) i:=by
 have d:=h.le;refine⟨by omega,by simp[h.qlen],U4 Q h.qok i q hq,fun j hj=>?_,hok,Ru R' b htr hb hlt,?_,hlt⟩
 ·rw[D3 _ _ _ _ (by omega)];exact h.low j (by omega)
 rw[H8 a i (by omega),Pj Q i q (by have:=h.qlen;omega)];exact FD _ _ _ _ _ q _ h.eq (by simpa[val] using hX)
theorem QK (Q:List Nat)(i:Nat)(h:Q.getD i 0=0):Q.set i 0=Q:=by
 by_cases d:i<Q.length
 ·have e:Q[i]=0:=by rw[Jk,Jf d] at h;exact h
  rw[<-e,List.set_getElem_self]
 exact List.set_eq_of_length_le (by omega)
theorem SD.cont {a b R Q:List Nat}{i:Nat}(h:SD a b R Q (i+1))(hlt:val (Oe (a.getD i 0::R))<val b)(hx:a.getD i 0<1000000000)(hb:okL b):SD a b (Oe (a.getD i 0::R)) Q i:=by
 have d:=h.put (q:=0) (R':=Oe (a.getD i 0::R)) (by omega) (by rw[O3,Vs,Y3]) hlt (trimL_ok _ (fun y hy=>by
  rcases Vx.1 hy with e|e
  ·omega
  ·exact h.rok y e)) (trimL_trim _) hb
 rw[QK Q i (h.low i (by omega))] at d;exact d
theorem XN (a b:List Nat)(ha:okL a)(hb:isTrim b)(hne:b≠[]):SD a b (a.drop (a.length+1 - b.length)) (List.replicate a.length 0) (a.length+1 - b.length):=by
 have d:0<b.length:=by
  apply Yp;intro e;exact hne (Jv e)
 refine⟨by omega,by simp,fun x hx=>by rw[Yr hx];omega,fun i hi=>?_,X6 a ha _,by simp;omega,?_,?_⟩
 ·simp[List.getD_eq_getElem?_getD,List.getElem?_replicate]
  split<;>rfl
 ·have e:Ek (List.replicate a.length 0) (a.length+1 - b.length)=0:=by unfold Ek;simp[G4]
  rw[e,Vs,Y3];rfl
 have h:=N1 (a.drop (a.length+1 - b.length)) (X6 a ha _) (b.length - 1) (by simp;omega);have j:=Xe b hb hne;omega
def Gm (vb X lo hi:Nat):Prop:=lo<=hi/\hi<=999999999/\lo*vb<=X/\X<(hi+1)*vb
theorem Qw (vb X:Nat)(h:X<vb*1000000000):Gm vb X 0 999999999:=⟨by omega,by omega,by rw[Vs];omega,by omega⟩
theorem C8 {vb X lo hi:Nat}(h:Gm vb X lo hi)(hlt:lo<hi)(hc:(lo+hi+1) / 2*vb<=X):Gm vb X ((lo+hi+1) / 2) hi:=⟨by omega,h.2.1,hc,h.2.2.2⟩
theorem Pn {vb X lo hi:Nat}(h:Gm vb X lo hi)(hlt:lo<hi)(hc:X<(lo+hi+1) / 2*vb):Gm vb X lo ((lo+hi+1) / 2 - 1):=by
 refine⟨by omega,by have:=h.2.1;omega,h.2.2.1,?_⟩;rw[show (lo+hi+1) / 2 - 1+1=(lo+hi+1) / 2 by omega];exact hc
def Hc (base:Nat)(W:World)(v:Value)(R:List Nat):Prop:=
 okL R/\((v=.slice none 0 0/\R=[])∨∃ g cap,v=.slice (some ⟨g,0,none⟩) R.length cap/\base<=g/\g<W.heap.size/\R.length<=cap/\cap<=maxLen/\∀ i,i<R.length->W.cell? ⟨g,i,none⟩=some (.int .u32 (R.getD i 0:Nat)))
theorem Hc.isL {base:Nat}{W:World}{v:Value}{R:List Nat}(h:Hc base W v R):U1 base W v R:=by
 obtain⟨d,⟨rfl,rfl⟩|⟨g,cap,rfl,hb,j,hl,A,hc⟩⟩:=h
 ·exact⟨none,0,rfl,Of,(by unfold maxLen;omega),d,.inl rfl⟩
 exact⟨_,cap,rfl,hl,A,d,.inr ⟨g,0,rfl,hb,j,fun i hi=>by rw[Y3];exact hc i hi⟩⟩
theorem Hc.below {base:Nat}{W W':World}{v:Value}{R:List Nat}(h:Hc base W v R)(hb:Up W W'):Hc base W' v R:=by
 obtain⟨d,h|⟨g,cap,E,A,j,h3,h4,hc⟩⟩:=h
 ·exact⟨d,.inl h⟩
 exact⟨d,.inr ⟨g,cap,E,A,Jz j hb.size,h3,h4,fun i hi=>(hb.cell (p:=⟨g,i,none⟩) j).trans (hc i hi)⟩⟩
theorem Hc.setCell {base:Nat}{W:World}{v:Value}{R:List Nat}(h:Hc base W v R)(p:Addr)(u:Value)(hp:p.block<base):Hc base (W.setCell p u) v R:=by
 obtain⟨d,h|⟨g,cap,E,j,A,h3,h4,hc⟩⟩:=h
 ·exact⟨d,.inl h⟩
 refine⟨d,.inr ⟨g,cap,E,j,by simpa using A,h3,h4,fun i hi=>?_⟩⟩;rw[<-hc i hi];exact Vf (Jq W p u g (by omega))
theorem Hc.of_owns {base e:Nat}{W:World}{v:Value}{R:List Nat}(h:W.ownsRow base e 1 v R.length (Nb R))(hok:okL R):Hc base W v R:=by
 have j:=fun g hg=>h.cells (g:=g) hg;have A:=h.lt;obtain⟨_,h⟩:=h
 rcases h with⟨rfl,hn⟩|⟨g,cap,G,rfl,I,E,hn,d,_,_⟩
 ·exact⟨hok,.inl ⟨rfl,Jv hn⟩⟩
 refine⟨hok,.inr ⟨g,cap,rfl,I,(A g rfl).2,hn,d,fun i hi=>?_⟩⟩;have:=j g rfl i (.int .u32 (R.getD i 0:Nat)) (by rw[Y2];simp[List.getD_eq_getElem?_getD,hi])
 by_cases i0:i=0
 ·subst i0;simpa[Addr.add] using this
 simpa[Addr.add,i0] using this
theorem Hc.cut {base g cap:Nat}{W:World}{N:List Nat}(hg:base<=g)(hlt:g<W.heap.size)(hm:cap<=maxLen)(hok:okL N)(hl:N.length<=cap)(hc:∀ i,i<N.length->W.cell? ⟨g,i,none⟩=some (.int .u32 (N.getD i 0:Nat)))(k:Nat)(hk:k<=N.length)(he:Oe N=N.take k) :
 Hc base W (.slice (some ⟨g,0,none⟩) k cap) (Oe N):=by
 have d:(Oe N).length=k:=by rw[he,J3];omega
 refine⟨trimL_ok N hok,.inr ⟨g,cap,by rw[d],hg,hlt,by omega,hm,fun i hi=>?_⟩⟩;rw[hc i (by omega),Xy N i hi]
end Go.Proofs.YtipgjenolpofpaaGreatDoor.Q
