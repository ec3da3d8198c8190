import Derived.Test.YtjjgilacnocigaaGreatDoorP23
import Derived.Lib.FrozenHead
import Derived.Lib.OthersKept
import Derived.Lib.Builder
set_option maxRecDepth 100000
set_option maxHeartbeats 8000000
namespace Go.Proofs.YtjjgilacnocigaaGreatDoor
open ChangeShapes WideShapes ChangeAt RowKit Proofs.Tryz
def Wt (k:SK):Prop:=k.kind=4->0<k.width/\k.width<=64
def Ex (ki ke:SK)(w:World)(v:Value)(L:List Kd):Prop:=
 ∃ p c,v=.slice p L.length c/\L.length<=c/\c<=maxLen/\(L=[]∨∃ b,p=some ⟨b,0,none⟩/\b<w.heap.size/\∀ i (h:i<L.length),∃ x y,w.cell? ⟨b,i*2,none⟩=some x/\w.cell? ⟨b,i*2+1,none⟩=some y/\PV ki w x L[i].1/\PV ke w y L[i].2)
theorem Ex.next {ki ke:SK}{w w':World}{v:Value}{L:List Kd}(h:Ex ki ke w v L)(hb:Up w w'):Ex ki ke w' v L:=by
 obtain⟨p,c,rfl,D,E,h3⟩:=h;refine⟨p,c,rfl,D,E,?_⟩
 rcases h3 with h3|⟨b,e,hl,F⟩
 ·exact .inl h3
 refine .inr ⟨b,e,Js hl hb.size,fun i hi=>?_⟩;obtain⟨x,y,d,j,h4,h5⟩:=F i hi;exact⟨x,y,(hb.cell (p:=⟨b,i*2,none⟩) hl).trans d,(hb.cell (p:=⟨b,i*2+1,none⟩) hl).trans j,h4.next hb,h5.next hb⟩
theorem F4 (k:SK)(x y u:Value)(s t:ByteArray)(w:World)(hs:PV k w x s)(ht:PV k w u t)(hk:Wt k)(hT:VT w) :
 Calls prog 94 #[.agg #[x,y],u] w fun e w'=>∃ c,e=.returned (.int .i64 c)/\Wj k s t c/\Up w w':=by
 obtain⟨F,d⟩:=O2 (w.alloc (.cells #[x,y] 79));have j:Up w F:=by rw[<-d];exact Oo _ _
 have H:Bx F w.heap.size [x,y]:=by rw[<-d];exact Ox w _ _
 have J:=Hd (I5 k x u s t F (hs.next j) (ht.next j) hk (hT.next j));have c0:=H.cell 0;have I:=Hd j;have O:=Hd d;clear j H d hs ht hk hT
 go_in
 go_upto_region 1 with fail
 rw[O.o]
 go_wp2_with fail
 refine J.o.mono ?_;rintro e T ⟨c,rfl,G,D⟩;have K:=Hd G;have E:=I.up D;clear G D
 go_wp2
 go_ret
 exact⟨c,rfl,K.o,E.o⟩
def OZ (ki:SK)(L:List Kd)(t:ByteArray)(p:Nat)(found:Bool):Prop:=
 p<=L.length/\(∀ q (h:q<L.length),q<p->key ki L[q].1<key ki t)/\(∀ q (h:q<L.length),p<=q->key ki t<=key ki L[q].1)/\(found=true↔∃ h:p<L.length,L[p].1=t)
def JC (ki:SK)(L:List Kd)(t:ByteArray)(i j:Nat):Prop:=
 i<=j/\j<=L.length/\(∀ q (h:q<L.length),q<i->key ki L[q].1<key ki t)/\(∀ q (h:q<L.length),j<=q->key ki t<=key ki L[q].1)
theorem Mv {ki:SK}{L:List Kd}(hs:L.Pairwise fun e f=>key ki e.1<key ki f.1){p q:Nat}(hp:p<L.length)(hq:q<L.length)(h:p<=q):key ki L[p].1<=key ki L[q].1:=by
 rcases Nat.lt_or_eq_of_le h with h|h
 ·have:=Zl.1 hs p q hp hq h;omega
 subst h;exact Int.le_refl _
theorem OG (ki ke:SK)(v u:Value)(L:List Kd)(t:ByteArray)(w:World)(h:Ex ki ke w v L)(hs:L.Pairwise fun e f=>key ki e.1<key ki f.1)(ht:PV ki w u t)(hk:Wt ki)(hK:Gm ki)(hT:VT w)(hn:L.length<=1000) :
 Calls prog 93 #[v,u,.func (.func 94) #[] #[]] w fun e w'=>∃ p found,e=.returned (.tuple #[.int .i64 (p:Nat),.bool found])/\OZ ki L t p found/\Up w w':=by
 have HE:=Hd h;have HP:=Hd ht;have HT:=Hd hT;obtain⟨p,c,rfl,d3,d4,b6⟩:=h;have a8:Hid (0<L.length->∃ b,p=some ⟨b,0,none⟩/\∀ W,Up w W->∀ i (h:i<L.length),∃ x y,W.cell? ⟨b,i*2,none⟩=some x/\W.cell? ⟨b,i*2+1,none⟩=some y/\PV ki W x L[i].1):=by
  intro h0
  rcases b6 with rfl|⟨b,e,hl,V⟩
  ·simp at h0
  refine⟨b,e,fun W hb i hi=>?_⟩;obtain⟨x,y,e1,e2,h4,_⟩:=V i hi;exact⟨x,y,(hb.cell (p:=⟨b,i*2,none⟩) hl).trans e1,(hb.cell (p:=⟨b,i*2+1,none⟩) hl).trans e2,h4.next hb⟩
 obtain⟨n,U⟩:=O2 L.length;have HN:=Hd U;rw[U] at d3 hn;rw[U];have HS:=Hd hs;unfold maxLen at d4;clear b6 ht hT hs U
 go_in
 go_wp2
 go_loopw [9,10] (fun vi vj W=>∃ (a b:Int) (i j:Nat),vi=.int .i64 a/\vj=.int .i64 b/\Hid (a=(i:Nat)/\b=(j:Nat))/\Hid (JC ki L t i j)/\0<=a/\a<=b/\b<=(n:Nat)/\Hid (Up w W)) (fun vi vj _=>((intOf vj) - (intOf vi)).toNat)
 case atStart=>
  refine⟨0,(n:Nat),0,n,rfl,rfl,⟨rfl,rfl⟩,⟨J7 _,by rw[HN.o];exact O1,fun q _ h=>absurd h (Ve _),fun q h h2=>?_⟩,by omega,by omega,by omega,Jj _ _⟩;rw[HN.o] at h;omega
 obtain⟨a,b,i,j,rfl,rfl,d,hm,h0,h1,h2,hb⟩:=hrel
 by_cases b9:a<b
 ·obtain⟨k,d6⟩:∃ k:Nat,k=(i+j) / 2:=⟨_,rfl⟩;obtain⟨m,e4⟩:∃ m:Int,(a+b) / 2=m:=⟨_,rfl⟩;have c6:m=(k:Nat):=by have:=d.o;omega
  have b8:i<=k/\k<j:=by have:=d.o;omega
  have E:k<L.length:=by have:=hm.o.2.1;omega
  obtain⟨bk,rfl,D⟩:=a8.o (by omega);obtain⟨x,y,e1,e2,hx⟩:=D wr hb.o k E;have O:m.toNat=k:=by omega
  rw[<-O] at e1 e2;obtain⟨r,F⟩:=O2 (L[k].1);rw[F] at hx;have HR:Hid (∃ h:k<L.length,L[k].1=r):=⟨E,F⟩;have HF:=Hd (F4 ki x y u r t wr hx (HP.o.next hb.o) hk (HT.o.next hb.o));have m0:0<=m:=by omega
  have m1:m<(n:Nat):=by rw[<-HN.o];omega
  have J:=Hd c6;have I:=Hd b8;clear D hx c6 b8 E O d6 F
  go_wp2_with fail
  refine HF.o.mono ?_;rintro e w1 ⟨cc,rfl,V,G⟩;have T:=hb.up G;have b7:=V.2.1 hK
  rcases Int.lt_or_le cc 0 with c7|c7
  ·have Z:Hid (JC ki L t (k+1) j):=by
    obtain⟨q1,q2,q3,q4⟩:=hm.o;obtain⟨E,F⟩:=HR.o;refine⟨by have:=I.o;omega,q2,fun q hq hq2=>?_,q4⟩;have h3:=Mv HS.o hq E (by omega);rw[F] at h3
    rcases Ek (key ki r) (key ki t) with⟨h,e⟩|⟨h,e⟩|⟨h,e⟩<;>omega
   have H:Hid (m+1=((k+1:Nat):Int)/\b=(j:Nat)):=⟨by have:=J.o;omega,d.o.2⟩;have d7:m<b:=by have:=J.o;have:=I.o;have:=d.o;omega
   clear b7 V G hm d
   go_wp2_with fail
   refine⟨⟨m+1,b,k+1,j,rfl,rfl,H,Z,by omega,by omega,h2,T⟩,by simp[intOf];omega⟩
  have Z:Hid (JC ki L t i k):=by
   obtain⟨q1,q2,q3,q4⟩:=hm.o;obtain⟨E,F⟩:=HR.o;refine⟨by have:=I.o;omega,by omega,q3,fun q hq hq2=>?_⟩;have h3:=Mv HS.o E hq hq2;rw[F] at h3
   rcases Ek (key ki r) (key ki t) with⟨h,e⟩|⟨h,e⟩|⟨h,e⟩<;>omega
  have H:Hid (a=(i:Nat)/\m=(k:Nat)):=⟨d.o.1,J.o⟩;have e3:a<=m:=by have:=J.o;have:=I.o;have:=d.o;omega
  have d7:m<b:=by have:=J.o;have:=I.o;have:=d.o;omega
  clear b7 V G hm d
  go_wp2_with fail
  refine⟨⟨a,m,i,k,rfl,rfl,H,Z,h0,by omega,by omega,T⟩,by simp[intOf];omega⟩
 have e:a=b:=by omega
 subst e;have d5:i=j:=by have:=d.o;omega
 subst d5;have HA:Hid (a=(i:Nat)):=d.o.1
 by_cases K:i<L.length
 ·obtain⟨bk,rfl,D⟩:=a8.o (by omega);obtain⟨x,y,e1,e2,hx⟩:=D wr hb.o i K;have O:a.toNat=i:=by have:=HA.o;omega
  rw[<-O] at e1 e2;obtain⟨r,F⟩:=O2 (L[i].1);rw[F] at hx;have HR:Hid (∃ h:i<L.length,L[i].1=r):=⟨K,F⟩;have HF:=Hd (F4 ki x y u r t wr hx (HP.o.next hb.o) hk (HT.o.next hb.o));have m1:a<(n:Nat):=by rw[<-HN.o];have:=HA.o;omega
  clear D hx O F K d b9
  go_wp2_with fail
  refine HF.o.mono ?_;rintro e w1 ⟨cc,rfl,V,G⟩;have T:=hb.up G;have Y:Hid (OZ ki L t i (cc==0)):=by
   obtain⟨q1,q2,q3,q4⟩:=hm.o;obtain⟨E,F⟩:=HR.o;refine⟨by omega,q3,q4,?_⟩;rw[Jw,V.1];exact⟨fun e=>⟨E,F.trans e⟩,fun ⟨_,e⟩=>F.symm.trans e⟩
  clear V G hm
  go_wp2
  go_ret2
  exact⟨i,(cc==0),by rw[<-HA.o];rfl,Y.o,T.o⟩
 have Y:Hid (OZ ki L t i false):=by
  obtain⟨q1,q2,q3,q4⟩:=hm.o;exact⟨by omega,q3,q4,fun h=>(by cases h),fun ⟨h,_⟩=>absurd h K⟩
 have m1:¬ a<(n:Nat):=by rw[<-HN.o];have:=HA.o;omega
 clear hm d K b9
 go_wp2
 go_ret2
 exact⟨i,.inl ⟨by rw[<-HA.o];rfl,Y.o,hb.o⟩⟩
def oK (ki:SK)(L:List Kd)(t:ByteArray)(w w':World)(e:Ending):Prop:=∃ p found,e=.returned (.tuple #[.int .i64 (p:Nat),.bool found])/\OZ ki L t p found/\Up w w'
theorem YG (ki ke:SK)(x v u:Value)(L:List Kd)(t:ByteArray)(w:World)(h:Ex ki ke w v L)(hs:L.Pairwise fun e f=>key ki e.1<key ki f.1)(ht:PV ki w u t)(hk:Wt ki)(hK:Gm ki)(hT:VT w)(hn:L.length<=1000) :
 Calls prog 53 #[.agg #[x,v],u] w fun e w'=>oK ki L t w w' e:=by
 obtain⟨E,d⟩:=O2 (w.alloc (.cells #[x,v] 50));have j:Up w E:=by rw[<-d];exact Oo _ _
 have H:Bx E w.heap.size [x,v]:=by rw[<-d];exact Ox w _ _
 have I:=Hd (OG ki ke v u L t E (h.next j) hs (ht.next j) hk hK (hT.next j) hn);have c1:=H.cell 1;obtain⟨p,c,e,_⟩:=h;subst e;have F:=Hd j;have K:=Hd d;clear j H d hs ht hk hT
 go_in
 go_upto_region 1 with fail
 rw[K.o]
 go_wp2_with fail
 refine I.o.mono ?_;rintro e O ⟨p,found,rfl,G,D⟩;have J:Hid (oK ki L t w O (.returned (.tuple #[.int .i64 (p:Nat),.bool found]))):=⟨p,found,rfl,G,F.o.trans (D.mono F.o.size)⟩;clear G D
 go_wp2
 go_ret2
 exact J.o
def AS (ke:SK)(s:ByteArray)(w w':World)(e:Ending):Prop:=∃ y,e=.returned y/\PV ke w' y s/\Up w w'
theorem BU {ki:SK}{r t:ByteArray}{L:List Kd}{p:Nat}{found:Bool}(hs:L.Pairwise fun e f=>key ki e.1<key ki f.1)(h:OZ ki L t p found):if found then ∃ h:p<L.length,K2 r L t=L[p].2 else K2 r L t=r:=by
 obtain⟨H,F,h3,h4⟩:=h
 cases found
 ·simp only[Yz,if_false];refine H8 fun e he e2=>?_;obtain⟨q,j,rfl⟩:=Ym he
  rcases Nat.lt_or_ge q p with d|d
  ·have:=F q j d;rw[e2] at this;omega
  rcases Nat.eq_or_lt_of_le d with rfl|d
  ·exact absurd (h4.2 ⟨j,e2⟩) (by decide)
  have h5:=Zl.1 hs p q (by omega) j d;have I:=h3 p (by omega) O1;rw[e2] at h5;omega
 simp only[if_true];obtain⟨G,e⟩:=h4.1 rfl;refine⟨G,?_⟩;have E:L=L.take p++L[p]::L.drop (p+1):=by rw[<-Yw G,J9]
 generalize J:L[p]=x at e E ⊢;rw[E,Qu (fun y hy e2=>by
  obtain⟨q,j,rfl⟩:=Ym hy;rw[Zn] at e2;have D:q<p:=by rw[Jm] at j;omega
  have:=F q (by omega) D;rw[e2] at this;omega)]
 unfold K2;rw[if_pos e]
theorem GK (ki ke:SK)(x v u:Value)(r:ByteArray)(L:List Kd)(t:ByteArray)(w:World)(hx:PV ke w x r)(h:Ex ki ke w v L)(hs:L.Pairwise fun e f=>key ki e.1<key ki f.1)(ht:PV ki w u t)(hk:Wt ki)(hK:Gm ki)(hT:VT w)(hn:L.length<=1000) :
 Calls prog 31 #[.agg #[x,v],u] w fun e w'=>AS ke (K2 r L t) w w' e:=by
 obtain⟨T,D⟩:=O2 (w.alloc (.cells #[x,v] 50));have I:Up w T:=by rw[<-D];exact Oo _ _
 have G:Bx T w.heap.size [x,v]:=by rw[<-D];exact Ox w _ _
 have HC:=Hd (YG ki ke x v u L t T (h.next I) hs (ht.next I) hk hK (hT.next I) hn);obtain⟨c0,c1⟩:=G.c2;have HE:=Hd h;obtain⟨p,c,e,V,Y,J⟩:=h;subst e;have HB:=Hd I;have HW:=Hd D;have F:=Hd G;have HX:=Hd hx;have HS:=Hd hs;unfold maxLen at Y;obtain⟨n,H⟩:=O2 L.length;have HN:=Hd H;rw[H] at V HW c1 HC F ⊢;clear I G D hs ht hk hT hx H
 go_in
 go_upto_region 1 with fail
 rw[HW.o]
 go_wp2_with fail
 refine HC.o.mono ?_;rintro e w1 ⟨q,found,rfl,Z,E⟩;have d:=HB.up E;obtain⟨d0,d1⟩:=(F.o.bl F.o.lt E).c2;have hl:=BU (r:=r) HS.o Z
 cases found
 ·simp only[Yz,if_false] at hl;have O:Hid (AS ke (K2 r L t) w w1 (.returned x)):=⟨x,rfl,by rw[hl];exact HX.o.next d.o,d.o⟩;clear Z E hl J
  go_wp2
  go_ret
  exact O.o
 simp only[if_true] at hl;obtain⟨K,hl⟩:=hl
 rcases J with rfl|⟨b,rfl,U,j⟩
 ·simp at K
 obtain⟨x',y',e1,e2,h4,h5⟩:=j q K;have c6:=(d.o.cell (p:=⟨b,q*2+1,none⟩) U).trans e2;have O:Hid (AS ke (K2 r L t) w w1 (.returned y')):=⟨y',rfl,by rw[hl];exact h5.next d.o,d.o⟩;have c7:q<n:=by rw[<-HN.o];exact K
 clear Z E hl j e1 e2 h4 h5 K
 go_wp2
 go_ret
 exact O.o
end Go.Proofs.YtjjgilacnocigaaGreatDoor
namespace Go.Proofs.YtjjgilacnocigaaGreatDoor
open Shelf RowKit Proofs.Tryz
variable {b:Nat}
def FP:Go.Shelf.Ren:=⟨fun|166=>59|240=>102|276=>146|n=>n,fun|0=>0|3=>3|4=>4|5=>5|9=>9|20=>20|37=>22|70=>107|72=>109|75=>111|80=>35|164=>184|n=>n,fun|n=>n⟩
theorem MJ:Go.Proofs.Lays.n166 prog FP:={
 mixed:=by kernel_rfl
 f166:=func59.trans (congrArg some (by kernel_rfl))
 f240:=func102.trans (congrArg some (by kernel_rfl))
 f276:=func146.trans (congrArg some (by kernel_rfl))
 t0:=underlying0
 a0:=Tryz.isAgg0
 z0:=Tryz.sizeOf0
 v0:=Tryz.zeroValue0
 t3:=underlying3
 a3:=Tryz.isAgg3
 z3:=Tryz.sizeOf3
 v3:=Tryz.zeroValue3
 t4:=underlying4
 a4:=Tryz.isAgg4
 z4:=Tryz.sizeOf4
 v4:=Tryz.zeroValue4
 t9:=underlying9
 a9:=Tryz.isAgg9
 z9:=Tryz.sizeOf9
 v9:=Tryz.zeroValue9
 t20:=underlying20
 a20:=Tryz.isAgg20
 z20:=Tryz.sizeOf20
 v20:=Tryz.zeroValue20
 t37:=underlying22
 a37:=Tryz.isAgg22
 z37:=Tryz.sizeOf22
 v37:=Tryz.zeroValue22
 t70:=underlying107
 a70:=Tryz.isAgg107
 z70:=Tryz.sizeOf107
 v70:=Tryz.zeroValue107
 t72:=underlying109
 a72:=Tryz.isAgg109
 z72:=Tryz.sizeOf109
 v72:=Tryz.zeroValue109
 t75:=underlying111
 a75:=Tryz.isAgg111
 z75:=Tryz.sizeOf111
 v75:=Tryz.zeroValue111
 t164:=underlying184
 a164:=Tryz.isAgg184
 z164:=Tryz.sizeOf184
 v164:=Tryz.zeroValue184 }
theorem DD:Go.Proofs.Builder.Extra prog FP:={
 sizeBuilder:=by kernel_rfl
 liesBuilder:=by kernel_rfl
 t5:=underlying5
 a5:=Tryz.isAgg5
 z5:=Tryz.sizeOf5
 v5:=Tryz.zeroValue5
 infoByte:=by kernel_rfl
 cellsByte:=by kernel_rfl
 sizeByte:=by kernel_rfl
 neB5:=by decide }
def Bd (B b:Nat)(l:List UInt8)(w:World):Prop:=Lib.IsBuilderF 109 5 B b (Lib.byteCells l) w
theorem Mg {B:Nat}{p:Value}{bs:List Value}{w w':World}(h:Lib.BuilderAtF 109 5 B b p bs w)(hb:Up w w'):Lib.BuilderAtF 109 5 B b p bs w':=by
 have hk:∀ (k:Nat) (o:Obj),w.heap[k]? = some o->w'.heap[k]? = some o:=fun k _ hk=>(hb.block k (Yr.1 hk).1).trans hk;obtain⟨j,v,D,h3,h4⟩:=h;refine⟨j,v,hk b _ D,⟨h3.1,?_⟩,h4⟩
 rcases h3.2 with d|⟨g,cap,cur,fz,H,E,F,G⟩
 ·exact .inl d
 exact .inr ⟨g,cap,cur,fz,H,E,hk g _ F,G⟩
theorem Bd.bl {B:Nat}{l:List UInt8}{w w':World}(h:Bd B b l w)(hb:Up w w'):Bd B b l w':=
 Or.elim h (fun x=>.inl (Mg x hb)) (fun x=>.inr (Mg x hb))
theorem OI (w:World)(hb:b=w.heap.size):Lib.IsBuilder 109 5 b b (Lib.byteCells []) (w.alloc (.cells #[.pointer none,.slice none 0 0] 109)):=by
 subst hb;exact .inl ⟨O1,.slice none 0 0,Array.getElem?_push_size,⟨rfl,.inl ⟨rfl,rfl⟩⟩,by simp[Value.ownBlock]⟩
theorem TV (w:World):Bd w.heap.size w.heap.size [] (w.alloc (.cells #[.pointer none,.slice none 0 0] 109)):=
 Lib.IsBuilderF.of (OI w rfl)
theorem Mh (B b:Nat)(l s:List UInt8)(w:World)(h:Bd B b l w)(hlen:l.length+s.length<=140737488355328)(hBw:B<=w.heap.size) :
 Calls prog 59 #[.pointer (some ⟨b,0,none⟩),.string (Oy s)] w fun e w'=>e=.returned (.tuple #[.int .i64 (s.length:Nat),.nilIface])/\Bd B b (l++s) w'/\Below B w w'/\Lib.OthersKept 5 (some b) w w':=by
 have d:(Oy s).size=s.length:=by show (s.toArray.toList).length=_;simp
 refine (Any.Builder_WriteString_k MJ DD B b (Lib.byteCells l) (Oy s) w h (by rw[Lib.byteCells_length,d];exact hlen) hBw).mono fun _ _ ⟨he,hd,hb,hk⟩=>⟨by rw[he,d],.inr ?_,hb,hk⟩;have e:Lib.byteCells l++Lib.strCells (Oy s)=Lib.byteCells (l++s):=by simp[Lib.byteCells,Lib.strCells,Oy]
 rw[e] at hd;exact hd
theorem GT (B b:Nat)(l:List UInt8)(w:World)(h:Bd B b l w)(hBw:B<=w.heap.size) :
 Calls prog 60 #[.pointer (some ⟨b,0,none⟩)] w fun e w'=>e=.returned (.string (Oy l))/\Below B w w':=
 (Tryz.Builder_String_any_k B b l w h hBw).mono fun _ _ h=>⟨h.1,h.2.2.1⟩
end Go.Proofs.YtjjgilacnocigaaGreatDoor
namespace Go.Proofs.YtjjgilacnocigaaGreatDoor
open ChangeShapes WideShapes ChangeAt RowKit Proofs.Tryz
theorem E5 {W:World}{g:Nat}{x y:Value}{t:TypeId}(h:W.heap[g]? = some (.cells #[x,y] t (0,0))):W.cell? ⟨g,0,none⟩=some x/\W.cell? ⟨g,1,none⟩=some y:=(show Bx W g [x,y] from ⟨t,h⟩).c2
theorem Tw {r:ByteArray}:∀ {L:List Kd},(∀ e∈L,e.1.size<=2000/\e.2.size<=2000)->(Hu r L).length<=r.size+L.length*4002
 | [],_=>by simp[Hu]
 | e::L,h=>by
   have d:=Tw (r:=r) (L:=L) (fun x hx=>h x (by simp[hx]))
   have F:=h e (by simp)
   have j:e.1.data.toList.length=e.1.size:=rfl
   have D:e.2.data.toList.length=e.2.size:=rfl
   have E:r.data.toList.length=r.size:=rfl
   unfold Hu at d ⊢
   simp only[V6,Jq,Ie,J8] at d ⊢
   omega
theorem Rw {k:SK}{s:ByteArray}(h:Kg k s):s.size<=2000:=h.1
theorem Fa (ki ke:SK)(x v:Value)(r:ByteArray)(L:List Kd)(w:World)(hx:PV ke w x r)(h:Ex ki ke w v L)(hki:Wt ki)(hke:Wt ke)(hT:VT w)(hn:L.length<=1000) :
 Calls prog 24 #[.agg #[x,v]] w fun e w'=>e=.returned (.string (Oy (E8 r L)))/\Up w w':=by
 obtain⟨tx,zx,fx,rfl,m1,m2,m3⟩:=Ry hx hke;have o3:=Rw hx.1;have HE:=Hd h;obtain⟨p,c,rfl,l2,l3,b6⟩:=h;unfold maxLen at l3;obtain⟨n,b7⟩:=O2 L.length;have HN:=Hd b7;rw[b7] at l2 hn ⊢;obtain⟨W0,H⟩:=O2 (w.alloc (.cells #[.iface tx zx,.slice p n c] 50));have hb:Up w W0:=by rw[<-H];exact Oo _ _
 have f8:Bx W0 w.heap.size [.iface tx zx,.slice p n c]:=by rw[<-H];exact Ox w _ _
 have hz:W0.heap.size=w.heap.size+1:=by rw[<-H];simp
 have HB:=Hd hb;have HW:=Hd H;have M3:=Hd m3;have HT:=Hd hT;have HL:Hid (0<L.length->∃ b,p=some ⟨b,0,none⟩/\∀ W,Up w W->∀ i (h:i<L.length),∃ x y,W.cell? ⟨b,i*2,none⟩=some x/\W.cell? ⟨b,i*2+1,none⟩=some y/\PV ki W x L[i].1/\PV ke W y L[i].2):=by
  intro h0
  rcases b6 with rfl|⟨b,e,hl,hc⟩
  ·simp at h0
  refine⟨b,e,fun W hb i hi=>?_⟩;obtain⟨x,y,e1,e2,h4,h5⟩:=hc i hi;exact⟨x,y,(hb.cell (p:=⟨b,i*2,none⟩) hl).trans e1,(hb.cell (p:=⟨b,i*2+1,none⟩) hl).trans e2,h4.next hb,h5.next hb⟩
 have d9:Hid (∀ e∈L,e.1.size<=2000/\e.2.size<=2000):=by
  intro e he;obtain⟨i,hi,rfl⟩:=Ym he
  rcases b6 with rfl|⟨b,_,hl,hc⟩
  ·simp at hi
  obtain⟨x,y,_,_,h4,h5⟩:=hc i hi;exact⟨Rw h4.1,Rw h5.1⟩
 clear H hx m3 hT b7 b6
 go_in
 go_upto_region 1 with fail
 rw[HW.o]
 go_upto_region 2 with fail
 generalize I:W0.alloc (.cells #[.pointer none,.slice none 0 0] 109)=W1;have K:Bx W1 w.heap.size [.iface tx zx,.slice p n c]:=by rw[<-I];exact f8.alloc _
 have D:Bd W0.heap.size W0.heap.size [] W1:=by rw[<-I];exact TV W0
 have f7:Up w W1:=by rw[<-I];exact hb.trans ((Oo _ _).mono (by omega))
 rw[hz] at D;obtain⟨c0,c1⟩:=K.c2;have d4:=Hd K;have a8:=Hd D;have a6:=Hd f7;have e9:w.heap.size+2<=W1.heap.size:=by rw[<-I];simp;omega
 clear f8 hb K D f7 I hz
 go_wp2_with fail
 refine (M3.o W1 a6.o (HT.o.next a6.o)).mono ?_;rintro e w1 ⟨rfl,d⟩;have g9:=a6.up d;have d5:=Hd (d4.o.bl d4.o.lt d);have c7:=Hd (a8.o.bl d);have l4:w.heap.size+2<=w1.heap.size:=Yt e9 d.size;obtain⟨s1,g3⟩:∃ s1:ByteArray,(⟨#[123]⟩:ByteArray)++r=Oy (123::r.data.toList):=⟨r,by refine Kz ?_;rw[Vj,Zr,O4];rfl⟩;have j4:=Hd g3;clear d c0 c1 g3
 go_wp2_with fail
 rw[j4.o];refine (Mh _ _ [] (123::r.data.toList) w1 c7.o (by have e:r.data.toList.length=r.size:=rfl;simp only[Zo,J8];omega) (by omega)).mono ?_;rintro e w2 ⟨rfl,Z,T,_⟩;have h6:Hid (Up w w2):=g9.o.trans (T.mono (by omega));have c8:Hid (Bd (w.heap.size+1) (w.heap.size+1) (123::Hu r (L.take 0)) w2):=by
  have e:123::Hu r (L.take 0)=[]++123::r.data.toList:=by simp[Hu]
  unfold Hid;rw[e];exact Z
 have d6:=Hd (d5.o.bl (by omega) T);have l5:w.heap.size+2<=w2.heap.size:=Yt l4 T.size;obtain⟨d0,d1⟩:=d6.o.c2;clear Z T
 go_wp2
 go_loopw [14] (fun vi W=>∃ (j:Nat) (a:Int),vi=.int .i64 a/\Hid (a=(j:Nat))/\0<=a/\a<=(n:Nat)/\Hid (Up w W/\Bd (w.heap.size+1) (w.heap.size+1) (123::Hu r (L.take j)) W)/\w.heap.size+2<=W.heap.size) (fun vi _=>((n:Int) - (intOf vi)).toNat)
 case atStart=>exact⟨0,0,rfl,rfl,by omega,by omega,⟨h6.o,c8.o⟩,l5⟩
 obtain⟨j,a,rfl,ha,o0,o1,hw,g4⟩:=hrel
 by_cases o2:a<(n:Nat)
 ·have hj:j<L.length:=by have:=ha.o;have:=HN.o;omega
  obtain⟨b,rfl,O⟩:=HL.o (by omega);obtain⟨x',y',e1,e2,U,Y⟩:=O wr hw.o.1 j hj;have f5:a.toNat=j:=by have:=ha.o;omega
  rw[<-f5] at e1 e2;obtain⟨t1,z1,f1,rfl,n1,n2,n3⟩:=Ry U hki;obtain⟨t2,z2,f2,rfl,k1,k2,k3⟩:=Ry Y hke;obtain⟨⟨F,G⟩,hE⟩:∃ E,L[j]=E:=⟨_,rfl⟩;rw[hE] at n3 k3 U Y;have o4:F.size<=2000:=Rw U.1;have o5:G.size<=2000:=Rw Y.1;have N3:=Hd n3;have K3:=Hd k3;have i8:Hid (∃ h:j<L.length,L[j]=(F,G)):=⟨hj,hE⟩;clear O U Y n3 k3 hE hj f5
  go_wp2_with fail
  generalize hA:wr.alloc _=WA;have J:Up wr WA:=by rw[<-hA];exact Oo _ _
  have V:Bx WA wr.heap.size [.iface t1 z1,.iface t2 z2]:=by rw[<-hA];exact Ox wr _ _
  obtain⟨q0,q1⟩:=V.c2;have j1:Hid (WA.heap[wr.heap.size]? = some (.cells #[.iface t1 z1,.iface t2 z2] 79 (0,0))):=by unfold Hid;rw[<-hA];exact heap_alloc_new wr _
  have d7:=Hd V.lt;have e0:=Hd V;have a7:Hid (Up w WA):=hw.o.1.trans (J.mono (by omega));have h8:=Hd ((hw.o.2.bl J).bl (Jj _ WA).drew);have k7:=Hd J.size;have j5:Hid ((⟨#[59]⟩:ByteArray)++F++(⟨#[61]⟩:ByteArray)++G=Oy (Ie (F,G))):=by
   unfold Hid;refine Kz ?_;simp only[Vj,Zr,O4];simp[Ie]
  have y1:¬ 9223372036854775807<1+F.size:=by omega
  have y2:¬ 9223372036854775807<1+F.size+1:=by omega
  have y3:¬ 9223372036854775807<1+F.size+1+G.size:=by omega
  have b3:=Hd J;have d8:Hid (∀ j,(123::Hu r (L.take j)).length+(Ie (F,G)).length<=140737488355328):=by
   intro j;have h1:=Tw (r:=r) (L:=L.take j) (fun e he=>d9.o e (Ya he));have h2:(L.take j).length<=1000:=by rw[Jm];have:=HN.o;omega
   have h3:(Ie (F,G)).length<=4002:=by
    have e1:F.data.toList.length=F.size:=rfl;have e2:G.data.toList.length=G.size:=rfl;simp only[Ie,J8,Jq];omega
   rw[J8];omega
  clear hA J V e1 e2
  go_region_held3 (fun W=>W.cell? ⟨wr.heap.size,0,none⟩=some (.iface t1 z1)/\W.cell? ⟨wr.heap.size,1,none⟩=some (.iface t2 z2)) (first
   | assumption|exact⟨by assumption,by assumption⟩|go_keep) (first
   | (refine (N3.o _ b3.o.drew (HT.o.next a7.o.drew)).mono ?_;rintro e wb ⟨rfl,d⟩;have k0:=Hd (b3.o.drew.trans (d.mono b3.o.size));have c6:Hid (Up w wb):=a7.o.drew.trans (d.mono a7.o.size);have h9:=Hd (h8.o.bl d);have b4:=Hd (e0.o.drew.bl e0.o.drew.lt d);have n7:=b4.o.c2;have k8:=Hd (Yt k7.o d.size);have j2:=Hd ((d.block _ d7.o).trans j1.o);have j0:=Hd (Js d7.o d.size);clear d)
   | (refine (K3.o _ k0.o (HT.o.next c6.o)).mono ?_;rintro e wc ⟨rfl,d⟩;have h7:=c6.up d;have i1:=Hd (h9.o.bl d);have k5:=Hd (b4.o.bl b4.o.lt d);have n8:=k5.o.c2;have e3:=Hd (Yt k8.o d.size);have j3:=Hd ((d.block _ j0.o).trans j2.o);clear d)
   | (rw[j5.o];refine (Mh _ _ _ (Ie (F,G)) wc i1.o (d8.o j) (by have:=e3.o;omega)).mono ?_;rintro e wd ⟨rfl,hd,d,g2⟩;have a8:Hid (Up w wd):=h7.o.trans (d.mono (by omega));have i6:=Hd hd;have n9:=E5 (g2 _ _ j3.o (by intro e;have:=Option.some.inj e;omega) (by intro c fz e;injection e with _ h;exact absurd h (by decide)));have k9:=Hd (Yt e3.o d.size);clear hd d g2))
  have i7:Hid (Up w wd/\Bd (w.heap.size+1) (w.heap.size+1) (123::Hu r (L.take (j+1))) wd):=by
   refine⟨a8.o,?_⟩;obtain⟨hj,hE⟩:=i8.o;have e:123::Hu r (L.take (j+1))=(123::Hu r (L.take j))++Ie (F,G):=by
    rw[Jt hj,hE];simp[Hu]
   rw[e];exact i6.o
  have g8:Hid (a+1=((j+1:Nat):Int)):=by have:=ha.o;unfold Hid;omega
  have g5:w.heap.size+2<=wd.heap.size:=Yt g4 k9.o
  go_wp2_with fail
  refine⟨⟨j+1,a+1,rfl,g8,by omega,by omega,i7,g5⟩,by simp[intOf];omega⟩
 have g1:L.take j=L:=Jf (by have:=ha.o;have:=HN.o;omega);have D:=hw.o.2;rw[g1] at D;have d2:=Hd D;have j7:=Hd hw.o.1;have d:(123::Hu r L).length+[125].length<=140737488355328:=by
  have h1:=Tw (r:=r) (L:=L) d9.o;have:=HN.o;simp only[J8,Zo];omega
 have b9:=Hd d;clear g1 D d hw
 go_wp2_with fail
 refine (Mh _ _ _ [125] wr d2.o b9.o (by omega)).mono ?_;rintro e wd ⟨rfl,hd,d,_⟩;have d3:=Hd hd;have j8:Hid (Up w wd):=j7.o.trans (d.mono (by omega));have g5:w.heap.size+2<=wd.heap.size:=Yt g4 d.size;clear hd d
 go_wp2_with fail
 refine (GT _ _ _ wd d3.o (by omega)).mono ?_;rintro e we ⟨rfl,d⟩;have j9:Hid (Up w we):=j8.o.trans (d.mono (by omega));obtain⟨S,hS⟩:=O2 (Oy (123::Hu r L++[125]));have HS:Hid (S=Oy (E8 r L)):=by unfold Hid;rw[<-hS];rfl
 rw[hS];clear hS d
 go_wp2
 go_ret
 exact⟨by rw[<-HS.o];rfl,j9.o⟩
theorem YT (ki ke:SK)(x v:Value)(r:ByteArray)(L:List Kd)(w:World)(hx:PV ke w x r)(h:Ex ki ke w v L)(hki:Wt ki)(hke:Wt ke)(hT:VT w)(hn:L.length<=1000) :
 Calls prog 58 #[.iface 50 (.agg #[x,v])] w fun e w'=>e=.returned (.bool (decide ((E8 r L).length<=2000)))/\Up w w':=by
 have j:=Hd (Fa ki ke x v r L w hx h hki hke hT hn);obtain⟨S,d⟩:=O2 (Oy (E8 r L));have hl:(E8 r L).length=S.size:=by rw[<-d];rfl
 rw[d] at j;rw[hl];clear hx h hki hke hT d hl
 go_in
 go_wp2_with fail
 refine j.o.mono ?_;rintro e H ⟨rfl,D⟩;have F:=Hd D;clear D;have E:decide ((S.size:Int)<=2000)=decide (S.size<=2000):=by
  by_cases h:S.size<=2000
  ·rw[Jn h,Jn (by omega)]
  rw[Jp h,Jp (by omega)]
 have G:=Hd E;clear E
 go_wp2
 go_ret
 exact⟨by rw[<-G.o];rfl,F.o⟩
theorem XN (ki ke:SK)(x v:Value)(r:ByteArray)(L:List Kd)(w:World)(hx:PV ke w x r)(h:Ex ki ke w v L)(hki:Wt ki)(hke:Wt ke)(hT:VT w)(hn:L.length<=1000) :
 Calls prog 23 #[.agg #[x,v]] w fun e w'=>e=.returned (.bool (decide (L.length<=60/\(E8 r L).length<=2000)))/\Up w w':=by
 obtain⟨G,d⟩:=O2 (w.alloc (.cells #[x,v] 50));have j:Up w G:=by rw[<-d];exact Oo _ _
 have D:Bx G w.heap.size [x,v]:=by rw[<-d];exact Ox w _ _
 have F:=Hd (YT ki ke x v r L G (hx.next j) (h.next j) hki hke (hT.next j) hn);obtain⟨p,c,rfl,H,I,J⟩:=h;obtain⟨n,O⟩:=O2 L.length;rw[O] at H hn D d F ⊢;have T:=Hd j;have U:=Hd d;obtain⟨c0,c1⟩:=D.c2;generalize (E8 r L).length=m at F ⊢;unfold maxLen at I;clear j D d hx hT J
 by_cases hl:n<=60
 ·have e:decide (n<=60/\m<=2000)=decide (m<=2000):=by simp[hl]
  rw[e];have K:(n:Int)<=60:=by omega
  clear e
  go_in
  go_upto_region 1 with fail
  rw[U.o]
  go_wp2_with fail
  refine F.o.mono ?_;rintro e V ⟨rfl,j⟩;have E:=T.up j;clear j
  go_wp2
  go_ret
  exact⟨rfl,E.o⟩
 have e:decide (n<=60/\m<=2000)=false:=Jp (fun h=>hl h.1);rw[e];have K:¬ (n:Int)<=60:=by omega
 clear e
 go_in
 go_upto_region 1 with fail
 rw[U.o]
 go_wp2
 go_ret
 exact⟨rfl,T.o⟩
end Go.Proofs.YtjjgilacnocigaaGreatDoor
