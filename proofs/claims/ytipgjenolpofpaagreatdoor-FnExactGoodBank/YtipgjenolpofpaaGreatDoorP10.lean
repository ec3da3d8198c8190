import Derived.Test.YtipgjenolpofpaaGreatDoorP09
import Derived.Lib.IndexLaws
import Derived.Lib.Bytealg
import Derived.Laws.AppendOwnNone
set_option maxRecDepth 100000
set_option maxHeartbeats 8000000
namespace Go.Proofs.YtipgjenolpofpaaGreatDoor.Q
open Go.RowKit
theorem Mu (x c q r:Int)(_hc:c≠0)(h:Ny x c q r)(hd:c∣x):x=q*c:=by
 obtain⟨j,I,h3⟩:=h;obtain⟨k,G⟩:=hd;have d:r=c*(k - q):=by rw[Int.mul_sub,<-G,j,Int.mul_comm c q];omega
 have E:k - q=0:=by
  apply Classical.byContradiction;intro A;have h4:c.natAbs<=r.natAbs:=by rw[d,Int.natAbs_mul];exact Nat.le_mul_of_pos_right _ (by omega)
  omega
 rw[d,E,Int.mul_zero] at j;omega
theorem YV (x y c n r d r':Int)(hy:y≠0)(hc:c=if y<0 then -E8 x y else E8 x y)(h1:Ny x c n r)(h2:Ny y c d r'):Pu x y n d:=by
 have I:0<Int.gcd x y:=Int.gcd_pos_of_ne_zero_right _ hy;have j:c.natAbs=Int.gcd x y:=by rw[hc];unfold E8;split<;>omega
 have c0:c≠0:=by omega
 have G:c∣x:=by rw[<-Int.natAbs_dvd,j];exact Int.gcd_dvd_left x y
 have E:c∣y:=by rw[<-Int.natAbs_dvd,j];exact Int.gcd_dvd_right x y
 have ex:=Mu x c n r c0 h1 G;have ey:=Mu y c d r' c0 h2 E;refine⟨c,c0,ex,ey,?_,j⟩
 by_cases hn:y<0
 ·have A:c<0:=by rw[hc,if_pos hn];unfold E8;omega
  apply Classical.byContradiction;intro h;have:0<=d*c:=Int.mul_nonneg_of_nonpos_of_nonpos (by omega) (by omega);omega
 have A:0<c:=by rw[hc,if_neg hn];unfold E8;omega
 apply Classical.byContradiction;intro h;have:d*c<=0:=Int.mul_nonpos_of_nonpos_of_nonneg (by omega) (by omega);omega
end Go.Proofs.YtipgjenolpofpaaGreatDoor.Q
namespace Go.Proofs.YtipgjenolpofpaaGreatDoor.Q
open Go.ChangeShapes Go.WideShapes Go.ChangeAt Go.RowKit Go.Proofs.Tryz
theorem P5 {N:Nat}{w W:World}(h:Below N w W)(g:Nat)(hg:N<=g)(u0 u1 u2:Value):Below N w (((W.setCell ⟨g,0,none⟩ u0).setCell ⟨g,1,none⟩ u1).setCell ⟨g,2,none⟩ u2):=
 ((h.setCell (p:=⟨g,0,none⟩) hg u0).setCell (p:=⟨g,1,none⟩) hg u1).setCell (p:=⟨g,2,none⟩) hg u2
def IsCut (s:ByteArray)(k:Option Nat):Prop:=
 match k with
 | none=>∀ j:Nat,s.data.toList[j]? ≠ some 47
 | some i=>s.data.toList[i]? = some 47/\∀ j:Nat,j<i->s.data.toList[j]? ≠ some 47
def X4 (k:Option Nat):Int:=match k with|none => -1|some i=>(i:Int)
theorem isCut_unique {s:ByteArray}{k m:Option Nat}(h:IsCut s k)(h':IsCut s m):k=m:=by
 match k,m,h,h' with
 | none,none,_,_=>rfl
 | none,some i,h,h'=>exact absurd h'.1 (h i)
 | some i,none,h,h'=>exact absurd h.1 (h' i)
 | some i,some j,h,h'=>
   rcases Nat.lt_trichotomy i j with hl|hl|hl
   ·exact absurd h.1 (h'.2 i hl)
   ·rw[hl]
   ·exact absurd h'.1 (h.2 j hl)
theorem isCut_ex (s:ByteArray):∃ k,IsCut s k:=by
 have A:=Lib.indexByte_ge s.data.toList 47
 by_cases h:Lib.indexByte s.data.toList 47 = -1
 ·exact⟨none,fun j=>Lib.indexByte_none h j⟩
 obtain⟨o,d⟩:=Zn (show 0<=Lib.indexByte s.data.toList 47 by omega);exact⟨some o,Lib.indexByte_some d⟩
theorem Tg {s:ByteArray}{k:Option Nat}(h:IsCut s k):Lib.indexByte s.data.toList 47=X4 k:=by
 have E:=Lib.indexByte_ge s.data.toList 47
 by_cases A:Lib.indexByte s.data.toList 47 = -1
 ·have:k=none:=isCut_unique h (show IsCut s none from fun j=>Lib.indexByte_none A j);rw[this,A];rfl
 obtain⟨o,d⟩:=Zn (show 0<=Lib.indexByte s.data.toList 47 by omega);have:k=some o:=isCut_unique h (show IsCut s (some o) from Lib.indexByte_some d);rw[this,d];rfl
theorem Fp {s:ByteArray}{i:Nat}(h:IsCut s (some i)):i<s.size:=by
 have:=h.1;rw[Zs] at this;obtain⟨hl,_⟩:=this
 simpa using hl
theorem G5 (s:ByteArray)(c:Int)(w:World) :
 Calls prog 181 #[.string s,.int .u8 c] w fun e w'=>e=.returned (.int .i64 (Lib.indexByte s.data.toList c.toNat.toUInt8))/\w'=w:=by
 go_enter func181,ntmps181
 go_wp2
 rw[run_callFunc_extern func200 (by kernel_rfl) (by kernel_rfl) (by kernel_rfl) (e:=Extern.BytealgIndexByte.indexByte) (by kernel_rfl),Lib.run_indexByteString];simp only[Result.andThen];rw[Oper.upon_value]
 go_wp2
 go_ret
 exact⟨rfl,rfl⟩
theorem Da (s:ByteArray)(k:Option Nat)(w:World)(h:IsCut s k) :
 Calls prog 201 #[.string s,.string ⟨#[47]⟩] w fun e w'=>e=.returned (.int .i64 (X4 k))/\w'=w:=by
 have J:=Tg h;have M:=Hd J;clear J
 cases hq:([47]==s.toList)
 ·go_enter func201,ntmps201
  go_wp2_with fail
  refine (G5 s _ _).mono ?_;rintro e w' ⟨rfl,A⟩;subst A;have K:Lib.indexByte s.data.toList (Int.toNat ((((⟨#[47]⟩:ByteArray)[0]'(by decide)).toNat:Nat):Int)).toUInt8=X4 k:=M.o;rw[K]
  go_wp2
  go_ret
  exact⟨rfl,rfl⟩
 have G:X4 k=0:=by
  have I:s.toList=[47]:=(by simpa using hq:[47]=s.toList).symm;rw[Jl] at I;have:k=some 0:=isCut_unique h (show IsCut s (some 0) from ⟨by rw[I];rfl,fun j hj=>by omega⟩);rw[this];rfl
 have E:=Hid.o (p:=X4 k=0) G;clear G;have d:Hid (X4 k=0):=E;clear E
 go_enter func201,ntmps201
 go_wp2_with fail
 go_ret
 exact⟨by rw[d.o];rfl,rfl⟩
def cutP (s:ByteArray)(k:Option Nat):ByteArray:=match k with|none=>s|some i=>s.extract 0 i
def cutQ (s:ByteArray)(k:Option Nat):ByteArray:=match k with|none=>⟨#[]⟩|some i=>s.extract (i+1) s.size
theorem GT (s:ByteArray)(k:Option Nat)(w:World)(hs:s.size<=maxLen)(h:IsCut s k) :
 Calls prog 183 #[.string s,.string ⟨#[47]⟩] w fun e w'=>e=.returned (.tuple #[.string (cutP s k),.string (cutQ s k),.bool k.isSome])/\Up w w':=by
 have H:=Hid.o (p:=IsCut s k) h;have A:Hid (IsCut s k):=H;clear H h;unfold maxLen at hs
 cases k with
 | none=>
   go_enter func183,ntmps183
   go_wp2_with fail
   refine (Da s none _ A.o).mono ?_;rintro e w' ⟨rfl,d⟩;subst d;have j:X4 none = -1:=rfl;rw[j]
   go_wp2
   go_ret3
   exact⟨rfl,Jh _ _⟩
 | some i=>
   have E:=Fp A.o
   go_enter func183,ntmps183
   go_wp2_with fail
   refine (Da s (some i) _ A.o).mono ?_;rintro e w' ⟨rfl,d⟩;subst d;have j:X4 (some i)=(i:Int):=rfl;rw[j]
   go_wp2
   go_region
   go_wp2
   go_ret3
   exact⟨rfl,(Jh _ _).drew⟩
theorem PV (s:ByteArray)(k:Option Nat)(w:World)(hs:s.size<=maxLen)(h:IsCut s k) :
 Calls prog 153 #[.string s,.string ⟨#[47]⟩] w fun e w'=>e=.returned (.tuple #[.string (cutP s k),.string (cutQ s k),.bool k.isSome])/\Up w w':=by
 have j:=Hd h;clear h
 go_enter func153,ntmps153
 go_wp2_with fail
 refine (GT s k _ hs j.o).mono ?_;rintro e w' ⟨rfl,hb⟩;have d:=Hd hb;clear hb
 go_wp2
 go_ret3
 exact⟨rfl,d.o⟩
theorem Wr (s:ByteArray)(k:Option Nat)(w:World)(hs:s.size<=maxLen)(h:IsCut s k) :
 Calls prog 158 #[.string s] w fun e w'=>e=.returned (.agg #[.string (cutP s k),.bool k.isSome,.string (cutQ s k)])/\Up w w':=by
 have Z:=Hd h;obtain⟨p,O⟩:=O1 (cutP s k);obtain⟨q,K⟩:=O1 (cutQ s k);obtain⟨b,hb⟩:=O1 k.isSome;have U:Hid (cutP s k=p/\cutQ s k=q/\k.isSome=b):=⟨O,K,hb⟩;rw[O,K,hb];clear h O K hb;obtain⟨M,d⟩:=O1 (w.alloc (.cells #[.string ⟨#[]⟩,.bool false,.string ⟨#[]⟩] 179));have V:=Hd d;have j:Bx M w.heap.size [.string ⟨#[]⟩,.bool false,.string ⟨#[]⟩]:=by rw[<-d];exact Ox w _ _
 have E:Hid (Up w M):=by unfold Hid;rw[<-d];exact Oy _ _
 have I:Hid (∀ W,Up M W->Bx W w.heap.size [.string ⟨#[]⟩,.bool false,.string ⟨#[]⟩]):=fun W hW=>j.below j.lt hW;clear d j
 go_enter func158,ntmps158
 go_wp2_with fail
 rw[V.o];refine (PV s k _ hs Z.o).mono ?_;rintro e J ⟨rfl,A⟩;rw[U.o.1,U.o.2.1,U.o.2.2];have G:=Hd A;have hb:=I.o J A;obtain⟨k0,k1,k2⟩:=hb.k3;obtain⟨r0,r1,r2⟩:=hb.f3;clear A hb
 go_wp2
 have Y:=I.o J G.o;have hZ:Bx (((J.setCell ⟨w.heap.size,0,none⟩ (.string p)).setCell ⟨w.heap.size,1,none⟩ (.bool b)).setCell ⟨w.heap.size,2,none⟩ (.string q)) w.heap.size [.string p,.bool b,.string q]:=((Y.set 0 _).set 1 _).set 2 _;have hE:=P5 (E.o.trans (G.o.mono E.o.size)) w.heap.size Of (.string p) (.bool b) (.string q);generalize ((J.setCell ⟨w.heap.size,0,none⟩ (.string p)).setCell ⟨w.heap.size,1,none⟩ (.bool b)).setCell ⟨w.heap.size,2,none⟩ (.string q)=WE at *;obtain⟨m0,m1,m2⟩:=hZ.k3;refine Jj (v:=.agg #[.string p,.bool b,.string q]) ?_ rfl ⟨rfl,hE⟩;simp[results,results158,go_sem,m0,m1,m2]
theorem Qu (s:ByteArray)(k:Option Nat)(w:World)(hs:s.size<=maxLen)(h:IsCut s k) :
 Calls prog 107 #[.string s] w fun e w'=>e=.returned (.int .i64 (X4 k))/\w'=w:=by
 have K:=Hd h;clear h;unfold maxLen at hs
 go_enter func107,ntmps107
 go_wp2
 go_loop [3] (fun iv=>∃ i:Nat,i<=s.size/\iv=.int .i64 (i:Nat)/\∀ j:Nat,j<i->s.data.toList[j]? ≠ some 47) (fun iv=>s.size - (intOf iv).toNat)
 case atStart=>exact⟨0,Jy _,rfl,fun j hj=>by omega⟩
 case round=>
  obtain⟨i,O,rfl,A⟩:=hrel;have d:=Hd A;clear A
  by_cases hl:i<s.size
  ·have E:s.data.toList[i]? = some s[i]:=by
    rw[Jf (by simpa using hl)];rfl
   by_cases hc:s[i]=47
   ·have I:Hid (X4 k=(i:Int)):=by
     have:k=some i:=isCut_unique K.o (show IsCut s (some i) from ⟨by rw[E,hc],d.o⟩)
     show X4 k=(i:Int)
     rw[this];rfl
    have M:(s[i].toNat:Int)=47:=by rw[hc];rfl
    have z:((s[i].toNat:Int)==47)=true:=by rw[Yc];exact M
    clear E hc M
    go_wp2
    go_ret
    exact⟨K5 I.o.symm,rfl⟩
   ·have J:Hid (∀ j:Nat,j<i+1->s.data.toList[j]? ≠ some 47):=fun j hj=>by
     by_cases G:j=i
     ·subst G;rw[E];exact fun e=>hc (Option.some.inj e)
     ·exact d.o j (by omega)
    have z:((s[i].toNat:Int)==47)=false:=by
     rw[Jc];intro e;exact hc (UInt8.toNat_inj.1 (by have e2:(47:UInt8).toNat=47:=rfl;omega))
    clear E hc
    go_wp2
    go_round
    case rel=>exact⟨i+1,by omega,by go_num,J.o⟩
    case measure=>simp[intOf];omega
  ·have I:Hid (X4 k = -1):=by
    have:k=none:=isCut_unique K.o (show IsCut s none from fun j=>by
     by_cases hj:j<i
     ·exact d.o j hj
     ·rw[Yj (by simp;omega)];simp)
    show X4 k = -1
    rw[this];rfl
   go_wp2
   go_ret
   exact⟨K5 I.o.symm,rfl⟩
theorem Th (w:World)(base e:Nat)(x:Value)(hb:base<=w.heap.size):(w.alloc (.cells #[x] e)).ownsRow base e 1 (.slice (some ⟨w.heap.size,0,none⟩) 1 1) 1 [x]:=by
 refine⟨rfl,.inr ⟨w.heap.size,1,#[x],rfl,hb,?_,Of,(by unfold maxLen;omega),rfl,rfl⟩⟩;exact heap_alloc_new w _
theorem Pq {W:World}{g off:Nat}{R:List Nat}(h:∀ i,i<R.length->W.cell? ⟨g,off+i,none⟩=some (.int .u32 (R.getD i 0:Nat))):∀ j u,(Nb R)[j]? = some u->W.cell? ((⟨g,off,none⟩:Addr).add j)=some u:=by
 intro j v A;simp only[Nb,Y2,Option.map_eq_some_iff] at A;obtain⟨x,E,rfl⟩:=A;obtain⟨d,G⟩:=Zs.1 E;rw[show (Addr.add ⟨g,off,none⟩ j)=⟨g,off+j,none⟩ by simp[Addr.add],h j d,Jk,E];rfl
theorem Qg (R:List Nat):∀ u∈Nb R,u.oneCell'=true:=by
 intro v d;simp only[Nb,Zm] at d;obtain⟨x,_,rfl⟩:=d;rfl
theorem Hc.of_owns' {base e n:Nat}{W:World}{v:Value}{R:List Nat}(h:W.ownsRow base e 1 v n (Nb R))(hok:okL R):Hc base W v R:=by
 have hn:n=R.length:=by have:=h.1;simp at this;omega
 subst hn;exact Hc.of_owns h hok
theorem T1 (b:List Nat)(h:b≠[]):El [] b = -1:=by
 unfold El;have:0<b.length:=by
  apply Yp;intro e;exact h (Jv e)
 simp[this]
theorem IQ (x y:Nat)(h:x<=y):Bd x y<=0:=by
 unfold Bd
 split
 ·omega
 first|omega|(split<;>omega)
theorem QL (x y:Nat)(h:y<x):0<Bd x y:=by
 unfold Bd
 split
 ·omega
 first|omega|(split<;>omega)
theorem Qr (u b:List Nat)(hu:isTrim u)(hb:okL b)(h:val u<=val b):u.length<=b.length:=by
 by_cases d:u=[]
 ·rw[d];exact Jy _
 have A:=Xe u hu d;have E:=Gu b hb;apply Z0;intro j;have h3:1000000000 ^ b.length<=1000000000 ^ (u.length - 1):=Yu (by decide) (by omega);omega
theorem Xf {P:Program}{w:World}{ops:Array Oper}{rest:List Oper}{o:Oper}{a:Act}{Q:Exit->Act->World->Prop}(hgd:o.guard=none)(s x:Operand)(t:TypeId)
 (ho:o.op=.call { callee:=.builtin .append,args:=#[s,x],argTypes:=#[t,t] })
 (base b2:Nat) (e:TypeId) (i:TypeInfo) (z:Value) (bytes:Nat) (ht:P.underlying t=some (.slice e)) (hi:P.info? e=some i) (hz:i.zero=some z)
 (hsize:i.size=1) (hby:i.bytes=bytes) (hzs:z.cells.size=1)
 (v:Value) (n:Nat) (xs:List Value) (hs:a.eval s=v) (hown:w.ownsRow base e 1 v n xs)
 (rv:Value) (R:List Nat) (hx:a.eval x=rv) (hR:Hc b2 w rv R)
 (h63:n+R.length<=maxLen) (hbytes:(n+R.length)*bytes<=140737488355328) (hbase:base<=w.heap.size)
 (h:∀ v' w',w'.ownsRow base e 1 v' (n+R.length) (xs++Nb R)->w.grownBy w' v.ownBlock->wpList P ops Q rest (a.put o.dst v') w'):wpList P ops Q (o::rest) a w:=by
 obtain⟨_,⟨rfl,rfl⟩|⟨g,cap,rfl,_,_,_,_,hc⟩⟩:=hR
 ·exact wpList_append_own_none hgd s x t ho base e i 1 ht hi v n xs hs hown hx (h v w (by simpa[Nb] using hown) ⟨rfl,rfl,rfl,Of,fun _ _ _=>rfl⟩)
 exact wpList_append_own w hgd s x t ho base e i z 1 bytes ht hi hz hsize hby hzs (by omega) v n xs hs hown ⟨g,0,none⟩ R.length cap (Nb R) hx (by simp) (Pq (fun i hi=>by rw[Y3];exact hc i hi)) (Qg R) h63 hbytes hbase (fun v' w' h1 h2 _=>h v' w' h1 h2)
theorem S9 (B ba oa ca:Nat)(vb:Value)(a b:List Nat)(w:World)(hBw:B<=w.heap.size)(hla:a.length<=100000)(ha:U1 B w (.slice (some ⟨ba,oa,none⟩) a.length ca) a)(hane:a≠[])(hb:U1 B w vb b)(hlb:b.length<=100000)(htb:isTrim b)(hne:b≠[]) :
 Calls prog 141 #[.slice (some ⟨ba,oa,none⟩) a.length ca,vb] w fun e w'=>∃ v u Q U,e=.returned (.tuple #[v,u])/\(U1 w.heap.size w' v Q/\U1 w.heap.size w' u U)/\val a=val Q*val b+val U/\val U<val b/\Up w w':=by
 obtain⟨i0,b5,i7,g9,h8⟩:=info_parts info_u32;have HB:Hid (∀ W,Up w W->U1 B W vb b):=fun W hW=>hb.below hW;obtain⟨pb,cb,rfl,_,_,v7,_⟩:=hb;obtain⟨_,D0,y8,q0,d2⟩:=ha.cells;have y7:0<a.length:=by
  apply Yp;intro e;exact hane (Jv e)
 have F2:0<b.length:=by
  apply Yp;intro e;exact hne (Jv e)
 have s2:ba<w.heap.size:=by
  obtain⟨b',g6,e,e3,_⟩:=d2 0 y7;simp only[Option.some.injEq,Addr.mk.injEq,and_true] at e;omega
 have HA:Hid (∀ i,i<a.length->w.cell? ⟨ba,oa+i,none⟩=some (.int .u32 (a.getD i 0:Nat))):=fun i hi=>by
  obtain⟨b',g6,e,_,hc⟩:=d2 i hi;simp only[Option.some.injEq,Addr.mk.injEq,and_true] at e;obtain⟨rfl,rfl⟩:=e;exact hc
 have n9:Hid (SD a b (a.drop (a.length+1 - b.length)) (List.replicate a.length 0) (a.length+1 - b.length)):=XN a b q0 htb hne;obtain⟨T,hT⟩:=O1 (a.length+1 - b.length);rw[hT] at n9;have p2:T<=a.length:=by omega
 have HT:Hid (T=a.length+1 - b.length):=hT.symm;unfold maxLen at y8;have I:Hid (okL a/\okL b/\isTrim b/\b≠[]):=⟨q0,v7,htb,hne⟩;clear ha d2 hane htb hne;have D1:Hid (T=0∨T<=ca):=.inr (by omega);have o9:Hid (T=a.length+1 - b.length/\T<=a.length):=⟨HT.o,p2⟩;have q7:((a.length:Int) - (b.length:Int)+1<0/\T=0)∨((a.length:Int) - (b.length:Int)+1=(T:Int)/\T<ca)∨((a.length:Int) - (b.length:Int)+1=(T:Int)/\ca=T/\a.length=T):=by omega
 have g4:Hid (B<=w.heap.size+1):=by unfold Hid;omega
 have p1:=Hd hBw;have p8:Hid (∀ W,Up w W->∀ i,i<(a.drop T).length->W.cell? ⟨ba,oa+T+i,none⟩=some (.int .u32 ((a.drop T).getD i 0:Nat))):=fun W hW i hi=>by rw[hW.cell (p:=⟨ba,oa+T+i,none⟩) s2,Uo,HA.o (T+i) (by simp at hi;omega),Hp]
 clear hT HT p2
 rcases q7 with⟨u1,p3⟩|⟨u1,p3⟩|⟨u1,p3,u8⟩
 ·have HE:=Hd p3;have z1:decide ((a.length:Int) - (b.length:Int)+1<0)=true:=dT (by omega)
  clear p3
  go_enter func141,ntmps141
  go_wp2_with (at_make;refine wpList_make_full _ rfl _ _ 121 rfl w.heap.size 154 i0 (.int .u32 0) 1 underlying121 b5 i7 g9 .i64 .i64 _ _ a.length rfl rfl (by first|rfl|omega) (by first|rfl|omega) (by first|omega|(rw[h8];omega)) (by unfold maxLen;omega) Of ?_)
  intro w1 G i8
  first|rw[K8] at G|rw[Ka] at G
  have b9:O6 w1 w.heap.size (List.replicate a.length 0):=(Kp G).tail;have i6:Up w w1:=(Jh _ _).grown i8 Of (fun k h=>by cases h);have p0:=Hd b9;have h7:=Hd i6;have c8:Hid (w.heap.size<w1.heap.size):=b9.lt;clear G i8 b9 i6
  go_wp2_with (at_builtin;refine wpList_append_own _ rfl _ _ 121 rfl (w.heap.size+1) 154 i0 (.int .u32 0) 1 4 underlying121 b5 i7 g9 h8 rfl (by decide) _ 0 [] rfl (Vr _ _ _ _) ⟨ba,oa,none⟩ a.length ca (Nb (a.drop T)) rfl (by rw[HE.o];simp) (by have h:=Pq (p8.o _ h7.o);rw[HE.o] at h ⊢;exact h) (Qg _) (by unfold maxLen;omega) (by omega) (by have:=c8.o;omega) ?_)
  intro v2 w2 a8 d4 _
  try rw[<-List.map_drop] at a8
  have A:=a8;have o0:Up w w2:=h7.o.grown d4 h7.o.size (fun k h=>by cases h);have o6:Hid (Hc (w.heap.size+1) w2 v2 (a.drop T)):=Hc.of_owns' (e:=154) (R:=a.drop T) A n9.o.rok;have q1:Hid (O6 w2 w.heap.size (List.replicate a.length 0)):=by
   obtain⟨tl,h⟩:=p0.o;exact⟨tl,(d4.block _ c8.o (by simp[Value.ownBlock])).trans h⟩
  have t6:=Hd o0;obtain⟨pr,lr,cr,s0⟩:∃ pr lr cr,v2=.slice pr lr cr:=by
   obtain⟨_,_,e,_⟩:=o6.o.isL;exact⟨_,_,_,e⟩
  subst s0;clear a8 A d4 o0
  go_wp2
  go_loopw [7,9] (fun rv iv wr=>∃ (j:Nat) (R Q:List Nat),SD a b R Q j/\Hc (w.heap.size+1) wr rv R/\iv=.int .i64 ((j:Int) - 1)/\O6 wr w.heap.size Q/\Up w wr) (fun _ iv _=>(intOf iv+1).toNat)
  case atStart=>exact⟨T,_,_,n9.o,o6.o,Ob (by have:=HE.o;omega),q1.o,t6.o⟩
  case round=>
   obtain⟨j,R,Q,j9,o5,rfl,hQ,hB⟩:=hrel;have d:=Hd j9;have g8:=Hd o5;have k8:=Hd hQ;have e0:=Hd hB;have z7:=j9.le;clear j9 o5 hQ hB
   cases j with
   | zero=>
     have HE:Hid (val a=val Q*val b+val R/\val R<val b):=by
      have e:=d.o.eq;unfold Ek at e;rw[Y5,Y5] at e;exact⟨e,d.o.lt⟩
     have q3:Hid (U1 w.heap.size wr (.slice (some ⟨w.heap.size,0,none⟩) a.length a.length) Q):=by
      have h:=k8.o.isL (B:=w.heap.size) (cap:=a.length) Of d.o.qok (by have:=d.o.qlen;omega) (by unfold maxLen;omega);rw[d.o.qlen] at h;exact h
     go_wp2
     go_ret2
     exact⟨_,_,Q,R,rfl,⟨q3.o,g8.o.isL.mono (by omega)⟩,HE.o.1,HE.o.2,e0.o⟩
   | succ i=>
     have d2:=HA.o i (by omega);rw[<-e0.o.cell (p:=⟨ba,oa+i,none⟩) s2] at d2;have j5:=O9 a I.o.1 i (by omega);have O:Hid (val (Oe (a.getD i 0::R))<val b->SD a b (Oe (a.getD i 0::R)) Q i):=fun h=>d.o.cont h j5 I.o.2.1;have j3:Hid (∀ {q:Nat} {R':List Nat},q<1000000000->val (a.getD i 0::R)=q*val b+val R'->val R'<val b->okL R'->isTrim R'->SD a b R' (Q.set i q) i):=fun {q R'} h1 h2 h3 h4 h5=>d.o.put h1 h2 h3 h4 h5 I.o.2.1;have g2:Hid (val (a.getD i 0::R)<val b*1000000000):=d.o.window j5;obtain⟨x,hx⟩:=O1 (a.getD i 0);rw[hx] at d2 j5 O j3 g2;obtain⟨N,hN⟩:=O1 (x::R);have i1:okL N:=by
      rw[<-hN];intro y hy
      rcases Vx.1 hy with e|e
      ·omega
      ·exact d.o.rok y e
     have x4:=d.o.rlen;have f9:Hid (N.length=R.length+1/\N.length<=100001):=by
      rw[<-hN];exact⟨by simp,by simp;omega⟩
     rw[hN] at O j3 g2;have HN:Hid (okL N/\True/\val N<val b*1000000000):=⟨i1,trivial,g2.o⟩;have r4:Hid (Nb N=Value.int .u32 (x:Nat)::Nb R):=by rw[<-hN];rfl
     have J:Hid (w.heap.size<wr.heap.size):=k8.o.lt;clear hx hN i1 g2
     go_wp2_with (at_builtin;refine Xf rfl _ _ 121 rfl (w.heap.size+1) (w.heap.size+1) 154 i0 (.int .u32 0) 4 underlying121 b5 i7 g9 h8 rfl _ 1 [.int .u32 (x:Nat)] rfl (Th wr _ _ _ (by have:=J.o;omega)) _ R rfl (g8.o.below (Oy _ _)) (by unfold maxLen;omega) (by omega) (by have:=J.o;simp;omega) ?_)
     intro v3 w3 A d6;rw[<-r4.o] at A;have n7:Up w w3:=(e0.o.alloc e0.o.size _).grown d6 (by have:=e0.o.size;simp;omega) (fun k h=>by simp[Value.ownBlock] at h;have:=J.o;omega);have l8:Hid (O6 w3 w.heap.size Q):=by
      obtain⟨tl,h⟩:=k8.o;refine⟨tl,(d6.block _ (by have:=J.o;simp;omega) (by simp[Value.ownBlock];have:=J.o;omega)).trans ?_⟩;exact (heap_alloc_old wr _ J.o).trans h
     have b4:=Hd n7;obtain⟨_,⟨_,o4⟩|⟨g,cap,s1,r6,r9,s4,m7,j4⟩⟩:=Hc.of_owns' (e:=154) A HN.o.1
     ·exfalso;have:=f9.o.1;rw[o4] at this;simp at this
     subst s1;have s3:=Hd j4;have h6:Hid (∀ k,k<=N.length->Oe N=N.take k->Hc (w.heap.size+1) w3 (.slice (some ⟨g,0,none⟩) k cap) (Oe N)):=fun k hk he=>Hc.cut r6 r9 m7 HN.o.1 s4 j4 k hk he;have y0:=f9.o.2;unfold maxLen at m7;clear A d6 n7 j4 d2
     go_wp2
     go_loop [11] (fun n=>∃ k:Nat,k<=N.length/\n=.int .i64 k/\Oe (N.take k)=Oe N) (fun n=>(intOf n).toNat)
     case atStart=>exact⟨N.length,Of,rfl,by rw[Yl]⟩
     case round=>
      obtain⟨k,hk,rfl,hp⟩:=hrel;have HP:=Hd hp;clear hp
      cases k with
      | zero=>
        have HE:Hid (Oe N=[]):=by rw[<-HP.o];rfl
        have d8:Hid (Hc (w.heap.size+1) w3 (.slice (some ⟨g,0,none⟩) 0 cap) (Oe N)):=h6.o 0 (by omega) (by rw[<-HP.o];rfl);have e9:Hid (U1 B w3 (.slice (some ⟨g,0,none⟩) 0 cap) (Oe N)):=d8.o.isL.mono g4.o;have d9:Hid (El (Oe N) b = -1):=by rw[HE.o];exact T1 b I.o.2.2.2
        have d1:Hid (SD a b (Oe N) Q i):=O.o (by rw[HE.o];exact Nj b I.o.2.2.1 I.o.2.2.2)
        go_wp2_with fail
        refine (Nf B _ _ (Oe N) b _ e9.o (HB.o _ b4.o)).mono ?_;rintro e w4 ⟨rfl,K⟩;rw[d9.o];have E:Hid (Hc (w.heap.size+1) w4 (.slice (some ⟨g,0,none⟩) 0 cap) (Oe N)/\O6 w4 w.heap.size Q/\Up w w4):=⟨d8.o.below K,l8.o.kept K,b4.o.trans (K.mono b4.o.size)⟩;clear K
        go_wp2
        go_roundw
        case rel=>exact⟨i,Oe N,Q,d1.o,E.o.1,by go_num,E.o.2.1,E.o.2.2⟩
        case measure=>simp[intOf]
      | succ m=>
        obtain⟨y,hy⟩:=O1 (N.getD m 0);have V:=s3.o m (by omega);rw[hy] at V;have HY:=Hd hy;clear hy
        by_cases h0:y=0
        ·have hz:((y:Int)==0)=true:=by rw[Yc];omega
         have HE:Hid (Oe (N.take m)=Oe N):=by rw[<-Eh N m (by omega) (by rw[HY.o,h0])];exact HP.o
         clear h0
         go_wp2
         go_round
         case rel=>exact⟨m,by omega,Ob (by omega),HE.o⟩
         case measure=>simp[intOf]
        ·have hz:((y:Int)==0)=false:=by rw[Jc];omega
         have d8:Hid (Hc (w.heap.size+1) w3 (.slice (some ⟨g,0,none⟩) (m+1) cap) (Oe N)):=h6.o (m+1) hk (HP.o.symm.trans (Eb N m (by omega) (by rw[HY.o];exact h0)));have e9:Hid (U1 B w3 (.slice (some ⟨g,0,none⟩) (m+1) cap) (Oe N)):=d8.o.isL.mono g4.o;have e1:Hid ((Oe N).length=m+1):=by obtain⟨_,_,e,_⟩:=e9.o;simp at e;exact e.2.1.symm
         clear h0;obtain⟨cm,j6⟩:=O1 (El (Oe N) b);have d9:=Hd j6;have q9 : -1<=cm/\cm<=1:=by rw[<-j6];exact Qb _ b
         obtain⟨u6,w9⟩:=q9;clear j6
         go_wp2_with fail
         refine (Nf B _ _ (Oe N) b _ e9.o (HB.o _ b4.o)).mono ?_;rintro e w4 ⟨rfl,K⟩;rw[d9.o];have E:Hid (Hc (w.heap.size+1) w4 (.slice (some ⟨g,0,none⟩) (m+1) cap) (Oe N)/\O6 w4 w.heap.size Q/\Up w w4):=⟨d8.o.below K,l8.o.kept K,b4.o.trans (K.mono b4.o.size)⟩;clear K V
         by_cases e3:cm<0
         ·have d1:Hid (SD a b (Oe N) Q i):=O.o (X7 _ b (trimL_ok N HN.o.1) I.o.2.1 (trimL_trim N) I.o.2.2.1 (by rw[d9.o];exact e3))
          go_wp2
          go_roundw
          case rel=>exact⟨i,Oe N,Q,d1.o,E.o.1,by go_num,E.o.2.1,E.o.2.2⟩
          case measure=>simp[intOf]
         ·have q5:Hid (val b<=val N/\b.length<=(Oe N).length):=by
           have h:=UD (Oe N) b (trimL_ok N HN.o.1) I.o.2.1 (trimL_trim N) I.o.2.2.1 (by rw[d9.o];omega);rw[O3] at h;exact⟨h.2,h.1⟩
          have y2:0<=cm:=by omega
          clear e3
          go_wp2
          go_loopw [12,13] (fun lov hiv wq=>∃ lo hi:Nat,lov=.int .u64 (lo:Nat)/\hiv=.int .u64 (hi:Nat)/\Gm (val b) (val N) lo hi/\Up w4 wq) (fun lov hiv _=>(intOf hiv).toNat - (intOf lov).toNat)
          case atStart=>exact⟨0,999999999,rfl,rfl,Qw _ _ HN.o.2.2,Jh _ _⟩
          case round=>
           obtain⟨lo,hi,rfl,rfl,e8,m9⟩:=hrel;have d7:=Hd e8;have b7:=Hd m9;have x7:=e8.1;have y9:=e8.2.1;clear e8 m9;have l0:Hid (Up w wr):=E.o.2.2.trans (b7.o.mono E.o.2.2.size);have n1:Hid (Hc (w.heap.size+1) wr (.slice (some ⟨g,0,none⟩) (m+1) cap) (Oe N)):=E.o.1.below b7.o;have k1:Hid (O6 wr w.heap.size Q):=E.o.2.1.kept b7.o
           by_cases j1:lo<hi
           ·obtain⟨M,hM⟩:=O1 ((lo+hi+1) / 2);have y4:((lo:Int)+(hi:Int)+1) / 2=(M:Int):=by omega
            have HM:=Hd hM;have q4:M<1000000000:=by omega
            have x8:1<=M:=by omega
            clear hM
            go_wp2_with fail
            refine (Xz B _ b M _ (HB.o _ l0.o) hlb q4).mono ?_;rintro e w5 ⟨v5,L5,rfl,f8,m8,m6,t7,n6⟩;have t8:Hid (U1 B w5 v5 L5):=f8.mono (by have:=l0.o.size;have:=p1.o;omega);have l4:Hid (isTrim L5/\val L5=val b*M/\okL L5):=⟨m8,m6,by obtain⟨_,_,_,_,_,h,_⟩:=f8;exact h⟩;have j2:=Hd n6;obtain⟨p5,c5,e5,_⟩:=id f8;subst e5;clear f8 m8 m6 t7 n6
            go_wp2_with fail
            refine (Nf B _ _ L5 (Oe N) _ t8.o ((n1.o.below j2.o).isL.mono g4.o)).mono ?_;rintro e w6 ⟨rfl,b6⟩;have Y:Hid (Up w4 w6):=b7.o.trans ((j2.o.trans (b6.mono j2.o.size)).mono b7.o.size);clear b6;have ho:=Ga L5 (Oe N) l4.o.2.2 (trimL_ok N HN.o.1) l4.o.1 (trimL_trim N);rw[O3,l4.o.2.1] at ho
            by_cases hc:M*val b<=val N
            ·have r8:Hid (Gm (val b) (val N) M hi):=by
              have h:=C8 d7.o j1 (by rw[HM.o];exact hc);rw[HM.o] at h;exact h
             obtain⟨cx,a7⟩:=O1 (El L5 (Oe N));have n8:cx<=0:=by rw[<-a7,ho];exact IQ _ _ (by rw[Yy];exact hc)
             rw[a7];clear a7 ho hc
             go_wp2
             go_roundw
             case rel=>exact⟨M,hi,rfl,rfl,r8.o,Y.o⟩
             case measure=>simp[intOf];have:=HM.o;omega
            ·have r3:Hid (Gm (val b) (val N) lo (M - 1)):=by
              have h:=Pn d7.o j1 (by rw[HM.o];omega);rw[HM.o] at h;exact h
             obtain⟨cx,a7⟩:=O1 (El L5 (Oe N));have n8:0<cx:=by rw[<-a7,ho];exact QL _ _ (by rw[Yy];omega)
             rw[a7];clear a7 ho hc
             go_wp2
             go_roundw
             case rel=>exact⟨lo,M - 1,rfl,Ob (by omega),r3.o,Y.o⟩
             case measure=>simp[intOf];have:=HM.o;omega
           ·obtain rfl:lo=hi:=by omega
            have l1:Hid (1<=lo/\lo*val b<=val N/\val N<(lo+1)*val b):=by
             refine⟨?_,d7.o.2.2.1,d7.o.2.2.2⟩;apply Yp;rintro rfl;have h1:=d7.o.2.2.2;have h2:=q5.o.1;omega
            have x0:=l1.o.1;have s9:=k1.o.cell i (by have:=d.o.qlen;have:=d.o.le;omega);have s6:=k1.o.frozen i;have Z:Hid (O6 (wr.setCell ⟨w.heap.size,i,none⟩ (.int .u32 (lo:Nat))) w.heap.size (Q.set i lo)/\Hc (w.heap.size+1) (wr.setCell ⟨w.heap.size,i,none⟩ (.int .u32 (lo:Nat))) (.slice (some ⟨g,0,none⟩) (m+1) cap) (Oe N)/\Up w (wr.setCell ⟨w.heap.size,i,none⟩ (.int .u32 (lo:Nat)))):=
             ⟨k1.o.set _ _ (by have:=d.o.qlen;have:=d.o.le;omega),n1.o.setCell _ _ (by show w.heap.size<w.heap.size+1;omega),l0.o.setCell Of _⟩
            obtain⟨W5,j0⟩:=O1 (wr.setCell ⟨w.heap.size,i,none⟩ (.int .u32 (lo:Nat)));have s8:=Hd j0;rw[j0] at Z;clear j0 j1
            go_wp2_with fail
            rw[s8.o];clear s9 s6;refine (Xz B _ b lo _ (HB.o _ Z.o.2.2) hlb (by omega)).mono ?_;rintro e w6 ⟨v6,L6,rfl,g1,n3,n0,r5,b6⟩;have e4:Hid (U1 B w6 v6 L6/\isTrim L6/\val L6=val b*lo/\okL L6):=⟨g1.mono (by have:=Z.o.2.2.size;have:=p1.o;omega),n3,n0,by obtain⟨_,_,_,_,_,h,_⟩:=g1;exact h⟩;have Y:=Hd b6;obtain⟨p6,c6,e6,_⟩:=id g1;subst e6;clear g1 n3 n0 r5 b6
            go_wp2_with fail
            have b8:val L6<=val (Oe N):=by rw[e4.o.2.2.1,O3,Yy];exact l1.o.2.1
            have d5:=Cq B (.slice (some ⟨g,0,none⟩) (m+1) cap) (.slice p6 L6.length c6) (Oe N) L6 w6 ((Z.o.2.1.below Y.o).isL.mono g4.o) e4.o.1 (by have:=f9.o;have:=Ku N;omega) (Qr L6 (Oe N) e4.o.2.1 (trimL_ok N HN.o.1) b8) b8;rw[e1.o] at d5;refine d5.mono ?_;clear d5 b8;rintro e w7 ⟨S,rfl,hS,l2,o3,l5⟩;have b3:okL S:=by obtain⟨_,_,_,_,_,h,_⟩:=hS;exact h
            have HS:Hid (okL S/\S.length=m+1/\val S+lo*val b=val N):=⟨b3,o3,by rw[e4.o.2.2.1,O3] at l2;rw[Yy lo];exact l2⟩;have hG:w.heap.size+1<=w6.heap.size:=by have:=Z.o.1.lt;have:=Y.o.size;omega
            have n5:Hid (∀ q,q<S.length->w7.cell? ⟨w6.heap.size,q,none⟩=some (.int .u32 (S.getD q 0:Nat))):=fun q hq=>by
             obtain⟨_,_,_,_,k7⟩:=hS.cells;obtain⟨b',g6,e,_,hc⟩:=k7 q hq;simp only[Option.some.injEq,Addr.mk.injEq,and_true] at e;obtain⟨rfl,rfl⟩:=e;rw[Y3] at hc;exact hc
            have o2:Hid (w6.heap.size<w7.heap.size):=by
             obtain⟨_,_,_,_,k7⟩:=hS.cells;obtain⟨b',g6,e,e3,hc⟩:=k7 0 (by omega);simp only[Option.some.injEq,Addr.mk.injEq,and_true] at e;obtain⟨rfl,rfl⟩:=e;exact e3
            have f5:Hid (O6 w7 w.heap.size (Q.set i lo)/\Up w w7):=⟨(Z.o.1.kept Y.o).kept l5,Z.o.2.2.trans ((Y.o.trans (l5.mono Y.o.size)).mono Z.o.2.2.size)⟩;have d3:Hid (∀ k,k<=S.length->Oe S=S.take k->Hc (w.heap.size+1) w7 (.slice (some ⟨w6.heap.size,0,none⟩) k (m+1)) (Oe S)):=fun k hk he=>Hc.cut hG o2.o (by unfold maxLen;have:=f9.o;have:=Ku N;have:=e1.o;omega) b3 (by omega) n5.o k hk he;have h9:Hid (SD a b (Oe S) (Q.set i lo) i):=by
             refine j3.o (by omega) ?_ ?_ (trimL_ok S b3) (trimL_trim S)
             ·rw[O3];have:=HS.o.2.2;omega
             ·rw[O3];have h1:=HS.o.2.2;have h2:=l1.o.2.2;rw[Zl,Zp] at h2;omega
            clear hS l2 o3 l5 b3 hG
            go_wp2
            go_loop [16] (fun n=>∃ k:Nat,k<=S.length/\n=.int .i64 k/\Oe (S.take k)=Oe S) (fun n=>(intOf n).toNat)
            case atStart=>exact⟨S.length,Of,Ob (by have:=HS.o.2.1;omega),by rw[Yl]⟩
            case round=>
             obtain⟨k,hk,rfl,hp⟩:=hrel;have j7:=Hd hp;have k0:=HS.o.2.1;clear hp
             cases k with
             | zero=>
               have d0:Hid (Hc (w.heap.size+1) w7 (.slice (some ⟨w6.heap.size,0,none⟩) 0 (m+1)) (Oe S)):=d3.o 0 (by omega) (by rw[<-j7.o];rfl);clear k0
               go_wp2
               go_roundw
               case rel=>exact⟨i,Oe S,Q.set i lo,h9.o,d0.o,by go_num,f5.o.1,f5.o.2⟩
               case measure=>simp[intOf]
             | succ p=>
               obtain⟨y,hy⟩:=O1 (S.getD p 0);have V:=n5.o p (by omega);rw[hy] at V;have n2:=Hd hy;have y5:p<m+1:=by omega
               clear hy
               by_cases h0:y=0
               ·have hz:((y:Int)==0)=true:=by rw[Yc];omega
                have r7:Hid (Oe (S.take p)=Oe S):=by rw[<-Eh S p (by omega) (by rw[n2.o,h0])];exact j7.o
                clear h0 k0
                go_wp2
                go_round
                case rel=>exact⟨p,by have:=HS.o.2.1;omega,Ob (by omega),r7.o⟩
                case measure=>simp[intOf]
               ·have hz:((y:Int)==0)=false:=by rw[Jc];omega
                have d0:Hid (Hc (w.heap.size+1) w7 (.slice (some ⟨w6.heap.size,0,none⟩) (p+1) (m+1)) (Oe S)):=d3.o (p+1) (by omega) (j7.o.symm.trans (Eb S p (by omega) (by rw[n2.o];exact h0)));clear h0 k0
                go_wp2
                go_roundw
                case rel=>exact⟨i,Oe S,Q.set i lo,h9.o,d0.o,by go_num,f5.o.1,f5.o.2⟩
                case measure=>simp[intOf]
 case' _=>
  have z1:decide ((T:Int)<0)=false:=dF (by omega)
  have q8:=o9.o.2;have z2:decide (a.length<T)=false:=dF (by omega)
  have z3:decide ((a.length:Int)<(T:Int))=false:=dF (by omega)
  clear q8
  go_enter func141,ntmps141
  go_wp2_with (at_make;refine wpList_make_full _ rfl _ _ 121 rfl w.heap.size 154 i0 (.int .u32 0) 1 underlying121 b5 i7 g9 .i64 .i64 _ _ a.length rfl rfl (by first|rfl|omega) (by first|rfl|omega) (by first|omega|(rw[h8];omega)) (by unfold maxLen;omega) Of ?_)
  intro w1 G i8
  first|rw[K8] at G|rw[Ka] at G
  have b9:O6 w1 w.heap.size (List.replicate a.length 0):=(Kp G).tail;have i6:Up w w1:=(Jh _ _).grown i8 Of (fun k h=>by cases h);have p0:=Hd b9;have h7:=Hd i6;have c8:Hid (w.heap.size<w1.heap.size):=b9.lt;clear G i8 b9 i6;have p2:=o9.o.2
  go_wp2_with (at_builtin;refine wpList_append_own _ rfl _ _ 121 rfl (w.heap.size+1) 154 i0 (.int .u32 0) 1 4 underlying121 b5 i7 g9 h8 rfl (by decide) _ 0 [] rfl (Vr _ _ _ _) ⟨ba,oa+T,none⟩ (a.length - T) (ca - T) (Nb (a.drop T)) rfl (by simp) (Pq (p8.o _ h7.o)) (Qg _) (by unfold maxLen;omega) (by omega) (by have:=c8.o;omega) ?_)
 rotate_left
 case' _=>
  have z1:decide ((T:Int)<0)=false:=dF (by omega)
  have z6:=Hd u8;have q8:=o9.o.2;have z2:decide (a.length<T)=false:=dF (by omega)
  have z3:decide ((a.length:Int)<(T:Int))=false:=dF (by omega)
  clear q8 u8
  go_enter func141,ntmps141
  go_wp2_with (at_make;refine wpList_make_full _ rfl _ _ 121 rfl w.heap.size 154 i0 (.int .u32 0) 1 underlying121 b5 i7 g9 .i64 .i64 _ _ a.length rfl rfl (by first|rfl|omega) (by first|rfl|omega) (by first|omega|(rw[h8];omega)) (by unfold maxLen;omega) Of ?_)
  intro w1 G i8
  first|rw[K8] at G|rw[Ka] at G
  have b9:O6 w1 w.heap.size (List.replicate a.length 0):=(Kp G).tail;have i6:Up w w1:=(Jh _ _).grown i8 Of (fun k h=>by cases h);have p0:=Hd b9;have h7:=Hd i6;have c8:Hid (w.heap.size<w1.heap.size):=b9.lt;clear G i8 b9 i6;have p2:=o9.o.2
  go_wp2_with (at_builtin;refine wpList_append_own _ rfl _ _ 121 rfl (w.heap.size+1) 154 i0 (.int .u32 0) 1 4 underlying121 b5 i7 g9 h8 rfl (by decide) _ 0 [] rfl (Vr _ _ _ _) ⟨ba,oa,none⟩ (a.length - T) 0 (Nb (a.drop T)) rfl (by simp) (fun q u hq=>by have:=z6.o;rw[show a.drop T=[] from Zj (by omega)] at hq;simp at hq) (Qg _) (by unfold maxLen;omega) (by omega) (by have:=c8.o;omega) ?_)
 rotate_left
 all_goals
  intro v2 w2 a8 d4 _
  try rw[<-List.map_drop] at a8
  have A:=a8;have o0:Up w w2:=h7.o.grown d4 h7.o.size (fun k h=>by cases h);have o6:Hid (Hc (w.heap.size+1) w2 v2 (a.drop T)):=Hc.of_owns' (e:=154) (R:=a.drop T) A n9.o.rok;have q1:Hid (O6 w2 w.heap.size (List.replicate a.length 0)):=by
   obtain⟨tl,h⟩:=p0.o;exact⟨tl,(d4.block _ c8.o (by simp[Value.ownBlock])).trans h⟩
  have t6:=Hd o0;obtain⟨pr,lr,cr,s0⟩:∃ pr lr cr,v2=.slice pr lr cr:=by
   obtain⟨_,_,e,_⟩:=o6.o.isL;exact⟨_,_,_,e⟩
  subst s0;clear a8 A d4 o0
  go_wp2
  go_loopw [7,9] (fun rv iv wr=>∃ (j:Nat) (R Q:List Nat),SD a b R Q j/\Hc (w.heap.size+1) wr rv R/\iv=.int .i64 ((j:Int) - 1)/\O6 wr w.heap.size Q/\Up w wr) (fun _ iv _=>(intOf iv+1).toNat)
  case atStart=>exact⟨T,_,_,n9.o,o6.o,Ob (by omega),q1.o,t6.o⟩
  case round=>
   obtain⟨j,R,Q,j9,o5,rfl,hQ,hB⟩:=hrel;have d:=Hd j9;have g8:=Hd o5;have k8:=Hd hQ;have e0:=Hd hB;have z7:=j9.le;clear j9 o5 hQ hB
   cases j with
   | zero=>
     have HE:Hid (val a=val Q*val b+val R/\val R<val b):=by
      have e:=d.o.eq;unfold Ek at e;rw[Y5,Y5] at e;exact⟨e,d.o.lt⟩
     have q3:Hid (U1 w.heap.size wr (.slice (some ⟨w.heap.size,0,none⟩) a.length a.length) Q):=by
      have h:=k8.o.isL (B:=w.heap.size) (cap:=a.length) Of d.o.qok (by have:=d.o.qlen;omega) (by unfold maxLen;omega);rw[d.o.qlen] at h;exact h
     go_wp2
     go_ret2
     exact⟨_,_,Q,R,rfl,⟨q3.o,g8.o.isL.mono (by omega)⟩,HE.o.1,HE.o.2,e0.o⟩
   | succ i=>
     have d2:=HA.o i (by omega);rw[<-e0.o.cell (p:=⟨ba,oa+i,none⟩) s2] at d2;have j5:=O9 a I.o.1 i (by omega);have O:Hid (val (Oe (a.getD i 0::R))<val b->SD a b (Oe (a.getD i 0::R)) Q i):=fun h=>d.o.cont h j5 I.o.2.1;have j3:Hid (∀ {q:Nat} {R':List Nat},q<1000000000->val (a.getD i 0::R)=q*val b+val R'->val R'<val b->okL R'->isTrim R'->SD a b R' (Q.set i q) i):=fun {q R'} h1 h2 h3 h4 h5=>d.o.put h1 h2 h3 h4 h5 I.o.2.1;have g2:Hid (val (a.getD i 0::R)<val b*1000000000):=d.o.window j5;obtain⟨x,hx⟩:=O1 (a.getD i 0);rw[hx] at d2 j5 O j3 g2;obtain⟨N,hN⟩:=O1 (x::R);have i1:okL N:=by
      rw[<-hN];intro y hy
      rcases Vx.1 hy with e|e
      ·omega
      ·exact d.o.rok y e
     have x4:=d.o.rlen;have f9:Hid (N.length=R.length+1/\N.length<=100001):=by
      rw[<-hN];exact⟨by simp,by simp;omega⟩
     rw[hN] at O j3 g2;have HN:Hid (okL N/\True/\val N<val b*1000000000):=⟨i1,trivial,g2.o⟩;have r4:Hid (Nb N=Value.int .u32 (x:Nat)::Nb R):=by rw[<-hN];rfl
     have J:Hid (w.heap.size<wr.heap.size):=k8.o.lt;clear hx hN i1 g2
     go_wp2_with (at_builtin;refine Xf rfl _ _ 121 rfl (w.heap.size+1) (w.heap.size+1) 154 i0 (.int .u32 0) 4 underlying121 b5 i7 g9 h8 rfl _ 1 [.int .u32 (x:Nat)] rfl (Th wr _ _ _ (by have:=J.o;omega)) _ R rfl (g8.o.below (Oy _ _)) (by unfold maxLen;omega) (by omega) (by have:=J.o;simp;omega) ?_)
     intro v3 w3 A d6;rw[<-r4.o] at A;have n7:Up w w3:=(e0.o.alloc e0.o.size _).grown d6 (by have:=e0.o.size;simp;omega) (fun k h=>by simp[Value.ownBlock] at h;have:=J.o;omega);have l8:Hid (O6 w3 w.heap.size Q):=by
      obtain⟨tl,h⟩:=k8.o;refine⟨tl,(d6.block _ (by have:=J.o;simp;omega) (by simp[Value.ownBlock];have:=J.o;omega)).trans ?_⟩;exact (heap_alloc_old wr _ J.o).trans h
     have b4:=Hd n7;obtain⟨_,⟨_,o4⟩|⟨g,cap,s1,r6,r9,s4,m7,j4⟩⟩:=Hc.of_owns' (e:=154) A HN.o.1
     ·exfalso;have:=f9.o.1;rw[o4] at this;simp at this
     subst s1;have s3:=Hd j4;have h6:Hid (∀ k,k<=N.length->Oe N=N.take k->Hc (w.heap.size+1) w3 (.slice (some ⟨g,0,none⟩) k cap) (Oe N)):=fun k hk he=>Hc.cut r6 r9 m7 HN.o.1 s4 j4 k hk he;have y0:=f9.o.2;unfold maxLen at m7;clear A d6 n7 j4 d2
     go_wp2
     go_loop [11] (fun n=>∃ k:Nat,k<=N.length/\n=.int .i64 k/\Oe (N.take k)=Oe N) (fun n=>(intOf n).toNat)
     case atStart=>exact⟨N.length,Of,rfl,by rw[Yl]⟩
     case round=>
      obtain⟨k,hk,rfl,hp⟩:=hrel;have HP:=Hd hp;clear hp
      cases k with
      | zero=>
        have HE:Hid (Oe N=[]):=by rw[<-HP.o];rfl
        have d8:Hid (Hc (w.heap.size+1) w3 (.slice (some ⟨g,0,none⟩) 0 cap) (Oe N)):=h6.o 0 (by omega) (by rw[<-HP.o];rfl);have e9:Hid (U1 B w3 (.slice (some ⟨g,0,none⟩) 0 cap) (Oe N)):=d8.o.isL.mono g4.o;have d9:Hid (El (Oe N) b = -1):=by rw[HE.o];exact T1 b I.o.2.2.2
        have d1:Hid (SD a b (Oe N) Q i):=O.o (by rw[HE.o];exact Nj b I.o.2.2.1 I.o.2.2.2)
        go_wp2_with fail
        refine (Nf B _ _ (Oe N) b _ e9.o (HB.o _ b4.o)).mono ?_;rintro e w4 ⟨rfl,K⟩;rw[d9.o];have E:Hid (Hc (w.heap.size+1) w4 (.slice (some ⟨g,0,none⟩) 0 cap) (Oe N)/\O6 w4 w.heap.size Q/\Up w w4):=⟨d8.o.below K,l8.o.kept K,b4.o.trans (K.mono b4.o.size)⟩;clear K
        go_wp2
        go_roundw
        case rel=>exact⟨i,Oe N,Q,d1.o,E.o.1,by go_num,E.o.2.1,E.o.2.2⟩
        case measure=>simp[intOf]
      | succ m=>
        obtain⟨y,hy⟩:=O1 (N.getD m 0);have V:=s3.o m (by omega);rw[hy] at V;have HY:=Hd hy;clear hy
        by_cases h0:y=0
        ·have hz:((y:Int)==0)=true:=by rw[Yc];omega
         have HE:Hid (Oe (N.take m)=Oe N):=by rw[<-Eh N m (by omega) (by rw[HY.o,h0])];exact HP.o
         clear h0
         go_wp2
         go_round
         case rel=>exact⟨m,by omega,Ob (by omega),HE.o⟩
         case measure=>simp[intOf]
        ·have hz:((y:Int)==0)=false:=by rw[Jc];omega
         have d8:Hid (Hc (w.heap.size+1) w3 (.slice (some ⟨g,0,none⟩) (m+1) cap) (Oe N)):=h6.o (m+1) hk (HP.o.symm.trans (Eb N m (by omega) (by rw[HY.o];exact h0)));have e9:Hid (U1 B w3 (.slice (some ⟨g,0,none⟩) (m+1) cap) (Oe N)):=d8.o.isL.mono g4.o;have e1:Hid ((Oe N).length=m+1):=by obtain⟨_,_,e,_⟩:=e9.o;simp at e;exact e.2.1.symm
         clear h0;obtain⟨cm,j6⟩:=O1 (El (Oe N) b);have d9:=Hd j6;have q9 : -1<=cm/\cm<=1:=by rw[<-j6];exact Qb _ b
         obtain⟨u6,w9⟩:=q9;clear j6
         go_wp2_with fail
         refine (Nf B _ _ (Oe N) b _ e9.o (HB.o _ b4.o)).mono ?_;rintro e w4 ⟨rfl,K⟩;rw[d9.o];have E:Hid (Hc (w.heap.size+1) w4 (.slice (some ⟨g,0,none⟩) (m+1) cap) (Oe N)/\O6 w4 w.heap.size Q/\Up w w4):=⟨d8.o.below K,l8.o.kept K,b4.o.trans (K.mono b4.o.size)⟩;clear K V
         by_cases e3:cm<0
         ·have d1:Hid (SD a b (Oe N) Q i):=O.o (X7 _ b (trimL_ok N HN.o.1) I.o.2.1 (trimL_trim N) I.o.2.2.1 (by rw[d9.o];exact e3))
          go_wp2
          go_roundw
          case rel=>exact⟨i,Oe N,Q,d1.o,E.o.1,by go_num,E.o.2.1,E.o.2.2⟩
          case measure=>simp[intOf]
         ·have q5:Hid (val b<=val N/\b.length<=(Oe N).length):=by
           have h:=UD (Oe N) b (trimL_ok N HN.o.1) I.o.2.1 (trimL_trim N) I.o.2.2.1 (by rw[d9.o];omega);rw[O3] at h;exact⟨h.2,h.1⟩
          have y2:0<=cm:=by omega
          clear e3
          go_wp2
          go_loopw [12,13] (fun lov hiv wq=>∃ lo hi:Nat,lov=.int .u64 (lo:Nat)/\hiv=.int .u64 (hi:Nat)/\Gm (val b) (val N) lo hi/\Up w4 wq) (fun lov hiv _=>(intOf hiv).toNat - (intOf lov).toNat)
          case atStart=>exact⟨0,999999999,rfl,rfl,Qw _ _ HN.o.2.2,Jh _ _⟩
          case round=>
           obtain⟨lo,hi,rfl,rfl,e8,m9⟩:=hrel;have d7:=Hd e8;have b7:=Hd m9;have x7:=e8.1;have y9:=e8.2.1;clear e8 m9;have l0:Hid (Up w wr):=E.o.2.2.trans (b7.o.mono E.o.2.2.size);have n1:Hid (Hc (w.heap.size+1) wr (.slice (some ⟨g,0,none⟩) (m+1) cap) (Oe N)):=E.o.1.below b7.o;have k1:Hid (O6 wr w.heap.size Q):=E.o.2.1.kept b7.o
           by_cases j1:lo<hi
           ·obtain⟨M,hM⟩:=O1 ((lo+hi+1) / 2);have y4:((lo:Int)+(hi:Int)+1) / 2=(M:Int):=by omega
            have HM:=Hd hM;have q4:M<1000000000:=by omega
            have x8:1<=M:=by omega
            clear hM
            go_wp2_with fail
            refine (Xz B _ b M _ (HB.o _ l0.o) hlb q4).mono ?_;rintro e w5 ⟨v5,L5,rfl,f8,m8,m6,t7,n6⟩;have t8:Hid (U1 B w5 v5 L5):=f8.mono (by have:=l0.o.size;have:=p1.o;omega);have l4:Hid (isTrim L5/\val L5=val b*M/\okL L5):=⟨m8,m6,by obtain⟨_,_,_,_,_,h,_⟩:=f8;exact h⟩;have j2:=Hd n6;obtain⟨p5,c5,e5,_⟩:=id f8;subst e5;clear f8 m8 m6 t7 n6
            go_wp2_with fail
            refine (Nf B _ _ L5 (Oe N) _ t8.o ((n1.o.below j2.o).isL.mono g4.o)).mono ?_;rintro e w6 ⟨rfl,b6⟩;have Y:Hid (Up w4 w6):=b7.o.trans ((j2.o.trans (b6.mono j2.o.size)).mono b7.o.size);clear b6;have ho:=Ga L5 (Oe N) l4.o.2.2 (trimL_ok N HN.o.1) l4.o.1 (trimL_trim N);rw[O3,l4.o.2.1] at ho
            by_cases hc:M*val b<=val N
            ·have r8:Hid (Gm (val b) (val N) M hi):=by
              have h:=C8 d7.o j1 (by rw[HM.o];exact hc);rw[HM.o] at h;exact h
             obtain⟨cx,a7⟩:=O1 (El L5 (Oe N));have n8:cx<=0:=by rw[<-a7,ho];exact IQ _ _ (by rw[Yy];exact hc)
             rw[a7];clear a7 ho hc
             go_wp2
             go_roundw
             case rel=>exact⟨M,hi,rfl,rfl,r8.o,Y.o⟩
             case measure=>simp[intOf];have:=HM.o;omega
            ·have r3:Hid (Gm (val b) (val N) lo (M - 1)):=by
              have h:=Pn d7.o j1 (by rw[HM.o];omega);rw[HM.o] at h;exact h
             obtain⟨cx,a7⟩:=O1 (El L5 (Oe N));have n8:0<cx:=by rw[<-a7,ho];exact QL _ _ (by rw[Yy];omega)
             rw[a7];clear a7 ho hc
             go_wp2
             go_roundw
             case rel=>exact⟨lo,M - 1,rfl,Ob (by omega),r3.o,Y.o⟩
             case measure=>simp[intOf];have:=HM.o;omega
           ·obtain rfl:lo=hi:=by omega
            have l1:Hid (1<=lo/\lo*val b<=val N/\val N<(lo+1)*val b):=by
             refine⟨?_,d7.o.2.2.1,d7.o.2.2.2⟩;apply Yp;rintro rfl;have h1:=d7.o.2.2.2;have h2:=q5.o.1;omega
            have x0:=l1.o.1;have s9:=k1.o.cell i (by have:=d.o.qlen;have:=d.o.le;omega);have s6:=k1.o.frozen i;have Z:Hid (O6 (wr.setCell ⟨w.heap.size,i,none⟩ (.int .u32 (lo:Nat))) w.heap.size (Q.set i lo)/\Hc (w.heap.size+1) (wr.setCell ⟨w.heap.size,i,none⟩ (.int .u32 (lo:Nat))) (.slice (some ⟨g,0,none⟩) (m+1) cap) (Oe N)/\Up w (wr.setCell ⟨w.heap.size,i,none⟩ (.int .u32 (lo:Nat)))):=
             ⟨k1.o.set _ _ (by have:=d.o.qlen;have:=d.o.le;omega),n1.o.setCell _ _ (by show w.heap.size<w.heap.size+1;omega),l0.o.setCell Of _⟩
            obtain⟨W5,j0⟩:=O1 (wr.setCell ⟨w.heap.size,i,none⟩ (.int .u32 (lo:Nat)));have s8:=Hd j0;rw[j0] at Z;clear j0 j1
            go_wp2_with fail
            rw[s8.o];clear s9 s6;refine (Xz B _ b lo _ (HB.o _ Z.o.2.2) hlb (by omega)).mono ?_;rintro e w6 ⟨v6,L6,rfl,g1,n3,n0,r5,b6⟩;have e4:Hid (U1 B w6 v6 L6/\isTrim L6/\val L6=val b*lo/\okL L6):=⟨g1.mono (by have:=Z.o.2.2.size;have:=p1.o;omega),n3,n0,by obtain⟨_,_,_,_,_,h,_⟩:=g1;exact h⟩;have Y:=Hd b6;obtain⟨p6,c6,e6,_⟩:=id g1;subst e6;clear g1 n3 n0 r5 b6
            go_wp2_with fail
            have b8:val L6<=val (Oe N):=by rw[e4.o.2.2.1,O3,Yy];exact l1.o.2.1
            have d5:=Cq B (.slice (some ⟨g,0,none⟩) (m+1) cap) (.slice p6 L6.length c6) (Oe N) L6 w6 ((Z.o.2.1.below Y.o).isL.mono g4.o) e4.o.1 (by have:=f9.o;have:=Ku N;omega) (Qr L6 (Oe N) e4.o.2.1 (trimL_ok N HN.o.1) b8) b8;rw[e1.o] at d5;refine d5.mono ?_;clear d5 b8;rintro e w7 ⟨S,rfl,hS,l2,o3,l5⟩;have b3:okL S:=by obtain⟨_,_,_,_,_,h,_⟩:=hS;exact h
            have HS:Hid (okL S/\S.length=m+1/\val S+lo*val b=val N):=⟨b3,o3,by rw[e4.o.2.2.1,O3] at l2;rw[Yy lo];exact l2⟩;have hG:w.heap.size+1<=w6.heap.size:=by have:=Z.o.1.lt;have:=Y.o.size;omega
            have n5:Hid (∀ q,q<S.length->w7.cell? ⟨w6.heap.size,q,none⟩=some (.int .u32 (S.getD q 0:Nat))):=fun q hq=>by
             obtain⟨_,_,_,_,k7⟩:=hS.cells;obtain⟨b',g6,e,_,hc⟩:=k7 q hq;simp only[Option.some.injEq,Addr.mk.injEq,and_true] at e;obtain⟨rfl,rfl⟩:=e;rw[Y3] at hc;exact hc
            have o2:Hid (w6.heap.size<w7.heap.size):=by
             obtain⟨_,_,_,_,k7⟩:=hS.cells;obtain⟨b',g6,e,e3,hc⟩:=k7 0 (by omega);simp only[Option.some.injEq,Addr.mk.injEq,and_true] at e;obtain⟨rfl,rfl⟩:=e;exact e3
            have f5:Hid (O6 w7 w.heap.size (Q.set i lo)/\Up w w7):=⟨(Z.o.1.kept Y.o).kept l5,Z.o.2.2.trans ((Y.o.trans (l5.mono Y.o.size)).mono Z.o.2.2.size)⟩;have d3:Hid (∀ k,k<=S.length->Oe S=S.take k->Hc (w.heap.size+1) w7 (.slice (some ⟨w6.heap.size,0,none⟩) k (m+1)) (Oe S)):=fun k hk he=>Hc.cut hG o2.o (by unfold maxLen;have:=f9.o;have:=Ku N;have:=e1.o;omega) b3 (by omega) n5.o k hk he;have h9:Hid (SD a b (Oe S) (Q.set i lo) i):=by
             refine j3.o (by omega) ?_ ?_ (trimL_ok S b3) (trimL_trim S)
             ·rw[O3];have:=HS.o.2.2;omega
             ·rw[O3];have h1:=HS.o.2.2;have h2:=l1.o.2.2;rw[Zl,Zp] at h2;omega
            clear hS l2 o3 l5 b3 hG
            go_wp2
            go_loop [16] (fun n=>∃ k:Nat,k<=S.length/\n=.int .i64 k/\Oe (S.take k)=Oe S) (fun n=>(intOf n).toNat)
            case atStart=>exact⟨S.length,Of,Ob (by have:=HS.o.2.1;omega),by rw[Yl]⟩
            case round=>
             obtain⟨k,hk,rfl,hp⟩:=hrel;have j7:=Hd hp;have k0:=HS.o.2.1;clear hp
             cases k with
             | zero=>
               have d0:Hid (Hc (w.heap.size+1) w7 (.slice (some ⟨w6.heap.size,0,none⟩) 0 (m+1)) (Oe S)):=d3.o 0 (by omega) (by rw[<-j7.o];rfl);clear k0
               go_wp2
               go_roundw
               case rel=>exact⟨i,Oe S,Q.set i lo,h9.o,d0.o,by go_num,f5.o.1,f5.o.2⟩
               case measure=>simp[intOf]
             | succ p=>
               obtain⟨y,hy⟩:=O1 (S.getD p 0);have V:=n5.o p (by omega);rw[hy] at V;have n2:=Hd hy;have y5:p<m+1:=by omega
               clear hy
               by_cases h0:y=0
               ·have hz:((y:Int)==0)=true:=by rw[Yc];omega
                have r7:Hid (Oe (S.take p)=Oe S):=by rw[<-Eh S p (by omega) (by rw[n2.o,h0])];exact j7.o
                clear h0 k0
                go_wp2
                go_round
                case rel=>exact⟨p,by have:=HS.o.2.1;omega,Ob (by omega),r7.o⟩
                case measure=>simp[intOf]
               ·have hz:((y:Int)==0)=false:=by rw[Jc];omega
                have d0:Hid (Hc (w.heap.size+1) w7 (.slice (some ⟨w6.heap.size,0,none⟩) (p+1) (m+1)) (Oe S)):=d3.o (p+1) (by omega) (j7.o.symm.trans (Eb S p (by omega) (by rw[n2.o];exact h0)));clear h0 k0
                go_wp2
                go_roundw
                case rel=>exact⟨i,Oe S,Q.set i lo,h9.o,d0.o,by go_num,f5.o.1,f5.o.2⟩
                case measure=>simp[intOf]
theorem Wq (B:Nat)(z:Value)(neg:Bool)(w:World)(h:Nu B w z neg []) :
 Calls prog 127 #[z] w fun e w'=>e=.returned (.slice none 0 0)/\Up w w':=by
 obtain⟨j,d,h⟩:=h
 rcases h with⟨A,_⟩|⟨_,rfl⟩
 ·simp at A
 cases neg
 all_goals
  simp only[sg,val]
  go_enter func127,ntmps127
  go_wp2
  go_ret
  exact⟨rfl,Oy _ _⟩
theorem Dt (B:Nat)(z:Value)(neg:Bool)(t:List Nat)(w:World)(h:Nu B w z neg t)(hB:B<=w.heap.size) :
 Calls prog 127 #[z] w fun e w'=>∃ v,e=.returned v/\U1 B w' v t/\(t=[]->v=.slice none 0 0)/\Up w w':=by
 by_cases d:t=[]
 ·subst d;refine (Wq B z neg w h).mono ?_;rintro e w' ⟨rfl,hb⟩;exact⟨_,rfl,⟨none,0,rfl,Of,(by unfold maxLen;omega),(fun x hx=>by cases hx),.inl rfl⟩,fun _=>rfl,hb⟩
 refine (Ev B z neg t w h hB).mono ?_;rintro e w' ⟨v,rfl,j,hb⟩;exact⟨v,rfl,j,fun h=>absurd h d,hb⟩
theorem Md (z0:Int)(zn:Bool)(za:Option Addr)(zl zc:Nat)(w:World) :
 Calls prog 128 #[.agg #[.int .i64 z0,.bool zn,.slice za zl zc]] w fun e w'=>e=.returned (.bool (((zl:Int)==0)&&(z0==0)))/\Up w w':=by
 by_cases h:zl=0
 ·subst h
  go_enter func128,ntmps128
  go_wp2
  go_ret
  exact⟨by simp,Oy _ _⟩
 have z:((zl:Int)==0)=false:=by rw[Jc];omega
 go_enter func128,ntmps128
 go_wp2
 go_ret
 exact⟨by simp[z],Oy _ _⟩
theorem YW (B:Nat)(vb:Value)(b:List Nat)(w:World)(hb:U1 B w vb b)(hlb:b.length<=100000)(htb:isTrim b)(hne:b≠[]) :
 Calls prog 141 #[.slice none 0 0,vb] w fun e w'=>∃ v u Q U,e=.returned (.tuple #[v,u])/\(U1 w.heap.size w' v Q/\U1 w.heap.size w' u U)/\val []=val Q*val b+val U/\val U<val b/\Up w w':=by
 obtain⟨i0,j,K,M,I⟩:=info_parts info_u32;obtain⟨pb,cb,rfl,_,_,O,_⟩:=hb;have Y:Hid (0<val b):=Nj b htb hne;have a7:0<b.length:=by
  apply Yp;intro e;exact hne (Jv e)
 by_cases h1:b.length=1
 all_goals
  go_enter func141,ntmps141
  go_wp2_with (at_make;refine wpList_make_full _ rfl _ _ 121 rfl w.heap.size 154 i0 (.int .u32 0) 1 underlying121 j K M .i64 .i64 _ _ 0 rfl rfl (by first|rfl|omega) (by first|rfl|omega) (by first|omega|(rw[I];omega)) (by unfold maxLen;omega) Of ?_)
  intro w1 A E;have G:Up w w1:=(Jh _ _).grown E Of (fun k h=>by cases h);have J:=Hd G;clear A E G
  go_wp2
  go_loopw [7,9] (fun rv iv wr=>rv=.slice none 0 0/\iv=.int .i64 (-1)/\Up w wr) (fun _ _ _=>0)
  case atStart=>exact⟨rfl,rfl,J.o⟩
  case round=>
   obtain⟨rfl,rfl,V⟩:=hrel;have Z:=Hd V;clear V;have d:Hid (∀ W pp,U1 w.heap.size W (.slice pp 0 0) []):=fun W pp=>⟨pp,0,rfl,Of,(by unfold maxLen;omega),(fun x hx=>by cases hx),.inl rfl⟩
   go_wp2
   go_ret2
   exact⟨_,_,[],[],rfl,⟨d.o _ _,d.o _ _⟩,by simp[val],Y.o,Z.o⟩
theorem OS (B:Nat)(va vb:Value)(a b:List Nat)(w:World)(hBw:B<=w.heap.size)(hla:a.length<=100000)(ha:U1 B w va a)(hnil:a=[]->va=.slice none 0 0)(hb:U1 B w vb b)(hlb:b.length<=100000)(htb:isTrim b)(hne:b≠[]) :
 Calls prog 141 #[va,vb] w fun e w'=>∃ v u Q U,e=.returned (.tuple #[v,u])/\(U1 w.heap.size w' v Q/\U1 w.heap.size w' u U)/\val a=val Q*val b+val U/\val U<val b/\Up w w':=by
 by_cases h:a=[]
 ·rw[hnil h,h];exact YW B vb b w hb hlb htb hne
 obtain⟨G,E,rfl,_,_,_,d⟩:=id ha
 rcases d with d|⟨A,j,rfl,_⟩
 ·exact absurd d h
 exact S9 B A j E vb a b w hBw hla ha h hb hlb htb hne
end Go.Proofs.YtipgjenolpofpaaGreatDoor.Q
namespace Go.Proofs.YtipgjenolpofpaaGreatDoor.Q
open Go.ChangeShapes Go.WideShapes Go.ChangeAt Go.RowKit
theorem Hf (B:Nat)(w:World)(x:Int)(h1 : -1000000000000000000<x)(h2:x<1000000000000000000):N5 B w (.agg #[.int .i64 x,.bool false,.slice none 0 0]) x:=by
 have d:sg (decide (x<0)) (val (RQ x.natAbs))=x:=by
  rw[UH];unfold sg
  by_cases h:x<0<;>simp[h]<;>omega
 exact⟨decide (x<0),RQ x.natAbs,⟨XW _ (by omega),Wg _,.inr ⟨Aa _,by rw[d]⟩⟩,d⟩
end Go.Proofs.YtipgjenolpofpaaGreatDoor.Q
