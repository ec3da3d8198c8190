import Derived.Test.YtipgjenolpofpaaGreatDoorP09
import Derived.Lib.IndexLaws
import Derived.Lib.Bytealg
import Derived.Laws.AppendOwnNone
set_option maxRecDepth 100000
set_option maxHeartbeats 8000000
namespace Go.Proofs.YtipgjenolpofpaaGreatDoor.Q
open RowKit
theorem Mn (x c q r:Int)(_hc:c≠0)(h:No x c q r)(hd:c∣x):x=q*c:=by
 obtain⟨d,I,h3⟩:=h;obtain⟨k,A⟩:=hd;have j:r=c*(k - q):=by rw[Int.mul_sub,<-A,d,Int.mul_comm c q];omega
 have G:k - q=0:=by
  apply Classical.byContradiction;intro E;have h4:c.natAbs<=r.natAbs:=by rw[j,Int.natAbs_mul];exact Nat.le_mul_of_pos_right _ (by omega)
  omega
 rw[j,G,Int.mul_zero] at d;omega
theorem YJ (x y c n r d r':Int)(hy:y≠0)(hc:c=if y<0 then -E8 x y else E8 x y)(h1:No x c n r)(h2:No y c d r'):Rq x y n d:=by
 have I:0<Int.gcd x y:=Int.gcd_pos_of_ne_zero_right _ hy;have j:c.natAbs=Int.gcd x y:=by rw[hc];unfold E8;split<;>omega
 have c0:c≠0:=by omega
 have E:c∣x:=by rw[<-Int.natAbs_dvd,j];exact Int.gcd_dvd_left x y
 have G:c∣y:=by rw[<-Int.natAbs_dvd,j];exact Int.gcd_dvd_right x y
 have ex:=Mn x c n r c0 h1 E;have ey:=Mn y c d r' c0 h2 G;refine⟨c,c0,ex,ey,?_,j⟩
 by_cases hn:y<0
 ·have A:c<0:=by rw[hc,if_pos hn];unfold E8;omega
  apply Classical.byContradiction;intro h;have:0<=d*c:=Int.mul_nonneg_of_nonpos_of_nonpos (by omega) (by omega);omega
 have A:0<c:=by rw[hc,if_neg hn];unfold E8;omega
 apply Classical.byContradiction;intro h;have:d*c<=0:=Int.mul_nonpos_of_nonpos_of_nonneg (by omega) (by omega);omega
end Go.Proofs.YtipgjenolpofpaaGreatDoor.Q
namespace Go.Proofs.YtipgjenolpofpaaGreatDoor.Q
open ChangeShapes WideShapes ChangeAt RowKit Proofs.Tryz
theorem Pq {N:Nat}{w W:World}(h:Below N w W)(g:Nat)(hg:N<=g)(u0 u1 u2:Value):Below N w (((W.setCell ⟨g,0,none⟩ u0).setCell ⟨g,1,none⟩ u1).setCell ⟨g,2,none⟩ u2):=
 ((h.setCell (p:=⟨g,0,none⟩) hg u0).setCell (p:=⟨g,1,none⟩) hg u1).setCell (p:=⟨g,2,none⟩) hg u2
def IsCut (s:ByteArray)(k:Option Nat):Prop:=
 match k with
 | none=>∀ j:Nat,s.data.toList[j]? ≠ some 47
 | some i=>s.data.toList[i]? = some 47/\∀ j:Nat,j<i->s.data.toList[j]? ≠ some 47
def Xs (k:Option Nat):Int:=match k with|none => -1|some i=>(i:Int)
theorem isCut_unique {s:ByteArray}{k m:Option Nat}(h:IsCut s k)(h':IsCut s m):k=m:=by
 match k,m,h,h' with
 | none,none,_,_=>rfl
 | none,some i,h,h'=>exact absurd h'.1 (h i)
 | some i,none,h,h'=>exact absurd h.1 (h' i)
 | some i,some j,h,h'=>
   rcases Nat.lt_trichotomy i j with hl|hl|hl
   ·exact absurd h.1 (h'.2 i hl)
   ·rw[hl]
   exact absurd h'.1 (h.2 j hl)
theorem isCut_ex (s:ByteArray):∃ k,IsCut s k:=by
 have d:=Lib.indexByte_ge s.data.toList 47
 by_cases h:Lib.indexByte s.data.toList 47 = -1
 ·exact⟨none,fun j=>Lib.indexByte_none h j⟩
 obtain⟨o,A⟩:=Zn (show 0<=Lib.indexByte s.data.toList 47 by omega);exact⟨some o,Lib.indexByte_some A⟩
theorem S6 {s:ByteArray}{k:Option Nat}(h:IsCut s k):Lib.indexByte s.data.toList 47=Xs k:=by
 have E:=Lib.indexByte_ge s.data.toList 47
 by_cases d:Lib.indexByte s.data.toList 47 = -1
 ·have:k=none:=isCut_unique h (show IsCut s none from fun j=>Lib.indexByte_none d j);rw[this,d];rfl
 obtain⟨o,A⟩:=Zn (show 0<=Lib.indexByte s.data.toList 47 by omega);have:k=some o:=isCut_unique h (show IsCut s (some o) from Lib.indexByte_some A);rw[this,A];rfl
theorem C1 {s:ByteArray}{i:Nat}(h:IsCut s (some i)):i<s.size:=by
 have:=h.1;rw[Zr] at this;obtain⟨hl,_⟩:=this
 simpa using hl
theorem G5 (s:ByteArray)(c:Int)(w:World) :
 Calls prog 181 #[.string s,.int .u8 c] w fun e w'=>e=.returned (.int .i64 (Lib.indexByte s.data.toList c.toNat.toUInt8))/\w'=w:=by
 go_in
 go_wp2
 rw[run_callFunc_extern func200 (by kernel_rfl) (by kernel_rfl) (by kernel_rfl) (e:=Extern.BytealgIndexByte.indexByte) (by kernel_rfl),Lib.run_indexByteString];simp only[Result.andThen];rw[Oper.upon_value]
 go_wp2
 go_ret
 exact⟨rfl,rfl⟩
theorem Dp (s:ByteArray)(k:Option Nat)(w:World)(h:IsCut s k) :
 Calls prog 201 #[.string s,.string ⟨#[47]⟩] w fun e w'=>e=.returned (.int .i64 (Xs k))/\w'=w:=by
 have I:=S6 h;have K:=Hd I;clear I
 cases hq:([47]==s.toList)
 ·go_in
  go_wp2_with fail
  refine (G5 s _ _).mono ?_;rintro e w' ⟨rfl,A⟩;subst A;have M:Lib.indexByte s.data.toList (Int.toNat ((((⟨#[47]⟩:ByteArray)[0]'(by decide)).toNat:Nat):Int)).toUInt8=Xs k:=K.o;rw[M]
  go_wp2
  go_ret
  exact⟨rfl,rfl⟩
 have J:Xs k=0:=by
  have G:s.toList=[47]:=(by simpa using hq:[47]=s.toList).symm;rw[Jl] at G;have:k=some 0:=isCut_unique h (show IsCut s (some 0) from ⟨by rw[G];rfl,fun j hj=>by omega⟩);rw[this];rfl
 have E:=Hid.o (p:=Xs k=0) J;clear J;have d:Hid (Xs k=0):=E;clear E
 go_in
 go_wp2
 go_ret
 exact⟨by rw[d.o];rfl,rfl⟩
def cutP (s:ByteArray)(k:Option Nat):ByteArray:=match k with|none=>s|some i=>s.extract 0 i
def cutQ (s:ByteArray)(k:Option Nat):ByteArray:=match k with|none=>⟨#[]⟩|some i=>s.extract (i+1) s.size
theorem ID (s:ByteArray)(k:Option Nat)(w:World)(hs:s.size<=maxLen)(h:IsCut s k) :
 Calls prog 183 #[.string s,.string ⟨#[47]⟩] w fun e w'=>e=.returned (.tuple #[.string (cutP s k),.string (cutQ s k),.bool k.isSome])/\Up w w':=by
 have H:=Hid.o (p:=IsCut s k) h;have j:Hid (IsCut s k):=H;clear H h;unfold maxLen at hs
 cases k with
 | none=>
   go_in
   go_wp2_with fail
   refine (Dp s none _ j.o).mono ?_;rintro e w' ⟨rfl,d⟩;subst d;have A:Xs none = -1:=rfl;rw[A]
   go_wp2
   go_ret3
   exact⟨rfl,Jh _ _⟩
 | some i=>
   have E:=C1 j.o
   go_in
   go_wp2_with fail
   refine (Dp s (some i) _ j.o).mono ?_;rintro e w' ⟨rfl,d⟩;subst d;have A:Xs (some i)=(i:Int):=rfl;rw[A]
   go_wp2
   go_region
   go_wp2
   go_ret3
   exact⟨rfl,(Jh _ _).drew⟩
theorem RW (s:ByteArray)(k:Option Nat)(w:World)(hs:s.size<=maxLen)(h:IsCut s k) :
 Calls prog 153 #[.string s,.string ⟨#[47]⟩] w fun e w'=>e=.returned (.tuple #[.string (cutP s k),.string (cutQ s k),.bool k.isSome])/\Up w w':=by
 have j:=Hd h;clear h
 go_in
 go_wp2_with fail
 refine (ID s k _ hs j.o).mono ?_;rintro e w' ⟨rfl,hb⟩;have d:=Hd hb;clear hb
 go_wp2
 go_ret3
 exact⟨rfl,d.o⟩
theorem Sg (s:ByteArray)(k:Option Nat)(w:World)(hs:s.size<=maxLen)(h:IsCut s k) :
 Calls prog 158 #[.string s] w fun e w'=>e=.returned (.agg #[.string (cutP s k),.bool k.isSome,.string (cutQ s k)])/\Up w w':=by
 have Z:=Hd h;obtain⟨p,V⟩:=O1 (cutP s k);obtain⟨q,Y⟩:=O1 (cutQ s k);obtain⟨b,hb⟩:=O1 k.isSome;have K:Hid (cutP s k=p/\cutQ s k=q/\k.isSome=b):=⟨V,Y,hb⟩;rw[V,Y,hb];clear h V Y hb;obtain⟨O,d⟩:=O1 (w.alloc (.cells #[.string ⟨#[]⟩,.bool false,.string ⟨#[]⟩] 179));have M:=Hd d;have A:Bx O w.heap.size [.string ⟨#[]⟩,.bool false,.string ⟨#[]⟩]:=by rw[<-d];exact Oi w _ _
 have E:Hid (Up w O):=by unfold Hid;rw[<-d];exact Oy _ _
 have I:Hid (∀ W,Up O W->Bx W w.heap.size [.string ⟨#[]⟩,.bool false,.string ⟨#[]⟩]):=fun W hW=>A.bl A.lt hW;clear d A
 go_in
 go_wp2_with fail
 rw[M.o];refine (RW s k _ hs Z.o).mono ?_;rintro e J ⟨rfl,j⟩;rw[K.o.1,K.o.2.1,K.o.2.2];have G:=Hd j;have hb:=I.o J j;obtain⟨k0,k1,k2⟩:=hb.k3;obtain⟨r0,r1,r2⟩:=hb.f3;clear j hb
 go_wp2
 have U:=I.o J G.o;have hZ:Bx (((J.setCell ⟨w.heap.size,0,none⟩ (.string p)).setCell ⟨w.heap.size,1,none⟩ (.bool b)).setCell ⟨w.heap.size,2,none⟩ (.string q)) w.heap.size [.string p,.bool b,.string q]:=((U.set 0 _).set 1 _).set 2 _;have hE:=Pq (E.o.trans (G.o.mono E.o.size)) w.heap.size Of (.string p) (.bool b) (.string q);generalize ((J.setCell ⟨w.heap.size,0,none⟩ (.string p)).setCell ⟨w.heap.size,1,none⟩ (.bool b)).setCell ⟨w.heap.size,2,none⟩ (.string q)=WE at *;obtain⟨m0,m1,m2⟩:=hZ.k3;refine Jj (v:=.agg #[.string p,.bool b,.string q]) ?_ rfl ⟨rfl,hE⟩;simp[results,results158,go_sem,m0,m1,m2]
theorem Qx (s:ByteArray)(k:Option Nat)(w:World)(hs:s.size<=maxLen)(h:IsCut s k) :
 Calls prog 107 #[.string s] w fun e w'=>e=.returned (.int .i64 (Xs k))/\w'=w:=by
 have K:=Hd h;clear h;unfold maxLen at hs
 go_in
 go_wp2
 go_loop [3] (fun iv=>∃ i:Nat,i<=s.size/\iv=.int .i64 (i:Nat)/\∀ j:Nat,j<i->s.data.toList[j]? ≠ some 47) (fun iv=>s.size - (intOf iv).toNat)
 case atStart=>exact⟨0,Jy _,rfl,fun j hj=>by omega⟩
 obtain⟨i,O,rfl,A⟩:=hrel;have d:=Hd A;clear A
 by_cases hl:i<s.size
 ·have E:s.data.toList[i]? = some s[i]:=by
   rw[Jf (by simpa using hl)];rfl
  by_cases hc:s[i]=47
  ·have G:Hid (Xs k=(i:Int)):=by
    have:k=some i:=isCut_unique K.o (show IsCut s (some i) from ⟨by rw[E,hc],d.o⟩)
    show Xs k=(i:Int)
    rw[this];rfl
   have M:(s[i].toNat:Int)=47:=by rw[hc];rfl
   have z:((s[i].toNat:Int)==47)=true:=by rw[Yc];exact M
   clear E hc M
   go_wp2
   go_ret
   exact⟨K5 G.o.symm,rfl⟩
  have I:Hid (∀ j:Nat,j<i+1->s.data.toList[j]? ≠ some 47):=fun j hj=>by
   by_cases J:j=i
   ·subst J;rw[E];exact fun e=>hc (Option.some.inj e)
   exact d.o j (by omega)
  have z:((s[i].toNat:Int)==47)=false:=by
   rw[Jc];intro e;exact hc (UInt8.toNat_inj.1 (by have e2:(47:UInt8).toNat=47:=rfl;omega))
  clear E hc
  go_wp2
  go_round
  case rel=>exact⟨i+1,by omega,by go_num,I.o⟩
  simp[intOf];omega
 have G:Hid (Xs k = -1):=by
  have:k=none:=isCut_unique K.o (show IsCut s none from fun j=>by
   by_cases hj:j<i
   ·exact d.o j hj
   rw[Yj (by simp;omega)];simp)
  show Xs k = -1
  rw[this];rfl
 go_wp2
 go_ret
 exact⟨K5 G.o.symm,rfl⟩
theorem Ts (w:World)(base e:Nat)(x:Value)(hb:base<=w.heap.size):(w.alloc (.cells #[x] e)).ownsRow base e 1 (.slice (some ⟨w.heap.size,0,none⟩) 1 1) 1 [x]:=by
 refine⟨rfl,.inr ⟨w.heap.size,1,#[x],rfl,hb,?_,Of,(by unfold maxLen;omega),rfl,rfl⟩⟩;exact heap_alloc_new w _
theorem P3 {W:World}{g off:Nat}{R:List Nat}(h:∀ i,i<R.length->W.cell? ⟨g,off+i,none⟩=some (.int .u32 (R.getD i 0:Nat))):∀ j u,(Nx R)[j]? = some u->W.cell? ((⟨g,off,none⟩:Addr).add j)=some u:=by
 intro j v A;simp only[Nx,Y1,Option.map_eq_some_iff] at A;obtain⟨x,E,rfl⟩:=A;obtain⟨d,G⟩:=Zr.1 E;rw[show (Addr.add ⟨g,off,none⟩ j)=⟨g,off+j,none⟩ by simp[Addr.add],h j d,Jk,E];rfl
theorem Qd (R:List Nat):∀ u∈Nx R,u.oneCell'=true:=by
 intro v d;simp only[Nx,Zm] at d;obtain⟨x,_,rfl⟩:=d;rfl
theorem Hr.of_owns' {base e n:Nat}{W:World}{v:Value}{R:List Nat}(h:W.ownsRow base e 1 v n (Nx R))(hok:okL R):Hr base W v R:=by
 have hn:n=R.length:=by have:=h.1;simp at this;omega
 subst hn;exact Hr.of_owns h hok
theorem Sz (b:List Nat)(h:b≠[]):El [] b = -1:=by
 unfold El;have:0<b.length:=by
  apply Yp;intro e;exact h (Jv e)
 simp[this]
theorem XJ (x y:Nat)(h:x<=y):Ay x y<=0:=by
 unfold Ay
 split
 ·omega
 first|omega|(split<;>omega)
theorem XW (x y:Nat)(h:y<x):0<Ay x y:=by
 unfold Ay
 split
 ·omega
 first|omega|(split<;>omega)
theorem Qq (u b:List Nat)(hu:isTrim u)(hb:okL b)(h:val u<=val b):u.length<=b.length:=by
 by_cases d:u=[]
 ·rw[d];exact Jy _
 have A:=Xd u hu d;have E:=Gu b hb;apply Zz;intro j;have h3:1000000000 ^ b.length<=1000000000 ^ (u.length - 1):=Yx (by decide) (by omega);omega
theorem Xm {P:Program}{w:World}{ops:Array Oper}{rest:List Oper}{o:Oper}{a:Act}{Q:Exit->Act->World->Prop}(hgd:o.guard=none)(s x:Operand)(t:TypeId)
 (ho:o.op=.call { callee:=.builtin .append,args:=#[s,x],argTypes:=#[t,t] })
 (base b2:Nat) (e:TypeId) (i:TypeInfo) (z:Value) (bytes:Nat) (ht:P.underlying t=some (.slice e)) (hi:P.info? e=some i) (hz:i.zero=some z)
 (hsize:i.size=1) (hby:i.bytes=bytes) (hzs:z.cells.size=1)
 (v:Value) (n:Nat) (xs:List Value) (hs:a.eval s=v) (hown:w.ownsRow base e 1 v n xs)
 (rv:Value) (R:List Nat) (hx:a.eval x=rv) (hR:Hr b2 w rv R)
 (h63:n+R.length<=maxLen) (hbytes:(n+R.length)*bytes<=140737488355328) (hbase:base<=w.heap.size)
 (h:∀ v' w',w'.ownsRow base e 1 v' (n+R.length) (xs++Nx R)->w.grownBy w' v.ownBlock->wpList P ops Q rest (a.put o.dst v') w'):wpList P ops Q (o::rest) a w:=by
 obtain⟨_,⟨rfl,rfl⟩|⟨g,cap,rfl,_,_,_,_,hc⟩⟩:=hR
 ·exact wpList_append_own_none hgd s x t ho base e i 1 ht hi v n xs hs hown hx (h v w (by simpa[Nx] using hown) ⟨rfl,rfl,rfl,Of,fun _ _ _=>rfl⟩)
 exact wpList_append_own w hgd s x t ho base e i z 1 bytes ht hi hz hsize hby hzs (by omega) v n xs hs hown ⟨g,0,none⟩ R.length cap (Nx R) hx (by simp) (P3 (fun i hi=>by rw[Y4];exact hc i hi)) (Qd R) h63 hbytes hbase (fun v' w' h1 h2 _=>h v' w' h1 h2)
theorem Tu (B ba oa ca:Nat)(vb:Value)(a b:List Nat)(w:World)(hBw:B<=w.heap.size)(hla:a.length<=100000)(ha:U1 B w (.slice (some ⟨ba,oa,none⟩) a.length ca) a)(hane:a≠[])(hb:U1 B w vb b)(hlb:b.length<=100000)(htb:isTrim b)(hne:b≠[]) :
 Calls prog 141 #[.slice (some ⟨ba,oa,none⟩) a.length ca,vb] w fun e w'=>∃ v u Q U,e=.returned (.tuple #[v,u])/\(U1 w.heap.size w' v Q/\U1 w.heap.size w' u U)/\val a=val Q*val b+val U/\val U<val b/\Up w w':=by
 obtain⟨i0,b5,i1,i6,i7⟩:=info_parts info_u32;have HB:Hid (∀ W,Up w W->U1 B W vb b):=fun W hW=>hb.bl hW;obtain⟨pb,cb,rfl,_,_,v1,_⟩:=hb;obtain⟨_,D2,y2,q0,d7⟩:=ha.cells;have y3:0<a.length:=by
  apply Yp;intro e;exact hane (Jv e)
 have F2:0<b.length:=by
  apply Yp;intro e;exact hne (Jv e)
 have r9:ba<w.heap.size:=by
  obtain⟨b',i8,e,e2,_⟩:=d7 0 y3;simp only[Option.some.injEq,Addr.mk.injEq,and_true] at e;omega
 have HA:Hid (∀ i,i<a.length->w.cell? ⟨ba,oa+i,none⟩=some (.int .u32 (a.getD i 0:Nat))):=fun i hi=>by
  obtain⟨b',i8,e,_,hc⟩:=d7 i hi;simp only[Option.some.injEq,Addr.mk.injEq,and_true] at e;obtain⟨rfl,rfl⟩:=e;exact hc
 have m8:Hid (SD a b (a.drop (a.length+1 - b.length)) (List.replicate a.length 0) (a.length+1 - b.length)):=QI a b q0 htb hne;obtain⟨T,hT⟩:=O1 (a.length+1 - b.length);rw[hT] at m8;have p4:T<=a.length:=by omega
 have HT:Hid (T=a.length+1 - b.length):=hT.symm;unfold maxLen at y2;have J:Hid (okL a/\okL b/\isTrim b/\b≠[]):=⟨q0,v1,htb,hne⟩;clear ha d7 hane htb hne;have D0:Hid (T=0∨T<=ca):=.inr (by omega);have o8:Hid (T=a.length+1 - b.length/\T<=a.length):=⟨HT.o,p4⟩;have s0:((a.length:Int) - (b.length:Int)+1<0/\T=0)∨((a.length:Int) - (b.length:Int)+1=(T:Int)/\T<ca)∨((a.length:Int) - (b.length:Int)+1=(T:Int)/\ca=T/\a.length=T):=by omega
 have g5:Hid (B<=w.heap.size+1):=by unfold Hid;omega
 have o7:=Hd hBw;have p9:Hid (∀ W,Up w W->∀ i,i<(a.drop T).length->W.cell? ⟨ba,oa+T+i,none⟩=some (.int .u32 ((a.drop T).getD i 0:Nat))):=fun W hW i hi=>by rw[hW.cell (p:=⟨ba,oa+T+i,none⟩) r9,Uo,HA.o (T+i) (by simp at hi;omega),Hc]
 clear hT HT p4
 rcases s0 with⟨v7,p7⟩|⟨v7,p7⟩|⟨v7,p7,v8⟩
 ·have HE:=Hd p7;have z1:decide ((a.length:Int) - (b.length:Int)+1<0)=true:=dT (by omega)
  clear p7
  go_in
  go_wp2_with (at_make;refine wpList_make_full _ rfl _ _ 121 rfl w.heap.size 154 i0 (.int .u32 0) 1 underlying121 b5 i1 i6 .i64 .i64 _ _ a.length rfl rfl (by first|rfl|omega) (by first|rfl|omega) (by first|omega|(rw[i7];omega)) (by unfold maxLen;omega) Of ?_)
  intro w1 G h9
  first|rw[K8] at G|rw[Ka] at G
  have d5:O7 w1 w.heap.size (List.replicate a.length 0):=(Kp G).tail;have h7:Up w w1:=(Jh _ _).grown h9 Of (fun k h=>by cases h);have p0:=Hd d5;have g4:=Hd h7;have d0:Hid (w.heap.size<w1.heap.size):=d5.lt;clear G h9 d5 h7
  go_wp2_with (at_builtin;refine wpList_append_own _ rfl _ _ 121 rfl (w.heap.size+1) 154 i0 (.int .u32 0) 1 4 underlying121 b5 i1 i6 i7 rfl (by decide) _ 0 [] rfl (Vv _ _ _ _) ⟨ba,oa,none⟩ a.length ca (Nx (a.drop T)) rfl (by rw[HE.o];simp) (by have h:=P3 (p9.o _ g4.o);rw[HE.o] at h ⊢;exact h) (Qd _) (by unfold maxLen;omega) (by omega) (by have:=d0.o;omega) ?_)
  intro v2 w2 a8 d8 _
  try rw[<-List.map_drop] at a8
  have A:=a8;have n0:Up w w2:=g4.o.grown d8 g4.o.size (fun k h=>by cases h);have l8:Hid (Hr (w.heap.size+1) w2 v2 (a.drop T)):=Hr.of_owns' (e:=154) (R:=a.drop T) A m8.o.rok;have q9:Hid (O7 w2 w.heap.size (List.replicate a.length 0)):=by
   obtain⟨tl,h⟩:=p0.o;exact⟨tl,(d8.block _ d0.o (by simp[Value.ownBlock])).trans h⟩
  have q1:=Hd n0;obtain⟨pr,lr,cr,s9⟩:∃ pr lr cr,v2=.slice pr lr cr:=by
   obtain⟨_,_,e,_⟩:=l8.o.isL;exact⟨_,_,_,e⟩
  subst s9;clear a8 A d8 n0
  go_wp2
  go_loopw [7,9] (fun rv iv wr=>∃ (j:Nat) (R Q:List Nat),SD a b R Q j/\Hr (w.heap.size+1) wr rv R/\iv=.int .i64 ((j:Int) - 1)/\O7 wr w.heap.size Q/\Up w wr) (fun _ iv _=>(intOf iv+1).toNat)
  case atStart=>exact⟨T,_,_,m8.o,l8.o,Ob (by have:=HE.o;omega),q9.o,q1.o⟩
  obtain⟨j,R,Q,l1,n7,rfl,hQ,hB⟩:=hrel;have d:=Hd l1;have g7:=Hd n7;have j7:=Hd hQ;have b7:=Hd hB;have y4:=l1.le;clear l1 n7 hQ hB
  cases j with
  | zero=>
    have HE:Hid (val a=val Q*val b+val R/\val R<val b):=by
     have e:=d.o.eq;unfold Ek at e;rw[Y5,Y5] at e;exact⟨e,d.o.lt⟩
    have r3:Hid (U1 w.heap.size wr (.slice (some ⟨w.heap.size,0,none⟩) a.length a.length) Q):=by
     have h:=j7.o.isL (B:=w.heap.size) (cap:=a.length) Of d.o.qok (by have:=d.o.qlen;omega) (by unfold maxLen;omega);rw[d.o.qlen] at h;exact h
    go_wp2
    go_ret2
    exact⟨_,_,Q,R,rfl,⟨r3.o,g7.o.isL.mono (by omega)⟩,HE.o.1,HE.o.2,b7.o⟩
  | succ i=>
    have d7:=HA.o i (by omega);rw[<-b7.o.cell (p:=⟨ba,oa+i,none⟩) r9] at d7;have l3:=O9 a J.o.1 i (by omega);have K:Hid (val (Oe (a.getD i 0::R))<val b->SD a b (Oe (a.getD i 0::R)) Q i):=fun h=>d.o.cont h l3 J.o.2.1;have j5:Hid (∀ {q:Nat} {R':List Nat},q<1000000000->val (a.getD i 0::R)=q*val b+val R'->val R'<val b->okL R'->isTrim R'->SD a b R' (Q.set i q) i):=fun {q R'} h1 h2 h3 h4 h5=>d.o.put h1 h2 h3 h4 h5 J.o.2.1;have f8:Hid (val (a.getD i 0::R)<val b*1000000000):=d.o.window l3;obtain⟨x,hx⟩:=O1 (a.getD i 0);rw[hx] at d7 l3 K j5 f8;obtain⟨N,hN⟩:=O1 (x::R);have h8:okL N:=by
     rw[<-hN];intro y hy
     rcases Vz.1 hy with e|e
     ·omega
     exact d.o.rok y e
    have y0:=d.o.rlen;have e8:Hid (N.length=R.length+1/\N.length<=100001):=by
     rw[<-hN];exact⟨by simp,by simp;omega⟩
    rw[hN] at K j5 f8;have HN:Hid (okL N/\True/\val N<val b*1000000000):=⟨h8,trivial,f8.o⟩;have q8:Hid (Nx N=Value.int .u32 (x:Nat)::Nx R):=by rw[<-hN];rfl
    have I:Hid (w.heap.size<wr.heap.size):=j7.o.lt;clear hx hN h8 f8
    go_wp2_with (at_builtin;refine Xm rfl _ _ 121 rfl (w.heap.size+1) (w.heap.size+1) 154 i0 (.int .u32 0) 4 underlying121 b5 i1 i6 i7 rfl _ 1 [.int .u32 (x:Nat)] rfl (Ts wr _ _ _ (by have:=I.o;omega)) _ R rfl (g7.o.bl (Oy _ _)) (by unfold maxLen;omega) (by omega) (by have:=I.o;simp;omega) ?_)
    intro v3 w3 A d9;rw[<-q8.o] at A;have n1:Up w w3:=(b7.o.alloc b7.o.size _).grown d9 (by have:=b7.o.size;simp;omega) (fun k h=>by simp[Value.ownBlock] at h;have:=I.o;omega);have m5:Hid (O7 w3 w.heap.size Q):=by
     obtain⟨tl,h⟩:=j7.o;refine⟨tl,(d9.block _ (by have:=I.o;simp;omega) (by simp[Value.ownBlock];have:=I.o;omega)).trans ?_⟩;exact (heap_alloc_old wr _ I.o).trans h
    have b4:=Hd n1;obtain⟨_,⟨_,n9⟩|⟨g,cap,t6,s2,s3,s4,n6,k9⟩⟩:=Hr.of_owns' (e:=154) A HN.o.1
    ·exfalso;have:=e8.o.1;rw[n9] at this;simp at this
    subst t6;have q2:=Hd k9;have g6:Hid (∀ k,k<=N.length->Oe N=N.take k->Hr (w.heap.size+1) w3 (.slice (some ⟨g,0,none⟩) k cap) (Oe N)):=fun k hk he=>Hr.cut s2 s3 n6 HN.o.1 s4 k9 k hk he;have x9:=e8.o.2;unfold maxLen at n6;clear A d9 n1 k9 d7
    go_wp2
    go_loop [11] (fun n=>∃ k:Nat,k<=N.length/\n=.int .i64 k/\Oe (N.take k)=Oe N) (fun n=>(intOf n).toNat)
    case atStart=>exact⟨N.length,Of,rfl,by rw[Yl]⟩
    obtain⟨k,hk,rfl,hp⟩:=hrel;have HP:=Hd hp;clear hp
    cases k with
    | zero=>
      have HE:Hid (Oe N=[]):=by rw[<-HP.o];rfl
      have d2:Hid (Hr (w.heap.size+1) w3 (.slice (some ⟨g,0,none⟩) 0 cap) (Oe N)):=g6.o 0 (by omega) (by rw[<-HP.o];rfl);have e9:Hid (U1 B w3 (.slice (some ⟨g,0,none⟩) 0 cap) (Oe N)):=d2.o.isL.mono g5.o;have b9:Hid (El (Oe N) b = -1):=by rw[HE.o];exact Sz b J.o.2.2.2
      have d4:Hid (SD a b (Oe N) Q i):=K.o (by rw[HE.o];exact N2 b J.o.2.2.1 J.o.2.2.2)
      go_wp2_with fail
      refine (Nr B _ _ (Oe N) b _ e9.o (HB.o _ b4.o)).mono ?_;rintro e w4 ⟨rfl,O⟩;rw[b9.o];have E:Hid (Hr (w.heap.size+1) w4 (.slice (some ⟨g,0,none⟩) 0 cap) (Oe N)/\O7 w4 w.heap.size Q/\Up w w4):=⟨d2.o.bl O,m5.o.kept O,b4.o.trans (O.mono b4.o.size)⟩;clear O
      go_wp2
      go_roundw
      case rel=>exact⟨i,Oe N,Q,d4.o,E.o.1,by go_num,E.o.2.1,E.o.2.2⟩
      simp[intOf]
    | succ m=>
      obtain⟨y,hy⟩:=O1 (N.getD m 0);have V:=q2.o m (by omega);rw[hy] at V;have HY:=Hd hy;clear hy
      by_cases h0:y=0
      ·have hz:((y:Int)==0)=true:=by rw[Yc];omega
       have HE:Hid (Oe (N.take m)=Oe N):=by rw[<-Ex N m (by omega) (by rw[HY.o,h0])];exact HP.o
       clear h0
       go_wp2
       go_round
       case rel=>exact⟨m,by omega,Ob (by omega),HE.o⟩
       simp[intOf]
      have hz:((y:Int)==0)=false:=by rw[Jc];omega
      have d2:Hid (Hr (w.heap.size+1) w3 (.slice (some ⟨g,0,none⟩) (m+1) cap) (Oe N)):=g6.o (m+1) hk (HP.o.symm.trans (Ea N m (by omega) (by rw[HY.o];exact h0)));have e9:Hid (U1 B w3 (.slice (some ⟨g,0,none⟩) (m+1) cap) (Oe N)):=d2.o.isL.mono g5.o;have d1:Hid ((Oe N).length=m+1):=by obtain⟨_,_,e,_⟩:=e9.o;simp at e;exact e.2.1.symm
      clear h0;obtain⟨cm,k7⟩:=O1 (El (Oe N) b);have b9:=Hd k7;have s1 : -1<=cm/\cm<=1:=by rw[<-k7];exact Qe _ b
      obtain⟨w8,w9⟩:=s1;clear k7
      go_wp2_with fail
      refine (Nr B _ _ (Oe N) b _ e9.o (HB.o _ b4.o)).mono ?_;rintro e w4 ⟨rfl,O⟩;rw[b9.o];have E:Hid (Hr (w.heap.size+1) w4 (.slice (some ⟨g,0,none⟩) (m+1) cap) (Oe N)/\O7 w4 w.heap.size Q/\Up w w4):=⟨d2.o.bl O,m5.o.kept O,b4.o.trans (O.mono b4.o.size)⟩;clear O V
      by_cases e2:cm<0
      ·have d4:Hid (SD a b (Oe N) Q i):=K.o (Xa _ b (trimL_ok N HN.o.1) J.o.2.1 (trimL_trim N) J.o.2.2.1 (by rw[b9.o];exact e2))
       go_wp2
       go_roundw
       case rel=>exact⟨i,Oe N,Q,d4.o,E.o.1,by go_num,E.o.2.1,E.o.2.2⟩
       simp[intOf]
      have q6:Hid (val b<=val N/\b.length<=(Oe N).length):=by
       have h:=UK (Oe N) b (trimL_ok N HN.o.1) J.o.2.1 (trimL_trim N) J.o.2.2.1 (by rw[b9.o];omega);rw[O3] at h;exact⟨h.2,h.1⟩
      have y7:0<=cm:=by omega
      clear e2
      go_wp2
      go_loopw [12,13] (fun lov hiv wq=>∃ lo hi:Nat,lov=.int .u64 (lo:Nat)/\hiv=.int .u64 (hi:Nat)/\Gp (val b) (val N) lo hi/\Up w4 wq) (fun lov hiv _=>(intOf hiv).toNat - (intOf lov).toNat)
      case atStart=>exact⟨0,999999999,rfl,rfl,Qs _ _ HN.o.2.2,Jh _ _⟩
      obtain⟨lo,hi,rfl,rfl,g2,n4⟩:=hrel;have b8:=Hd g2;have b6:=Hd n4;have y5:=g2.1;have y6:=g2.2.1;clear g2 n4;have j1:Hid (Up w wr):=E.o.2.2.trans (b6.o.mono E.o.2.2.size);have m6:Hid (Hr (w.heap.size+1) wr (.slice (some ⟨g,0,none⟩) (m+1) cap) (Oe N)):=E.o.1.bl b6.o;have j6:Hid (O7 wr w.heap.size Q):=E.o.2.1.kept b6.o
      by_cases l0:lo<hi
      ·obtain⟨M,hM⟩:=O1 ((lo+hi+1) / 2);have x8:((lo:Int)+(hi:Int)+1) / 2=(M:Int):=by omega
       have HM:=Hd hM;have r8:M<1000000000:=by omega
       have x7:1<=M:=by omega
       clear hM
       go_wp2_with fail
       refine (Xe B _ b M _ (HB.o _ j1.o) hlb r8).mono ?_;rintro e w5 ⟨v5,L5,rfl,g0,o2,o4,s5,n3⟩;have q7:Hid (U1 B w5 v5 L5):=g0.mono (by have:=j1.o.size;have:=o7.o;omega);have j8:Hid (isTrim L5/\val L5=val b*M/\okL L5):=⟨o2,o4,by obtain⟨_,_,_,_,_,h,_⟩:=g0;exact h⟩;have j0:=Hd n3;obtain⟨p5,c5,e5,_⟩:=id g0;subst e5;clear g0 o2 o4 s5 n3
       go_wp2_with fail
       refine (Nr B _ _ L5 (Oe N) _ q7.o ((m6.o.bl j0.o).isL.mono g5.o)).mono ?_;rintro e w6 ⟨rfl,d6⟩;have Y:Hid (Up w4 w6):=b6.o.trans ((j0.o.trans (d6.mono j0.o.size)).mono b6.o.size);clear d6;have ho:=Gf L5 (Oe N) j8.o.2.2 (trimL_ok N HN.o.1) j8.o.1 (trimL_trim N);rw[O3,j8.o.2.1] at ho
       by_cases hc:M*val b<=val N
       ·have r4:Hid (Gp (val b) (val N) M hi):=by
         have h:=Cf b8.o l0 (by rw[HM.o];exact hc);rw[HM.o] at h;exact h
        obtain⟨cx,a7⟩:=O1 (El L5 (Oe N));have n5:cx<=0:=by rw[<-a7,ho];exact XJ _ _ (by rw[Yy];exact hc)
        rw[a7];clear a7 ho hc
        go_wp2
        go_roundw
        case rel=>exact⟨M,hi,rfl,rfl,r4.o,Y.o⟩
        simp[intOf];have:=HM.o;omega
       have q4:Hid (Gp (val b) (val N) lo (M - 1)):=by
        have h:=Rr b8.o l0 (by rw[HM.o];omega);rw[HM.o] at h;exact h
       obtain⟨cx,a7⟩:=O1 (El L5 (Oe N));have n5:0<cx:=by rw[<-a7,ho];exact XW _ _ (by rw[Yy];omega)
       rw[a7];clear a7 ho hc
       go_wp2
       go_roundw
       case rel=>exact⟨lo,M - 1,rfl,Ob (by omega),q4.o,Y.o⟩
       simp[intOf];have:=HM.o;omega
      obtain rfl:lo=hi:=by omega
      have j2:Hid (1<=lo/\lo*val b<=val N/\val N<(lo+1)*val b):=by
       refine⟨?_,b8.o.2.2.1,b8.o.2.2.2⟩;apply Yp;rintro rfl;have h1:=b8.o.2.2.2;have h2:=q6.o.1;omega
      have x0:=j2.o.1;have s7:=j6.o.cell i (by have:=d.o.qlen;have:=d.o.le;omega);have s8:=j6.o.frozen i;have Z:Hid (O7 (wr.setCell ⟨w.heap.size,i,none⟩ (.int .u32 (lo:Nat))) w.heap.size (Q.set i lo)/\Hr (w.heap.size+1) (wr.setCell ⟨w.heap.size,i,none⟩ (.int .u32 (lo:Nat))) (.slice (some ⟨g,0,none⟩) (m+1) cap) (Oe N)/\Up w (wr.setCell ⟨w.heap.size,i,none⟩ (.int .u32 (lo:Nat)))):=
       ⟨j6.o.set _ _ (by have:=d.o.qlen;have:=d.o.le;omega),m6.o.setCell _ _ (by show w.heap.size<w.heap.size+1;omega),j1.o.setCell Of _⟩
      obtain⟨W5,k0⟩:=O1 (wr.setCell ⟨w.heap.size,i,none⟩ (.int .u32 (lo:Nat)));have r5:=Hd k0;rw[k0] at Z;clear k0 l0
      go_wp2_with fail
      rw[r5.o];clear s7 s8;refine (Xe B _ b lo _ (HB.o _ Z.o.2.2) hlb (by omega)).mono ?_;rintro e w6 ⟨v6,L6,rfl,g1,o3,o5,s6,d6⟩;have e7:Hid (U1 B w6 v6 L6/\isTrim L6/\val L6=val b*lo/\okL L6):=⟨g1.mono (by have:=Z.o.2.2.size;have:=o7.o;omega),o3,o5,by obtain⟨_,_,_,_,_,h,_⟩:=g1;exact h⟩;have Y:=Hd d6;obtain⟨p6,c6,e6,_⟩:=id g1;subst e6;clear g1 o3 o5 s6 d6
      go_wp2_with fail
      have e0:val L6<=val (Oe N):=by rw[e7.o.2.2.1,O3,Yy];exact j2.o.2.1
      have e1:=Fy B (.slice (some ⟨g,0,none⟩) (m+1) cap) (.slice p6 L6.length c6) (Oe N) L6 w6 ((Z.o.2.1.bl Y.o).isL.mono g5.o) e7.o.1 (by have:=e8.o;have:=Ku N;omega) (Qq L6 (Oe N) e7.o.2.1 (trimL_ok N HN.o.1) e0) e0;rw[d1.o] at e1;refine e1.mono ?_;clear e1 e0;rintro e w7 ⟨S,rfl,hS,l2,n8,k1⟩;have b3:okL S:=by obtain⟨_,_,_,_,_,h,_⟩:=hS;exact h
      have HS:Hid (okL S/\S.length=m+1/\val S+lo*val b=val N):=⟨b3,n8,by rw[e7.o.2.2.1,O3] at l2;rw[Yy lo];exact l2⟩;have hG:w.heap.size+1<=w6.heap.size:=by have:=Z.o.1.lt;have:=Y.o.size;omega
      have l7:Hid (∀ q,q<S.length->w7.cell? ⟨w6.heap.size,q,none⟩=some (.int .u32 (S.getD q 0:Nat))):=fun q hq=>by
       obtain⟨_,_,_,_,k8⟩:=hS.cells;obtain⟨b',i8,e,_,hc⟩:=k8 q hq;simp only[Option.some.injEq,Addr.mk.injEq,and_true] at e;obtain⟨rfl,rfl⟩:=e;rw[Y4] at hc;exact hc
      have l9:Hid (w6.heap.size<w7.heap.size):=by
       obtain⟨_,_,_,_,k8⟩:=hS.cells;obtain⟨b',i8,e,e2,hc⟩:=k8 0 (by omega);simp only[Option.some.injEq,Addr.mk.injEq,and_true] at e;obtain⟨rfl,rfl⟩:=e;exact e2
      have f5:Hid (O7 w7 w.heap.size (Q.set i lo)/\Up w w7):=⟨(Z.o.1.kept Y.o).kept k1,Z.o.2.2.trans ((Y.o.trans (k1.mono Y.o.size)).mono Z.o.2.2.size)⟩;have c8:Hid (∀ k,k<=S.length->Oe S=S.take k->Hr (w.heap.size+1) w7 (.slice (some ⟨w6.heap.size,0,none⟩) k (m+1)) (Oe S)):=fun k hk he=>Hr.cut hG l9.o (by unfold maxLen;have:=e8.o;have:=Ku N;have:=d1.o;omega) b3 (by omega) l7.o k hk he;have g8:Hid (SD a b (Oe S) (Q.set i lo) i):=by
       refine j5.o (by omega) ?_ ?_ (trimL_ok S b3) (trimL_trim S)
       ·rw[O3];have:=HS.o.2.2;omega
       rw[O3];have h1:=HS.o.2.2;have h2:=j2.o.2.2;rw[Zl,Zq] at h2;omega
      clear hS l2 n8 k1 b3 hG
      go_wp2
      go_loop [16] (fun n=>∃ k:Nat,k<=S.length/\n=.int .i64 k/\Oe (S.take k)=Oe S) (fun n=>(intOf n).toNat)
      case atStart=>exact⟨S.length,Of,Ob (by have:=HS.o.2.1;omega),by rw[Yl]⟩
      obtain⟨k,hk,rfl,hp⟩:=hrel;have j4:=Hd hp;have j9:=HS.o.2.1;clear hp
      cases k with
      | zero=>
        have d3:Hid (Hr (w.heap.size+1) w7 (.slice (some ⟨w6.heap.size,0,none⟩) 0 (m+1)) (Oe S)):=c8.o 0 (by omega) (by rw[<-j4.o];rfl);clear j9
        go_wp2
        go_roundw
        case rel=>exact⟨i,Oe S,Q.set i lo,g8.o,d3.o,by go_num,f5.o.1,f5.o.2⟩
        simp[intOf]
      | succ p=>
        obtain⟨y,hy⟩:=O1 (S.getD p 0);have V:=l7.o p (by omega);rw[hy] at V;have m9:=Hd hy;have y8:p<m+1:=by omega
        clear hy
        by_cases h0:y=0
        ·have hz:((y:Int)==0)=true:=by rw[Yc];omega
         have q5:Hid (Oe (S.take p)=Oe S):=by rw[<-Ex S p (by omega) (by rw[m9.o,h0])];exact j4.o
         clear h0 j9
         go_wp2
         go_round
         case rel=>exact⟨p,by have:=HS.o.2.1;omega,Ob (by omega),q5.o⟩
         simp[intOf]
        have hz:((y:Int)==0)=false:=by rw[Jc];omega
        have d3:Hid (Hr (w.heap.size+1) w7 (.slice (some ⟨w6.heap.size,0,none⟩) (p+1) (m+1)) (Oe S)):=c8.o (p+1) (by omega) (j4.o.symm.trans (Ea S p (by omega) (by rw[m9.o];exact h0)));clear h0 j9
        go_wp2
        go_roundw
        case rel=>exact⟨i,Oe S,Q.set i lo,g8.o,d3.o,by go_num,f5.o.1,f5.o.2⟩
        simp[intOf]
 case' _=>
  have z1:decide ((T:Int)<0)=false:=dF (by omega)
  have q3:=o8.o.2;have z2:decide (a.length<T)=false:=dF (by omega)
  have z3:decide ((a.length:Int)<(T:Int))=false:=dF (by omega)
  clear q3
  go_in
  go_wp2_with (at_make;refine wpList_make_full _ rfl _ _ 121 rfl w.heap.size 154 i0 (.int .u32 0) 1 underlying121 b5 i1 i6 .i64 .i64 _ _ a.length rfl rfl (by first|rfl|omega) (by first|rfl|omega) (by first|omega|(rw[i7];omega)) (by unfold maxLen;omega) Of ?_)
  intro w1 G h9
  first|rw[K8] at G|rw[Ka] at G
  have d5:O7 w1 w.heap.size (List.replicate a.length 0):=(Kp G).tail;have h7:Up w w1:=(Jh _ _).grown h9 Of (fun k h=>by cases h);have p0:=Hd d5;have g4:=Hd h7;have d0:Hid (w.heap.size<w1.heap.size):=d5.lt;clear G h9 d5 h7;have p4:=o8.o.2
  go_wp2_with (at_builtin;refine wpList_append_own _ rfl _ _ 121 rfl (w.heap.size+1) 154 i0 (.int .u32 0) 1 4 underlying121 b5 i1 i6 i7 rfl (by decide) _ 0 [] rfl (Vv _ _ _ _) ⟨ba,oa+T,none⟩ (a.length - T) (ca - T) (Nx (a.drop T)) rfl (by simp) (P3 (p9.o _ g4.o)) (Qd _) (by unfold maxLen;omega) (by omega) (by have:=d0.o;omega) ?_)
 rotate_left
 case' _=>
  have z1:decide ((T:Int)<0)=false:=dF (by omega)
  have x3:=Hd v8;have q3:=o8.o.2;have z2:decide (a.length<T)=false:=dF (by omega)
  have z3:decide ((a.length:Int)<(T:Int))=false:=dF (by omega)
  clear q3 v8
  go_in
  go_wp2_with (at_make;refine wpList_make_full _ rfl _ _ 121 rfl w.heap.size 154 i0 (.int .u32 0) 1 underlying121 b5 i1 i6 .i64 .i64 _ _ a.length rfl rfl (by first|rfl|omega) (by first|rfl|omega) (by first|omega|(rw[i7];omega)) (by unfold maxLen;omega) Of ?_)
  intro w1 G h9
  first|rw[K8] at G|rw[Ka] at G
  have d5:O7 w1 w.heap.size (List.replicate a.length 0):=(Kp G).tail;have h7:Up w w1:=(Jh _ _).grown h9 Of (fun k h=>by cases h);have p0:=Hd d5;have g4:=Hd h7;have d0:Hid (w.heap.size<w1.heap.size):=d5.lt;clear G h9 d5 h7;have p4:=o8.o.2
  go_wp2_with (at_builtin;refine wpList_append_own _ rfl _ _ 121 rfl (w.heap.size+1) 154 i0 (.int .u32 0) 1 4 underlying121 b5 i1 i6 i7 rfl (by decide) _ 0 [] rfl (Vv _ _ _ _) ⟨ba,oa,none⟩ (a.length - T) 0 (Nx (a.drop T)) rfl (by simp) (fun q u hq=>by have:=x3.o;rw[show a.drop T=[] from Zj (by omega)] at hq;simp at hq) (Qd _) (by unfold maxLen;omega) (by omega) (by have:=d0.o;omega) ?_)
 rotate_left
 all_goals
  intro v2 w2 a8 d8 _
  try rw[<-List.map_drop] at a8
  have A:=a8;have n0:Up w w2:=g4.o.grown d8 g4.o.size (fun k h=>by cases h);have l8:Hid (Hr (w.heap.size+1) w2 v2 (a.drop T)):=Hr.of_owns' (e:=154) (R:=a.drop T) A m8.o.rok;have q9:Hid (O7 w2 w.heap.size (List.replicate a.length 0)):=by
   obtain⟨tl,h⟩:=p0.o;exact⟨tl,(d8.block _ d0.o (by simp[Value.ownBlock])).trans h⟩
  have q1:=Hd n0;obtain⟨pr,lr,cr,s9⟩:∃ pr lr cr,v2=.slice pr lr cr:=by
   obtain⟨_,_,e,_⟩:=l8.o.isL;exact⟨_,_,_,e⟩
  subst s9;clear a8 A d8 n0
  go_wp2
  go_loopw [7,9] (fun rv iv wr=>∃ (j:Nat) (R Q:List Nat),SD a b R Q j/\Hr (w.heap.size+1) wr rv R/\iv=.int .i64 ((j:Int) - 1)/\O7 wr w.heap.size Q/\Up w wr) (fun _ iv _=>(intOf iv+1).toNat)
  case atStart=>exact⟨T,_,_,m8.o,l8.o,Ob (by omega),q9.o,q1.o⟩
  obtain⟨j,R,Q,l1,n7,rfl,hQ,hB⟩:=hrel;have d:=Hd l1;have g7:=Hd n7;have j7:=Hd hQ;have b7:=Hd hB;have y4:=l1.le;clear l1 n7 hQ hB
  cases j with
  | zero=>
    have HE:Hid (val a=val Q*val b+val R/\val R<val b):=by
     have e:=d.o.eq;unfold Ek at e;rw[Y5,Y5] at e;exact⟨e,d.o.lt⟩
    have r3:Hid (U1 w.heap.size wr (.slice (some ⟨w.heap.size,0,none⟩) a.length a.length) Q):=by
     have h:=j7.o.isL (B:=w.heap.size) (cap:=a.length) Of d.o.qok (by have:=d.o.qlen;omega) (by unfold maxLen;omega);rw[d.o.qlen] at h;exact h
    go_wp2
    go_ret2
    exact⟨_,_,Q,R,rfl,⟨r3.o,g7.o.isL.mono (by omega)⟩,HE.o.1,HE.o.2,b7.o⟩
  | succ i=>
    have d7:=HA.o i (by omega);rw[<-b7.o.cell (p:=⟨ba,oa+i,none⟩) r9] at d7;have l3:=O9 a J.o.1 i (by omega);have K:Hid (val (Oe (a.getD i 0::R))<val b->SD a b (Oe (a.getD i 0::R)) Q i):=fun h=>d.o.cont h l3 J.o.2.1;have j5:Hid (∀ {q:Nat} {R':List Nat},q<1000000000->val (a.getD i 0::R)=q*val b+val R'->val R'<val b->okL R'->isTrim R'->SD a b R' (Q.set i q) i):=fun {q R'} h1 h2 h3 h4 h5=>d.o.put h1 h2 h3 h4 h5 J.o.2.1;have f8:Hid (val (a.getD i 0::R)<val b*1000000000):=d.o.window l3;obtain⟨x,hx⟩:=O1 (a.getD i 0);rw[hx] at d7 l3 K j5 f8;obtain⟨N,hN⟩:=O1 (x::R);have h8:okL N:=by
     rw[<-hN];intro y hy
     rcases Vz.1 hy with e|e
     ·omega
     exact d.o.rok y e
    have y0:=d.o.rlen;have e8:Hid (N.length=R.length+1/\N.length<=100001):=by
     rw[<-hN];exact⟨by simp,by simp;omega⟩
    rw[hN] at K j5 f8;have HN:Hid (okL N/\True/\val N<val b*1000000000):=⟨h8,trivial,f8.o⟩;have q8:Hid (Nx N=Value.int .u32 (x:Nat)::Nx R):=by rw[<-hN];rfl
    have I:Hid (w.heap.size<wr.heap.size):=j7.o.lt;clear hx hN h8 f8
    go_wp2_with (at_builtin;refine Xm rfl _ _ 121 rfl (w.heap.size+1) (w.heap.size+1) 154 i0 (.int .u32 0) 4 underlying121 b5 i1 i6 i7 rfl _ 1 [.int .u32 (x:Nat)] rfl (Ts wr _ _ _ (by have:=I.o;omega)) _ R rfl (g7.o.bl (Oy _ _)) (by unfold maxLen;omega) (by omega) (by have:=I.o;simp;omega) ?_)
    intro v3 w3 A d9;rw[<-q8.o] at A;have n1:Up w w3:=(b7.o.alloc b7.o.size _).grown d9 (by have:=b7.o.size;simp;omega) (fun k h=>by simp[Value.ownBlock] at h;have:=I.o;omega);have m5:Hid (O7 w3 w.heap.size Q):=by
     obtain⟨tl,h⟩:=j7.o;refine⟨tl,(d9.block _ (by have:=I.o;simp;omega) (by simp[Value.ownBlock];have:=I.o;omega)).trans ?_⟩;exact (heap_alloc_old wr _ I.o).trans h
    have b4:=Hd n1;obtain⟨_,⟨_,n9⟩|⟨g,cap,t6,s2,s3,s4,n6,k9⟩⟩:=Hr.of_owns' (e:=154) A HN.o.1
    ·exfalso;have:=e8.o.1;rw[n9] at this;simp at this
    subst t6;have q2:=Hd k9;have g6:Hid (∀ k,k<=N.length->Oe N=N.take k->Hr (w.heap.size+1) w3 (.slice (some ⟨g,0,none⟩) k cap) (Oe N)):=fun k hk he=>Hr.cut s2 s3 n6 HN.o.1 s4 k9 k hk he;have x9:=e8.o.2;unfold maxLen at n6;clear A d9 n1 k9 d7
    go_wp2
    go_loop [11] (fun n=>∃ k:Nat,k<=N.length/\n=.int .i64 k/\Oe (N.take k)=Oe N) (fun n=>(intOf n).toNat)
    case atStart=>exact⟨N.length,Of,rfl,by rw[Yl]⟩
    obtain⟨k,hk,rfl,hp⟩:=hrel;have HP:=Hd hp;clear hp
    cases k with
    | zero=>
      have HE:Hid (Oe N=[]):=by rw[<-HP.o];rfl
      have d2:Hid (Hr (w.heap.size+1) w3 (.slice (some ⟨g,0,none⟩) 0 cap) (Oe N)):=g6.o 0 (by omega) (by rw[<-HP.o];rfl);have e9:Hid (U1 B w3 (.slice (some ⟨g,0,none⟩) 0 cap) (Oe N)):=d2.o.isL.mono g5.o;have b9:Hid (El (Oe N) b = -1):=by rw[HE.o];exact Sz b J.o.2.2.2
      have d4:Hid (SD a b (Oe N) Q i):=K.o (by rw[HE.o];exact N2 b J.o.2.2.1 J.o.2.2.2)
      go_wp2_with fail
      refine (Nr B _ _ (Oe N) b _ e9.o (HB.o _ b4.o)).mono ?_;rintro e w4 ⟨rfl,O⟩;rw[b9.o];have E:Hid (Hr (w.heap.size+1) w4 (.slice (some ⟨g,0,none⟩) 0 cap) (Oe N)/\O7 w4 w.heap.size Q/\Up w w4):=⟨d2.o.bl O,m5.o.kept O,b4.o.trans (O.mono b4.o.size)⟩;clear O
      go_wp2
      go_roundw
      case rel=>exact⟨i,Oe N,Q,d4.o,E.o.1,by go_num,E.o.2.1,E.o.2.2⟩
      simp[intOf]
    | succ m=>
      obtain⟨y,hy⟩:=O1 (N.getD m 0);have V:=q2.o m (by omega);rw[hy] at V;have HY:=Hd hy;clear hy
      by_cases h0:y=0
      ·have hz:((y:Int)==0)=true:=by rw[Yc];omega
       have HE:Hid (Oe (N.take m)=Oe N):=by rw[<-Ex N m (by omega) (by rw[HY.o,h0])];exact HP.o
       clear h0
       go_wp2
       go_round
       case rel=>exact⟨m,by omega,Ob (by omega),HE.o⟩
       simp[intOf]
      have hz:((y:Int)==0)=false:=by rw[Jc];omega
      have d2:Hid (Hr (w.heap.size+1) w3 (.slice (some ⟨g,0,none⟩) (m+1) cap) (Oe N)):=g6.o (m+1) hk (HP.o.symm.trans (Ea N m (by omega) (by rw[HY.o];exact h0)));have e9:Hid (U1 B w3 (.slice (some ⟨g,0,none⟩) (m+1) cap) (Oe N)):=d2.o.isL.mono g5.o;have d1:Hid ((Oe N).length=m+1):=by obtain⟨_,_,e,_⟩:=e9.o;simp at e;exact e.2.1.symm
      clear h0;obtain⟨cm,k7⟩:=O1 (El (Oe N) b);have b9:=Hd k7;have s1 : -1<=cm/\cm<=1:=by rw[<-k7];exact Qe _ b
      obtain⟨w8,w9⟩:=s1;clear k7
      go_wp2_with fail
      refine (Nr B _ _ (Oe N) b _ e9.o (HB.o _ b4.o)).mono ?_;rintro e w4 ⟨rfl,O⟩;rw[b9.o];have E:Hid (Hr (w.heap.size+1) w4 (.slice (some ⟨g,0,none⟩) (m+1) cap) (Oe N)/\O7 w4 w.heap.size Q/\Up w w4):=⟨d2.o.bl O,m5.o.kept O,b4.o.trans (O.mono b4.o.size)⟩;clear O V
      by_cases e2:cm<0
      ·have d4:Hid (SD a b (Oe N) Q i):=K.o (Xa _ b (trimL_ok N HN.o.1) J.o.2.1 (trimL_trim N) J.o.2.2.1 (by rw[b9.o];exact e2))
       go_wp2
       go_roundw
       case rel=>exact⟨i,Oe N,Q,d4.o,E.o.1,by go_num,E.o.2.1,E.o.2.2⟩
       simp[intOf]
      have q6:Hid (val b<=val N/\b.length<=(Oe N).length):=by
       have h:=UK (Oe N) b (trimL_ok N HN.o.1) J.o.2.1 (trimL_trim N) J.o.2.2.1 (by rw[b9.o];omega);rw[O3] at h;exact⟨h.2,h.1⟩
      have y7:0<=cm:=by omega
      clear e2
      go_wp2
      go_loopw [12,13] (fun lov hiv wq=>∃ lo hi:Nat,lov=.int .u64 (lo:Nat)/\hiv=.int .u64 (hi:Nat)/\Gp (val b) (val N) lo hi/\Up w4 wq) (fun lov hiv _=>(intOf hiv).toNat - (intOf lov).toNat)
      case atStart=>exact⟨0,999999999,rfl,rfl,Qs _ _ HN.o.2.2,Jh _ _⟩
      obtain⟨lo,hi,rfl,rfl,g2,n4⟩:=hrel;have b8:=Hd g2;have b6:=Hd n4;have y5:=g2.1;have y6:=g2.2.1;clear g2 n4;have j1:Hid (Up w wr):=E.o.2.2.trans (b6.o.mono E.o.2.2.size);have m6:Hid (Hr (w.heap.size+1) wr (.slice (some ⟨g,0,none⟩) (m+1) cap) (Oe N)):=E.o.1.bl b6.o;have j6:Hid (O7 wr w.heap.size Q):=E.o.2.1.kept b6.o
      by_cases l0:lo<hi
      ·obtain⟨M,hM⟩:=O1 ((lo+hi+1) / 2);have x8:((lo:Int)+(hi:Int)+1) / 2=(M:Int):=by omega
       have HM:=Hd hM;have r8:M<1000000000:=by omega
       have x7:1<=M:=by omega
       clear hM
       go_wp2_with fail
       refine (Xe B _ b M _ (HB.o _ j1.o) hlb r8).mono ?_;rintro e w5 ⟨v5,L5,rfl,g0,o2,o4,s5,n3⟩;have q7:Hid (U1 B w5 v5 L5):=g0.mono (by have:=j1.o.size;have:=o7.o;omega);have j8:Hid (isTrim L5/\val L5=val b*M/\okL L5):=⟨o2,o4,by obtain⟨_,_,_,_,_,h,_⟩:=g0;exact h⟩;have j0:=Hd n3;obtain⟨p5,c5,e5,_⟩:=id g0;subst e5;clear g0 o2 o4 s5 n3
       go_wp2_with fail
       refine (Nr B _ _ L5 (Oe N) _ q7.o ((m6.o.bl j0.o).isL.mono g5.o)).mono ?_;rintro e w6 ⟨rfl,d6⟩;have Y:Hid (Up w4 w6):=b6.o.trans ((j0.o.trans (d6.mono j0.o.size)).mono b6.o.size);clear d6;have ho:=Gf L5 (Oe N) j8.o.2.2 (trimL_ok N HN.o.1) j8.o.1 (trimL_trim N);rw[O3,j8.o.2.1] at ho
       by_cases hc:M*val b<=val N
       ·have r4:Hid (Gp (val b) (val N) M hi):=by
         have h:=Cf b8.o l0 (by rw[HM.o];exact hc);rw[HM.o] at h;exact h
        obtain⟨cx,a7⟩:=O1 (El L5 (Oe N));have n5:cx<=0:=by rw[<-a7,ho];exact XJ _ _ (by rw[Yy];exact hc)
        rw[a7];clear a7 ho hc
        go_wp2
        go_roundw
        case rel=>exact⟨M,hi,rfl,rfl,r4.o,Y.o⟩
        simp[intOf];have:=HM.o;omega
       have q4:Hid (Gp (val b) (val N) lo (M - 1)):=by
        have h:=Rr b8.o l0 (by rw[HM.o];omega);rw[HM.o] at h;exact h
       obtain⟨cx,a7⟩:=O1 (El L5 (Oe N));have n5:0<cx:=by rw[<-a7,ho];exact XW _ _ (by rw[Yy];omega)
       rw[a7];clear a7 ho hc
       go_wp2
       go_roundw
       case rel=>exact⟨lo,M - 1,rfl,Ob (by omega),q4.o,Y.o⟩
       simp[intOf];have:=HM.o;omega
      obtain rfl:lo=hi:=by omega
      have j2:Hid (1<=lo/\lo*val b<=val N/\val N<(lo+1)*val b):=by
       refine⟨?_,b8.o.2.2.1,b8.o.2.2.2⟩;apply Yp;rintro rfl;have h1:=b8.o.2.2.2;have h2:=q6.o.1;omega
      have x0:=j2.o.1;have s7:=j6.o.cell i (by have:=d.o.qlen;have:=d.o.le;omega);have s8:=j6.o.frozen i;have Z:Hid (O7 (wr.setCell ⟨w.heap.size,i,none⟩ (.int .u32 (lo:Nat))) w.heap.size (Q.set i lo)/\Hr (w.heap.size+1) (wr.setCell ⟨w.heap.size,i,none⟩ (.int .u32 (lo:Nat))) (.slice (some ⟨g,0,none⟩) (m+1) cap) (Oe N)/\Up w (wr.setCell ⟨w.heap.size,i,none⟩ (.int .u32 (lo:Nat)))):=
       ⟨j6.o.set _ _ (by have:=d.o.qlen;have:=d.o.le;omega),m6.o.setCell _ _ (by show w.heap.size<w.heap.size+1;omega),j1.o.setCell Of _⟩
      obtain⟨W5,k0⟩:=O1 (wr.setCell ⟨w.heap.size,i,none⟩ (.int .u32 (lo:Nat)));have r5:=Hd k0;rw[k0] at Z;clear k0 l0
      go_wp2_with fail
      rw[r5.o];clear s7 s8;refine (Xe B _ b lo _ (HB.o _ Z.o.2.2) hlb (by omega)).mono ?_;rintro e w6 ⟨v6,L6,rfl,g1,o3,o5,s6,d6⟩;have e7:Hid (U1 B w6 v6 L6/\isTrim L6/\val L6=val b*lo/\okL L6):=⟨g1.mono (by have:=Z.o.2.2.size;have:=o7.o;omega),o3,o5,by obtain⟨_,_,_,_,_,h,_⟩:=g1;exact h⟩;have Y:=Hd d6;obtain⟨p6,c6,e6,_⟩:=id g1;subst e6;clear g1 o3 o5 s6 d6
      go_wp2_with fail
      have e0:val L6<=val (Oe N):=by rw[e7.o.2.2.1,O3,Yy];exact j2.o.2.1
      have e1:=Fy B (.slice (some ⟨g,0,none⟩) (m+1) cap) (.slice p6 L6.length c6) (Oe N) L6 w6 ((Z.o.2.1.bl Y.o).isL.mono g5.o) e7.o.1 (by have:=e8.o;have:=Ku N;omega) (Qq L6 (Oe N) e7.o.2.1 (trimL_ok N HN.o.1) e0) e0;rw[d1.o] at e1;refine e1.mono ?_;clear e1 e0;rintro e w7 ⟨S,rfl,hS,l2,n8,k1⟩;have b3:okL S:=by obtain⟨_,_,_,_,_,h,_⟩:=hS;exact h
      have HS:Hid (okL S/\S.length=m+1/\val S+lo*val b=val N):=⟨b3,n8,by rw[e7.o.2.2.1,O3] at l2;rw[Yy lo];exact l2⟩;have hG:w.heap.size+1<=w6.heap.size:=by have:=Z.o.1.lt;have:=Y.o.size;omega
      have l7:Hid (∀ q,q<S.length->w7.cell? ⟨w6.heap.size,q,none⟩=some (.int .u32 (S.getD q 0:Nat))):=fun q hq=>by
       obtain⟨_,_,_,_,k8⟩:=hS.cells;obtain⟨b',i8,e,_,hc⟩:=k8 q hq;simp only[Option.some.injEq,Addr.mk.injEq,and_true] at e;obtain⟨rfl,rfl⟩:=e;rw[Y4] at hc;exact hc
      have l9:Hid (w6.heap.size<w7.heap.size):=by
       obtain⟨_,_,_,_,k8⟩:=hS.cells;obtain⟨b',i8,e,e2,hc⟩:=k8 0 (by omega);simp only[Option.some.injEq,Addr.mk.injEq,and_true] at e;obtain⟨rfl,rfl⟩:=e;exact e2
      have f5:Hid (O7 w7 w.heap.size (Q.set i lo)/\Up w w7):=⟨(Z.o.1.kept Y.o).kept k1,Z.o.2.2.trans ((Y.o.trans (k1.mono Y.o.size)).mono Z.o.2.2.size)⟩;have c8:Hid (∀ k,k<=S.length->Oe S=S.take k->Hr (w.heap.size+1) w7 (.slice (some ⟨w6.heap.size,0,none⟩) k (m+1)) (Oe S)):=fun k hk he=>Hr.cut hG l9.o (by unfold maxLen;have:=e8.o;have:=Ku N;have:=d1.o;omega) b3 (by omega) l7.o k hk he;have g8:Hid (SD a b (Oe S) (Q.set i lo) i):=by
       refine j5.o (by omega) ?_ ?_ (trimL_ok S b3) (trimL_trim S)
       ·rw[O3];have:=HS.o.2.2;omega
       rw[O3];have h1:=HS.o.2.2;have h2:=j2.o.2.2;rw[Zl,Zq] at h2;omega
      clear hS l2 n8 k1 b3 hG
      go_wp2
      go_loop [16] (fun n=>∃ k:Nat,k<=S.length/\n=.int .i64 k/\Oe (S.take k)=Oe S) (fun n=>(intOf n).toNat)
      case atStart=>exact⟨S.length,Of,Ob (by have:=HS.o.2.1;omega),by rw[Yl]⟩
      obtain⟨k,hk,rfl,hp⟩:=hrel;have j4:=Hd hp;have j9:=HS.o.2.1;clear hp
      cases k with
      | zero=>
        have d3:Hid (Hr (w.heap.size+1) w7 (.slice (some ⟨w6.heap.size,0,none⟩) 0 (m+1)) (Oe S)):=c8.o 0 (by omega) (by rw[<-j4.o];rfl);clear j9
        go_wp2
        go_roundw
        case rel=>exact⟨i,Oe S,Q.set i lo,g8.o,d3.o,by go_num,f5.o.1,f5.o.2⟩
        simp[intOf]
      | succ p=>
        obtain⟨y,hy⟩:=O1 (S.getD p 0);have V:=l7.o p (by omega);rw[hy] at V;have m9:=Hd hy;have y8:p<m+1:=by omega
        clear hy
        by_cases h0:y=0
        ·have hz:((y:Int)==0)=true:=by rw[Yc];omega
         have q5:Hid (Oe (S.take p)=Oe S):=by rw[<-Ex S p (by omega) (by rw[m9.o,h0])];exact j4.o
         clear h0 j9
         go_wp2
         go_round
         case rel=>exact⟨p,by have:=HS.o.2.1;omega,Ob (by omega),q5.o⟩
         simp[intOf]
        have hz:((y:Int)==0)=false:=by rw[Jc];omega
        have d3:Hid (Hr (w.heap.size+1) w7 (.slice (some ⟨w6.heap.size,0,none⟩) (p+1) (m+1)) (Oe S)):=c8.o (p+1) (by omega) (j4.o.symm.trans (Ea S p (by omega) (by rw[m9.o];exact h0)));clear h0 j9
        go_wp2
        go_roundw
        case rel=>exact⟨i,Oe S,Q.set i lo,g8.o,d3.o,by go_num,f5.o.1,f5.o.2⟩
        simp[intOf]
theorem Te (B:Nat)(z:Value)(neg:Bool)(w:World)(h:Nz B w z neg []) :
 Calls prog 127 #[z] w fun e w'=>e=.returned (.slice none 0 0)/\Up w w':=by
 obtain⟨j,A,h⟩:=h
 rcases h with⟨d,_⟩|⟨_,rfl⟩
 ·simp at d
 cases neg
 all_goals
  simp only[sg,val]
  go_in
  go_wp2
  go_ret
  exact⟨rfl,Oy _ _⟩
theorem Db (B:Nat)(z:Value)(neg:Bool)(t:List Nat)(w:World)(h:Nz B w z neg t)(hB:B<=w.heap.size) :
 Calls prog 127 #[z] w fun e w'=>∃ v,e=.returned v/\U1 B w' v t/\(t=[]->v=.slice none 0 0)/\Up w w':=by
 by_cases d:t=[]
 ·subst d;refine (Te B z neg w h).mono ?_;rintro e w' ⟨rfl,hb⟩;exact⟨_,rfl,⟨none,0,rfl,Of,(by unfold maxLen;omega),(fun x hx=>by cases hx),.inl rfl⟩,fun _=>rfl,hb⟩
 refine (Ez B z neg t w h hB).mono ?_;rintro e w' ⟨v,rfl,j,hb⟩;exact⟨v,rfl,j,fun h=>absurd h d,hb⟩
theorem Mf (z0:Int)(zn:Bool)(za:Option Addr)(zl zc:Nat)(w:World) :
 Calls prog 128 #[.agg #[.int .i64 z0,.bool zn,.slice za zl zc]] w fun e w'=>e=.returned (.bool (((zl:Int)==0)&&(z0==0)))/\Up w w':=by
 by_cases h:zl=0
 ·subst h
  go_in
  go_wp2
  go_ret
  exact⟨by simp,Oy _ _⟩
 have z:((zl:Int)==0)=false:=by rw[Jc];omega
 go_in
 go_wp2
 go_ret
 exact⟨by simp[z],Oy _ _⟩
theorem YN (B:Nat)(vb:Value)(b:List Nat)(w:World)(hb:U1 B w vb b)(hlb:b.length<=100000)(htb:isTrim b)(hne:b≠[]) :
 Calls prog 141 #[.slice none 0 0,vb] w fun e w'=>∃ v u Q U,e=.returned (.tuple #[v,u])/\(U1 w.heap.size w' v Q/\U1 w.heap.size w' u U)/\val []=val Q*val b+val U/\val U<val b/\Up w w':=by
 obtain⟨i0,E,J,K,M⟩:=info_parts info_u32;obtain⟨pb,cb,rfl,_,_,V,_⟩:=hb;have Z:Hid (0<val b):=N2 b htb hne;have a7:0<b.length:=by
  apply Yp;intro e;exact hne (Jv e)
 by_cases h1:b.length=1
 all_goals
  go_in
  go_wp2_with (at_make;refine wpList_make_full _ rfl _ _ 121 rfl w.heap.size 154 i0 (.int .u32 0) 1 underlying121 E J K .i64 .i64 _ _ 0 rfl rfl (by first|rfl|omega) (by first|rfl|omega) (by first|omega|(rw[M];omega)) (by unfold maxLen;omega) Of ?_)
  intro w1 G A;have j:Up w w1:=(Jh _ _).grown A Of (fun k h=>by cases h);have I:=Hd j;clear G A j
  go_wp2
  go_loopw [7,9] (fun rv iv wr=>rv=.slice none 0 0/\iv=.int .i64 (-1)/\Up w wr) (fun _ _ _=>0)
  case atStart=>exact⟨rfl,rfl,I.o⟩
  obtain⟨rfl,rfl,O⟩:=hrel;have Y:=Hd O;clear O;have d:Hid (∀ W pp,U1 w.heap.size W (.slice pp 0 0) []):=fun W pp=>⟨pp,0,rfl,Of,(by unfold maxLen;omega),(fun x hx=>by cases hx),.inl rfl⟩
  go_wp2
  go_ret2
  exact⟨_,_,[],[],rfl,⟨d.o _ _,d.o _ _⟩,by simp[val],Z.o,Y.o⟩
theorem YE (B:Nat)(va vb:Value)(a b:List Nat)(w:World)(hBw:B<=w.heap.size)(hla:a.length<=100000)(ha:U1 B w va a)(hnil:a=[]->va=.slice none 0 0)(hb:U1 B w vb b)(hlb:b.length<=100000)(htb:isTrim b)(hne:b≠[]) :
 Calls prog 141 #[va,vb] w fun e w'=>∃ v u Q U,e=.returned (.tuple #[v,u])/\(U1 w.heap.size w' v Q/\U1 w.heap.size w' u U)/\val a=val Q*val b+val U/\val U<val b/\Up w w':=by
 by_cases h:a=[]
 ·rw[hnil h,h];exact YN B vb b w hb hlb htb hne
 obtain⟨G,A,rfl,_,_,_,d⟩:=id ha
 rcases d with d|⟨j,E,rfl,_⟩
 ·exact absurd d h
 exact Tu B j E A vb a b w hBw hla ha h hb hlb htb hne
end Go.Proofs.YtipgjenolpofpaaGreatDoor.Q
namespace Go.Proofs.YtipgjenolpofpaaGreatDoor.Q
open ChangeShapes WideShapes ChangeAt RowKit
theorem Hl (B:Nat)(w:World)(x:Int)(h1 : -1000000000000000000<x)(h2:x<1000000000000000000):N5 B w (.agg #[.int .i64 x,.bool false,.slice none 0 0]) x:=by
 have d:sg (decide (x<0)) (val (RR x.natAbs))=x:=by
  rw[UA];unfold sg
  by_cases h:x<0<;>simp[h]<;>omega
 exact⟨decide (x<0),RR x.natAbs,⟨RH _ (by omega),Wh _,.inr ⟨Al _,by rw[d]⟩⟩,d⟩
end Go.Proofs.YtipgjenolpofpaaGreatDoor.Q
