import Derived.Test.YtdmdmgfjpomdbaaGreatDoorP09
import Derived.Lib.IndexLaws
import Derived.Lib.Bytealg
import Derived.Laws.AppendOwnNone
set_option maxRecDepth 100000
set_option maxHeartbeats 8000000
namespace Go.Proofs.YtdmdmgfjpomdbaaGreatDoor.Q
open RowKit
theorem Ar (x c q r:Int)(_hc:c≠0)(h:Nw x c q r)(hd:c∣x):x=q*c:=by
 obtain⟨d,h2,h3⟩:=h;obtain⟨k,A⟩:=hd;have j:r=c*(k - q):=by rw[Int.mul_sub,<-A,d,Int.mul_comm c q];omega
 have G:k - q=0:=by
  apply Classical.byContradiction;intro E;have h4:c.natAbs<=r.natAbs:=by rw[j,Int.natAbs_mul];exact Nat.le_mul_of_pos_right _ (by omega)
  omega
 rw[j,G,Int.mul_zero] at d;omega
theorem UT (x y c n r d r':Int)(hy:y≠0)(hc:c=if y<0 then -Ns x y else Ns x y)(h1:Nw x c n r)(h2:Nw y c d r'):Pc x y n d:=by
 have I:0<Int.gcd x y:=Int.gcd_pos_of_ne_zero_right _ hy;have j:c.natAbs=Int.gcd x y:=by rw[hc];unfold Ns;split<;>omega
 have c0:c≠0:=by omega
 have E:c∣x:=by rw[<-Int.natAbs_dvd,j];exact Int.gcd_dvd_left x y
 have G:c∣y:=by rw[<-Int.natAbs_dvd,j];exact Int.gcd_dvd_right x y
 have ex:=Ar x c n r c0 h1 E;have ey:=Ar y c d r' c0 h2 G;refine⟨c,c0,ex,ey,?_,j⟩
 by_cases hn:y<0
 ·have A:c<0:=by rw[hc,if_pos hn];unfold Ns;omega
  apply Classical.byContradiction;intro h;have:0<=d*c:=Int.mul_nonneg_of_nonpos_of_nonpos (by omega) (by omega);omega
 have A:0<c:=by rw[hc,if_neg hn];unfold Ns;omega
 apply Classical.byContradiction;intro h;have:d*c<=0:=Int.mul_nonpos_of_nonpos_of_nonneg (by omega) (by omega);omega
end Go.Proofs.YtdmdmgfjpomdbaaGreatDoor.Q
namespace Go.Proofs.YtdmdmgfjpomdbaaGreatDoor.Q
open ChangeShapes WideShapes ChangeAt RowKit Proofs.Tryz
variable {W:World}{s:ByteArray}
theorem Dm {N:Nat}{w:World}(h:Below N w W)(g:Nat)(hg:N<=g)(u0 u1 u2:Value):Below N w (((W.setCell ⟨g,0,none⟩ u0).setCell ⟨g,1,none⟩ u1).setCell ⟨g,2,none⟩ u2):=
 ((h.setCell (p:=⟨g,0,none⟩) hg u0).setCell (p:=⟨g,1,none⟩) hg u1).setCell (p:=⟨g,2,none⟩) hg u2
def IsCut (s:ByteArray)(k:Option Nat):Prop:=
 match k with
 | none=>∀ j:Nat,s.data.toList[j]? ≠ some 47
 | some i=>s.data.toList[i]? = some 47/\∀ j:Nat,j<i->s.data.toList[j]? ≠ some 47
def Q4 (k:Option Nat):Int:=match k with|none => -1|some i=>(i:Int)
theorem isCut_unique {k m:Option Nat}(h:IsCut s k)(h':IsCut s m):k=m:=by
 match k,m,h,h' with
 | none,none,_,_=>rfl
 | none,some i,h,h'=>exact absurd h'.1 (h i)
 | some i,none,h,h'=>exact absurd h.1 (h' i)
 | some i,some j,h,h'=>
   rcases Nat.lt_trichotomy i j with hl|hl|hl
   ·exact absurd h.1 (h'.2 i hl)
   ·rw[hl]
   exact absurd h'.1 (h.2 j hl)
theorem isCut_ex (s:ByteArray):∃ k,IsCut s k:=by
 have d:=Lib.indexByte_ge s.data.toList 47
 by_cases h:Lib.indexByte s.data.toList 47 = -1
 ·exact⟨none,fun j=>Lib.indexByte_none h j⟩
 obtain⟨o,A⟩:=Zt (show 0<=Lib.indexByte s.data.toList 47 by omega);exact⟨some o,Lib.indexByte_some A⟩
theorem OC {k:Option Nat}(h:IsCut s k):Lib.indexByte s.data.toList 47=Q4 k:=by
 have E:=Lib.indexByte_ge s.data.toList 47
 by_cases d:Lib.indexByte s.data.toList 47 = -1
 ·have:k=none:=isCut_unique h (show IsCut s none from fun j=>Lib.indexByte_none d j);rw[this,d];rfl
 obtain⟨o,A⟩:=Zt (show 0<=Lib.indexByte s.data.toList 47 by omega);have:k=some o:=isCut_unique h (show IsCut s (some o) from Lib.indexByte_some A);rw[this,A];rfl
theorem Lc {i:Nat}(h:IsCut s (some i)):i<s.size:=by
 have:=h.1;rw[Zq] at this;obtain⟨hl,_⟩:=this
 simpa using hl
theorem H9 (s:ByteArray)(c:Int)(w:World) :
 Calls prog 167 #[.string s,.int .u8 c] w fun e w'=>e=.returned (.int .i64 (Lib.indexByte s.data.toList c.toNat.toUInt8))/\w'=w:=by
 go_in
 go_wp2
 rw[run_callFunc_extern func192 (by kernel_rfl) (by kernel_rfl) (by kernel_rfl) (e:=Extern.BytealgIndexByte.indexByte) (by kernel_rfl),Lib.run_indexByteString];simp only[Result.andThen];rw[Oper.upon_value]
 go_wp2
 go_ret
 exact⟨rfl,rfl⟩
theorem C3 (s:ByteArray)(k:Option Nat)(w:World)(h:IsCut s k) :
 Calls prog 193 #[.string s,.string ⟨#[47]⟩] w fun e w'=>e=.returned (.int .i64 (Q4 k))/\w'=w:=by
 have I:=OC h;have K:=Hd I;clear I
 cases hq:([47]==s.toList)
 ·go_in
  go_wp2_with fail
  refine (H9 s _ _).mono ?_;rintro e w' ⟨rfl,A⟩;subst A;have M:Lib.indexByte s.data.toList (Int.toNat ((((⟨#[47]⟩:ByteArray)[0]'(by decide)).toNat:Nat):Int)).toUInt8=Q4 k:=K.o;rw[M]
  go_wp2
  go_ret
  exact⟨rfl,rfl⟩
 have J:Q4 k=0:=by
  have G:s.toList=[47]:=(by simpa using hq:[47]=s.toList).symm;rw[Jk] at G;have:k=some 0:=isCut_unique h (show IsCut s (some 0) from ⟨by rw[G];rfl,fun j hj=>by omega⟩);rw[this];rfl
 have E:=Hid.o (p:=Q4 k=0) J;clear J;have d:Hid (Q4 k=0):=E;clear E
 go_in
 go_wp2
 go_ret
 exact⟨by rw[d.o];rfl,rfl⟩
def cutP (s:ByteArray)(k:Option Nat):ByteArray:=match k with|none=>s|some i=>s.extract 0 i
def cutQ (s:ByteArray)(k:Option Nat):ByteArray:=match k with|none=>⟨#[]⟩|some i=>s.extract (i+1) s.size
theorem RB (s:ByteArray)(k:Option Nat)(w:World)(hs:s.size<=maxLen)(h:IsCut s k) :
 Calls prog 174 #[.string s,.string ⟨#[47]⟩] w fun e w'=>e=.returned (.tuple #[.string (cutP s k),.string (cutQ s k),.bool k.isSome])/\Up w w':=by
 have H:=Hid.o (p:=IsCut s k) h;have j:Hid (IsCut s k):=H;clear H h;unfold maxLen at hs
 cases k with
 | none=>
   go_in
   go_wp2_with fail
   refine (C3 s none _ j.o).mono ?_;rintro e w' ⟨rfl,d⟩;subst d;have A:Q4 none = -1:=rfl;rw[A]
   go_wp2
   go_ret3
   exact⟨rfl,Je _ _⟩
 | some i=>
   have E:=Lc j.o
   go_in
   go_wp2_with fail
   refine (C3 s (some i) _ j.o).mono ?_;rintro e w' ⟨rfl,d⟩;subst d;have A:Q4 (some i)=(i:Int):=rfl;rw[A]
   go_wp2
   go_region
   go_wp2
   go_ret3
   exact⟨rfl,(Je _ _).drew⟩
theorem FU (s:ByteArray)(k:Option Nat)(w:World)(hs:s.size<=maxLen)(h:IsCut s k) :
 Calls prog 145 #[.string s,.string ⟨#[47]⟩] w fun e w'=>e=.returned (.tuple #[.string (cutP s k),.string (cutQ s k),.bool k.isSome])/\Up w w':=by
 have j:=Hd h;clear h
 go_in
 go_wp2_with fail
 refine (RB s k _ hs j.o).mono ?_;rintro e w' ⟨rfl,hb⟩;have d:=Hd hb;clear hb
 go_wp2
 go_ret3
 exact⟨rfl,d.o⟩
theorem Wl (s:ByteArray)(k:Option Nat)(w:World)(hs:s.size<=maxLen)(h:IsCut s k) :
 Calls prog 149 #[.string s] w fun e w'=>e=.returned (.agg #[.string (cutP s k),.bool k.isSome,.string (cutQ s k)])/\Up w w':=by
 have Z:=Hd h;obtain⟨p,V⟩:=Oa (cutP s k);obtain⟨q,Y⟩:=Oa (cutQ s k);obtain⟨b,hb⟩:=Oa k.isSome;have K:Hid (cutP s k=p/\cutQ s k=q/\k.isSome=b):=⟨V,Y,hb⟩;rw[V,Y,hb];clear h V Y hb;obtain⟨O,d⟩:=Oa (w.alloc (.cells #[.string ⟨#[]⟩,.bool false,.string ⟨#[]⟩] 171));have M:=Hd d;have A:Bx O w.heap.size [.string ⟨#[]⟩,.bool false,.string ⟨#[]⟩]:=by rw[<-d];exact Oi w _ _
 have E:Hid (Up w O):=by unfold Hid;rw[<-d];exact Oz _ _
 have I:Hid (∀ W,Up O W->Bx W w.heap.size [.string ⟨#[]⟩,.bool false,.string ⟨#[]⟩]):=fun W hW=>A.bl A.lt hW;clear d A
 go_in
 go_wp2_with fail
 rw[M.o];refine (FU s k _ hs Z.o).mono ?_;rintro e J ⟨rfl,j⟩;rw[K.o.1,K.o.2.1,K.o.2.2];have G:=Hd j;have hb:=I.o J j;obtain⟨k0,k1,k2⟩:=hb.k3;obtain⟨r0,r1,r2⟩:=hb.f3;clear j hb
 go_wp2
 have U:=I.o J G.o;have hZ:Bx (((J.setCell ⟨w.heap.size,0,none⟩ (.string p)).setCell ⟨w.heap.size,1,none⟩ (.bool b)).setCell ⟨w.heap.size,2,none⟩ (.string q)) w.heap.size [.string p,.bool b,.string q]:=((U.set 0 _).set 1 _).set 2 _;have hE:=Dm (E.o.trans (G.o.mono E.o.size)) w.heap.size leR (.string p) (.bool b) (.string q);generalize ((J.setCell ⟨w.heap.size,0,none⟩ (.string p)).setCell ⟨w.heap.size,1,none⟩ (.bool b)).setCell ⟨w.heap.size,2,none⟩ (.string q)=WE at *;obtain⟨m0,m1,m2⟩:=hZ.k3;refine Jg (v:=.agg #[.string p,.bool b,.string q]) ?_ rfl ⟨rfl,hE⟩;simp[results,results149,go_sem,m0,m1,m2]
theorem Rl (s:ByteArray)(k:Option Nat)(w:World)(hs:s.size<=maxLen)(h:IsCut s k) :
 Calls prog 105 #[.string s] w fun e w'=>e=.returned (.int .i64 (Q4 k))/\w'=w:=by
 have K:=Hd h;clear h;unfold maxLen at hs
 go_in
 go_wp2
 go_loop [3] (fun iv=>∃ i:Nat,i<=s.size/\iv=.int .i64 (i:Nat)/\∀ j:Nat,j<i->s.data.toList[j]? ≠ some 47) (fun iv=>s.size - (intOf iv).toNat)
 case atStart=>exact⟨0,Jr _,rfl,fun j hj=>by omega⟩
 obtain⟨i,O,rfl,A⟩:=hrel;have d:=Hd A;clear A
 by_cases hl:i<s.size
 ·have E:s.data.toList[i]? = some s[i]:=by
   rw[Jd (by simpa using hl)];rfl
  by_cases hc:s[i]=47
  ·have G:Hid (Q4 k=(i:Int)):=by
    have:k=some i:=isCut_unique K.o (show IsCut s (some i) from ⟨by rw[E,hc],d.o⟩)
    show Q4 k=(i:Int)
    rw[this];rfl
   have M:(s[i].toNat:Int)=47:=by rw[hc];rfl
   have z:((s[i].toNat:Int)==47)=true:=by rw[Yf];exact M
   clear E hc M
   go_wp2
   go_ret
   exact⟨Eo G.o.symm,rfl⟩
  have I:Hid (∀ j:Nat,j<i+1->s.data.toList[j]? ≠ some 47):=fun j hj=>by
   by_cases J:j=i
   ·subst J;rw[E];exact fun e=>hc (Option.some.inj e)
   exact d.o j (by omega)
  have z:((s[i].toNat:Int)==47)=false:=by
   rw[Jb];intro e;exact hc (UInt8.toNat_inj.1 (by have e2:(47:UInt8).toNat=47:=rfl;omega))
  clear E hc
  go_wp2
  go_round
  case rel=>exact⟨i+1,by omega,by go_num,I.o⟩
  simp[intOf];omega
 have G:Hid (Q4 k = -1):=by
  have:k=none:=isCut_unique K.o (show IsCut s none from fun j=>by
   by_cases hj:j<i
   ·exact d.o j hj
   rw[Ym (by simp;omega)];simp)
  show Q4 k = -1
  rw[this];rfl
 go_wp2
 go_ret
 exact⟨Eo G.o.symm,rfl⟩
theorem YC (w:World)(base e:Nat)(x:Value)(hb:base<=w.heap.size):(w.alloc (.cells #[x] e)).ownsRow base e 1 (.slice (some ⟨w.heap.size,0,none⟩) 1 1) 1 [x]:=by
 refine⟨rfl,.inr ⟨w.heap.size,1,#[x],rfl,hb,?_,leR,(by unfold maxLen;omega),rfl,rfl⟩⟩;exact heap_alloc_new w _
theorem Cv {g off:Nat}{R:List Nat}(h:∀ i,i<R.length->W.cell? ⟨g,off+i,none⟩=some (.int .u32 (R.getD i 0:Nat))):∀ j u,(Gg R)[j]? = some u->W.cell? ((⟨g,off,none⟩:Addr).add j)=some u:=by
 intro j v A;simp only[Gg,Y6,Option.map_eq_some_iff] at A;obtain⟨x,E,rfl⟩:=A;obtain⟨d,G⟩:=Zq.1 E;rw[show (Addr.add ⟨g,off,none⟩ j)=⟨g,off+j,none⟩ by simp[Addr.add],h j d,Ji,E];rfl
theorem Rs (R:List Nat):∀ u∈Gg R,u.oneCell'=true:=by
 intro v d;simp only[Gg,Zh] at d;obtain⟨x,_,rfl⟩:=d;rfl
theorem Ir.of_owns' {base e n:Nat}{v:Value}{R:List Nat}(h:W.ownsRow base e 1 v n (Gg R))(hok:okL R):Ir base W v R:=by
 have hn:n=R.length:=by have:=h.1;simp at this;omega
 subst hn;exact Ir.of_owns h hok
theorem Wx (b:List Nat)(h:b≠[]):Ny [] b = -1:=by
 unfold Ny;have:0<b.length:=by
  apply Ys;intro e;exact h (Jw e)
 simp[this]
theorem DG (x y:Nat)(h:x<=y):Tv x y<=0:=by
 unfold Tv
 split
 ·omega
 first|omega|(split<;>omega)
theorem DN (x y:Nat)(h:y<x):0<Tv x y:=by
 unfold Tv
 split
 ·omega
 first|omega|(split<;>omega)
theorem Rm (u b:List Nat)(hu:isTrim u)(hb:okL b)(h:val u<=val b):u.length<=b.length:=by
 by_cases d:u=[]
 ·rw[d];exact Jr _
 have A:=Ql u hu d;have h2:=G6 b hb;apply Z7;intro j;have h3:1000000000 ^ b.length<=1000000000 ^ (u.length - 1):=Y0 (by decide) (by omega);omega
theorem Qt {P:Program}{w:World}{ops:Array Oper}{rest:List Oper}{o:Oper}{a:Act}{Q:Exit->Act->World->Prop}(hgd:o.guard=none)(s x:Operand)(t:TypeId)
 (ho:o.op=.call { callee:=.builtin .append,args:=#[s,x],argTypes:=#[t,t] })
 (base b2:Nat) (e:TypeId) (i:TypeInfo) (z:Value) (bytes:Nat) (ht:P.underlying t=some (.slice e)) (hi:P.info? e=some i) (hz:i.zero=some z)
 (hsize:i.size=1) (hby:i.bytes=bytes) (hzs:z.cells.size=1)
 (v:Value) (n:Nat) (xs:List Value) (hs:a.eval s=v) (hown:w.ownsRow base e 1 v n xs)
 (rv:Value) (R:List Nat) (hx:a.eval x=rv) (hR:Ir b2 w rv R)
 (h63:n+R.length<=maxLen) (hbytes:(n+R.length)*bytes<=140737488355328) (hbase:base<=w.heap.size)
 (h:∀ v' w',w'.ownsRow base e 1 v' (n+R.length) (xs++Gg R)->w.grownBy w' v.ownBlock->wpList P ops Q rest (a.put o.dst v') w'):wpList P ops Q (o::rest) a w:=by
 obtain⟨_,⟨rfl,rfl⟩|⟨g,cap,rfl,_,_,_,_,hc⟩⟩:=hR
 ·exact wpList_append_own_none hgd s x t ho base e i 1 ht hi v n xs hs hown hx (h v w (by simpa[Gg] using hown) ⟨rfl,rfl,rfl,leR,fun _ _ _=>rfl⟩)
 exact wpList_append_own w hgd s x t ho base e i z 1 bytes ht hi hz hsize hby hzs (by omega) v n xs hs hown ⟨g,0,none⟩ R.length cap (Gg R) hx (by simp) (Cv (fun i hi=>by rw[Y8];exact hc i hi)) (Rs R) h63 hbytes hbase (fun v' w' h1 h2 _=>h v' w' h1 h2)
theorem OW (B ba oa ca:Nat)(vb:Value)(a b:List Nat)(w:World)(hBw:B<=w.heap.size)(hla:a.length<=100000)(ha:Kz B w (.slice (some ⟨ba,oa,none⟩) a.length ca) a)(hane:a≠[])(hb:Kz B w vb b)(hlb:b.length<=100000)(htb:isTrim b)(hne:b≠[]) :
 Calls prog 142 #[.slice (some ⟨ba,oa,none⟩) a.length ca,vb] w fun e w'=>∃ v u Q U,e=.returned (.tuple #[v,u])/\(Kz w.heap.size w' v Q/\Kz w.heap.size w' u U)/\val a=val Q*val b+val U/\val U<val b/\Up w w':=by
 obtain⟨i0,b5,i7,i8,j0⟩:=info_parts info_u32;have HB:Hid (∀ W,Up w W->Kz B W vb b):=fun W hW=>hb.bl hW;obtain⟨pb,cb,rfl,_,_,v1,_⟩:=hb;obtain⟨_,B6,y2,q1,d7⟩:=ha.cells;have y3:0<a.length:=by
  apply Ys;intro e;exact hane (Jw e)
 have B9:0<b.length:=by
  apply Ys;intro e;exact hne (Jw e)
 have s0:ba<w.heap.size:=by
  obtain⟨b',j1,e,e3,_⟩:=d7 0 y3;simp only[Option.some.injEq,Addr.mk.injEq,and_true] at e;omega
 have HA:Hid (∀ i,i<a.length->w.cell? ⟨ba,oa+i,none⟩=some (.int .u32 (a.getD i 0:Nat))):=fun i hi=>by
  obtain⟨b',j1,e,_,hc⟩:=d7 i hi;simp only[Option.some.injEq,Addr.mk.injEq,and_true] at e;obtain⟨rfl,rfl⟩:=e;exact hc
 have n0:Hid (SD a b (a.drop (a.length+1 - b.length)) (List.replicate a.length 0) (a.length+1 - b.length)):=DL a b q1 htb hne;obtain⟨T,hT⟩:=Oa (a.length+1 - b.length);rw[hT] at n0;have p7:T<=a.length:=by omega
 have HT:Hid (T=a.length+1 - b.length):=hT.symm;unfold maxLen at y2;have J:Hid (okL a/\okL b/\isTrim b/\b≠[]):=⟨q1,v1,htb,hne⟩;clear ha d7 hane htb hne;have A9:Hid (T=0∨T<=ca):=.inr (by omega);have p0:Hid (T=a.length+1 - b.length/\T<=a.length):=⟨HT.o,p7⟩;have s1:((a.length:Int) - (b.length:Int)+1<0/\T=0)∨((a.length:Int) - (b.length:Int)+1=(T:Int)/\T<ca)∨((a.length:Int) - (b.length:Int)+1=(T:Int)/\ca=T/\a.length=T):=by omega
 have g7:Hid (B<=w.heap.size+1):=by unfold Hid;omega
 have o9:=Hd hBw;have q0:Hid (∀ W,Up w W->∀ i,i<(a.drop T).length->W.cell? ⟨ba,oa+T+i,none⟩=some (.int .u32 ((a.drop T).getD i 0:Nat))):=fun W hW i hi=>by rw[hW.cell (p:=⟨ba,oa+T+i,none⟩) s0,Ut,HA.o (T+i) (by simp at hi;omega),Id]
 clear hT HT p7
 rcases s1 with⟨v7,p8⟩|⟨v7,p8⟩|⟨v7,p8,v8⟩
 ·have HE:=Hd p8;have z1:decide ((a.length:Int) - (b.length:Int)+1<0)=true:=dT (by omega)
  clear p8
  go_in
  go_wp2_with (at_make;refine wpList_make_full _ rfl _ _ 117 rfl w.heap.size 149 i0 (.int .u32 0) 1 underlying117 b5 i7 i8 .i64 .i64 _ _ a.length rfl rfl (by first|rfl|omega) (by first|rfl|omega) (by first|omega|(rw[j0];omega)) (by unfold maxLen;omega) leR ?_)
  intro w1 G i6
  first|rw[Ep] at G|rw[Eu] at G
  have d5:U7 w1 w.heap.size (List.replicate a.length 0):=(Kj G).tail;have h9:Up w w1:=(Je _ _).grown i6 leR (fun k h=>by cases h);have p2:=Hd d5;have g6:=Hd h9;have d0:Hid (w.heap.size<w1.heap.size):=d5.lt;clear G i6 d5 h9
  go_wp2_with (at_builtin;refine wpList_append_own _ rfl _ _ 117 rfl (w.heap.size+1) 149 i0 (.int .u32 0) 1 4 underlying117 b5 i7 i8 j0 rfl (by decide) _ 0 [] rfl (V7 _ _ _ _) ⟨ba,oa,none⟩ a.length ca (Gg (a.drop T)) rfl (by rw[HE.o];simp) (by have h:=Cv (q0.o _ g6.o);rw[HE.o] at h ⊢;exact h) (Rs _) (by unfold maxLen;omega) (by omega) (by have:=d0.o;omega) ?_)
  intro v2 w2 a8 d8 _
  try rw[<-List.map_drop] at a8
  have A:=a8;have n2:Up w w2:=g6.o.grown d8 g6.o.size (fun k h=>by cases h);have m5:Hid (Ir (w.heap.size+1) w2 v2 (a.drop T)):=Ir.of_owns' (e:=149) (R:=a.drop T) A n0.o.rok;have r3:Hid (U7 w2 w.heap.size (List.replicate a.length 0)):=by
   obtain⟨tl,h⟩:=p2.o;exact⟨tl,(d8.block _ d0.o (by simp[Value.ownBlock])).trans h⟩
  have q2:=Hd n2;obtain⟨pr,lr,cr,t6⟩:∃ pr lr cr,v2=.slice pr lr cr:=by
   obtain⟨_,_,e,_⟩:=m5.o.isL;exact⟨_,_,_,e⟩
  subst t6;clear a8 A d8 n2
  go_wp2
  go_loopw [7,9] (fun rv iv wr=>∃ (j:Nat) (R Q:List Nat),SD a b R Q j/\Ir (w.heap.size+1) wr rv R/\iv=.int .i64 ((j:Int) - 1)/\U7 wr w.heap.size Q/\Up w wr) (fun _ iv _=>(intOf iv+1).toNat)
  case atStart=>exact⟨T,_,_,n0.o,m5.o,Ot (by have:=HE.o;omega),r3.o,q2.o⟩
  obtain⟨j,R,Q,l3,n9,rfl,hQ,hB⟩:=hrel;have d:=Hd l3;have g9:=Hd n9;have j9:=Hd hQ;have b7:=Hd hB;have y4:=l3.le;clear l3 n9 hQ hB
  cases j with
  | zero=>
    have HE:Hid (val a=val Q*val b+val R/\val R<val b):=by
     have e:=d.o.eq;unfold Eb at e;rw[Y9,Y9] at e;exact⟨e,d.o.lt⟩
    have r4:Hid (Kz w.heap.size wr (.slice (some ⟨w.heap.size,0,none⟩) a.length a.length) Q):=by
     have h:=j9.o.isL (B:=w.heap.size) (cap:=a.length) leR d.o.qok (by have:=d.o.qlen;omega) (by unfold maxLen;omega);rw[d.o.qlen] at h;exact h
    go_wp2
    go_ret2
    exact⟨_,_,Q,R,rfl,⟨r4.o,g9.o.isL.mono (by omega)⟩,HE.o.1,HE.o.2,b7.o⟩
  | succ i=>
    have d7:=HA.o i (by omega);rw[<-b7.o.cell (p:=⟨ba,oa+i,none⟩) s0] at d7;have l5:=U9 a J.o.1 i (by omega);have K:Hid (val (Og (a.getD i 0::R))<val b->SD a b (Og (a.getD i 0::R)) Q i):=fun h=>d.o.cont h l5 J.o.2.1;have j7:Hid (∀ {q:Nat} {R':List Nat},q<1000000000->val (a.getD i 0::R)=q*val b+val R'->val R'<val b->okL R'->isTrim R'->SD a b R' (Q.set i q) i):=fun {q R'} h1 h2 h3 h4 h5=>d.o.put h1 h2 h3 h4 h5 J.o.2.1;have g0:Hid (val (a.getD i 0::R)<val b*1000000000):=d.o.window l5;obtain⟨x,hx⟩:=Oa (a.getD i 0);rw[hx] at d7 l5 K j7 g0;obtain⟨N,hN⟩:=Oa (x::R);have i1:okL N:=by
     rw[<-hN];intro y hy
     rcases Vi.1 hy with e|e
     ·omega
     exact d.o.rok y e
    have y0:=d.o.rlen;have e9:Hid (N.length=R.length+1/\N.length<=100001):=by
     rw[<-hN];exact⟨by simp,by simp;omega⟩
    rw[hN] at K j7 g0;have HN:Hid (okL N/\True/\val N<val b*1000000000):=⟨i1,trivial,g0.o⟩;have q9:Hid (Gg N=Value.int .u32 (x:Nat)::Gg R):=by rw[<-hN];rfl
    have I:Hid (w.heap.size<wr.heap.size):=j9.o.lt;clear hx hN i1 g0
    go_wp2_with (at_builtin;refine Qt rfl _ _ 117 rfl (w.heap.size+1) (w.heap.size+1) 149 i0 (.int .u32 0) 4 underlying117 b5 i7 i8 j0 rfl _ 1 [.int .u32 (x:Nat)] rfl (YC wr _ _ _ (by have:=I.o;omega)) _ R rfl (g9.o.bl (Oz _ _)) (by unfold maxLen;omega) (by omega) (by have:=I.o;simp;omega) ?_)
    intro v3 w3 A d9;rw[<-q9.o] at A;have n3:Up w w3:=(b7.o.alloc b7.o.size _).grown d9 (by have:=b7.o.size;simp;omega) (fun k h=>by simp[Value.ownBlock] at h;have:=I.o;omega);have m7:Hid (U7 w3 w.heap.size Q):=by
     obtain⟨tl,h⟩:=j9.o;refine⟨tl,(d9.block _ (by have:=I.o;simp;omega) (by simp[Value.ownBlock];have:=I.o;omega)).trans ?_⟩;exact (heap_alloc_old wr _ I.o).trans h
    have b4:=Hd n3;obtain⟨_,⟨_,o1⟩|⟨g,cap,t7,s3,s4,s5,n8,l1⟩⟩:=Ir.of_owns' (e:=149) A HN.o.1
    ·exfalso;have:=e9.o.1;rw[o1] at this;simp at this
    subst t7;have q3:=Hd l1;have g8:Hid (∀ k,k<=N.length->Og N=N.take k->Ir (w.heap.size+1) w3 (.slice (some ⟨g,0,none⟩) k cap) (Og N)):=fun k hk he=>Ir.cut s3 s4 n8 HN.o.1 s5 l1 k hk he;have x9:=e9.o.2;unfold maxLen at n8;clear A d9 n3 l1 d7
    go_wp2
    go_loop [11] (fun n=>∃ k:Nat,k<=N.length/\n=.int .i64 k/\Og (N.take k)=Og N) (fun n=>(intOf n).toNat)
    case atStart=>exact⟨N.length,leR,rfl,by rw[Yk]⟩
    obtain⟨k,hk,rfl,hp⟩:=hrel;have HP:=Hd hp;clear hp
    cases k with
    | zero=>
      have HE:Hid (Og N=[]):=by rw[<-HP.o];rfl
      have d2:Hid (Ir (w.heap.size+1) w3 (.slice (some ⟨g,0,none⟩) 0 cap) (Og N)):=g8.o 0 (by omega) (by rw[<-HP.o];rfl);have f8:Hid (Kz B w3 (.slice (some ⟨g,0,none⟩) 0 cap) (Og N)):=d2.o.isL.mono g7.o;have b9:Hid (Ny (Og N) b = -1):=by rw[HE.o];exact Wx b J.o.2.2.2
      have d4:Hid (SD a b (Og N) Q i):=K.o (by rw[HE.o];exact Ga b J.o.2.2.1 J.o.2.2.2)
      go_wp2_with fail
      refine (Gh B _ _ (Og N) b _ f8.o (HB.o _ b4.o)).mono ?_;rintro e w4 ⟨rfl,O⟩;rw[b9.o];have E:Hid (Ir (w.heap.size+1) w4 (.slice (some ⟨g,0,none⟩) 0 cap) (Og N)/\U7 w4 w.heap.size Q/\Up w w4):=⟨d2.o.bl O,m7.o.kept O,b4.o.trans (O.mono b4.o.size)⟩;clear O
      go_wp2
      go_roundw
      case rel=>exact⟨i,Og N,Q,d4.o,E.o.1,by go_num,E.o.2.1,E.o.2.2⟩
      simp[intOf]
    | succ m=>
      obtain⟨y,hy⟩:=Oa (N.getD m 0);have V:=q3.o m (by omega);rw[hy] at V;have HY:=Hd hy;clear hy
      by_cases h0:y=0
      ·have hz:((y:Int)==0)=true:=by rw[Yf];omega
       have HE:Hid (Og (N.take m)=Og N):=by rw[<-Ej N m (by omega) (by rw[HY.o,h0])];exact HP.o
       clear h0
       go_wp2
       go_round
       case rel=>exact⟨m,by omega,Ot (by omega),HE.o⟩
       simp[intOf]
      have hz:((y:Int)==0)=false:=by rw[Jb];omega
      have d2:Hid (Ir (w.heap.size+1) w3 (.slice (some ⟨g,0,none⟩) (m+1) cap) (Og N)):=g8.o (m+1) hk (HP.o.symm.trans (Nv N m (by omega) (by rw[HY.o];exact h0)));have f8:Hid (Kz B w3 (.slice (some ⟨g,0,none⟩) (m+1) cap) (Og N)):=d2.o.isL.mono g7.o;have d1:Hid ((Og N).length=m+1):=by obtain⟨_,_,e,_⟩:=f8.o;simp at e;exact e.2.1.symm
      clear h0;obtain⟨cm,k9⟩:=Oa (Ny (Og N) b);have b9:=Hd k9;have s2 : -1<=cm/\cm<=1:=by rw[<-k9];exact Rq _ b
      obtain⟨w8,w9⟩:=s2;clear k9
      go_wp2_with fail
      refine (Gh B _ _ (Og N) b _ f8.o (HB.o _ b4.o)).mono ?_;rintro e w4 ⟨rfl,O⟩;rw[b9.o];have E:Hid (Ir (w.heap.size+1) w4 (.slice (some ⟨g,0,none⟩) (m+1) cap) (Og N)/\U7 w4 w.heap.size Q/\Up w w4):=⟨d2.o.bl O,m7.o.kept O,b4.o.trans (O.mono b4.o.size)⟩;clear O V
      by_cases e3:cm<0
      ·have d4:Hid (SD a b (Og N) Q i):=K.o (Q3 _ b (trimL_ok N HN.o.1) J.o.2.1 (trimL_trim N) J.o.2.2.1 (by rw[b9.o];exact e3))
       go_wp2
       go_roundw
       case rel=>exact⟨i,Og N,Q,d4.o,E.o.1,by go_num,E.o.2.1,E.o.2.2⟩
       simp[intOf]
      have q7:Hid (val b<=val N/\b.length<=(Og N).length):=by
       have h:=NK (Og N) b (trimL_ok N HN.o.1) J.o.2.1 (trimL_trim N) J.o.2.2.1 (by rw[b9.o];omega);rw[O4] at h;exact⟨h.2,h.1⟩
      have y7:0<=cm:=by omega
      clear e3
      go_wp2
      go_loopw [12,13] (fun lov hiv wq=>∃ lo hi:Nat,lov=.int .u64 (lo:Nat)/\hiv=.int .u64 (hi:Nat)/\Hu (val b) (val N) lo hi/\Up w4 wq) (fun lov hiv _=>(intOf hiv).toNat - (intOf lov).toNat)
      case atStart=>exact⟨0,999999999,rfl,rfl,R2 _ _ HN.o.2.2,Je _ _⟩
      obtain⟨lo,hi,rfl,rfl,g4,n6⟩:=hrel;have b8:=Hd g4;have b6:=Hd n6;have y5:=g4.1;have y6:=g4.2.1;clear g4 n6;have j3:Hid (Up w wr):=E.o.2.2.trans (b6.o.mono E.o.2.2.size);have m8:Hid (Ir (w.heap.size+1) wr (.slice (some ⟨g,0,none⟩) (m+1) cap) (Og N)):=E.o.1.bl b6.o;have j8:Hid (U7 wr w.heap.size Q):=E.o.2.1.kept b6.o
      by_cases l2:lo<hi
      ·obtain⟨M,hM⟩:=Oa ((lo+hi+1) / 2);have x8:((lo:Int)+(hi:Int)+1) / 2=(M:Int):=by omega
       have HM:=Hd hM;have r9:M<1000000000:=by omega
       have x7:1<=M:=by omega
       clear hM
       go_wp2_with fail
       refine (Qh B _ b M _ (HB.o _ j3.o) hlb r9).mono ?_;rintro e w5 ⟨v5,L5,rfl,g2,o4,o6,s6,n5⟩;have q8:Hid (Kz B w5 v5 L5):=g2.mono (by have:=j3.o.size;have:=o9.o;omega);have k0:Hid (isTrim L5/\val L5=val b*M/\okL L5):=⟨o4,o6,by obtain⟨_,_,_,_,_,h,_⟩:=g2;exact h⟩;have j2:=Hd n5;obtain⟨p5,c5,e5,_⟩:=id g2;subst e5;clear g2 o4 o6 s6 n5
       go_wp2_with fail
       refine (Gh B _ _ L5 (Og N) _ q8.o ((m8.o.bl j2.o).isL.mono g7.o)).mono ?_;rintro e w6 ⟨rfl,d6⟩;have Y:Hid (Up w4 w6):=b6.o.trans ((j2.o.trans (d6.mono j2.o.size)).mono b6.o.size);clear d6;have ho:=Hn L5 (Og N) k0.o.2.2 (trimL_ok N HN.o.1) k0.o.1 (trimL_trim N);rw[O4,k0.o.2.1] at ho
       by_cases hc:M*val b<=val N
       ·have r5:Hid (Hu (val b) (val N) M hi):=by
         have h:=F8 b8.o l2 (by rw[HM.o];exact hc);rw[HM.o] at h;exact h
        obtain⟨cx,a7⟩:=Oa (Ny L5 (Og N));have n7:cx<=0:=by rw[<-a7,ho];exact DG _ _ (by rw[Y2];exact hc)
        rw[a7];clear a7 ho hc
        go_wp2
        go_roundw
        case rel=>exact⟨M,hi,rfl,rfl,r5.o,Y.o⟩
        simp[intOf];have:=HM.o;omega
       have q5:Hid (Hu (val b) (val N) lo (M - 1)):=by
        have h:=Pf b8.o l2 (by rw[HM.o];omega);rw[HM.o] at h;exact h
       obtain⟨cx,a7⟩:=Oa (Ny L5 (Og N));have n7:0<cx:=by rw[<-a7,ho];exact DN _ _ (by rw[Y2];omega)
       rw[a7];clear a7 ho hc
       go_wp2
       go_roundw
       case rel=>exact⟨lo,M - 1,rfl,Ot (by omega),q5.o,Y.o⟩
       simp[intOf];have:=HM.o;omega
      obtain rfl:lo=hi:=by omega
      have j4:Hid (1<=lo/\lo*val b<=val N/\val N<(lo+1)*val b):=by
       refine⟨?_,b8.o.2.2.1,b8.o.2.2.2⟩;apply Ys;rintro rfl;have h1:=b8.o.2.2.2;have h2:=q7.o.1;omega
      have x0:=j4.o.1;have s8:=j8.o.cell i (by have:=d.o.qlen;have:=d.o.le;omega);have s9:=j8.o.frozen i;have Z:Hid (U7 (wr.setCell ⟨w.heap.size,i,none⟩ (.int .u32 (lo:Nat))) w.heap.size (Q.set i lo)/\Ir (w.heap.size+1) (wr.setCell ⟨w.heap.size,i,none⟩ (.int .u32 (lo:Nat))) (.slice (some ⟨g,0,none⟩) (m+1) cap) (Og N)/\Up w (wr.setCell ⟨w.heap.size,i,none⟩ (.int .u32 (lo:Nat)))):=
       ⟨j8.o.set _ _ (by have:=d.o.qlen;have:=d.o.le;omega),m8.o.setCell _ _ (by show w.heap.size<w.heap.size+1;omega),j3.o.setCell leR _⟩
      obtain⟨W5,k7⟩:=Oa (wr.setCell ⟨w.heap.size,i,none⟩ (.int .u32 (lo:Nat)));have r6:=Hd k7;rw[k7] at Z;clear k7 l2
      go_wp2_with fail
      rw[r6.o];clear s8 s9;refine (Qh B _ b lo _ (HB.o _ Z.o.2.2) hlb (by omega)).mono ?_;rintro e w6 ⟨v6,L6,rfl,g3,o5,o7,s7,d6⟩;have e8:Hid (Kz B w6 v6 L6/\isTrim L6/\val L6=val b*lo/\okL L6):=⟨g3.mono (by have:=Z.o.2.2.size;have:=o9.o;omega),o5,o7,by obtain⟨_,_,_,_,_,h,_⟩:=g3;exact h⟩;have Y:=Hd d6;obtain⟨p6,c6,e6,_⟩:=id g3;subst e6;clear g3 o5 o7 s7 d6
      go_wp2_with fail
      have e0:val L6<=val (Og N):=by rw[e8.o.2.2.1,O4,Y2];exact j4.o.2.1
      have e1:=Mv B (.slice (some ⟨g,0,none⟩) (m+1) cap) (.slice p6 L6.length c6) (Og N) L6 w6 ((Z.o.2.1.bl Y.o).isL.mono g7.o) e8.o.1 (by have:=e9.o;have:=Kd N;omega) (Rm L6 (Og N) e8.o.2.1 (trimL_ok N HN.o.1) e0) e0;rw[d1.o] at e1;refine e1.mono ?_;clear e1 e0;rintro e w7 ⟨S,rfl,hS,l4,o0,k8⟩;have b3:okL S:=by obtain⟨_,_,_,_,_,h,_⟩:=hS;exact h
      have HS:Hid (okL S/\S.length=m+1/\val S+lo*val b=val N):=⟨b3,o0,by rw[e8.o.2.2.1,O4] at l4;rw[Y2 lo];exact l4⟩;have hG:w.heap.size+1<=w6.heap.size:=by have:=Z.o.1.lt;have:=Y.o.size;omega
      have l9:Hid (∀ q,q<S.length->w7.cell? ⟨w6.heap.size,q,none⟩=some (.int .u32 (S.getD q 0:Nat))):=fun q hq=>by
       obtain⟨_,_,_,_,l0⟩:=hS.cells;obtain⟨b',j1,e,_,hc⟩:=l0 q hq;simp only[Option.some.injEq,Addr.mk.injEq,and_true] at e;obtain⟨rfl,rfl⟩:=e;rw[Y8] at hc;exact hc
      have m6:Hid (w6.heap.size<w7.heap.size):=by
       obtain⟨_,_,_,_,l0⟩:=hS.cells;obtain⟨b',j1,e,e3,hc⟩:=l0 0 (by omega);simp only[Option.some.injEq,Addr.mk.injEq,and_true] at e;obtain⟨rfl,rfl⟩:=e;exact e3
      have f9:Hid (U7 w7 w.heap.size (Q.set i lo)/\Up w w7):=⟨(Z.o.1.kept Y.o).kept k8,Z.o.2.2.trans ((Y.o.trans (k8.mono Y.o.size)).mono Z.o.2.2.size)⟩;have c8:Hid (∀ k,k<=S.length->Og S=S.take k->Ir (w.heap.size+1) w7 (.slice (some ⟨w6.heap.size,0,none⟩) k (m+1)) (Og S)):=fun k hk he=>Ir.cut hG m6.o (by unfold maxLen;have:=e9.o;have:=Kd N;have:=d1.o;omega) b3 (by omega) l9.o k hk he;have h6:Hid (SD a b (Og S) (Q.set i lo) i):=by
       refine j7.o (by omega) ?_ ?_ (trimL_ok S b3) (trimL_trim S)
       ·rw[O4];have:=HS.o.2.2;omega
       rw[O4];have h1:=HS.o.2.2;have h2:=j4.o.2.2;rw[Zp,Zx] at h2;omega
      clear hS l4 o0 k8 b3 hG
      go_wp2
      go_loop [16] (fun n=>∃ k:Nat,k<=S.length/\n=.int .i64 k/\Og (S.take k)=Og S) (fun n=>(intOf n).toNat)
      case atStart=>exact⟨S.length,leR,Ot (by have:=HS.o.2.1;omega),by rw[Yk]⟩
      obtain⟨k,hk,rfl,hp⟩:=hrel;have j6:=Hd hp;have k1:=HS.o.2.1;clear hp
      cases k with
      | zero=>
        have d3:Hid (Ir (w.heap.size+1) w7 (.slice (some ⟨w6.heap.size,0,none⟩) 0 (m+1)) (Og S)):=c8.o 0 (by omega) (by rw[<-j6.o];rfl);clear k1
        go_wp2
        go_roundw
        case rel=>exact⟨i,Og S,Q.set i lo,h6.o,d3.o,by go_num,f9.o.1,f9.o.2⟩
        simp[intOf]
      | succ p=>
        obtain⟨y,hy⟩:=Oa (S.getD p 0);have V:=l9.o p (by omega);rw[hy] at V;have n1:=Hd hy;have y8:p<m+1:=by omega
        clear hy
        by_cases h0:y=0
        ·have hz:((y:Int)==0)=true:=by rw[Yf];omega
         have q6:Hid (Og (S.take p)=Og S):=by rw[<-Ej S p (by omega) (by rw[n1.o,h0])];exact j6.o
         clear h0 k1
         go_wp2
         go_round
         case rel=>exact⟨p,by have:=HS.o.2.1;omega,Ot (by omega),q6.o⟩
         simp[intOf]
        have hz:((y:Int)==0)=false:=by rw[Jb];omega
        have d3:Hid (Ir (w.heap.size+1) w7 (.slice (some ⟨w6.heap.size,0,none⟩) (p+1) (m+1)) (Og S)):=c8.o (p+1) (by omega) (j6.o.symm.trans (Nv S p (by omega) (by rw[n1.o];exact h0)));clear h0 k1
        go_wp2
        go_roundw
        case rel=>exact⟨i,Og S,Q.set i lo,h6.o,d3.o,by go_num,f9.o.1,f9.o.2⟩
        simp[intOf]
 case' _=>
  have z1:decide ((T:Int)<0)=false:=dF (by omega)
  have q4:=p0.o.2;have z2:decide (a.length<T)=false:=dF (by omega)
  have z3:decide ((a.length:Int)<(T:Int))=false:=dF (by omega)
  clear q4
  go_in
  go_wp2_with (at_make;refine wpList_make_full _ rfl _ _ 117 rfl w.heap.size 149 i0 (.int .u32 0) 1 underlying117 b5 i7 i8 .i64 .i64 _ _ a.length rfl rfl (by first|rfl|omega) (by first|rfl|omega) (by first|omega|(rw[j0];omega)) (by unfold maxLen;omega) leR ?_)
  intro w1 G i6
  first|rw[Ep] at G|rw[Eu] at G
  have d5:U7 w1 w.heap.size (List.replicate a.length 0):=(Kj G).tail;have h9:Up w w1:=(Je _ _).grown i6 leR (fun k h=>by cases h);have p2:=Hd d5;have g6:=Hd h9;have d0:Hid (w.heap.size<w1.heap.size):=d5.lt;clear G i6 d5 h9;have p7:=p0.o.2
  go_wp2_with (at_builtin;refine wpList_append_own _ rfl _ _ 117 rfl (w.heap.size+1) 149 i0 (.int .u32 0) 1 4 underlying117 b5 i7 i8 j0 rfl (by decide) _ 0 [] rfl (V7 _ _ _ _) ⟨ba,oa+T,none⟩ (a.length - T) (ca - T) (Gg (a.drop T)) rfl (by simp) (Cv (q0.o _ g6.o)) (Rs _) (by unfold maxLen;omega) (by omega) (by have:=d0.o;omega) ?_)
 rotate_left
 case' _=>
  have z1:decide ((T:Int)<0)=false:=dF (by omega)
  have x3:=Hd v8;have q4:=p0.o.2;have z2:decide (a.length<T)=false:=dF (by omega)
  have z3:decide ((a.length:Int)<(T:Int))=false:=dF (by omega)
  clear q4 v8
  go_in
  go_wp2_with (at_make;refine wpList_make_full _ rfl _ _ 117 rfl w.heap.size 149 i0 (.int .u32 0) 1 underlying117 b5 i7 i8 .i64 .i64 _ _ a.length rfl rfl (by first|rfl|omega) (by first|rfl|omega) (by first|omega|(rw[j0];omega)) (by unfold maxLen;omega) leR ?_)
  intro w1 G i6
  first|rw[Ep] at G|rw[Eu] at G
  have d5:U7 w1 w.heap.size (List.replicate a.length 0):=(Kj G).tail;have h9:Up w w1:=(Je _ _).grown i6 leR (fun k h=>by cases h);have p2:=Hd d5;have g6:=Hd h9;have d0:Hid (w.heap.size<w1.heap.size):=d5.lt;clear G i6 d5 h9;have p7:=p0.o.2
  go_wp2_with (at_builtin;refine wpList_append_own _ rfl _ _ 117 rfl (w.heap.size+1) 149 i0 (.int .u32 0) 1 4 underlying117 b5 i7 i8 j0 rfl (by decide) _ 0 [] rfl (V7 _ _ _ _) ⟨ba,oa,none⟩ (a.length - T) 0 (Gg (a.drop T)) rfl (by simp) (fun q u hq=>by have:=x3.o;rw[show a.drop T=[] from Zr (by omega)] at hq;simp at hq) (Rs _) (by unfold maxLen;omega) (by omega) (by have:=d0.o;omega) ?_)
 rotate_left
 all_goals
  intro v2 w2 a8 d8 _
  try rw[<-List.map_drop] at a8
  have A:=a8;have n2:Up w w2:=g6.o.grown d8 g6.o.size (fun k h=>by cases h);have m5:Hid (Ir (w.heap.size+1) w2 v2 (a.drop T)):=Ir.of_owns' (e:=149) (R:=a.drop T) A n0.o.rok;have r3:Hid (U7 w2 w.heap.size (List.replicate a.length 0)):=by
   obtain⟨tl,h⟩:=p2.o;exact⟨tl,(d8.block _ d0.o (by simp[Value.ownBlock])).trans h⟩
  have q2:=Hd n2;obtain⟨pr,lr,cr,t6⟩:∃ pr lr cr,v2=.slice pr lr cr:=by
   obtain⟨_,_,e,_⟩:=m5.o.isL;exact⟨_,_,_,e⟩
  subst t6;clear a8 A d8 n2
  go_wp2
  go_loopw [7,9] (fun rv iv wr=>∃ (j:Nat) (R Q:List Nat),SD a b R Q j/\Ir (w.heap.size+1) wr rv R/\iv=.int .i64 ((j:Int) - 1)/\U7 wr w.heap.size Q/\Up w wr) (fun _ iv _=>(intOf iv+1).toNat)
  case atStart=>exact⟨T,_,_,n0.o,m5.o,Ot (by omega),r3.o,q2.o⟩
  obtain⟨j,R,Q,l3,n9,rfl,hQ,hB⟩:=hrel;have d:=Hd l3;have g9:=Hd n9;have j9:=Hd hQ;have b7:=Hd hB;have y4:=l3.le;clear l3 n9 hQ hB
  cases j with
  | zero=>
    have HE:Hid (val a=val Q*val b+val R/\val R<val b):=by
     have e:=d.o.eq;unfold Eb at e;rw[Y9,Y9] at e;exact⟨e,d.o.lt⟩
    have r4:Hid (Kz w.heap.size wr (.slice (some ⟨w.heap.size,0,none⟩) a.length a.length) Q):=by
     have h:=j9.o.isL (B:=w.heap.size) (cap:=a.length) leR d.o.qok (by have:=d.o.qlen;omega) (by unfold maxLen;omega);rw[d.o.qlen] at h;exact h
    go_wp2
    go_ret2
    exact⟨_,_,Q,R,rfl,⟨r4.o,g9.o.isL.mono (by omega)⟩,HE.o.1,HE.o.2,b7.o⟩
  | succ i=>
    have d7:=HA.o i (by omega);rw[<-b7.o.cell (p:=⟨ba,oa+i,none⟩) s0] at d7;have l5:=U9 a J.o.1 i (by omega);have K:Hid (val (Og (a.getD i 0::R))<val b->SD a b (Og (a.getD i 0::R)) Q i):=fun h=>d.o.cont h l5 J.o.2.1;have j7:Hid (∀ {q:Nat} {R':List Nat},q<1000000000->val (a.getD i 0::R)=q*val b+val R'->val R'<val b->okL R'->isTrim R'->SD a b R' (Q.set i q) i):=fun {q R'} h1 h2 h3 h4 h5=>d.o.put h1 h2 h3 h4 h5 J.o.2.1;have g0:Hid (val (a.getD i 0::R)<val b*1000000000):=d.o.window l5;obtain⟨x,hx⟩:=Oa (a.getD i 0);rw[hx] at d7 l5 K j7 g0;obtain⟨N,hN⟩:=Oa (x::R);have i1:okL N:=by
     rw[<-hN];intro y hy
     rcases Vi.1 hy with e|e
     ·omega
     exact d.o.rok y e
    have y0:=d.o.rlen;have e9:Hid (N.length=R.length+1/\N.length<=100001):=by
     rw[<-hN];exact⟨by simp,by simp;omega⟩
    rw[hN] at K j7 g0;have HN:Hid (okL N/\True/\val N<val b*1000000000):=⟨i1,trivial,g0.o⟩;have q9:Hid (Gg N=Value.int .u32 (x:Nat)::Gg R):=by rw[<-hN];rfl
    have I:Hid (w.heap.size<wr.heap.size):=j9.o.lt;clear hx hN i1 g0
    go_wp2_with (at_builtin;refine Qt rfl _ _ 117 rfl (w.heap.size+1) (w.heap.size+1) 149 i0 (.int .u32 0) 4 underlying117 b5 i7 i8 j0 rfl _ 1 [.int .u32 (x:Nat)] rfl (YC wr _ _ _ (by have:=I.o;omega)) _ R rfl (g9.o.bl (Oz _ _)) (by unfold maxLen;omega) (by omega) (by have:=I.o;simp;omega) ?_)
    intro v3 w3 A d9;rw[<-q9.o] at A;have n3:Up w w3:=(b7.o.alloc b7.o.size _).grown d9 (by have:=b7.o.size;simp;omega) (fun k h=>by simp[Value.ownBlock] at h;have:=I.o;omega);have m7:Hid (U7 w3 w.heap.size Q):=by
     obtain⟨tl,h⟩:=j9.o;refine⟨tl,(d9.block _ (by have:=I.o;simp;omega) (by simp[Value.ownBlock];have:=I.o;omega)).trans ?_⟩;exact (heap_alloc_old wr _ I.o).trans h
    have b4:=Hd n3;obtain⟨_,⟨_,o1⟩|⟨g,cap,t7,s3,s4,s5,n8,l1⟩⟩:=Ir.of_owns' (e:=149) A HN.o.1
    ·exfalso;have:=e9.o.1;rw[o1] at this;simp at this
    subst t7;have q3:=Hd l1;have g8:Hid (∀ k,k<=N.length->Og N=N.take k->Ir (w.heap.size+1) w3 (.slice (some ⟨g,0,none⟩) k cap) (Og N)):=fun k hk he=>Ir.cut s3 s4 n8 HN.o.1 s5 l1 k hk he;have x9:=e9.o.2;unfold maxLen at n8;clear A d9 n3 l1 d7
    go_wp2
    go_loop [11] (fun n=>∃ k:Nat,k<=N.length/\n=.int .i64 k/\Og (N.take k)=Og N) (fun n=>(intOf n).toNat)
    case atStart=>exact⟨N.length,leR,rfl,by rw[Yk]⟩
    obtain⟨k,hk,rfl,hp⟩:=hrel;have HP:=Hd hp;clear hp
    cases k with
    | zero=>
      have HE:Hid (Og N=[]):=by rw[<-HP.o];rfl
      have d2:Hid (Ir (w.heap.size+1) w3 (.slice (some ⟨g,0,none⟩) 0 cap) (Og N)):=g8.o 0 (by omega) (by rw[<-HP.o];rfl);have f8:Hid (Kz B w3 (.slice (some ⟨g,0,none⟩) 0 cap) (Og N)):=d2.o.isL.mono g7.o;have b9:Hid (Ny (Og N) b = -1):=by rw[HE.o];exact Wx b J.o.2.2.2
      have d4:Hid (SD a b (Og N) Q i):=K.o (by rw[HE.o];exact Ga b J.o.2.2.1 J.o.2.2.2)
      go_wp2_with fail
      refine (Gh B _ _ (Og N) b _ f8.o (HB.o _ b4.o)).mono ?_;rintro e w4 ⟨rfl,O⟩;rw[b9.o];have E:Hid (Ir (w.heap.size+1) w4 (.slice (some ⟨g,0,none⟩) 0 cap) (Og N)/\U7 w4 w.heap.size Q/\Up w w4):=⟨d2.o.bl O,m7.o.kept O,b4.o.trans (O.mono b4.o.size)⟩;clear O
      go_wp2
      go_roundw
      case rel=>exact⟨i,Og N,Q,d4.o,E.o.1,by go_num,E.o.2.1,E.o.2.2⟩
      simp[intOf]
    | succ m=>
      obtain⟨y,hy⟩:=Oa (N.getD m 0);have V:=q3.o m (by omega);rw[hy] at V;have HY:=Hd hy;clear hy
      by_cases h0:y=0
      ·have hz:((y:Int)==0)=true:=by rw[Yf];omega
       have HE:Hid (Og (N.take m)=Og N):=by rw[<-Ej N m (by omega) (by rw[HY.o,h0])];exact HP.o
       clear h0
       go_wp2
       go_round
       case rel=>exact⟨m,by omega,Ot (by omega),HE.o⟩
       simp[intOf]
      have hz:((y:Int)==0)=false:=by rw[Jb];omega
      have d2:Hid (Ir (w.heap.size+1) w3 (.slice (some ⟨g,0,none⟩) (m+1) cap) (Og N)):=g8.o (m+1) hk (HP.o.symm.trans (Nv N m (by omega) (by rw[HY.o];exact h0)));have f8:Hid (Kz B w3 (.slice (some ⟨g,0,none⟩) (m+1) cap) (Og N)):=d2.o.isL.mono g7.o;have d1:Hid ((Og N).length=m+1):=by obtain⟨_,_,e,_⟩:=f8.o;simp at e;exact e.2.1.symm
      clear h0;obtain⟨cm,k9⟩:=Oa (Ny (Og N) b);have b9:=Hd k9;have s2 : -1<=cm/\cm<=1:=by rw[<-k9];exact Rq _ b
      obtain⟨w8,w9⟩:=s2;clear k9
      go_wp2_with fail
      refine (Gh B _ _ (Og N) b _ f8.o (HB.o _ b4.o)).mono ?_;rintro e w4 ⟨rfl,O⟩;rw[b9.o];have E:Hid (Ir (w.heap.size+1) w4 (.slice (some ⟨g,0,none⟩) (m+1) cap) (Og N)/\U7 w4 w.heap.size Q/\Up w w4):=⟨d2.o.bl O,m7.o.kept O,b4.o.trans (O.mono b4.o.size)⟩;clear O V
      by_cases e3:cm<0
      ·have d4:Hid (SD a b (Og N) Q i):=K.o (Q3 _ b (trimL_ok N HN.o.1) J.o.2.1 (trimL_trim N) J.o.2.2.1 (by rw[b9.o];exact e3))
       go_wp2
       go_roundw
       case rel=>exact⟨i,Og N,Q,d4.o,E.o.1,by go_num,E.o.2.1,E.o.2.2⟩
       simp[intOf]
      have q7:Hid (val b<=val N/\b.length<=(Og N).length):=by
       have h:=NK (Og N) b (trimL_ok N HN.o.1) J.o.2.1 (trimL_trim N) J.o.2.2.1 (by rw[b9.o];omega);rw[O4] at h;exact⟨h.2,h.1⟩
      have y7:0<=cm:=by omega
      clear e3
      go_wp2
      go_loopw [12,13] (fun lov hiv wq=>∃ lo hi:Nat,lov=.int .u64 (lo:Nat)/\hiv=.int .u64 (hi:Nat)/\Hu (val b) (val N) lo hi/\Up w4 wq) (fun lov hiv _=>(intOf hiv).toNat - (intOf lov).toNat)
      case atStart=>exact⟨0,999999999,rfl,rfl,R2 _ _ HN.o.2.2,Je _ _⟩
      obtain⟨lo,hi,rfl,rfl,g4,n6⟩:=hrel;have b8:=Hd g4;have b6:=Hd n6;have y5:=g4.1;have y6:=g4.2.1;clear g4 n6;have j3:Hid (Up w wr):=E.o.2.2.trans (b6.o.mono E.o.2.2.size);have m8:Hid (Ir (w.heap.size+1) wr (.slice (some ⟨g,0,none⟩) (m+1) cap) (Og N)):=E.o.1.bl b6.o;have j8:Hid (U7 wr w.heap.size Q):=E.o.2.1.kept b6.o
      by_cases l2:lo<hi
      ·obtain⟨M,hM⟩:=Oa ((lo+hi+1) / 2);have x8:((lo:Int)+(hi:Int)+1) / 2=(M:Int):=by omega
       have HM:=Hd hM;have r9:M<1000000000:=by omega
       have x7:1<=M:=by omega
       clear hM
       go_wp2_with fail
       refine (Qh B _ b M _ (HB.o _ j3.o) hlb r9).mono ?_;rintro e w5 ⟨v5,L5,rfl,g2,o4,o6,s6,n5⟩;have q8:Hid (Kz B w5 v5 L5):=g2.mono (by have:=j3.o.size;have:=o9.o;omega);have k0:Hid (isTrim L5/\val L5=val b*M/\okL L5):=⟨o4,o6,by obtain⟨_,_,_,_,_,h,_⟩:=g2;exact h⟩;have j2:=Hd n5;obtain⟨p5,c5,e5,_⟩:=id g2;subst e5;clear g2 o4 o6 s6 n5
       go_wp2_with fail
       refine (Gh B _ _ L5 (Og N) _ q8.o ((m8.o.bl j2.o).isL.mono g7.o)).mono ?_;rintro e w6 ⟨rfl,d6⟩;have Y:Hid (Up w4 w6):=b6.o.trans ((j2.o.trans (d6.mono j2.o.size)).mono b6.o.size);clear d6;have ho:=Hn L5 (Og N) k0.o.2.2 (trimL_ok N HN.o.1) k0.o.1 (trimL_trim N);rw[O4,k0.o.2.1] at ho
       by_cases hc:M*val b<=val N
       ·have r5:Hid (Hu (val b) (val N) M hi):=by
         have h:=F8 b8.o l2 (by rw[HM.o];exact hc);rw[HM.o] at h;exact h
        obtain⟨cx,a7⟩:=Oa (Ny L5 (Og N));have n7:cx<=0:=by rw[<-a7,ho];exact DG _ _ (by rw[Y2];exact hc)
        rw[a7];clear a7 ho hc
        go_wp2
        go_roundw
        case rel=>exact⟨M,hi,rfl,rfl,r5.o,Y.o⟩
        simp[intOf];have:=HM.o;omega
       have q5:Hid (Hu (val b) (val N) lo (M - 1)):=by
        have h:=Pf b8.o l2 (by rw[HM.o];omega);rw[HM.o] at h;exact h
       obtain⟨cx,a7⟩:=Oa (Ny L5 (Og N));have n7:0<cx:=by rw[<-a7,ho];exact DN _ _ (by rw[Y2];omega)
       rw[a7];clear a7 ho hc
       go_wp2
       go_roundw
       case rel=>exact⟨lo,M - 1,rfl,Ot (by omega),q5.o,Y.o⟩
       simp[intOf];have:=HM.o;omega
      obtain rfl:lo=hi:=by omega
      have j4:Hid (1<=lo/\lo*val b<=val N/\val N<(lo+1)*val b):=by
       refine⟨?_,b8.o.2.2.1,b8.o.2.2.2⟩;apply Ys;rintro rfl;have h1:=b8.o.2.2.2;have h2:=q7.o.1;omega
      have x0:=j4.o.1;have s8:=j8.o.cell i (by have:=d.o.qlen;have:=d.o.le;omega);have s9:=j8.o.frozen i;have Z:Hid (U7 (wr.setCell ⟨w.heap.size,i,none⟩ (.int .u32 (lo:Nat))) w.heap.size (Q.set i lo)/\Ir (w.heap.size+1) (wr.setCell ⟨w.heap.size,i,none⟩ (.int .u32 (lo:Nat))) (.slice (some ⟨g,0,none⟩) (m+1) cap) (Og N)/\Up w (wr.setCell ⟨w.heap.size,i,none⟩ (.int .u32 (lo:Nat)))):=
       ⟨j8.o.set _ _ (by have:=d.o.qlen;have:=d.o.le;omega),m8.o.setCell _ _ (by show w.heap.size<w.heap.size+1;omega),j3.o.setCell leR _⟩
      obtain⟨W5,k7⟩:=Oa (wr.setCell ⟨w.heap.size,i,none⟩ (.int .u32 (lo:Nat)));have r6:=Hd k7;rw[k7] at Z;clear k7 l2
      go_wp2_with fail
      rw[r6.o];clear s8 s9;refine (Qh B _ b lo _ (HB.o _ Z.o.2.2) hlb (by omega)).mono ?_;rintro e w6 ⟨v6,L6,rfl,g3,o5,o7,s7,d6⟩;have e8:Hid (Kz B w6 v6 L6/\isTrim L6/\val L6=val b*lo/\okL L6):=⟨g3.mono (by have:=Z.o.2.2.size;have:=o9.o;omega),o5,o7,by obtain⟨_,_,_,_,_,h,_⟩:=g3;exact h⟩;have Y:=Hd d6;obtain⟨p6,c6,e6,_⟩:=id g3;subst e6;clear g3 o5 o7 s7 d6
      go_wp2_with fail
      have e0:val L6<=val (Og N):=by rw[e8.o.2.2.1,O4,Y2];exact j4.o.2.1
      have e1:=Mv B (.slice (some ⟨g,0,none⟩) (m+1) cap) (.slice p6 L6.length c6) (Og N) L6 w6 ((Z.o.2.1.bl Y.o).isL.mono g7.o) e8.o.1 (by have:=e9.o;have:=Kd N;omega) (Rm L6 (Og N) e8.o.2.1 (trimL_ok N HN.o.1) e0) e0;rw[d1.o] at e1;refine e1.mono ?_;clear e1 e0;rintro e w7 ⟨S,rfl,hS,l4,o0,k8⟩;have b3:okL S:=by obtain⟨_,_,_,_,_,h,_⟩:=hS;exact h
      have HS:Hid (okL S/\S.length=m+1/\val S+lo*val b=val N):=⟨b3,o0,by rw[e8.o.2.2.1,O4] at l4;rw[Y2 lo];exact l4⟩;have hG:w.heap.size+1<=w6.heap.size:=by have:=Z.o.1.lt;have:=Y.o.size;omega
      have l9:Hid (∀ q,q<S.length->w7.cell? ⟨w6.heap.size,q,none⟩=some (.int .u32 (S.getD q 0:Nat))):=fun q hq=>by
       obtain⟨_,_,_,_,l0⟩:=hS.cells;obtain⟨b',j1,e,_,hc⟩:=l0 q hq;simp only[Option.some.injEq,Addr.mk.injEq,and_true] at e;obtain⟨rfl,rfl⟩:=e;rw[Y8] at hc;exact hc
      have m6:Hid (w6.heap.size<w7.heap.size):=by
       obtain⟨_,_,_,_,l0⟩:=hS.cells;obtain⟨b',j1,e,e3,hc⟩:=l0 0 (by omega);simp only[Option.some.injEq,Addr.mk.injEq,and_true] at e;obtain⟨rfl,rfl⟩:=e;exact e3
      have f9:Hid (U7 w7 w.heap.size (Q.set i lo)/\Up w w7):=⟨(Z.o.1.kept Y.o).kept k8,Z.o.2.2.trans ((Y.o.trans (k8.mono Y.o.size)).mono Z.o.2.2.size)⟩;have c8:Hid (∀ k,k<=S.length->Og S=S.take k->Ir (w.heap.size+1) w7 (.slice (some ⟨w6.heap.size,0,none⟩) k (m+1)) (Og S)):=fun k hk he=>Ir.cut hG m6.o (by unfold maxLen;have:=e9.o;have:=Kd N;have:=d1.o;omega) b3 (by omega) l9.o k hk he;have h6:Hid (SD a b (Og S) (Q.set i lo) i):=by
       refine j7.o (by omega) ?_ ?_ (trimL_ok S b3) (trimL_trim S)
       ·rw[O4];have:=HS.o.2.2;omega
       rw[O4];have h1:=HS.o.2.2;have h2:=j4.o.2.2;rw[Zp,Zx] at h2;omega
      clear hS l4 o0 k8 b3 hG
      go_wp2
      go_loop [16] (fun n=>∃ k:Nat,k<=S.length/\n=.int .i64 k/\Og (S.take k)=Og S) (fun n=>(intOf n).toNat)
      case atStart=>exact⟨S.length,leR,Ot (by have:=HS.o.2.1;omega),by rw[Yk]⟩
      obtain⟨k,hk,rfl,hp⟩:=hrel;have j6:=Hd hp;have k1:=HS.o.2.1;clear hp
      cases k with
      | zero=>
        have d3:Hid (Ir (w.heap.size+1) w7 (.slice (some ⟨w6.heap.size,0,none⟩) 0 (m+1)) (Og S)):=c8.o 0 (by omega) (by rw[<-j6.o];rfl);clear k1
        go_wp2
        go_roundw
        case rel=>exact⟨i,Og S,Q.set i lo,h6.o,d3.o,by go_num,f9.o.1,f9.o.2⟩
        simp[intOf]
      | succ p=>
        obtain⟨y,hy⟩:=Oa (S.getD p 0);have V:=l9.o p (by omega);rw[hy] at V;have n1:=Hd hy;have y8:p<m+1:=by omega
        clear hy
        by_cases h0:y=0
        ·have hz:((y:Int)==0)=true:=by rw[Yf];omega
         have q6:Hid (Og (S.take p)=Og S):=by rw[<-Ej S p (by omega) (by rw[n1.o,h0])];exact j6.o
         clear h0 k1
         go_wp2
         go_round
         case rel=>exact⟨p,by have:=HS.o.2.1;omega,Ot (by omega),q6.o⟩
         simp[intOf]
        have hz:((y:Int)==0)=false:=by rw[Jb];omega
        have d3:Hid (Ir (w.heap.size+1) w7 (.slice (some ⟨w6.heap.size,0,none⟩) (p+1) (m+1)) (Og S)):=c8.o (p+1) (by omega) (j6.o.symm.trans (Nv S p (by omega) (by rw[n1.o];exact h0)));clear h0 k1
        go_wp2
        go_roundw
        case rel=>exact⟨i,Og S,Q.set i lo,h6.o,d3.o,by go_num,f9.o.1,f9.o.2⟩
        simp[intOf]
theorem YO (B:Nat)(z:Value)(neg:Bool)(w:World)(h:Gy B w z neg []) :
 Calls prog 127 #[z] w fun e w'=>e=.returned (.slice none 0 0)/\Up w w':=by
 obtain⟨d,j,h⟩:=h
 rcases h with⟨h2,_⟩|⟨_,rfl⟩
 ·simp at h2
 cases neg
 all_goals
  simp only[sg,val]
  go_in
  go_wp2
  go_ret
  exact⟨rfl,Oz _ _⟩
theorem C7 (B:Nat)(z:Value)(neg:Bool)(t:List Nat)(w:World)(h:Gy B w z neg t)(hB:B<=w.heap.size) :
 Calls prog 127 #[z] w fun e w'=>∃ v,e=.returned v/\Kz B w' v t/\(t=[]->v=.slice none 0 0)/\Up w w':=by
 by_cases d:t=[]
 ·subst d;refine (YO B z neg w h).mono ?_;rintro e w' ⟨rfl,hb⟩;exact⟨_,rfl,⟨none,0,rfl,leR,(by unfold maxLen;omega),(fun x hx=>by cases hx),.inl rfl⟩,fun _=>rfl,hb⟩
 refine (El B z neg t w h hB).mono ?_;rintro e w' ⟨v,rfl,j,hb⟩;exact⟨v,rfl,j,fun h=>absurd h d,hb⟩
theorem Aw (z0:Int)(zn:Bool)(za:Option Addr)(zl zc:Nat)(w:World) :
 Calls prog 128 #[.agg #[.int .i64 z0,.bool zn,.slice za zl zc]] w fun e w'=>e=.returned (.bool (((zl:Int)==0)&&(z0==0)))/\Up w w':=by
 by_cases h:zl=0
 ·subst h
  go_in
  go_wp2
  go_ret
  exact⟨by simp,Oz _ _⟩
 have z:((zl:Int)==0)=false:=by rw[Jb];omega
 go_in
 go_wp2
 go_ret
 exact⟨by simp[z],Oz _ _⟩
theorem UP (B:Nat)(vb:Value)(b:List Nat)(w:World)(hb:Kz B w vb b)(hlb:b.length<=100000)(htb:isTrim b)(hne:b≠[]) :
 Calls prog 142 #[.slice none 0 0,vb] w fun e w'=>∃ v u Q U,e=.returned (.tuple #[v,u])/\(Kz w.heap.size w' v Q/\Kz w.heap.size w' u U)/\val []=val Q*val b+val U/\val U<val b/\Up w w':=by
 obtain⟨i0,E,J,K,M⟩:=info_parts info_u32;obtain⟨pb,cb,rfl,_,_,V,_⟩:=hb;have Z:Hid (0<val b):=Ga b htb hne;have a7:0<b.length:=by
  apply Ys;intro e;exact hne (Jw e)
 by_cases h1:b.length=1
 all_goals
  go_in
  go_wp2_with (at_make;refine wpList_make_full _ rfl _ _ 117 rfl w.heap.size 149 i0 (.int .u32 0) 1 underlying117 E J K .i64 .i64 _ _ 0 rfl rfl (by first|rfl|omega) (by first|rfl|omega) (by first|omega|(rw[M];omega)) (by unfold maxLen;omega) leR ?_)
  intro w1 G A;have j:Up w w1:=(Je _ _).grown A leR (fun k h=>by cases h);have I:=Hd j;clear G A j
  go_wp2
  go_loopw [7,9] (fun rv iv wr=>rv=.slice none 0 0/\iv=.int .i64 (-1)/\Up w wr) (fun _ _ _=>0)
  case atStart=>exact⟨rfl,rfl,I.o⟩
  obtain⟨rfl,rfl,O⟩:=hrel;have Y:=Hd O;clear O;have d:Hid (∀ W pp,Kz w.heap.size W (.slice pp 0 0) []):=fun W pp=>⟨pp,0,rfl,leR,(by unfold maxLen;omega),(fun x hx=>by cases hx),.inl rfl⟩
  go_wp2
  go_ret2
  exact⟨_,_,[],[],rfl,⟨d.o _ _,d.o _ _⟩,by simp[val],Z.o,Y.o⟩
theorem UR (B:Nat)(va vb:Value)(a b:List Nat)(w:World)(hBw:B<=w.heap.size)(hla:a.length<=100000)(ha:Kz B w va a)(hnil:a=[]->va=.slice none 0 0)(hb:Kz B w vb b)(hlb:b.length<=100000)(htb:isTrim b)(hne:b≠[]) :
 Calls prog 142 #[va,vb] w fun e w'=>∃ v u Q U,e=.returned (.tuple #[v,u])/\(Kz w.heap.size w' v Q/\Kz w.heap.size w' u U)/\val a=val Q*val b+val U/\val U<val b/\Up w w':=by
 by_cases h:a=[]
 ·rw[hnil h,h];exact UP B vb b w hb hlb htb hne
 obtain⟨G,A,rfl,_,_,_,d⟩:=id ha
 rcases d with d|⟨j,E,rfl,_⟩
 ·exact absurd d h
 exact OW B j E A vb a b w hBw hla ha h hb hlb htb hne
end Go.Proofs.YtdmdmgfjpomdbaaGreatDoor.Q
namespace Go.Proofs.YtdmdmgfjpomdbaaGreatDoor.Q
open ChangeShapes WideShapes ChangeAt RowKit
theorem If (B:Nat)(w:World)(x:Int)(h1 : -1000000000000000000<x)(h2:x<1000000000000000000):G0 B w (.agg #[.int .i64 x,.bool false,.slice none 0 0]) x:=by
 have d:sg (decide (x<0)) (val (CA x.natAbs))=x:=by
  rw[NT];unfold sg
  by_cases h:x<0<;>simp[h]<;>omega
 exact⟨decide (x<0),CA x.natAbs,⟨CF _ (by omega),ZX _,.inr ⟨Ta _,by rw[d]⟩⟩,d⟩
end Go.Proofs.YtdmdmgfjpomdbaaGreatDoor.Q
