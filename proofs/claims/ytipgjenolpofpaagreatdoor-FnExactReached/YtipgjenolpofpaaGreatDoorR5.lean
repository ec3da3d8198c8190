import Derived.Test.YtipgjenolpofpaaGreatDoorP00
import Derived.Test.YtipgjenolpofpaaGreatDoorR4
import Derived.Shelf.Slices.Reverse
set_option maxRecDepth 100000
set_option maxHeartbeats 4000000
namespace Go.Proofs.YtipgjenolpofpaaGreatDoor
def LS (L:List Bool)(ks:List Int):List Bool:=ks.foldl (fun l k=>l.set k.toNat true) L
theorem LW:∀ (ks:List Int)(L:List Bool),(LS L ks).length=L.length
 | [],_=>rfl
 | k::ks,L=>by
   show (LS (L.set k.toNat true) ks).length=_
   rw[LW ks,List.length_set]
theorem MZ (L:List Bool)(ks:List Int)(k:Int):LS L (ks++[k])=(LS L ks).set k.toNat true:=by
 unfold LS;rw[List.foldl_append];rfl
theorem BV:∀ (ks:List Int)(L:List Bool)(j:Nat),(∀ k∈ks,k.toNat≠j)->(LS L ks)[j]? = L[j]?
 | [],_,_,_=>rfl
 | k::ks,L,j,h=>by
   show (LS (L.set k.toNat true) ks)[j]? = _
   rw[BV ks _ j (fun k' hk=>h k' (List.mem_cons_of_mem _ hk)),J6 (h k (List.mem_cons_self ..))]
def kidsAt (T:List Tm)(i:Nat):List Int:=match T[i]? with|none=>[]|some t=>t.kids
def LM (T:List Tm)(i:Nat)(L:List Bool):List Bool:=if L[i]? = some true then LS L (kidsAt T i) else L
def LD (T:List Tm):Nat->List Bool->List Bool
 | 0,L=>L
 | i+1,L=>LD T i (LM T i L)
def MQ (T:List Tm):Nat->List Bool->List Nat
 | 0,_=>[]
 | i+1,L=>if L[i]? = some true then i::MQ T i (LM T i L) else MQ T i (LM T i L)
theorem BA (T:List Tm)(i:Nat)(L:List Bool):(LM T i L).length=L.length:=by
 unfold LM;split
 ·exact LW _ _
 rfl
theorem MT (T:List Tm):∀ (n:Nat) (L:List Bool),(LD T n L).length=L.length
 | 0,_=>rfl
 | n+1,L=>by show (LD T n (LM T n L)).length=_;rw[MT T n,BA]
def BO (T:List Tm):Prop:=∀ i,∀ k∈kidsAt T i,0<=k/\k<(i:Int)
theorem BU {T:List Tm}(h:BO T){i j:Nat}(hj:i<=j)(L:List Bool):(LM T i L)[j]? = L[j]? := by
 unfold LM;split
 ·exact BV _ _ _ (fun k hk=>by have:=h i k hk;omega)
 rfl
theorem MS {T:List Tm}(h:BO T):∀ (n j:Nat) (_:n<=j) (L:List Bool),(LD T n L)[j]? = L[j]?
 | 0,_,_,_=>rfl
 | n+1,j,hj,L=>by
   show (LD T n (LM T n L))[j]? = _
   rw[MS h n j (by omega),BU h (by omega)]
theorem BM {T:List Tm}(h:BO T):∀ (n:Nat) (L:List Bool),(MQ T n L).reverse=(List.range n).filter (fun i=>decide ((LD T n L)[i]? = some true))
 | 0,_=>rfl
 | n+1,L=>by
   have j:=BM h n (LM T n L)
   have hn:(LD T n (LM T n L))[n]? = L[n]? := by rw[MS h n n Of,BU h Of]
   rw[Zd,List.filter_append]
   show (if L[n]? = some true then n::MQ T n (LM T n L) else MQ T n (LM T n L)).reverse=_++List.filter (fun i=>decide ((LD T n (LM T n L))[i]? = some true)) [n]
   rw[show LD T (n+1) L=LD T n (LM T n L) from rfl,<-j]
   by_cases d:L[n]? = some true
   ·rw[if_pos d,Uh]
    simp[hn,d]
   rw[if_neg d]
   simp[hn,d]
def LL (T:List Tm)(R:List Int):Bool:=R.all (fun r=>decide (0<=r/\r<(T.length:Int)))
def ME (T:List Tm)(R:List Int):List Bool:=LD T T.length (LS (List.replicate T.length false) R)
def LC (T:List Tm)(R:List Int):List Int:=if LL T R=true then ((List.range T.length).filter (fun i=>decide ((ME T R)[i]? = some true))).map (fun (i:Nat)=>(i:Int)) else []
theorem MM {S:List (List UInt8)}{num:Tm->Bool}{F:List Fn}{T:List Tm}(h:Hg S num F T=true):BO T/\T.length<=3000:=by
 unfold Hg at h;simp only[J3,Yg,Ju,Y6] at h;refine⟨fun i k hk=>?_,h.1.1⟩;unfold kidsAt at hk
 cases d:T[i]? with
 | none=>rw[d] at hk;cases hk
 | some t=>
   rw[d] at hk;have j:i<T.length:=(Zr.1 d).1;have:=h.2 i j;rw[d] at this;simp only[J3,Yg] at this;have h2:=this.1;unfold Kc at h2;simp only[J3] at h2;have h3:=h2.1.2;unfold Xz at h3;rw[Ju] at h3
   simpa using h3 k hk
end Go.Proofs.YtipgjenolpofpaaGreatDoor
namespace Go.Proofs
open Go.Shelf Go.Proofs.Tryz
def Tryz.laysR_ren:Go.Shelf.Ren:=⟨fun|112=>87|n=>n,fun|28=>52|3=>3|4=>4|0=>0|n=>n,fun|n=>n⟩
theorem Tryz.laysR:Go.Proofs.Lays.n112 prog Tryz.laysR_ren:=by constructor<;>first|kernel_rfl|(intros;first|rfl|kernel_rfl)
open Go.RowKit Go.Lib Go.Sort in
theorem Tryz.slices_ReverseR (blk off cap:Nat)(zs:List Int)(w:World)(hH:Holds (Value.int .i64) w blk off zs.toArray)(hsz:zs.length<=9223372036854775807) :
 Calls prog 87 #[.slice (some ⟨blk,off,none⟩) zs.length cap] w fun e w'=>e=.returned (.tuple #[])/\∃ n,w'=putRow (Value.int .i64) (Sort.ahead w n) blk off zs.reverse.toArray:=Any.slices_Reverse_int Tryz.laysR blk off cap zs w hH hsz
open Go.RowKit Go.Lib Go.Sort in
theorem Tryz.slices_ReverseR_empty (a:Option Addr)(cap:Nat)(w:World) :
 Calls prog 87 #[.slice a 0 cap] w fun e w'=>e=.returned (.tuple #[])/\w'=w:=Any.slices_Reverse_int_empty Tryz.laysR a cap w
end Go.Proofs
namespace Go.Proofs.YtipgjenolpofpaaGreatDoor
open ChangeShapes WideShapes ChangeAt RowKit Proofs.Tryz
theorem BD:(prog.info? 4).map (fun i=>(i.zero,i.size,i.bytes))=some (some (.bool false),1,1):=by kernel_rfl
theorem BZ:∃ i:TypeInfo,prog.info? 4=some i/\i.zero=some (.bool false)/\i.size=1/\i.bytes=1:=info_parts BD
theorem MC {ops:Array Oper}{rest:List Oper}{o:Oper}{a:Act}{Q:Exit->Act->World->Prop}{W:World}{y:Int}{base n:Nat}{v:Value}{xs:List Value}(hgd:o.guard=none)(s x:Operand)
 (ho:o.op=.call { callee:=.builtin .append,args:=#[s,x],argTypes:=#[52,52] }) (hs:a.eval s=v) (hown:W.ownsRow base 3 1 v n xs)
 (H:Nat) (hx:a.eval x=.slice (some ⟨H,0,none⟩) 1 1) (hH:W.heap.size=H) (hn:n<=1000000000) (hbase:base<=W.heap.size)
 (h:∀ g cap W',W'.ownsRow base 3 1 (.slice (some ⟨g,0,none⟩) (n+1) cap) (n+1) (xs++[.int .i64 y])->(W.alloc (.cells #[.int .i64 y] 3)).grownBy W' v.ownBlock->wpList prog ops Q rest (a.put o.dst (.slice (some ⟨g,0,none⟩) (n+1) cap)) W') :
 wpList prog ops Q (o::rest) a (W.alloc (.cells #[.int .i64 y] 3)):=by
 subst hH;obtain⟨i0,d,j,A,E⟩:=XO;refine wpList_append_lies _ hgd s x 52 ho base 3 i0 (.int .i64 0) 1 8 underlying52 d j A E rfl (by decide) v n xs hs (hown.alloc _) ⟨W.heap.size,0,none⟩ 1 1 [.int .i64 y] hx rfl
  (World.news_of_block (cs:=#[.int .i64 y]) (t:=3) (fr:=(0,0)) Array.getElem?_push_size) (by simp[Value.oneCell']) (by decide) (by unfold maxLen;omega) (by omega) (by simp;omega) _ rfl ?_
 intro g cap W' G h2 _ _;exact h g cap W' G h2
theorem BQ {base g c:Nat}{L:List Int}(w:World)(h:w.ownsRow base 3 1 (.slice (some ⟨g,0,none⟩) L.length c) L.length (G8 L)) :
 Calls prog 87 #[.slice (some ⟨g,0,none⟩) L.length c] w fun e w'=>e=.returned (.tuple #[])/\w'.ownsRow base 3 1 (.slice (some ⟨g,0,none⟩) L.length c) L.length (G8 L.reverse)/\Below base w w':=by
 have hb:=Ot h g rfl;have d:∀ j (hj:j<L.length),w.cell? ⟨g,j,none⟩=some (.int .i64 L[j]):=fun j hj=>R8 h (by unfold G8;rw[Y1,Jf hj];rfl);have O:∀ j,w.frozen? ⟨g,j,none⟩=false:=fun j=>h.frozenAt j
 rcases h.2 with⟨K,_⟩|⟨Y,cap,A,V,I,E,M,h2,h3,h4⟩
 ·cases K
 cases V;refine (Tryz.slices_ReverseR g 0 c L w (fun j hj=>?_) (by unfold maxLen at h2;omega)).mono ?_
 ·have G:j<L.length:=by simpa using hj
  rw[Y4,d j G,O];simp[G]
 rintro e w' ⟨rfl,n,rfl⟩;have U:(Go.Sort.putRow (Value.int .i64) (Go.Sort.ahead w n) g 0 L.reverse.toArray).heap[g]? = some (.cells (Go.Sort.putCells (Value.int .i64) 0 L.reverse.toArray A) 3 (0,0)):=by
  show (w.heap.modify g _)[g]? = _
  rw[Array.getElem?_modify,if_pos rfl,E];rfl
 refine⟨rfl,⟨by simp[G8],.inr ⟨g,c,_,rfl,I,U,M,h2,?_,?_⟩⟩,?_⟩
 ·simpa[Go.Sort.putCells] using h3
 ·apply List.ext_getElem?;intro j;rw[List.getElem?_take]
  by_cases hj:j<L.length
  ·rw[if_pos (by omega)];have J:j<A.size:=by omega
   simp[Go.Sort.putCells,G8,hj,J]
  rw[if_neg (by omega)];simp[G8,hj]
 refine⟨rfl,rfl,rfl,by show _<=(w.heap.modify g _).size;simp,fun b hb'=>?_⟩
 show (w.heap.modify g _)[b]? = _
 rw[Array.getElem?_modify,if_neg (by omega)]
theorem BR {base c:Nat}{p:Option Addr}{L:List Int}(w:World)(h:w.ownsRow base 3 1 (.slice p L.length c) L.length (G8 L)) :
 Calls prog 87 #[.slice p L.length c] w fun e w'=>e=.returned (.tuple #[])/\w'.ownsRow base 3 1 (.slice p L.length c) L.length (G8 L.reverse)/\Below base w w':=by
 have d:=h
 rcases h.2 with⟨G,A⟩|⟨g,cap,j,E,_⟩
 ·have hl:L=[]:=Jv A;subst hl;refine (Tryz.slices_ReverseR_empty p c w).mono ?_;rintro e w' ⟨rfl,rfl⟩;exact⟨rfl,d,Jh _ _⟩
 obtain⟨rfl,-,rfl⟩:p=some ⟨g,0,none⟩/\L.length=L.length/\c=cap:=by simpa using E
 exact BQ w d
theorem MA {W W':World}{base base2:Nat}{e1 e2:TypeId}{s1 s2:Nat}{v1 v2:Value}{n1 n2:Nat}{xs1 xs2:List Value}(h1:W.ownsRow base e1 s1 v1 n1 xs1)(h2:W.ownsRow base2 e2 s2 v2 n2 xs2)(hne:e1≠e2)(hg:W.grownBy W' v1.ownBlock):W'.ownsRow base2 e2 s2 v2 n2 xs2:=by
 refine Ox h2 fun g hg2=>hg.block g (h2.lt g hg2).2 ?_;intro e;obtain⟨c1,f1,d⟩:=Kt h1 g e.symm;obtain⟨c2,f2,k2⟩:=Kt h2 g hg2;rw[d] at k2
 cases k2
 exact hne rfl
theorem BS {W:World}{base base2 g i n1 c:Nat}{e1 e2:TypeId}{s1 s2:Nat}{v2 x:Value}{n2:Nat}{xs1 xs2:List Value}(h1:W.ownsRow base e1 s1 (.slice (some ⟨g,0,none⟩) n1 c) n1 xs1)(h2:W.ownsRow base2 e2 s2 v2 n2 xs2)(hne:e1≠e2):(W.setCell ⟨g,i,none⟩ x).ownsRow base2 e2 s2 v2 n2 xs2:=by
 refine Ox h2 fun g' hg2=>Jq W ⟨g,i,none⟩ x g' ?_;intro e;obtain⟨c1,f1,d⟩:=Kt h1 g rfl;obtain⟨c2,f2,k2⟩:=Kt h2 g' hg2;rw[show g'=g from e,d] at k2
 cases k2
 exact hne rfl
def LB (L:List Bool):List Value:=L.map .bool
theorem MO (L:List Bool)(m:Nat):(LB L).set m (.bool true)=LB (L.set m true):=by
 unfold LB;rw[List.map_set]
theorem MP (n:Nat):(madeCells #[Value.bool false] n).toList=LB (List.replicate n false):=by
 unfold LB;apply List.ext_getElem?;intro j
 by_cases d:j<n
 ·simp[madeCells,d,Nat.mod_one]
 simp[madeCells,d]
theorem MX {w:World}{base g n c:Nat}{L:List Bool}(h:w.ownsRow base 4 1 (.slice (some ⟨g,0,none⟩) n c) n (LB L)){i:Nat}(hi:i<L.length):w.cell? ⟨g,i,none⟩=some (.bool L[i]):=R8 h (by unfold LB;rw[Y1,Jf hi];rfl)
theorem MW {T:List Tm}{R:List Int}{i:Nat}(h:i<R.length)(hb:¬ (0<=R[i]/\R[i]<(T.length:Int))):LC T R=[]:=by
 unfold LC;rw[if_neg];intro d;unfold LL at d;rw[Ju] at d;exact hb (by simpa using d _ (Jw h))
theorem MD {T:List Tm}{R:List Int}(h:∀ r∈R,0<=r/\r<(T.length:Int)):LL T R=true:=by
 unfold LL;rw[Ju];intro r d
 simpa using h r d
theorem MF (vt vr:Value)(T:List Tm)(R:List Int)(w:World)(ht:Km w vt T)(hr:U5 w vr R)(hT:T.length<=3000)(hA:BO T) :
 Calls prog 64 #[vt,vr] w fun e w'=>∃ v,e=.returned v/\w'.ownsRow w.heap.size 3 1 v (LC T R).length (G8 (LC T R))/\Up w w':=by
 obtain⟨pt,ct,rfl,l6,j7,A⟩:=ht;obtain⟨pr,cr,rfl,l7,j8,b6⟩:=hr;unfold maxLen at j7 j8;obtain⟨i0,g1,k9,l0,l1⟩:=BZ;have j1:=Hd A;have e7:=Hd b6;have e1:=Hd hA;clear A b6 hA
 go_in
 go_wp2_with (at_make;refine wpList_make_full _ rfl _ _ 97 rfl w.heap.size 4 i0 (.bool false) 1 underlying97 g1 k9 l0 .i64 .i64 _ _ T.length rfl rfl (by simp) (by simp) (by rw[l1];omega) (by unfold maxLen;omega) Of ?_)
 intro w1 I f9;have g9:Hid (Up w w1):=(Jh _ _).grown f9 Of (fun k e=>by cases e);rw[MP] at I;have i6:=Hd I;clear I f9
 go_wp2
 go_loopw [17] (fun iv wr=>∃ i:Nat,i<=R.length/\iv=.int .i64 (i:Nat)/\(∀ r∈R.take i,0<=r/\r<(T.length:Int))/\wr.ownsRow w.heap.size 4 1 (.slice (some ⟨w.heap.size,0,none⟩) T.length T.length) T.length (LB (LS (List.replicate T.length false) (R.take i)))/\Up w wr) (fun iv _=>R.length - (intOf iv).toNat)
 case atStart=>exact⟨0,Jy _,rfl,fun r hr=>by simp at hr,i6.o,g9.o⟩
 obtain⟨i,hi,rfl,g3,E,hB⟩:=hrel;have d4:=Hd g3;have HO:=Hd E;have HB:=Hd hB;clear g3 E hB
 by_cases O:i<R.length
 ·obtain⟨b,rfl,hb,d⟩:∃ b,pr=some ⟨b,0,none⟩/\b<w.heap.size/\∀ i (h:i<R.length),w.cell? ⟨b,i,none⟩=some (.int .i64 R[i]):=by
   rcases e7.o with h|h
   ·rw[h] at O;cases O
   exact h
  have k0:=(HB.o.cell (p:=⟨b,i,none⟩) hb).trans (d i O);obtain⟨r,d7⟩:=O1 (R[i]);have d5:=Hd d7;rw[d7] at k0;clear d d7
  by_cases h1:r<0
  ·have y1:decide (r<0)=true:=Jb h1;have HE:Hid (LC T R=[]):=MW O (by rw[d5.o];omega)
   go_wp2
   go_ret
   exact⟨_,rfl,by rw[HE.o];exact⟨rfl,.inl ⟨rfl,rfl⟩⟩,HB.o⟩
  have y1:decide (r<0)=false:=Jg h1
  by_cases h2:(T.length:Int)<=r
  ·have y2:decide ((T.length:Int)<=r)=true:=Jb h2;have HE:Hid (LC T R=[]):=MW O (by rw[d5.o];omega)
   go_wp2
   go_ret
   exact⟨_,rfl,by rw[HE.o];exact⟨rfl,.inl ⟨rfl,rfl⟩⟩,HB.o⟩
  have y2:decide ((T.length:Int)<=r)=false:=Jg h2;obtain⟨m,rfl⟩:∃ m:Nat,r=(m:Int):=⟨r.toNat,by omega⟩;have hm:m<T.length:=by omega
  obtain⟨x1,k1⟩:=H9 HO.o m (by omega);have f1:=HO.o.frozenAt m;have d3:=Hd (HO.o.stored m (.bool true)).1
  go_wp2
  go_roundw
  case rel=>
   have et:R.take (i+1)=R.take i++[(m:Int)]:=by rw[List.take_add_one,Jf O,d5.o];rfl
   refine⟨i+1,by omega,by go_num,fun r hr=>?_,?_,HB.o.sc⟩
   ·rw[et,Z6,List.mem_singleton] at hr
    rcases hr with hr|rfl
    ·exact d4.o r hr
    omega
   have:=d3.o;rw[MO] at this;rw[et,MZ];exact this
  simp[intOf];omega
 obtain rfl:i=R.length:=by omega
 have i8:Hid (LL T R=true):=MD (by have:=d4.o;rwa [Yl] at this);have hO:=HO.o;rw[Yl] at hO;obtain⟨L0,b9⟩:=O1 (LS (List.replicate T.length false) R);have i1:Hid (L0.length=T.length):=by unfold Hid;rw[<-b9,LW,Ue]
 have e5:Hid (LC T R=((MQ T T.length L0).reverse).map (fun (i:Nat)=>(i:Int))):=by
  unfold Hid LC ME;rw[if_pos i8.o,b9,BM e1.o]
 rw[b9] at hO;have e6:=Hd hO;clear hO HO d4 e7 b9
 go_wp2
 go_loopw [8,9] (fun rv iv wq=>∃ (i:Nat) (L:List Bool) (C:List Int),i<=T.length/\iv=.int .i64 ((i:Int) - 1)/\L.length=T.length/\C.length+i<=T.length/\C++(MQ T i L).map (fun (i:Nat)=>(i:Int))=(MQ T T.length L0).map (fun (i:Nat)=>(i:Int))/\(∃ p c,rv=.slice p C.length c)/\wq.ownsRow w.heap.size 4 1 (.slice (some ⟨w.heap.size,0,none⟩) T.length T.length) T.length (LB L)/\wq.ownsRow w.heap.size 3 1 rv C.length (G8 C)/\Up w wq) (fun _ iv _=>(intOf iv+1).toNat)
 case atStart=>exact⟨T.length,L0,[],Of,rfl,i1.o,by simp,rfl,⟨_,_,rfl⟩,e6.o,⟨rfl,.inl ⟨rfl,rfl⟩⟩,HB.o⟩
 obtain⟨i,L,C,hi,rfl,f5,l5,d1,⟨pc,cc,rfl⟩,E,b3,hB⟩:=hrel;have J:=Hd d1;have HO:=Hd E;have HC:=Hd b3;have V:=Hd hB;clear d1 E b3 hB HB e6
 cases i with
 | zero=>
   have y0:decide ((0:Int)<=((0:Nat):Int) - 1)=false:=by decide
   have HR:Hid (LC T R=C.reverse):=by
    have:=J.o;unfold Hid;rw[e5.o,List.map_reverse,<-this];simp[MQ]
   clear J
   go_wp2_with fail
   refine (BR _ HC.o).mono ?_;rintro e w5 ⟨rfl,g2,f8⟩;have b8:=Hd g2;have U:Hid (Up w w5):=V.o.trans f8;clear g2 f8
   go_wp2
   go_ret
   exact⟨_,rfl,by rw[HR.o,V4];exact b8.o,U.o⟩
 | succ i=>
   have ei:(((i+1:Nat):Int) - 1)=(i:Int):=by omega
   rw[ei];have g0:i<L.length:=by omega
   have c8:i<T.length:=by omega
   have k1:=MX HO.o g0;have G:L[i]? = some L[i]:=Jf g0
   cases c6:L[i] with
   | false=>
     rw[c6] at k1 G;have HS:Hid (MQ T (i+1) L=MQ T i L):=by
      unfold Hid
      show (if L[i]? = some true then _ else _)=_
      rw[G,if_neg (by simp)];unfold LM;rw[G,if_neg (by simp)]
     clear G c6 ei
     go_wp2
     go_roundw
     case rel=>exact⟨i,L,C,by omega,by go_num,f5,by omega,by rw[<-HS.o];exact J.o,⟨_,_,rfl⟩,HO.o,HC.o,V.o⟩
     simp[intOf]
   | true=>
     rw[c6] at k1 G;obtain⟨b,rfl,hb,A⟩:∃ b,pt=some ⟨b,0,none⟩/\b<w.heap.size/\∃ va,w.cell? ⟨b,i*6+5,none⟩=some va/\U5 w va T[i].kids:=by
      rcases j1.o with h|⟨b,e,hb,h⟩
      ·rw[h] at c8;cases c8
      exact⟨b,e,hb,(h i c8).2.2.2.2.2⟩
     obtain⟨va,d8,pk,ck,rfl,j9,k7,Z⟩:=A;obtain⟨K,hK⟩:=O1 (T[i].kids);have d6:kidsAt T i=K:=by unfold kidsAt;rw[Jf c8];exact hK
     have h7:Hid (∀ k∈K,0<=k/\k<(i:Int)):=by rw[<-d6];exact e1.o i
     have HS:Hid (MQ T (i+1) L=i::MQ T i (LS L K)):=by
      unfold Hid
      show (if L[i]? = some true then _ else _)=_
      unfold LM;rw[G,if_pos rfl,if_pos rfl,d6]
     rw[hK] at d8 j9 Z;have h8:=Hd Z;have j2:=Hd d8;unfold maxLen at k7;clear G c6 ei hK d6 Z d8;have k8:=V.o.size
     go_wp2_with (at_builtin;refine MC (n:=C.length) (base:=w.heap.size) (xs:=G8 C) (y:=(i:Int)) rfl _ _ rfl rfl ?own2 _ rfl ?hH2 ?hn2 ?hb2 ?_)
     case own2=>exact HC.o
     case hH2=>rfl
     case hn2=>omega
     case hb2=>omega
     intro g5 c5 w5 a8 Y;have b8:=Hd (MA (HC.o.alloc _) (HO.o.alloc _) (by decide) Y);have e3:Hid (w5.ownsRow w.heap.size 3 1 (.slice (some ⟨g5,0,none⟩) (C.length+1) c5) (C.length+1) (G8 (C++[(i:Int)]))):=by
      unfold Hid;rw[show G8 (C++[(i:Int)])=G8 C++[.int .i64 (i:Int)] by simp[G8]];exact a8
     have U:Hid (Up w w5):=(V.o.alloc k8 _).grown Y (by simp;omega) (fun k e=>by have:=(HC.o.lt k e).1;omega);have a5:=(U.o.cell (p:=⟨b,i*6+5,none⟩) hb).trans j2.o;clear a8 Y k1 HO HC V
     go_wp2
     go_loopw [55] (fun jv wz=>∃ j:Nat,j<=K.length/\jv=.int .i64 (j:Nat)/\wz.ownsRow w.heap.size 4 1 (.slice (some ⟨w.heap.size,0,none⟩) T.length T.length) T.length (LB (LS L (K.take j)))/\wz.ownsRow w.heap.size 3 1 (.slice (some ⟨g5,0,none⟩) (C.length+1) c5) (C.length+1) (G8 (C++[(i:Int)]))/\Up w wz) (fun jv _=>K.length - (intOf jv).toNat)
     case atStart=>exact⟨0,Jy _,rfl,b8.o,e3.o,U.o⟩
     obtain⟨j,hj,rfl,b5,b4,e9⟩:=hrel;have M:=Hd b5;have e4:=Hd b4;have d2:=Hd e9;clear b5 b4 e9 b8 e3 U a5
     by_cases a7:j<K.length
     ·obtain⟨bk,rfl,j6,d⟩:∃ b,pk=some ⟨b,0,none⟩/\b<w.heap.size/\∀ i (h:i<K.length),w.cell? ⟨b,i,none⟩=some (.int .i64 K[i]):=by
       rcases h8.o with h|h
       ·rw[h] at a7;cases a7
       exact h
      have k0:=(d2.o.cell (p:=⟨bk,j,none⟩) j6).trans (d j a7);have hr:=h7.o _ (Jw a7);obtain⟨m,hm⟩:∃ m:Nat,K[j]=(m:Int):=⟨K[j].toNat,by omega⟩;have h9:=Hd hm;rw[hm] at k0 hr;have l9:m<T.length:=by omega
      obtain⟨x1,k1⟩:=H9 M.o m (by omega);have f1:=M.o.frozenAt m;have d3:=Hd (M.o.stored m (.bool true)).1;have h0:=Hd (BS (i:=m) (x:=.bool true) M.o e4.o (by decide));clear d hm
      go_wp2
      go_roundw
      case rel=>
       have et:K.take (j+1)=K.take j++[(m:Int)]:=by rw[List.take_add_one,Jf a7,h9.o];rfl
       refine⟨j+1,by omega,by go_num,?_,h0.o,d2.o.sc⟩;have:=d3.o;rw[MO] at this;rw[et,MZ];exact this
      simp[intOf];omega
     obtain rfl:j=K.length:=by omega
     have hO:=M.o;rw[Yl] at hO;have i7:=Hd hO;clear hO M
     go_wp2
     go_roundw
     case rel=>
      refine⟨i,LS L K,C++[(i:Int)],by omega,by go_num,by rw[LW];exact f5,by rw[Y8];simp;omega,?_,⟨some ⟨g5,0,none⟩,c5,by rw[Y8];rfl⟩,i7.o,by rw[Y8];exact e4.o,d2.o⟩;have:=J.o;rw[HS.o,Vy] at this;rw[<-this,List.append_assoc];rfl
     simp[intOf]
noncomputable def LF (S:List (List UInt8))(F:List Fn)(T:List Tm)(R:List Int):List Int:=if Hg S Gr F T=true then LC T R else []
theorem MI {w:World}{vs vf vt vr:Value}{S:List (List UInt8)}{F:List Fn}{T:List Tm}{R:List Int}(h:BankAt w vs vf vt S F T)(hz:BankZ S F T)(hv:Vars w)(hr:U5 w vr R) :
 Calls prog 33 #[.agg #[vs,vf,vt],vr] w fun e w'=>∃ v,e=.returned v/\w'.ownsRow w.heap.size 3 1 v (LF S F T R).length (G8 (LF S F T R))/\Up w w':=by
 obtain⟨p1,c1,e1,-,-,-⟩:=h.s;obtain⟨p2,c2,e2,-,-,-⟩:=h.f;obtain⟨p3,c3,e3,-,-,-⟩:=h.t;have A:Hid (Up w (w.alloc (.cells #[vs,vf,vt] 32))):=Oy _ _;have E:Hid (Bx (w.alloc (.cells #[vs,vf,vt] 32)) w.heap.size [vs,vf,vt]):=Oi w _ _;have J:=Hd (Ld (h.bl A.o) hz (hv.bl A.o));have K:=Hd h.t;have Z:=Hd hr;rw[OF] at J;obtain⟨p4,c4,rfl,-,-,-⟩:=hr;subst e1 e2 e3;clear h hz hv;obtain⟨b0,b1,b2⟩:=E.o.c3
 go_in
 go_wp2_with fail
 clear b0 b1 b2;refine J.o.mono ?_;rintro e w2 ⟨rfl,hb2⟩;have d:=A.up hb2;have M:=Hd (E.o.bl E.o.lt hb2);obtain⟨b0,b1,b2⟩:=M.o.c3;clear hb2 J
 cases j:Hg S Gr F T with
 | false=>
   have I:Hid (LF S F T R=[]):=by unfold Hid LF;rw[j];rfl
   go_wp2
   go_ret
   exact⟨_,rfl,by rw[I.o];exact⟨rfl,.inl ⟨rfl,rfl⟩⟩,d.o⟩
 | true=>
   have I:Hid (LF S F T R=LC T R):=by unfold Hid LF;rw[j];rfl
   obtain⟨O,hT⟩:=MM j;have G:=Hd (MF _ _ T R w2 (K.o.bl d.o) (Z.o.bl d.o) hT O);clear j O
   go_wp2_with fail
   refine G.o.mono ?_;rintro e w3 ⟨v,rfl,U,hb⟩;have Y:=Hd (E7 U d.o.size);have V:=d.up hb;clear U hb G
   go_wp2
   go_ret
   exact⟨_,rfl,by rw[I.o];exact Y.o,V.o⟩
end Go.Proofs.YtipgjenolpofpaaGreatDoor
