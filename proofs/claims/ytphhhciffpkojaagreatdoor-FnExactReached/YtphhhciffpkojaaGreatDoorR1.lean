import Derived.Test.YtphhhciffpkojaaGreatDoorP00
import Derived.Test.YtphhhciffpkojaaGreatDoorP39
import Derived.Shelf.Slices.Reverse
import Derived.Test.YtphhhciffpkojaaGreatDoorP35
set_option linter.all false
set_option maxRecDepth 100000
set_option maxHeartbeats 4000000
namespace Go.Proofs.YtphhhciffpkojaaGreatDoor
def TO (L:List Bool)(ks:List Int):List Bool:=ks.foldl (fun l k=>l.set k.toNat true) L
theorem TY:∀ (ks:List Int)(L:List Bool),(TO L ks).length=L.length
 | [],_=>rfl
 | k::ks,L=>by
   show (TO (L.set k.toNat true) ks).length=_
   rw[TY ks,List.length_set]
theorem TV (L:List Bool)(ks:List Int)(k:Int):TO L (ks++[k])=(TO L ks).set k.toNat true:=by
 unfold TO;rw[List.foldl_append];rfl
theorem TA:∀ (ks:List Int)(L:List Bool)(j:Nat),(∀ k∈ks,k.toNat≠j)->(TO L ks)[j]? = L[j]?
 | [],_,_,_=>rfl
 | k::ks,L,j,h=>by
   show (TO (L.set k.toNat true) ks)[j]? = _
   rw[TA ks _ j (fun k' hk=>h k' (List.mem_cons_of_mem _ hk)),J9 (h k (List.mem_cons_self ..))]
def kidsAt (T:List Tm)(i:Nat):List Int:=match T[i]? with|none=>[]|some t=>t.kids
def SW (T:List Tm)(i:Nat)(L:List Bool):List Bool:=if L[i]? = some true then TO L (kidsAt T i) else L
def SM (T:List Tm):Nat->List Bool->List Bool
 | 0,L=>L
 | i+1,L=>SM T i (SW T i L)
def TG (T:List Tm):Nat->List Bool->List Nat
 | 0,_=>[]
 | i+1,L=>if L[i]? = some true then i::TG T i (SW T i L) else TG T i (SW T i L)
theorem WG (T:List Tm)(i:Nat)(L:List Bool):(SW T i L).length=L.length:=by
 unfold SW;split
 ·exact TY _ _
 rfl
theorem TF (T:List Tm):∀ (n:Nat) (L:List Bool),(SM T n L).length=L.length
 | 0,_=>rfl
 | n+1,L=>by show (SM T n (SW T n L)).length=_;rw[TF T n,WG]
def TM (T:List Tm):Prop:=∀ i,∀ k∈kidsAt T i,0<=k/\k<(i:Int)
theorem TS {T:List Tm}(h:TM T){i j:Nat}(hj:i<=j)(L:List Bool):(SW T i L)[j]? = L[j]? := by
 unfold SW;split
 ·exact TA _ _ _ (fun k hk=>by have:=h i k hk;omega)
 rfl
theorem TC {T:List Tm}(h:TM T):∀ (n j:Nat) (_:n<=j) (L:List Bool),(SM T n L)[j]? = L[j]?
 | 0,_,_,_=>rfl
 | n+1,j,hj,L=>by
   show (SM T n (SW T n L))[j]? = _
   rw[TC h n j (by omega),TS h (by omega)]
theorem WK {T:List Tm}(h:TM T):∀ (n:Nat) (L:List Bool),(TG T n L).reverse=(List.range n).filter (fun i=>decide ((SM T n L)[i]? = some true))
 | 0,_=>rfl
 | n+1,L=>by
   have j:=WK h n (SW T n L)
   have hn:(SM T n (SW T n L))[n]? = L[n]? := by rw[TC h n n leR,TS h leR]
   rw[Zg,List.filter_append]
   show (if L[n]? = some true then n::TG T n (SW T n L) else TG T n (SW T n L)).reverse=_++List.filter (fun i=>decide ((SM T n (SW T n L))[i]? = some true)) [n]
   rw[show SM T (n+1) L=SM T n (SW T n L) from rfl,<-j]
   by_cases d:L[n]? = some true
   ·rw[if_pos d,Un]
    simp[hn,d]
   rw[if_neg d]
   simp[hn,d]
def ST (T:List Tm)(R:List Int):Bool:=R.all (fun r=>decide (0<=r/\r<(T.length:Int)))
def TU (T:List Tm)(R:List Int):List Bool:=SM T T.length (TO (List.replicate T.length false) R)
def SB (T:List Tm)(R:List Int):List Int:=if ST T R=true then ((List.range T.length).filter (fun i=>decide ((TU T R)[i]? = some true))).map (fun (i:Nat)=>(i:Int)) else []
theorem TP {S:List (List UInt8)}{num:Tm->Bool}{F:List Fn}{T:List Tm}(h:Gn S num F T=true):TM T/\T.length<=3000:=by
 unfold Gn at h;simp only[J3,Yi,Jt,Y5] at h;refine⟨fun i k hk=>?_,h.1.1⟩;unfold kidsAt at hk
 cases d:T[i]? with
 | none=>rw[d] at hk;cases hk
 | some t=>
   rw[d] at hk;have j:i<T.length:=(Zq.1 d).1;have:=h.2 i j;rw[d] at this;simp only[J3,Yi] at this;have h2:=this.1;unfold U6 at h2;simp only[J3] at h2;have h3:=h2.1.2;unfold Xp at h3;rw[Jt] at h3
   simpa using h3 k hk
end Go.Proofs.YtphhhciffpkojaaGreatDoor
namespace Go.Proofs
open Go.Shelf Go.Proofs.Tryz
def Tryz.laysR_ren:Go.Shelf.Ren:=⟨fun|112=>95|n=>n,fun|28=>52|3=>3|4=>4|0=>0|n=>n,fun|n=>n⟩
theorem Tryz.laysR:Go.Proofs.Lays.n112 prog Tryz.laysR_ren:=by constructor<;>first|kernel_rfl|(intros;first|rfl|kernel_rfl)
open Go.RowKit Go.Lib Go.Sort in
theorem Tryz.slices_ReverseR (blk off cap:Nat)(zs:List Int)(w:World)(hH:Holds (Value.int .i64) w blk off zs.toArray)(hsz:zs.length<=9223372036854775807) :
 Calls prog 95 #[.slice (some ⟨blk,off,none⟩) zs.length cap] w fun e w'=>e=.returned (.tuple #[])/\∃ n,w'=putRow (Value.int .i64) (Sort.ahead w n) blk off zs.reverse.toArray:=Any.slices_Reverse_int Tryz.laysR blk off cap zs w hH hsz
open Go.RowKit Go.Lib Go.Sort in
theorem Tryz.slices_ReverseR_empty (a:Option Addr)(cap:Nat)(w:World) :
 Calls prog 95 #[.slice a 0 cap] w fun e w'=>e=.returned (.tuple #[])/\w'=w:=Any.slices_Reverse_int_empty Tryz.laysR a cap w
end Go.Proofs
namespace Go.Proofs.YtphhhciffpkojaaGreatDoor
open ChangeShapes WideShapes ChangeAt RowKit Proofs.Tryz
variable {F:List Fn}{R:List Int}{S:List (List UInt8)}{T:List Tm}{base c g i:Nat}{vf vs vt:Value}{w:World}
theorem WV:(prog.info? 4).map (fun i=>(i.zero,i.size,i.bytes))=some (some (.bool false),1,1):=by kernel_rfl
theorem TB:∃ i:TypeInfo,prog.info? 4=some i/\i.zero=some (.bool false)/\i.size=1/\i.bytes=1:=info_parts WV
theorem TX {ops:Array Oper}{rest:List Oper}{o:Oper}{a:Act}{Q:Exit->Act->World->Prop}{W:World}{y:Int}{base n:Nat}{v:Value}{xs:List Value}(hgd:o.guard=none)(s x:Operand)
 (ho:o.op=.call { callee:=.builtin .append,args:=#[s,x],argTypes:=#[52,52] }) (hs:a.eval s=v) (hown:W.ownsRow base 3 1 v n xs)
 (H:Nat) (hx:a.eval x=.slice (some ⟨H,0,none⟩) 1 1) (hH:W.heap.size=H) (hn:n<=1000000000) (hbase:base<=W.heap.size)
 (h:∀ g cap W',W'.ownsRow base 3 1 (.slice (some ⟨g,0,none⟩) (n+1) cap) (n+1) (xs++[.int .i64 y])->(W.alloc (.cells #[.int .i64 y] 3)).grownBy W' v.ownBlock->wpList prog ops Q rest (a.put o.dst (.slice (some ⟨g,0,none⟩) (n+1) cap)) W') :
 wpList prog ops Q (o::rest) a (W.alloc (.cells #[.int .i64 y] 3)):=by
 subst hH;obtain⟨i0,d,j,A,E⟩:=Lp;refine wpList_append_lies _ hgd s x 52 ho base 3 i0 (.int .i64 0) 1 8 underlying52 d j A E rfl (by decide) v n xs hs (hown.alloc _) ⟨W.heap.size,0,none⟩ 1 1 [.int .i64 y] hx rfl
  (World.news_of_block (cs:=#[.int .i64 y]) (t:=3) (fr:=(0,0)) Vg) (by simp[Value.oneCell']) (by decide) (by unfold maxLen;omega) (by omega) (by simp;omega) _ rfl ?_
 intro g cap W' G h2 _ _;exact h g cap W' G h2
theorem WY {L:List Int}(w:World)(h:w.ownsRow base 3 1 (.slice (some ⟨g,0,none⟩) L.length c) L.length (Nx L)) :
 Calls prog 95 #[.slice (some ⟨g,0,none⟩) L.length c] w fun e w'=>e=.returned (.tuple #[])/\w'.ownsRow base 3 1 (.slice (some ⟨g,0,none⟩) L.length c) L.length (Nx L.reverse)/\Below base w w':=by
 have hb:=Ol h g rfl;have d:∀ j (hj:j<L.length),w.cell? ⟨g,j,none⟩=some (.int .i64 L[j]):=fun j hj=>X4 h (by unfold Nx;rw[Y6,Jd hj];rfl);have O:∀ j,w.frozen? ⟨g,j,none⟩=false:=fun j=>h.frozenAt j
 rcases h.2 with⟨K,_⟩|⟨Y,cap,A,V,I,E,M,h2,h3,h4⟩
 ·cases K
 cases V;refine (Tryz.slices_ReverseR g 0 c L w (fun j hj=>?_) (by unfold maxLen at h2;omega)).mono ?_
 ·have G:j<L.length:=by simpa using hj
  rw[Y8,d j G,O];simp[G]
 rintro e w' ⟨rfl,n,rfl⟩;have U:(Go.Sort.putRow (Value.int .i64) (Go.Sort.ahead w n) g 0 L.reverse.toArray).heap[g]? = some (.cells (Go.Sort.putCells (Value.int .i64) 0 L.reverse.toArray A) 3 (0,0)):=by
  show (w.heap.modify g _)[g]? = _
  rw[Array.getElem?_modify,if_pos rfl,E];rfl
 refine⟨rfl,⟨by simp[Nx],.inr ⟨g,c,_,rfl,I,U,M,h2,?_,?_⟩⟩,?_⟩
 ·simpa[Go.Sort.putCells] using h3
 ·apply List.ext_getElem?;intro j;rw[List.getElem?_take]
  by_cases hj:j<L.length
  ·rw[if_pos (by omega)];have J:j<A.size:=by omega
   simp[Go.Sort.putCells,Nx,hj,J]
  rw[if_neg (by omega)];simp[Nx,hj]
 refine⟨rfl,rfl,rfl,by show _<=(w.heap.modify g _).size;simp,fun b hb'=>?_⟩
 show (w.heap.modify g _)[b]? = _
 rw[Array.getElem?_modify,if_neg (by omega)]
theorem WZ {p:Option Addr}{L:List Int}(w:World)(h:w.ownsRow base 3 1 (.slice p L.length c) L.length (Nx L)) :
 Calls prog 95 #[.slice p L.length c] w fun e w'=>e=.returned (.tuple #[])/\w'.ownsRow base 3 1 (.slice p L.length c) L.length (Nx L.reverse)/\Below base w w':=by
 have d:=h
 rcases h.2 with⟨G,A⟩|⟨g,cap,j,E,_⟩
 ·have hl:L=[]:=Jw A;subst hl;refine (Tryz.slices_ReverseR_empty p c w).mono ?_;rintro e w' ⟨rfl,rfl⟩;exact⟨rfl,d,Je _ _⟩
 obtain⟨rfl,-,rfl⟩:p=some ⟨g,0,none⟩/\L.length=L.length/\c=cap:=by simpa using E
 exact WY w d
theorem TD {W W':World}{base2:Nat}{e1 e2:TypeId}{s1 s2:Nat}{v1 v2:Value}{n1 n2:Nat}{xs1 xs2:List Value}(h1:W.ownsRow base e1 s1 v1 n1 xs1)(h2:W.ownsRow base2 e2 s2 v2 n2 xs2)(hne:e1≠e2)(hg:W.grownBy W' v1.ownBlock):W'.ownsRow base2 e2 s2 v2 n2 xs2:=by
 refine own_other' h2 fun g hg2=>hg.block g (h2.lt g hg2).2 ?_;intro e;obtain⟨c1,f1,d⟩:=Kp h1 g e.symm;obtain⟨c2,f2,k2⟩:=Kp h2 g hg2;rw[d] at k2
 cases k2
 exact hne rfl
theorem WH {W:World}{base2 n1:Nat}{e1 e2:TypeId}{s1 s2:Nat}{v2 x:Value}{n2:Nat}{xs1 xs2:List Value}(h1:W.ownsRow base e1 s1 (.slice (some ⟨g,0,none⟩) n1 c) n1 xs1)(h2:W.ownsRow base2 e2 s2 v2 n2 xs2)(hne:e1≠e2):(W.setCell ⟨g,i,none⟩ x).ownsRow base2 e2 s2 v2 n2 xs2:=by
 refine own_other' h2 fun g' hg2=>Jh W ⟨g,i,none⟩ x g' ?_;intro e;obtain⟨c1,f1,d⟩:=Kp h1 g rfl;obtain⟨c2,f2,k2⟩:=Kp h2 g' hg2;rw[show g'=g from e,d] at k2
 cases k2
 exact hne rfl
def SJ (L:List Bool):List Value:=L.map .bool
theorem TZ (L:List Bool)(m:Nat):(SJ L).set m (.bool true)=SJ (L.set m true):=by
 unfold SJ;rw[List.map_set]
theorem TH (n:Nat):(madeCells #[Value.bool false] n).toList=SJ (List.replicate n false):=by
 unfold SJ;apply List.ext_getElem?;intro j
 by_cases d:j<n
 ·simp[madeCells,d,Nat.mod_one]
 simp[madeCells,d]
theorem TN {n:Nat}{L:List Bool}(h:w.ownsRow base 4 1 (.slice (some ⟨g,0,none⟩) n c) n (SJ L))(hi:i<L.length):w.cell? ⟨g,i,none⟩=some (.bool L[i]):=X4 h (by unfold SJ;rw[Y6,Jd hi];rfl)
theorem TL (h:i<R.length)(hb:¬ (0<=R[i]/\R[i]<(T.length:Int))):SB T R=[]:=by
 unfold SB;rw[if_neg];intro d;unfold ST at d;rw[Jt] at d;exact hb (by simpa using d _ (Jo h))
theorem TI (h:∀ r∈R,0<=r/\r<(T.length:Int)):ST T R=true:=by
 unfold ST;rw[Jt];intro r d
 simpa using h r d
theorem TQ (vt vr:Value)(T:List Tm)(R:List Int)(w:World)(ht:K9 w vt T)(hr:Kg w vr R)(hT:T.length<=3000)(hA:TM T) :
 Calls prog 67 #[vt,vr] w fun e w'=>∃ v,e=.returned v/\w'.ownsRow w.heap.size 3 1 v (SB T R).length (Nx (SB T R))/\Up w w':=by
 obtain⟨pt,ct,rfl,l6,j7,A⟩:=ht;obtain⟨pr,cr,rfl,l7,j8,b6⟩:=hr;unfold maxLen at j7 j8;obtain⟨i0,g1,k9,l0,l1⟩:=TB;have j1:=Hd A;have e7:=Hd b6;have e1:=Hd hA;clear A b6 hA
 go_in
 go_wp2_with (at_make;refine wpList_make_full _ rfl _ _ 99 rfl w.heap.size 4 i0 (.bool false) 1 underlying99 g1 k9 l0 .i64 .i64 _ _ T.length rfl rfl (by simp) (by simp) (by rw[l1];omega) (by unfold maxLen;omega) leR ?_)
 intro w1 I f9;have g9:Hid (Up w w1):=(Je _ _).grown f9 leR (fun k e=>by cases e);rw[TH] at I;have i6:=Hd I;clear I f9
 go_wp2
 go_loopw [17] (fun iv wr=>∃ i:Nat,i<=R.length/\iv=.int .i64 (i:Nat)/\(∀ r∈R.take i,0<=r/\r<(T.length:Int))/\wr.ownsRow w.heap.size 4 1 (.slice (some ⟨w.heap.size,0,none⟩) T.length T.length) T.length (SJ (TO (List.replicate T.length false) (R.take i)))/\Up w wr) (fun iv _=>R.length - (intOf iv).toNat)
 case atStart=>exact⟨0,Jr _,rfl,fun r hr=>by simp at hr,i6.o,g9.o⟩
 obtain⟨i,hi,rfl,g3,E,hB⟩:=hrel;have d4:=Hd g3;have HO:=Hd E;have HB:=Hd hB;clear g3 E hB
 by_cases O:i<R.length
 ·obtain⟨b,rfl,hb,d⟩:∃ b,pr=some ⟨b,0,none⟩/\b<w.heap.size/\∀ i (h:i<R.length),w.cell? ⟨b,i,none⟩=some (.int .i64 R[i]):=by
   rcases e7.o with h|h
   ·rw[h] at O;cases O
   exact h
  have k0:=(HB.o.cell (p:=⟨b,i,none⟩) hb).trans (d i O);obtain⟨r,d7⟩:=Oa (R[i]);have d5:=Hd d7;rw[d7] at k0;clear d d7
  by_cases h1:r<0
  ·have y1:decide (r<0)=true:=Ja h1;have HE:Hid (SB T R=[]):=TL O (by rw[d5.o];omega)
   go_wp2
   go_ret
   exact⟨_,rfl,by rw[HE.o];exact⟨rfl,.inl ⟨rfl,rfl⟩⟩,HB.o⟩
  have y1:decide (r<0)=false:=Jc h1
  by_cases h2:(T.length:Int)<=r
  ·have y2:decide ((T.length:Int)<=r)=true:=Ja h2;have HE:Hid (SB T R=[]):=TL O (by rw[d5.o];omega)
   go_wp2
   go_ret
   exact⟨_,rfl,by rw[HE.o];exact⟨rfl,.inl ⟨rfl,rfl⟩⟩,HB.o⟩
  have y2:decide ((T.length:Int)<=r)=false:=Jc h2;obtain⟨m,rfl⟩:∃ m:Nat,r=(m:Int):=⟨r.toNat,by omega⟩;have hm:m<T.length:=by omega
  obtain⟨x1,k1⟩:=I5 HO.o m (by omega);have f1:=HO.o.frozenAt m;have d3:=Hd (HO.o.stored m (.bool true)).1
  go_wp2
  go_roundw
  case rel=>
   have et:R.take (i+1)=R.take i++[(m:Int)]:=by rw[List.take_add_one,Jd O,d5.o];rfl
   refine⟨i+1,by omega,by go_num,fun r hr=>?_,?_,HB.o.sc⟩
   ·rw[et,Zm,Zv] at hr
    rcases hr with hr|rfl
    ·exact d4.o r hr
    omega
   have:=d3.o;rw[TZ] at this;rw[et,TV];exact this
  simp[intOf];omega
 obtain rfl:i=R.length:=by omega
 have i8:Hid (ST T R=true):=TI (by have:=d4.o;rwa [Yk] at this);have hO:=HO.o;rw[Yk] at hO;obtain⟨L0,b9⟩:=Oa (TO (List.replicate T.length false) R);have i1:Hid (L0.length=T.length):=by unfold Hid;rw[<-b9,TY,Ul]
 have e5:Hid (SB T R=((TG T T.length L0).reverse).map (fun (i:Nat)=>(i:Int))):=by
  unfold Hid SB TU;rw[if_pos i8.o,b9,WK e1.o]
 rw[b9] at hO;have e6:=Hd hO;clear hO HO d4 e7 b9
 go_wp2
 go_loopw [8,9] (fun rv iv wq=>∃ (i:Nat) (L:List Bool) (C:List Int),i<=T.length/\iv=.int .i64 ((i:Int) - 1)/\L.length=T.length/\C.length+i<=T.length/\C++(TG T i L).map (fun (i:Nat)=>(i:Int))=(TG T T.length L0).map (fun (i:Nat)=>(i:Int))/\(∃ p c,rv=.slice p C.length c)/\wq.ownsRow w.heap.size 4 1 (.slice (some ⟨w.heap.size,0,none⟩) T.length T.length) T.length (SJ L)/\wq.ownsRow w.heap.size 3 1 rv C.length (Nx C)/\Up w wq) (fun _ iv _=>(intOf iv+1).toNat)
 case atStart=>exact⟨T.length,L0,[],leR,rfl,i1.o,by simp,rfl,⟨_,_,rfl⟩,e6.o,⟨rfl,.inl ⟨rfl,rfl⟩⟩,HB.o⟩
 obtain⟨i,L,C,hi,rfl,f5,l5,d1,⟨pc,cc,rfl⟩,E,b3,hB⟩:=hrel;have J:=Hd d1;have HO:=Hd E;have HC:=Hd b3;have V:=Hd hB;clear d1 E b3 hB HB e6
 cases i with
 | zero=>
   have y0:decide ((0:Int)<=((0:Nat):Int) - 1)=false:=by decide
   have HR:Hid (SB T R=C.reverse):=by
    have:=J.o;unfold Hid;rw[e5.o,List.map_reverse,<-this];simp[TG]
   clear J
   go_wp2_with fail
   refine (WZ _ HC.o).mono ?_;rintro e w5 ⟨rfl,g2,f8⟩;have b8:=Hd g2;have U:Hid (Up w w5):=V.o.trans f8;clear g2 f8
   go_wp2
   go_ret
   exact⟨_,rfl,by rw[HR.o,Ub];exact b8.o,U.o⟩
 | succ i=>
   have ei:(((i+1:Nat):Int) - 1)=(i:Int):=by omega
   rw[ei];have g0:i<L.length:=by omega
   have c8:i<T.length:=by omega
   have k1:=TN HO.o g0;have G:L[i]? = some L[i]:=Jd g0
   cases c6:L[i] with
   | false=>
     rw[c6] at k1 G;have HS:Hid (TG T (i+1) L=TG T i L):=by
      unfold Hid
      show (if L[i]? = some true then _ else _)=_
      rw[G,if_neg (by simp)];unfold SW;rw[G,if_neg (by simp)]
     clear G c6 ei
     go_wp2
     go_roundw
     case rel=>exact⟨i,L,C,by omega,by go_num,f5,by omega,by rw[<-HS.o];exact J.o,⟨_,_,rfl⟩,HO.o,HC.o,V.o⟩
     simp[intOf]
   | true=>
     rw[c6] at k1 G;obtain⟨b,rfl,hb,A⟩:∃ b,pt=some ⟨b,0,none⟩/\b<w.heap.size/\∃ va,w.cell? ⟨b,i*6+5,none⟩=some va/\Kg w va T[i].kids:=by
      rcases j1.o with h|⟨b,e,hb,h⟩
      ·rw[h] at c8;cases c8
      exact⟨b,e,hb,(h i c8).2.2.2.2.2⟩
     obtain⟨va,d8,pk,ck,rfl,j9,k7,Z⟩:=A;obtain⟨K,hK⟩:=Oa (T[i].kids);have d6:kidsAt T i=K:=by unfold kidsAt;rw[Jd c8];exact hK
     have h7:Hid (∀ k∈K,0<=k/\k<(i:Int)):=by rw[<-d6];exact e1.o i
     have HS:Hid (TG T (i+1) L=i::TG T i (TO L K)):=by
      unfold Hid
      show (if L[i]? = some true then _ else _)=_
      unfold SW;rw[G,if_pos rfl,if_pos rfl,d6]
     rw[hK] at d8 j9 Z;have h8:=Hd Z;have j2:=Hd d8;unfold maxLen at k7;clear G c6 ei hK d6 Z d8;have k8:=V.o.size
     go_wp2_with (at_builtin;refine TX (n:=C.length) (base:=w.heap.size) (xs:=Nx C) (y:=(i:Int)) rfl _ _ rfl rfl ?own2 _ rfl ?hH2 ?hn2 ?hb2 ?_)
     case own2=>exact HC.o
     case hH2=>rfl
     case hn2=>omega
     case hb2=>omega
     intro g5 c5 w5 a8 Y;have b8:=Hd (TD (HC.o.alloc _) (HO.o.alloc _) (by decide) Y);have e3:Hid (w5.ownsRow w.heap.size 3 1 (.slice (some ⟨g5,0,none⟩) (C.length+1) c5) (C.length+1) (Nx (C++[(i:Int)]))):=by
      unfold Hid;rw[show Nx (C++[(i:Int)])=Nx C++[.int .i64 (i:Int)] by simp[Nx]];exact a8
     have U:Hid (Up w w5):=(V.o.alloc k8 _).grown Y (by simp;omega) (fun k e=>by have:=(HC.o.lt k e).1;omega);have a5:=(U.o.cell (p:=⟨b,i*6+5,none⟩) hb).trans j2.o;clear a8 Y k1 HO HC V
     go_wp2
     go_loopw [55] (fun jv wz=>∃ j:Nat,j<=K.length/\jv=.int .i64 (j:Nat)/\wz.ownsRow w.heap.size 4 1 (.slice (some ⟨w.heap.size,0,none⟩) T.length T.length) T.length (SJ (TO L (K.take j)))/\wz.ownsRow w.heap.size 3 1 (.slice (some ⟨g5,0,none⟩) (C.length+1) c5) (C.length+1) (Nx (C++[(i:Int)]))/\Up w wz) (fun jv _=>K.length - (intOf jv).toNat)
     case atStart=>exact⟨0,Jr _,rfl,b8.o,e3.o,U.o⟩
     obtain⟨j,hj,rfl,b5,b4,e9⟩:=hrel;have M:=Hd b5;have e4:=Hd b4;have d2:=Hd e9;clear b5 b4 e9 b8 e3 U a5
     by_cases a7:j<K.length
     ·obtain⟨bk,rfl,j6,d⟩:∃ b,pk=some ⟨b,0,none⟩/\b<w.heap.size/\∀ i (h:i<K.length),w.cell? ⟨b,i,none⟩=some (.int .i64 K[i]):=by
       rcases h8.o with h|h
       ·rw[h] at a7;cases a7
       exact h
      have k0:=(d2.o.cell (p:=⟨bk,j,none⟩) j6).trans (d j a7);have hr:=h7.o _ (Jo a7);obtain⟨m,hm⟩:∃ m:Nat,K[j]=(m:Int):=⟨K[j].toNat,by omega⟩;have h9:=Hd hm;rw[hm] at k0 hr;have l9:m<T.length:=by omega
      obtain⟨x1,k1⟩:=I5 M.o m (by omega);have f1:=M.o.frozenAt m;have d3:=Hd (M.o.stored m (.bool true)).1;have h0:=Hd (WH (i:=m) (x:=.bool true) M.o e4.o (by decide));clear d hm
      go_wp2
      go_roundw
      case rel=>
       have et:K.take (j+1)=K.take j++[(m:Int)]:=by rw[List.take_add_one,Jd a7,h9.o];rfl
       refine⟨j+1,by omega,by go_num,?_,h0.o,d2.o.sc⟩;have:=d3.o;rw[TZ] at this;rw[et,TV];exact this
      simp[intOf];omega
     obtain rfl:j=K.length:=by omega
     have hO:=M.o;rw[Yk] at hO;have i7:=Hd hO;clear hO M
     go_wp2
     go_roundw
     case rel=>
      refine⟨i,TO L K,C++[(i:Int)],by omega,by go_num,by rw[TY];exact f5,by rw[Yn];simp;omega,?_,⟨some ⟨g5,0,none⟩,c5,by rw[Yn];rfl⟩,i7.o,by rw[Yn];exact e4.o,d2.o⟩;have:=J.o;rw[HS.o,Vh] at this;rw[<-this,List.append_assoc];rfl
     simp[intOf]
theorem TR (h:BankAt w vs vf vt S F T)(hz:BankZ S F T)(hv:Vars w) :
 Calls prog 12 #[.agg #[vs,vf,vt]] w fun e w'=>e=.returned (.bool (Hf S Gt F T))/\Up w w':=by
 obtain⟨Y,c1,J,-,-,-⟩:=h.s;obtain⟨Z,c2,e2,-,-,-⟩:=h.f;obtain⟨p3,c3,K,-,-,-⟩:=h.t;have d:Hid (Up w (w.alloc (.cells #[vs,vf,vt] 32))):=Oz _ _;have I:=Hd (DK (h.bl d.o) hz (hv.bl d.o));subst J e2 K;clear h hz hv
 go_in
 go_wp2_with fail
 refine I.o.mono ?_;rintro e M (⟨A,rfl,hb⟩|⟨A,V,sb,O,tb,U,n,vS,vF,vT,bF,rfl,-,j⟩)
 ·have G:=Hd A;have E:=d.up hb;clear A hb I
  go_wp2
  go_ret
  exact⟨Oy G.o.symm,E.o⟩
 have G:=Hd A;have E:Hid (Up w M):=d.o.trans (j.low.mono d.o.size);clear A j I
 go_wp2
 go_ret
 exact⟨Oy G.o.symm,E.o⟩
def SA (S:List (List UInt8))(F:List Fn)(T:List Tm)(R:List Int):List Int:=if Gn S Gt F T=true then SB T R else []
theorem TE {vr:Value}(h:BankAt w vs vf vt S F T)(hz:BankZ S F T)(hv:Vars w)(hr:Kg w vr R) :
 Calls prog 34 #[.agg #[vs,vf,vt],vr] w fun e w'=>∃ v,e=.returned v/\w'.ownsRow w.heap.size 3 1 v (SA S F T R).length (Nx (SA S F T R))/\Up w w':=by
 obtain⟨p1,c1,e1,-,-,-⟩:=h.s;obtain⟨p2,c2,e2,-,-,-⟩:=h.f;obtain⟨p3,c3,e3,-,-,-⟩:=h.t;have A:Hid (Up w (w.alloc (.cells #[vs,vf,vt] 32))):=Oz _ _;have E:Hid (Bx (w.alloc (.cells #[vs,vf,vt] 32)) w.heap.size [vs,vf,vt]):=Oi w _ _;have J:=Hd (TR (h.bl A.o) hz (hv.bl A.o));have K:=Hd h.t;have Z:=Hd hr;rw[Li] at J;obtain⟨p4,c4,rfl,-,-,-⟩:=hr;subst e1 e2 e3;clear h hz hv;obtain⟨b0,b1,b2⟩:=E.o.c3
 go_in
 go_wp2_with fail
 clear b0 b1 b2;refine J.o.mono ?_;rintro e w2 ⟨rfl,hb2⟩;have d:=A.up hb2;have M:=Hd (E.o.bl E.o.lt hb2);obtain⟨b0,b1,b2⟩:=M.o.c3;clear hb2 J
 cases j:Gn S Gt F T with
 | false=>
   have I:Hid (SA S F T R=[]):=by unfold Hid SA;rw[j];rfl
   go_wp2
   go_ret
   exact⟨_,rfl,by rw[I.o];exact⟨rfl,.inl ⟨rfl,rfl⟩⟩,d.o⟩
 | true=>
   have I:Hid (SA S F T R=SB T R):=by unfold Hid SA;rw[j];rfl
   obtain⟨O,hT⟩:=TP j;have G:=Hd (TQ _ _ T R w2 (K.o.bl d.o) (Z.o.bl d.o) hT O);clear j O
   go_wp2_with fail
   refine G.o.mono ?_;rintro e w3 ⟨v,rfl,U,hb⟩;have Y:=Hd (Kh U d.o.size);have V:=d.up hb;clear U hb G
   go_wp2
   go_ret
   exact⟨_,rfl,by rw[I.o];exact Y.o,V.o⟩
theorem TK (h:i<R.length)(hb:¬ (0<=R[i]/\R[i]<(T.length:Int))):ST T R=false:=by
 rw[J8];intro d;unfold ST at d;rw[Jt] at d;exact hb (by simpa using d _ (Jo h))
theorem TW {b:Nat}{l:List Value}(h:Bx w g l)(hne:g≠b)(i:Nat)(v:Value):Bx (w.setCell ⟨b,i,none⟩ v) g l:=by
 obtain⟨j,d⟩:=h;exact⟨j,(Jh w ⟨b,i,none⟩ v g hne).trans d⟩
theorem WN (vs vf vt vr:Value)(T:List Tm)(R:List Int)(w:World)(hs:∃ p n c,vs=.slice p n c)(hf:∃ p n c,vf=.slice p n c)(ht:K9 w vt T)(hr:Kg w vr R)(_hT:T.length<=3000) :
 Calls prog 65 #[.agg #[vs,vf,vt],vr] w fun e w'=>e=.returned (.bool (ST T R))/\Up w w':=by
 obtain⟨p1,Y,c1,rfl⟩:=hs;obtain⟨p2,Z,c2,rfl⟩:=hf;obtain⟨pt,V,rfl,b9,b5,-⟩:=ht;obtain⟨pr,cr,rfl,c6,b6,E⟩:=hr;unfold maxLen at b5 b6;have b4:=Hd E;have j:Hid (Up w (w.alloc (.cells #[.slice p1 Y c1,.slice p2 Z c2,.slice pt T.length V] 32))):=Oz _ _;have M:Hid (Bx (w.alloc (.cells #[.slice p1 Y c1,.slice p2 Z c2,.slice pt T.length V] 32)) w.heap.size [.slice p1 Y c1,.slice p2 Z c2,.slice pt T.length V]):=Oi w _ _;clear E
 go_in
 go_wp2_with fail
 obtain⟨W1,O⟩:=Oa (w.alloc (.cells #[.slice p1 Y c1,.slice p2 Z c2,.slice pt T.length V] 32));rw[O] at j M ⊢;clear O
 go_loopw [9] (fun iv wr=>∃ i:Nat,i<=R.length/\iv=.int .i64 (i:Nat)/\(∀ r∈R.take i,0<=r/\r<(T.length:Int))/\wr=W1) (fun iv _=>R.length - (intOf iv).toNat)
 case atStart=>exact⟨0,Jr _,rfl,fun r hr=>by simp at hr,rfl⟩
 obtain⟨i,hi,rfl,U,rfl⟩:=hrel;have K:=Hd U;clear U
 by_cases d:i<R.length
 ·obtain⟨b,rfl,hb,A⟩:∃ b,pr=some ⟨b,0,none⟩/\b<w.heap.size/\∀ i (h:i<R.length),w.cell? ⟨b,i,none⟩=some (.int .i64 R[i]):=by
   rcases b4.o with h|h
   ·rw[h] at d;cases d
   exact h
  have k0:=(j.o.cell (p:=⟨b,i,none⟩) hb).trans (A i d);obtain⟨r,I⟩:=Oa (R[i]);have G:=Hd I;rw[I] at k0;have b2:=M.o.c3.2.2;clear A I
  by_cases h1:r<0
  ·have y1:decide (r<0)=true:=Ja h1;have J:Hid (ST T R=false):=TK d (by rw[G.o];omega)
   go_wp2
   go_ret
   exact⟨Oy J.o.symm,j.o⟩
  have y1:decide (r<0)=false:=Jc h1
  by_cases h2:(T.length:Int)<=r
  ·have y2:decide ((T.length:Int)<=r)=true:=Ja h2;have J:Hid (ST T R=false):=TK d (by rw[G.o];omega)
   go_wp2
   go_ret
   exact⟨Oy J.o.symm,j.o⟩
  have y2:decide ((T.length:Int)<=r)=false:=Jc h2
  go_wp2
  go_roundw
  case rel=>
   refine⟨i+1,by omega,by go_num,fun r' hr=>?_,trivial⟩;rw[List.take_add_one,Jd d,G.o,Zm] at hr
   rcases hr with hr|hr
   ·exact K.o r' hr
   obtain rfl:r'=r:=by simpa using hr
   omega
  simp[intOf];omega
 obtain rfl:i=R.length:=by omega
 have J:Hid (ST T R=true):=TI (by have:=K.o;rwa [Yk] at this)
 go_wp2
 go_ret
 exact⟨Oy J.o.symm,j.o⟩
theorem TJ (vs vf vt vr:Value)(T:List Tm)(R:List Int)(w:World)(hs:∃ p n c,vs=.slice p n c)(hf:∃ p n c,vf=.slice p n c)(ht:K9 w vt T)(hr:Kg w vr R)(hT:T.length<=3000)(hA:TM T)(hR:ST T R=true) :
 Calls prog 66 #[.agg #[vs,vf,vt],vr] w fun e w'=>∃ g,e=.returned (.slice (some ⟨g,0,none⟩) T.length T.length)/\w'.ownsRow w.heap.size 4 1 (.slice (some ⟨g,0,none⟩) T.length T.length) T.length (SJ (TU T R))/\Up w w':=by
 obtain⟨p1,n1,c1,rfl⟩:=hs;obtain⟨p2,n2,c2,rfl⟩:=hf;obtain⟨pt,ct,rfl,k8,j0,A⟩:=ht;obtain⟨pr,cr,rfl,k9,j1,a8⟩:=hr;unfold maxLen at j0 j1;obtain⟨i0,g0,j5,j6,j7⟩:=TB;have h8:=Hd A;have e5:=Hd a8;have g3:=Hd hA;have h6:Hid (∀ r∈R,0<=r/\r<(T.length:Int)):=fun r hr=>by
  unfold ST at hR;rw[Jt] at hR
  simpa using hR r hr
 have e1:Hid (Up w (w.alloc (.cells #[.slice p1 n1 c1,.slice p2 n2 c2,.slice pt T.length ct] 32))):=Oz _ _;have c8:Hid (Bx (w.alloc (.cells #[.slice p1 n1 c1,.slice p2 n2 c2,.slice pt T.length ct] 32)) w.heap.size [.slice p1 n1 c1,.slice p2 n2 c2,.slice pt T.length ct]):=Oi w _ _;clear a8 A hA hR;have hb2:=c8.o.c3.2.2
 go_in
 go_wp2_with (at_make;refine wpList_make_full _ rfl _ _ 99 rfl w.heap.size 4 i0 (.bool false) 1 underlying99 g0 j5 j6 .i64 .i64 _ _ T.length rfl rfl (by simp) (by simp) (by rw[j7];omega) (by unfold maxLen;omega) (by simp) ?_)
 intro w1 G d3;have g4:Hid (Up w w1):=e1.o.grown d3 e1.o.size (fun k e=>by cases e);have h9:Hid (Bx w1 w.heap.size [.slice p1 n1 c1,.slice p2 n2 c2,.slice pt T.length ct]):=by
  obtain⟨ty,hh⟩:=c8.o;exact⟨ty,(d3.block _ c8.o.lt (by simp)).trans hh⟩
 rw[TH] at G;have g9:=Hd G;clear G d3 hb2
 go_wp2
 go_loopw [17] (fun iv wr=>∃ i:Nat,i<=R.length/\iv=.int .i64 (i:Nat)/\Bx wr w.heap.size [.slice p1 n1 c1,.slice p2 n2 c2,.slice pt T.length ct]/\wr.ownsRow w.heap.size 4 1 (.slice (some ⟨w.heap.size+1,0,none⟩) T.length T.length) T.length (SJ (TO (List.replicate T.length false) (R.take i)))/\Up w wr) (fun iv _=>R.length - (intOf iv).toNat)
 case atStart=>exact⟨0,Jr _,rfl,h9.o,g9.o,g4.o⟩
 obtain⟨i,hi,rfl,hX,E,hB⟩:=hrel;have HX:=Hd hX;have O:=Hd E;have HB:=Hd hB;clear hX E hB
 by_cases Z:i<R.length
 ·obtain⟨b,rfl,hb,d⟩:∃ b,pr=some ⟨b,0,none⟩/\b<w.heap.size/\∀ i (h:i<R.length),w.cell? ⟨b,i,none⟩=some (.int .i64 R[i]):=by
   rcases e5.o with h|h
   ·rw[h] at Z;cases Z
   exact h
  have k0:=(HB.o.cell (p:=⟨b,i,none⟩) hb).trans (d i Z);have hr:=h6.o _ (Jo Z);obtain⟨m,hm⟩:∃ m:Nat,R[i]=(m:Int):=⟨R[i].toNat,by omega⟩;have h1:=Hd hm;rw[hm] at k0 hr;have j4:m<T.length:=by omega
  obtain⟨x1,k1⟩:=I5 O.o m (by omega);have f1:=O.o.frozenAt m;have c6:=Hd (O.o.stored m (.bool true)).1;have d0:=Hd (TW HX.o (show w.heap.size≠w.heap.size+1 by omega) m (.bool true));clear d hm
  go_wp2
  go_roundw
  case rel=>
   have et:R.take (i+1)=R.take i++[(m:Int)]:=by rw[List.take_add_one,Jd Z,h1.o];rfl
   refine⟨i+1,by omega,by go_num,d0.o,?_,HB.o.setCell (p:=⟨w.heap.size+1,m,none⟩) (Y4 _) _⟩;have:=c6.o;rw[TZ] at this;rw[et,TV];exact this
  simp[intOf];omega
 obtain rfl:i=R.length:=by omega
 have hO:=O.o;rw[Yk] at hO;obtain⟨L0,b3⟩:=Oa (TO (List.replicate T.length false) R);have g8:Hid (L0.length=T.length):=by unfold Hid;rw[<-b3,TY,Ul]
 have e3:Hid (TU T R=SM T T.length L0):=by unfold Hid TU;rw[b3]
 rw[b3] at hO;have e4:=Hd hO;clear hO O e5 b3
 go_wp2
 go_loopw [8] (fun iv wr=>∃ (i:Nat) (L:List Bool),i<=T.length/\iv=.int .i64 ((i:Int) - 1)/\L.length=T.length/\SM T i L=SM T T.length L0/\Bx wr w.heap.size [.slice p1 n1 c1,.slice p2 n2 c2,.slice pt T.length ct]/\wr.ownsRow w.heap.size 4 1 (.slice (some ⟨w.heap.size+1,0,none⟩) T.length T.length) T.length (SJ L)/\Up w wr) (fun iv _=>(intOf iv+1).toNat)
 case atStart=>exact⟨T.length,L0,leR,rfl,g8.o,rfl,HX.o,e4.o,HB.o⟩
 obtain⟨i,L,hi,rfl,e9,b8,hX,E,hB⟩:=hrel;clear HX e4 HB;have I:=Hd b8;have HX:=Hd hX;have O:=Hd E;have M:=Hd hB;clear b8 E hX hB
 cases i with
 | zero=>
   have y0:decide ((0:Int)<=((0:Nat):Int) - 1)=false:=by decide
   have HR:Hid (TU T R=L):=e3.o.trans I.o.symm;clear I
   go_wp2
   go_ret
   exact⟨_,rfl,by rw[HR.o];exact O.o,M.o⟩
 | succ i=>
   have ei:(((i+1:Nat):Int) - 1)=(i:Int):=by omega
   rw[ei];have f9:i<L.length:=by omega
   have b5:i<T.length:=by omega
   have k1:=TN O.o f9;have J:L[i]? = some L[i]:=Jd f9
   cases b4:L[i] with
   | false=>
     rw[b4] at k1 J;have HS:Hid (SM T (i+1) L=SM T i L):=by
      unfold Hid
      show SM T i (SW T i L)=_
      unfold SW;rw[J,if_neg (by simp)]
     clear J b4 ei
     go_wp2
     go_roundw
     case rel=>exact⟨i,L,by omega,by go_num,e9,by rw[<-HS.o];exact I.o,HX.o,O.o,M.o⟩
     simp[intOf]
   | true=>
     rw[b4] at k1 J;obtain⟨b,rfl,hb,A⟩:∃ b,pt=some ⟨b,0,none⟩/\b<w.heap.size/\∃ va,w.cell? ⟨b,i*6+5,none⟩=some va/\Kg w va T[i].kids:=by
      rcases h8.o with h|⟨b,e,hb,h⟩
      ·rw[h] at b5;cases b5
      exact⟨b,e,hb,(h i b5).2.2.2.2.2⟩
     obtain⟨va,d5,pk,ck,rfl,j2,j3,V⟩:=A;obtain⟨K,hK⟩:=Oa (T[i].kids);have d2:kidsAt T i=K:=by unfold kidsAt;rw[Jd b5];exact hK
     have g5:Hid (∀ k∈K,0<=k/\k<(i:Int)):=by rw[<-d2];exact g3.o i
     have HS:Hid (SM T (i+1) L=SM T i (TO L K)):=by
      unfold Hid
      show SM T i (SW T i L)=_
      unfold SW;rw[J,if_pos rfl,d2]
     rw[hK] at d5 j2 V;have g6:=Hd V;have a5:=(M.o.cell (p:=⟨b,i*6+5,none⟩) hb).trans d5;have b2:=HX.o.c3.2.2;unfold maxLen at j3;clear J b4 ei hK d2 V d5
     go_wp2_with fail
     clear b2 a5 k1
     go_loopw [43] (fun jv wz=>∃ j:Nat,j<=K.length/\jv=.int .i64 (j:Nat)/\Bx wz w.heap.size [.slice p1 n1 c1,.slice p2 n2 c2,.slice (some ⟨b,0,none⟩) T.length ct]/\wz.ownsRow w.heap.size 4 1 (.slice (some ⟨w.heap.size+1,0,none⟩) T.length T.length) T.length (SJ (TO L (K.take j)))/\Up w wz) (fun jv _=>K.length - (intOf jv).toNat)
     case atStart=>exact⟨0,Jr _,rfl,HX.o,O.o,M.o⟩
     obtain⟨j,hj,rfl,f8,a7,e8⟩:=hrel;have U:=Hd a7;have e6:=Hd f8;have b9:=Hd e8;clear a7 f8 e8 HX O M
     by_cases Y:j<K.length
     ·obtain⟨bk,rfl,i8,d⟩:∃ b,pk=some ⟨b,0,none⟩/\b<w.heap.size/\∀ i (h:i<K.length),w.cell? ⟨b,i,none⟩=some (.int .i64 K[i]):=by
       rcases g6.o with h|h
       ·rw[h] at Y;cases Y
       exact h
      have k0:=(b9.o.cell (p:=⟨bk,j,none⟩) i8).trans (d j Y);have hr:=g5.o _ (Jo Y);obtain⟨m,hm⟩:∃ m:Nat,K[j]=(m:Int):=⟨K[j].toNat,by omega⟩;have g7:=Hd hm;rw[hm] at k0 hr;have j4:m<T.length:=by omega
      obtain⟨x1,k1⟩:=I5 U.o m (by omega);have f1:=U.o.frozenAt m;have c6:=Hd (U.o.stored m (.bool true)).1;have d0:=Hd (TW e6.o (show w.heap.size≠w.heap.size+1 by omega) m (.bool true));clear d hm
      go_wp2
      go_roundw
      case rel=>
       have et:K.take (j+1)=K.take j++[(m:Int)]:=by rw[List.take_add_one,Jd Y,g7.o];rfl
       refine⟨j+1,by omega,by go_num,d0.o,?_,b9.o.setCell (p:=⟨w.heap.size+1,m,none⟩) (Y4 _) _⟩;have:=c6.o;rw[TZ] at this;rw[et,TV];exact this
      simp[intOf];omega
     obtain rfl:j=K.length:=by omega
     have hO:=U.o;rw[Yk] at hO;have h0:=Hd hO;clear hO U
     go_wp2
     go_roundw
     case rel=>exact⟨i,TO L K,by omega,by go_num,by rw[TY];exact e9,by rw[<-HS.o];exact I.o,e6.o,h0.o,b9.o⟩
     simp[intOf]
theorem TT {vr:Value}(h:BankAt w vs vf vt S F T)(hz:BankZ S F T)(hvs:∃ ad n c,vs=.slice (some ad) n c)(hr:Kg w vr R) :
 Calls prog 32 #[.agg #[vs,vf,vt],vr] w fun e w'=>∃ v,e=.returned v/\w'.ownsRow w.heap.size 3 1 v (SA S F T R).length (Nx (SA S F T R))/\Up w w':=by
 have b6:Hid (Up w (w.alloc (.cells #[vs,vf,vt] 32))):=Oz _ _;have M:Hid (Bx (w.alloc (.cells #[vs,vf,vt] 32)) w.heap.size [vs,vf,vt]):=Oi w _ _;have HG:=Hd (Lh (h.bl b6.o) hz hvs);have b9:=Hd h.t;have HR:=Hd hr;have c8:Hid (∃ p n c,vs=.slice p n c):=by obtain⟨a,n,c,e⟩:=hvs;exact⟨_,n,c,e⟩
 have c6:Hid (∃ p n c,vf=.slice p n c):=by obtain⟨p,c,e,_⟩:=h.f;exact⟨p,_,c,e⟩
 obtain⟨p1,c1,e1,-,-,-⟩:=h.s;obtain⟨p2,c2,e2,-,-,-⟩:=h.f;obtain⟨p3,c3,e3,-,-,-⟩:=h.t;obtain⟨p4,c4,rfl,-,-,-⟩:=hr;subst e1 e2 e3;clear h hz hvs;obtain⟨b0,b1,b2⟩:=M.o.c3
 go_in
 go_wp2_with fail
 clear b0 b1 b2;refine HG.o.mono ?_;rintro e w2 ⟨rfl,hb2⟩;have J:=b6.up hb2;have O:=Hd (M.o.bl M.o.lt hb2);obtain⟨b0,b1,b2⟩:=O.o.c3;clear hb2 HG
 cases V:Gn S Gt F T with
 | false=>
   have HE:Hid (SA S F T R=[]):=by unfold Hid SA;rw[V];rfl
   go_wp2
   go_ret
   exact⟨_,rfl,by rw[HE.o];exact⟨rfl,.inl ⟨rfl,rfl⟩⟩,J.o⟩
 | true=>
   have HE:Hid (SA S F T R=SB T R):=by unfold Hid SA;rw[V];rfl
   obtain⟨hA,hT⟩:=TP V;have HI:=Hd (WN _ _ _ _ T R w2 c8.o c6.o (b9.o.bl J.o) (HR.o.bl J.o) hT);have d9:=Hd hA;clear V hA
   go_wp2_with fail
   clear b0 b1 b2;refine HI.o.mono ?_;rintro e w3 ⟨rfl,b4⟩;have j:=J.up b4;have d0:=Hd (O.o.bl O.o.lt b4);obtain⟨b0,b1,b2⟩:=d0.o.c3;clear b4 HI
   cases Y:ST T R with
   | false=>
     have a8:Hid (SA S F T R=[]):=by unfold Hid;rw[HE.o];unfold SB;rw[Y];rfl
     go_wp2
     go_ret
     exact⟨_,rfl,by rw[a8.o];exact⟨rfl,.inl ⟨rfl,rfl⟩⟩,j.o⟩
   | true=>
     have b3:=Hd (TJ _ _ _ _ T R w3 c8.o c6.o (b9.o.bl j.o) (HR.o.bl j.o) hT d9.o Y);obtain⟨L,hL⟩:=Oa (TU T R);have e5:Hid (L.length=T.length):=by unfold Hid;rw[<-hL];unfold TU;rw[TF,TY,Ul]
     have a8:Hid (SA S F T R=((List.range T.length).filter (fun i=>decide (L[i]? = some true))).map (fun (i:Nat)=>(i:Int))):=by unfold Hid;rw[HE.o];unfold SB;rw[Y,if_pos rfl,hL]
     rw[hL] at b3;clear Y hL
     go_wp2_with fail
     clear b0 b1 b2;refine b3.o.mono ?_;rintro e w4 ⟨g,rfl,d4,d2⟩;have b8:=Hd (Kh d4 j.o.size);have b7:=j.up d2;clear d4 d2 b3 M O d0
     go_wp2
     go_loopw [5,21] (fun ov iv wr=>∃ (i:Nat) (C:List Int),i<=T.length/\iv=.int .i64 (i:Nat)/\C=((List.range i).filter (fun i=>decide (L[i]? = some true))).map (fun (i:Nat)=>(i:Int))/\C.length<=i/\(∃ p c,ov=.slice p C.length c)/\wr.ownsRow w.heap.size 4 1 (.slice (some ⟨g,0,none⟩) T.length T.length) T.length (SJ L)/\wr.ownsRow w.heap.size 3 1 ov C.length (Nx C)/\Up w wr) (fun _ iv _=>T.length - (intOf iv).toNat)
     case atStart=>exact⟨0,[],Jr _,rfl,rfl,Jr _,⟨_,_,rfl⟩,b8.o,⟨rfl,.inl ⟨rfl,rfl⟩⟩,b7.o⟩
     obtain⟨i,C,hi,rfl,d1,g7,⟨pc,cc,rfl⟩,a7,I,hB⟩:=hrel;have K:=Hd d1;have HO:=Hd a7;have HC:=Hd I;have A:=Hd hB;clear d1 a7 I hB b8 b7
     by_cases g8:i<T.length
     ·have d3:i<L.length:=by have:=e5.o;omega
      have k1:=TN HO.o d3;have d:L[i]? = some L[i]:=Jd d3;have Z:((List.range (i+1)).filter (fun i=>decide (L[i]? = some true)))=((List.range i).filter (fun i=>decide (L[i]? = some true)))++[i].filter (fun i=>decide (L[i]? = some true)):=by rw[Zg,List.filter_append]
      have e8:=A.o.size
      cases U:L[i] with
      | false=>
        rw[U] at k1 d;have HS:Hid (C=((List.range (i+1)).filter (fun i=>decide (L[i]? = some true))).map (fun (i:Nat)=>(i:Int))):=by
         unfold Hid;rw[Z,K.o];simp[d]
        clear d U Z
        go_wp2
        go_roundw
        case rel=>exact⟨i+1,C,by omega,by go_num,HS.o,by omega,⟨_,_,rfl⟩,HO.o,HC.o,A.o⟩
        simp[intOf];omega
      | true=>
        rw[U] at k1 d;have HS:Hid (C++[(i:Int)]=((List.range (i+1)).filter (fun i=>decide (L[i]? = some true))).map (fun (i:Nat)=>(i:Int))):=by
         unfold Hid;rw[Z,K.o];simp[d]
        clear d U Z
        go_wp2_with (at_builtin;refine TX (n:=C.length) (base:=w.heap.size) (xs:=Nx C) (y:=(i:Int)) rfl _ _ rfl rfl ?own2 _ rfl ?hH2 ?hn2 ?hb2 ?_)
        case own2=>exact HC.o
        case hH2=>rfl
        case hn2=>omega
        case hb2=>omega
        intro g5 c5 w5 G E;have e6:=Hd (TD (HC.o.alloc _) (HO.o.alloc _) (by decide) E);have e4:Hid (w5.ownsRow w.heap.size 3 1 (.slice (some ⟨g5,0,none⟩) (C.length+1) c5) (C.length+1) (Nx (C++[(i:Int)]))):=by
         unfold Hid;rw[show Nx (C++[(i:Int)])=Nx C++[.int .i64 (i:Int)] by simp[Nx]];exact G
        have e0:Hid (Up w w5):=(A.o.alloc e8 _).grown E (by simp;omega) (fun k e=>by have:=(HC.o.lt k e).1;omega);clear G E k1 HO HC A
        go_wp2
        go_roundw
        case rel=>exact⟨i+1,C++[(i:Int)],by omega,by go_num,HS.o,by rw[Yn];simp;omega,⟨some ⟨g5,0,none⟩,c5,by rw[Yn];rfl⟩,e6.o,by rw[Yn];exact e4.o,e0.o⟩
        simp[intOf];omega
     obtain rfl:i=T.length:=by omega
     have HR:Hid (SA S F T R=C):=a8.o.trans K.o.symm;clear K
     go_wp2
     go_ret
     exact⟨_,rfl,by rw[HR.o];exact HC.o,A.o⟩
end Go.Proofs.YtphhhciffpkojaaGreatDoor
namespace Go.Proofs.YtphhhciffpkojaaGreatDoor
open ChangeShapes WideShapes ChangeAt RowKit
variable {A B:List Value}{F:List Fn}{N0 N1:Nat}{S:List (List UInt8)}{T:List Tm}{uf us ut:Value}{w w':World}
theorem BankX.on {P:Nat->Prop}{vs vf vt:Value}(h:BankX w N0 N1 vs vf vt S F T A B)(ho:OnB P w w')(hn:∀ b,PB vs vf vt A B b->¬ P b):BankX w' N0 N1 vs vf vt S F T A B:=
 ⟨h.s.mk ho.sl,fun b hb=>by obtain⟨n,d⟩:=h.sk b hb;exact⟨n,ho.sl _ _ _ d⟩,h.f.on ho (fun b hb=>hn b (.inr (.inl (.inl hb)))),h.t.on ho (fun b hb=>hn b (.inr (.inr (.inl hb)))),h.sa⟩
theorem BT (hs:SmallB S F T):0<kB S F T/\kB S F T<=900000000000000:=by
 have d:=Ds (k:=1+S.length) (fun f hf=>(hs.f.2 f hf).2.1.1) F.length leR;have h2:=L9 (k:=kfF F (1+S.length) F.length) (fun t ht=>(hs.t.2 t ht).2.2) T.length leR;have h3:=hs.s.1;have h4:=hs.f.1;have h5:=hs.t.1;have h:1+S.length<=kfF F (1+S.length) F.length:=Nat.le_add_right _ _;have j:kfF F (1+S.length) F.length<=kB S F T:=Nat.le_add_right _ _;have A:kB S F T=kfT T (kfF F (1+S.length) F.length) T.length:=rfl;omega
theorem BankN.bl {base:Nat}(h:BankN w base us uf ut S F T)(hb:Up w w'):BankN w' base us uf ut S F T:=h.keep (fun k _ hl=>hb.block k hl)
theorem OnB.low {P:Nat->Prop}{N:Nat}{w0:World}(h:OnB P w w')(hb:Below N w0 w)(hN:N<=w.heap.size)(hP:∀ b,P b->N<=b):Below N w0 w':=
 ⟨h.os.trans hb.os,h.tape.trans hb.tape,h.output.trans hb.output,Yc hb.size h.size,fun k hk=>(h.block k (by omega) (fun hp=>by have:=hP k hp;omega)).trans (hb.block k hk)⟩
theorem BankN.on {P:Nat->Prop}{base:Nat}(h:BankN w base us uf ut S F T)(ho:OnB P w w')(hP:∀ b,P b->b<base):BankN w' base us uf ut S F T:=
 h.keep (fun k hk hl=>ho.block k hl (fun hp=>by have:=hP k hp;omega))
theorem BankX.lt (h:BankX w N0 N1 us uf ut S F T A B){b:Nat}(hb:PB us uf ut A B b):b<w.heap.size:=by
 rcases hb with hb|hb|hb
 ·obtain⟨n,d⟩:=h.sk b hb;exact d.lt
 ·rcases h.f.blk hb with⟨n,d⟩|⟨n,d⟩<;>exact d.lt
 rcases h.t.blk hb with⟨n,d⟩|⟨n,d⟩<;>exact d.lt
structure GSt (wc:World)(N9 N10:Nat)(l:List Value)(gs gf gt:Value)(S:List (List UInt8))(F:List Fn)(T:List Tm)(A B:List Value)(wk:World):Prop where
 low:Up wc wk
 x:Bx wk N10 l
 n:BankN wk N9 gs gf gt S F T
 X:BankX wk N9 N10 gs gf gt S F T A B
theorem BankX.bl (h:BankX w N0 N1 us uf ut S F T A B)(hb:Up w w'):BankX w' N0 N1 us uf ut S F T A B:=h.on ((OnB.refl (fun _=>False) w).bl hb) (fun _ _ h=>h)
theorem GSt.bl {wc:World}{N9 N10:Nat}{l:List Value}{gs gf gt:Value}{wk wk':World}(h:GSt wc N9 N10 l gs gf gt S F T A B wk)(hb:Up wk wk'):GSt wc N9 N10 l gs gf gt S F T A B wk':=
 ⟨h.low.trans (hb.mono h.low.size),h.x.bl h.x.lt hb,h.n.bl hb,h.X.bl hb⟩
theorem GSt.on {wc:World}{N9 N10:Nat}{l:List Value}{gs gf gt:Value}{wk wk':World}{P:Nat->Prop}(h:GSt wc N9 N10 l gs gf gt S F T A B wk)(ho:OnB P wk wk')(hP:∀ b,P b->wc.heap.size<=b/\b<N9)(hl:∀ b,PB gs gf gt A B b->N9<=b)(hN:N9<=N10):GSt wc N9 N10 l gs gf gt S F T A B wk':=
 ⟨ho.low h.low h.low.size (fun b hb=>(hP b hb).1),ho.bx h.x (fun hp=>by have:=(hP _ hp).2;omega),h.n.on ho (fun b hb=>(hP b hb).2),h.X.on ho (fun b hb hp=>by have:=(hP b hp).2;have:=hl b hb;omega)⟩
end Go.Proofs.YtphhhciffpkojaaGreatDoor
