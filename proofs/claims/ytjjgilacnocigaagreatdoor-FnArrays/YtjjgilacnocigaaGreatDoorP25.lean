import Derived.Test.YtjjgilacnocigaaGreatDoorP24
import Derived.Lib.CutLaws
import Derived.Lib.SplitLaws
set_option maxRecDepth 100000
set_option maxHeartbeats 8000000
namespace Go.Proofs.YtjjgilacnocigaaGreatDoor
open ChangeShapes WideShapes ChangeAt RowKit
variable {fuel:Nat}{v:Value}{w:World}
theorem JE {P:Program}{ops:Array Oper}{Q:Exit->Act->World->Prop}{md:Region.Mode}{S:World->Prop}{i d:Nat}{oi:Oper}{listed:Array Bool}{a:Act}(hi:ops[i]? = some oi)(hd:oi.dst=some d)
 (hs:Region.noSelect ops=true) (hf:Region.free md ops listed i=true) (hr:(Region.ready md ops listed).contains i=true)
 (hQ:∀ c a w,Q (.panic c) (a.put (some d) v) w->Q (.panic c) a w) (hy:YieldsIf P ops S oi v a) (hS:S w)
 (h:wpAnyH P md ops Q S fuel (listed.setIfInBounds i true) (a.put (some d) v) w):wpAnyH P md ops Q S (fuel+1) listed a w:=by
 rw[<-hd] at hQ h;exact wpAnyH_take hi hs hf hr hQ hy hS h
theorem tk {P:Program}{ops:Array Oper}{Q:Exit->Act->World->Prop}{md:Region.Mode}{S:World->Prop}(i d:Nat){oi:Oper}{listed:Array Bool}{a:Act}(hi:ops[i]? = some oi)(hd:oi.dst=some d)
 (hc:(Region.noSelect ops&&(Region.free md ops listed i&&(Region.ready md ops listed).contains i))=true) (hQ:∀ c a w,Q (.panic c) (a.put (some d) v) w->Q (.panic c) a w) (hy:YieldsIf P ops S oi v a) (hS:S w)
 (h:wpAnyH P md ops Q S fuel (listed.setIfInBounds i true) (a.put (some d) v) w):wpAnyH P md ops Q S (fuel+1) listed a w:=by
 rw[Yd,Yd] at hc;exact JE hi hd hc.1 hc.2.1 hc.2.2 hQ hy hS h
theorem Tx {P:Program}{ops:Array Oper}{Q:Exit->Act->World->Prop}{S:World->Prop}(n:Nat)(hn:ops.size=n){id:Nat}{a:Act}(hm:P.follows .mixedOrders=true)(hS:S w.drew)(h:S w.drew->wpAnyH P .any ops Q S n (Array.replicate ops.size false) a w.drew):(Code.region id ops true).wp P Q a w:=by
 subst hn;exact wp_region_held_drew hm hS h
theorem G7 {P:Program}{ops:Array Oper}{Q:Exit->Act->World->Prop}{md:Region.Mode}{S:World->Prop}(k m:Nat){oi:Oper}{listed:Array Bool}{a:Act}(hi:ops[k - fuel]? = some oi)(hd:oi.dst=some (m - fuel))
 (hc:(Region.noSelect ops&&(Region.free md ops listed (k - fuel)&&(Region.ready md ops listed).contains (k - fuel)))=true) (hQ:∀ c a w,Q (.panic c) (a.put (some (m - fuel)) v) w->Q (.panic c) a w) (hy:YieldsIf P ops S oi v a) (hS:S w)
 (h:wpAnyH P md ops Q S fuel (listed.setIfInBounds (k - fuel) true) (a.put (some (m - fuel)) v) w):wpAnyH P md ops Q S (fuel+1) listed a w:=tk (k - fuel) (m - fuel) hi hd hc hQ hy hS h
end Go.Proofs.YtjjgilacnocigaaGreatDoor
namespace Go.Proofs.YtjjgilacnocigaaGreatDoor
open ChangeShapes WideShapes ChangeAt RowKit Proofs.Tryz
variable {W:World}{g:Nat}{s:ByteArray}
attribute [local go_sem] SF PR SL SC SR SA SW PP SB SM SX SQ SH PQ SG SU SN SV SZ PX TY TZ TO SJ
theorem G2 (k:SK)(v:Value)(s:ByteArray)(w:World)(hs:PV k w v s) :
 Calls prog 51 #[v] w fun e w'=>∃ b,e=.returned (.bool b)/\(b=true↔E7 k s)/\Up w w':=by
 obtain⟨E,hs⟩:=hs
 by_cases k4:k.kind=4
 ·rw[if_neg (by omega),if_neg (by omega),if_neg (by omega),if_pos k4] at hs;subst hs;obtain⟨x,j⟩:∃ x:Int,x=(bn 2 (s.data.toList.drop 2):Nat):=⟨_,rfl⟩;obtain⟨wi,d⟩:∃ y:Int,y=(k.width:Nat):=⟨_,rfl⟩;have G:Hid ((x==0)=true↔E7 k s):=by
   unfold Hid E7 key;rw[if_neg (by omega),if_pos k4,Jw,j];exact⟨fun h=>⟨k4,h⟩,fun h=>h.2⟩
  rw[<-j,<-d];clear E k4 j d
  go_in
  go_wp2
  go_ret
  exact⟨(x==0),rfl,G.o,Oo _ _⟩
 have F:Hid (¬ E7 k s):=fun h=>k4 h.1;have H:(∃ z,v=.iface 83 z)∨(∃ z,v=.iface 85 z)∨(∃ z,v=.iface 89 z)∨∃ z,v=.iface 96 z:=by
  by_cases D:k.kind=1
  ·rw[if_pos D] at hs;exact .inl ⟨_,hs⟩
  rw[if_neg D] at hs
  by_cases k2:k.kind=2
  ·rw[if_pos k2] at hs;obtain⟨z,e,_⟩:=hs;exact .inr (.inl ⟨z,e⟩)
  rw[if_neg k2] at hs
  by_cases k3:k.kind=3
  ·rw[if_pos k3] at hs;obtain⟨z,m,x,y,e,_⟩:=hs;exact .inr (.inr (.inl ⟨z,e⟩))
  rw[if_neg k3,if_neg k4] at hs;exact .inr (.inr (.inr ⟨_,hs⟩))
 clear hs E k4
 rcases H with⟨z,rfl⟩|⟨z,rfl⟩|⟨z,rfl⟩|⟨z,rfl⟩
 all_goals (
  go_in
  go_wp2
  go_ret
  exact⟨false,rfl,⟨fun h=>(by cases h),fun h=>absurd h F.o⟩,Oo _ _⟩)
theorem Ic {N:Nat}{w W:World}(h:Below N w W):∀ n,Below N w (W.drewN n)
 | 0=>h
 | n+1=>(Ic (W:=W) h n).drew
def OY (ki:SK)(r:ByteArray)(L:List Kd)(i s:ByteArray):Prop:=¬ E7 ki i/\s≠r/\∀ e,L.getLast? = some e->key ki e.1<key ki i
def PZ (ki:SK)(r:ByteArray)(L:List Kd)(i s:ByteArray)(w w':World)(e:Ending):Prop:=∃ b,e=.returned (.bool b)/\(b=true↔OY ki r L i s)/\Up w w'
theorem PZ.no {ki:SK}{r i:ByteArray}{L:List Kd}{w w':World}(h:¬ OY ki r L i s)(hb:Up w w'):PZ ki r L i s w w' (.returned (.bool false)):=⟨false,rfl,⟨fun e=>(by cases e),fun e=>absurd e h⟩,hb⟩
theorem EN (ki ke:SK)(x v a b:Value)(r i s:ByteArray)(L:List Kd)(w:World)(hx:PV ke w x r)(h:Ex ki ke w v L)(ha:PV ki w a i)(hb:PV ke w b s)(hki:Wt ki)(hke:Wt ke)(hK':Gm ki)(hT:VT w)(hn:L.length<=1000) :
 Calls prog 46 #[.agg #[x,v],.agg #[a,b]] w fun e w'=>PZ ki r L i s w w' e:=by
 have HX:=Hd hx;have HA:=Hd ha;have HB:=Hd hb;have HT:=Hd hT;have HE:=Hd h;obtain⟨p,c,rfl,e8,e9,O⟩:=h;obtain⟨n,b3⟩:=O2 L.length;have HN:=Hd b3;rw[b3] at e8 hn ⊢;unfold maxLen at e9;obtain⟨W0,G⟩:=O2 ((w.alloc (.cells #[x,.slice p n c] 50)).alloc (.cells #[a,b] 79));have c6:Up w W0:=by rw[<-G];exact (Oo _ _).trans ((Oo _ _).mono (by simp))
 have b4:Bx W0 w.heap.size [x,.slice p n c]:=by rw[<-G];exact (Ox w _ _).alloc _
 have b5:Bx W0 (w.heap.size+1) [a,b]:=by
  rw[<-G];rw[show w.heap.size+1=(w.alloc (.cells #[x,.slice p n c] 50)).heap.size from (by simp)];exact Ox _ [a,b] _
 obtain⟨c0,c1⟩:=b4.c2;obtain⟨d0,d1⟩:=b5.c2;have b8:=Hd b4;have b9:=Hd b5;have b6:=Hd c6;have HW:=Hd G;have HL:Hid (0<n->∃ b,p=some ⟨b,0,none⟩/\∀ W,Up w W->∃ x y E,L.getLast? = some E/\W.cell? ⟨b,(n - 1)*2,none⟩=some x/\W.cell? ⟨b,(n - 1)*2+1,none⟩=some y/\PV ki W x E.1):=by
  intro h0;have hl:=HN.o
  rcases O with e|⟨b,e,c7,hc⟩
  ·rw[e] at hl;simp at hl;omega
  refine⟨b,e,fun W hb=>?_⟩;obtain⟨x,y,e1,e2,h4,_⟩:=hc (n - 1) (by omega);refine⟨x,y,L[n - 1]'(by omega),?_,(hb.cell (p:=⟨b,(n - 1)*2,none⟩) c7).trans e1,(hb.cell (p:=⟨b,(n - 1)*2+1,none⟩) c7).trans e2,h4.next hb⟩;rw[Uc,Jl (by omega)]
  congr 1
  simp only[hl]
 clear hx hb hT O b3 G b4 b5 c6
 go_in
 go_upto_region 1 with fail
 rw[HW.o]
 go_wp2_with fail
 refine (G2 ki a i W0 (HA.o.next b6.o)).mono ?_;rintro e w1 ⟨z,rfl,hz,H⟩;have F:=b6.up H
 cases z
 ·have HZ:Hid (¬ E7 ki i):=fun h=>by have:=hz.2 h;cases this
  have X1:=Hd (b8.o.bl b8.o.lt H);have X2:=Hd (b9.o.bl b9.o.lt H);obtain⟨Y,Z⟩:=X1.o.c2;obtain⟨a6,a7⟩:=X2.o.c2;clear hz H c0 c1 d0 d1
  go_wp2_with fail
  refine (I5 ke b x s r w1 (HB.o.next F.o) (HX.o.next F.o) hke (HT.o.next F.o)).mono ?_;rintro e w2 ⟨cc,rfl,T,D⟩;have j:=F.up D;have Y1:=Hd (X1.o.bl X1.o.lt D);have Y2:=Hd (X2.o.bl X2.o.lt D);obtain⟨g0,g1⟩:=Y1.o.c2;obtain⟨h0,h1⟩:=Y2.o.c2
  by_cases J:cc=0
  ·subst J;have V:Hid (¬ OY ki r L i s):=fun h=>h.2.1 (T.1.1 rfl);clear T D Y Z a6 a7
   go_wp2
   go_ret
   exact PZ.no V.o j.o
  have HS:Hid (s≠r):=fun e=>J (T.1.2 e);have z0:(cc==0)=false:=by rw[Jd];exact J
  rcases Zx n with a8|a8
  ·have HY:Hid (OY ki r L i s):=by
    refine⟨HZ.o,HS.o,fun e he=>?_⟩;have:=HN.o;have h0:L=[]:=Jo (by omega);rw[h0] at he;cases he
   subst a8;clear T D Y Z a6 a7 J
   go_wp2
   go_quiet (fail)
   go_wp2
   go_ret
   exact⟨true,rfl,⟨fun _=>HY.o,fun _=>rfl⟩,Ic j.o _⟩
  obtain⟨m,hm⟩:=O2 (n - 1);obtain⟨bk,rfl,U⟩:=HL.o a8;obtain⟨x',y',E,hE,e1,e2,c8⟩:=U w2.drew j.o.drew;rw[hm] at e1 e2;have b7:=Hd hE;have HC:=Hd (I5 ki x' a E.1 i w2.drew c8 (HA.o.next j.o.drew) hki (HT.o.next j.o.drew));have hq:(n:Int) - 1=(m:Int):=by omega
  have y1:(m:Int)<(n:Int):=by omega
  have y0:(0:Int)<=(m:Int):=by omega
  have z1:decide (m<n)=true:=Jn (by omega);have z2:((m:Int)<0)=False:=by simp
  have E1:=Hd e1;clear T D Y Z a6 a7 J U c8 hE hm
  go_wp2_with fail
  have e6:=And.intro Y1.o.drew.c2.2 (And.intro Y2.o.drew.c2.1 E1.o);refine Tx 15 rfl (S:=fun W=>W.cell? ⟨w.heap.size,1,none⟩=some (.slice (some ⟨bk,0,none⟩) n c)/\W.cell? ⟨w.heap.size+1,0,none⟩=some a/\W.cell? ⟨bk,m*2,none⟩=some x') (by kernel_rfl) (e6) (fun hHeld=>?_);refine tk 0 21 (v:=?_) rfl rfl (by kernel_rfl) (fun _ _ _ h=>h) (Or.inl ⟨by rfl,?_⟩) (by assumption) ?_
  rotate_left
  ·(intro w d;(try dsimp only at d);go_simp;(try with_reducible rfl))
  try simp only[Act.put,Ja,Jc,Jb]
  refine tk 1 22 (v:=?_) rfl rfl (by kernel_rfl) (fun _ _ _ h=>h) (Or.inl ⟨by rfl,?_⟩) (by assumption) ?_
  rotate_left
  ·(intro w d;(try dsimp only at d);go_simp;(try with_reducible rfl))
  try simp only[Act.put,Ja,Jc,Jb]
  refine tk 2 23 (v:=?_) rfl rfl (by kernel_rfl) (fun _ _ _ h=>h) (Or.inl ⟨by rfl,?_⟩) (by assumption) ?_
  rotate_left
  ·(intro w d;(try dsimp only at d);go_simp;(try with_reducible rfl))
  try simp only[Act.put,Ja,Jc,Jb]
  refine tk 3 24 (v:=?_) rfl rfl (by kernel_rfl) (fun _ _ _ h=>h) (Or.inl ⟨by rfl,?_⟩) (by assumption) ?_
  rotate_left
  ·(intro w d;(try dsimp only at d);go_simp;(try with_reducible rfl))
  try simp only[Act.put,Ja,Jc,Jb]
  refine tk 4 25 (v:=?_) rfl rfl (by kernel_rfl) (fun _ _ _ h=>h) (Or.inl ⟨by rfl,?_⟩) (by assumption) ?_
  rotate_left
  ·(intro w d;(try dsimp only at d);go_simp;(try with_reducible rfl))
  try simp only[Act.put,Ja,Jc,Jb]
  refine tk 5 26 (v:=?_) rfl rfl (by kernel_rfl) (fun _ _ _ h=>h) (Or.inl ⟨by rfl,?_⟩) (by assumption) ?_
  rotate_left
  ·(intro w d;(try dsimp only at d);go_simp;(try with_reducible rfl))
  try simp only[Act.put,Ja,Jc,Jb]
  refine tk 6 27 (v:=?_) rfl rfl (by kernel_rfl) (fun _ _ _ h=>h) (Or.inl ⟨by rfl,?_⟩) (by assumption) ?_
  rotate_left
  ·(intro w d;(try dsimp only at d);go_simp;(try with_reducible rfl))
  try simp only[Act.put,Ja,Jc,Jb]
  refine tk 7 28 (v:=?_) rfl rfl (by kernel_rfl) (fun _ _ _ h=>h) (Or.inl ⟨by rfl,?_⟩) (by assumption) ?_
  rotate_left
  ·(intro w d;(try dsimp only at d);go_simp;(try with_reducible rfl))
  try simp only[Act.put,Ja,Jc,Jb]
  refine tk 8 29 (v:=?_) rfl rfl (by kernel_rfl) (fun _ _ _ h=>h) (Or.inl ⟨by rfl,?_⟩) (by assumption) ?_
  rotate_left
  ·(intro w d;(try dsimp only at d);go_simp;(try with_reducible rfl))
  try simp only[Act.put,Ja,Jc,Jb]
  refine tk 9 30 (v:=?_) rfl rfl (by kernel_rfl) (fun _ _ _ h=>h) (Or.inl ⟨by rfl,?_⟩) (by assumption) ?_
  rotate_left
  ·(intro w d;(try dsimp only at d);go_simp;(try with_reducible rfl))
  try simp only[Act.put,Ja,Jc,Jb]
  refine tk 10 31 (v:=?_) rfl rfl (by kernel_rfl) (fun _ _ _ h=>h) (Or.inl ⟨by rfl,?_⟩) (by assumption) ?_
  rotate_left
  ·(intro w d;(try dsimp only at d);go_simp;(try with_reducible rfl))
  try simp only[Act.put,Ja,Jc,Jb]
  refine wpAnyH_ready (rs:=[11]) (by kernel_rfl) (by simp) ?_;refine AllReadyH.cons rfl (fun K hK=>?_) AllReadyH.nil
  go_simp
  refine HC.o.mono ?_;rintro e w3 ⟨c3,rfl,O,I⟩;have e7:=And.intro ((Y1.o.drew.bl Y1.o.drew.lt I).c2.2) (And.intro (Y2.o.drew.bl Y2.o.drew.lt I).c2.1 ((I.cell (Zb w2.drew _ E1.o)).trans E1.o));have d8:Hid (Up w w3):=j.o.drew.trans (I.mono j.o.size);have d9:=Hd O;clear O I
  go_wp2_with fail
  refine hK.out _ _ e7 (fun hHeld3=>?_);clear hK K
  try simp only[Act.put,Ja,Jc,Jb]
  refine tk 12 33 (v:=?_) rfl rfl (by kernel_rfl) (fun _ _ _ h=>h) (Or.inl ⟨by rfl,?_⟩) (by assumption) ?_
  rotate_left
  ·(intro w d;(try dsimp only at d);go_simp;(try with_reducible rfl))
  try simp only[Act.put,Ja,Jc,Jb]
  refine tk 13 34 (v:=?_) rfl rfl (by kernel_rfl) (fun _ _ _ h=>h) (Or.inl ⟨by rfl,?_⟩) (by assumption) ?_
  rotate_left
  ·(intro w d;(try dsimp only at d);go_simp;(try with_reducible rfl))
  try simp only[Act.put,Ja,Jc,Jb]
  refine tk 14 4 (v:=?_) rfl rfl (by kernel_rfl) (fun _ _ _ h=>h) (Or.inl ⟨by rfl,?_⟩) (by assumption) ?_
  rotate_left
  ·(intro w d;(try dsimp only at d);go_simp;(try with_reducible rfl))
  try simp only[Act.put,Ja,Jc,Jb]
  refine wpAnyH_done (by kernel_rfl) ?_ _
  go_wp2
  go_ret
  refine⟨decide (c3<0),rfl,?_,d8.o⟩;have h3:=d9.o.2.1 hK';rw[Y7];constructor
  ·intro h;refine⟨HZ.o,HS.o,fun e he=>?_⟩;rw[b7.o] at he;cases he
   rcases Ek (key ki E.1) (key ki i) with⟨q1,q2⟩|⟨q1,q2⟩|⟨q1,q2⟩<;>omega
  intro h;have:=h.2.2 E b7.o
  rcases Ek (key ki E.1) (key ki i) with⟨q1,q2⟩|⟨q1,q2⟩|⟨q1,q2⟩<;>omega
 have V:Hid (¬ OY ki r L i s):=fun h=>h.1 (hz.1 rfl);clear hz H
 go_wp2
 go_ret
 exact PZ.no V.o F.o
theorem Tt (c:UInt8):∀ l:List UInt8,(Lib.index l [c] = -1/\∀ x∈l,x≠c)∨∃ a b,l=a++c::b/\(∀ x∈a,x≠c)/\Lib.index l [c]=(a.length:Nat)
 | []=>.inl ⟨rfl,fun _ h=>by cases h⟩
 | d::l=>by
   have E:([c]:List UInt8).isPrefixOf (d::l)=(c==d):=by simp[List.isPrefixOf]
   unfold Lib.index
   rw[E]
   by_cases h:c=d
   ·subst h
    exact .inr ⟨[],l,rfl,(fun _ h=>(by cases h)),(by rw[show (c==c)=true from beq_self_eq_true c];rfl)⟩
   rw[show (c==d)=false from by rw[Jd];exact h]
   simp only[Yz,if_false]
   rcases Tt c l with⟨j,D⟩|⟨a,b,j,D,h3⟩
   ·refine .inl ⟨by rw[j];rfl,fun x hx=>?_⟩
    rcases Yn.1 hx with rfl|hx
    ·exact fun e=>h e.symm
    exact D x hx
   refine .inr ⟨d::a,b,by rw[j];rfl,fun x hx=>?_,?_⟩
   ·rcases Yn.1 hx with rfl|hx
    ·exact fun e=>h e.symm
    exact D x hx
   rw[h3,show (((a.length:Nat):Int) == -1)=false from by rw[Jd];omega]
   simp
theorem DO (s:ByteArray)(w:World)(hs:s.size<=1048576)(ht:VT w) :
 Calls prog 81 #[.string s,.string ⟨#[61]⟩] w fun e w'=>∃ a b ok,e=.returned (.tuple #[.string a,.string b,.bool ok])/\a.size<=s.size/\b.size<=s.size/\Hid ((ok=true->s.data.toList=a.data.toList++61::b.data.toList/\∀ x∈a.data.toList,x≠61)/\(ok=false->∀ x∈s.data.toList,x≠61))/\Up w w':=by
 obtain⟨m,hm⟩:=ht.ml;refine (Tryz.strings_Cut s ⟨#[61]⟩ m w (by omega) hm).mono ?_;rintro e D ⟨rfl,k,rfl⟩;have hl:s.data.toList.length=s.size:=rfl
 rcases Tt 61 s.data.toList with⟨d,j⟩|⟨a,b,d,j,h3⟩
 ·have e:Lib.cut s.data.toList [61]=(s.data.toList,[],false):=by unfold Lib.cut;rw[d];rfl
  refine⟨_,_,_,rfl,?_,?_,?_,Ic (Jj _ w) k⟩
  ·show (Lib.cut s.data.toList [61]).1.length<=_;rw[e];exact O1
  ·show (Lib.cut s.data.toList [61]).2.1.length<=_;rw[e];exact J7 _
  show Hid (((Lib.cut s.data.toList [61]).2.2=true->_)/\_)
  rw[e];exact⟨fun h=>(by cases h),fun _=>j⟩
 have e:Lib.cut s.data.toList [61]=(a,b,true):=by
  unfold Lib.cut;rw[h3,if_pos (by omega),d];simp
 refine⟨_,_,_,rfl,?_,?_,?_,Ic (Jj _ w) k⟩
 ·show (Lib.cut s.data.toList [61]).1.length<=_;rw[e,<-hl,d];simp
 ·show (Lib.cut s.data.toList [61]).2.1.length<=_;rw[e,<-hl,d];simp;omega
 show Hid (((Lib.cut s.data.toList [61]).2.2=true->s.data.toList=(Lib.cut s.data.toList [61]).1++61::(Lib.cut s.data.toList [61]).2.1/\∀ x∈(Lib.cut s.data.toList [61]).1,x≠61)/\((Lib.cut s.data.toList [61]).2.2=false->_))
 rw[e];exact⟨fun _=>⟨d,j⟩,fun h=>(by cases h)⟩
def H7:List ByteArray->List UInt8
 | []=>[]
 | [p]=>p.data.toList
 | p::q::r=>p.data.toList++59::H7 (q::r)
theorem VS:∀ (k:Nat)(s:ByteArray),s.data.toList.count 59=k->(Lib.splitB ⟨#[59]⟩ 0 k s).length=k+1/\H7 (Lib.splitB ⟨#[59]⟩ 0 k s)=s.data.toList/\∀ p∈Lib.splitB ⟨#[59]⟩ 0 k s,∀ c∈p.data.toList,c≠59
 | 0,s,h=>by
   rw[Lib.splitB_zero]
   refine⟨rfl,rfl,fun p hp c hc e=>?_⟩
   rcases Ye.1 hp with rfl
   subst e
   exact absurd h (by have:=List.count_pos_iff.2 hc;omega)
 | k+1,s,h=>by
   rcases Tt 59 s.data.toList with⟨d,j⟩|⟨a,b,d,j,h3⟩
   ·have:s.data.toList.count 59=0:=List.count_eq_zero.2 (fun hm=>j 59 hm rfl)
    omega
   have H:Lib.indexB s ⟨#[59]⟩=(a.length:Nat):=h3
   rw[Lib.splitB_hit _ _ _ _ _ H]
   have E:(s.extract 0 (a.length+0)).data.toList=a:=by
    rw[Lib.extract_from_zero,d];simp
   have F:(s.extract (a.length+(⟨#[59]⟩:ByteArray).size) s.size).data.toList=b:=by
    have hl:s.size=(a++59::b).length:=by rw[<-d];rfl
    simp only[Y6,Zf,Zs,d]
    rw[show (⟨#[59]⟩:ByteArray).size=1 from rfl,hl]
    simp
    exact Jf (by omega)
   have hc:(s.extract (a.length+(⟨#[59]⟩:ByteArray).size) s.size).data.toList.count 59=k:=by
    rw[F]
    rw[d,List.count_append,List.count_cons] at h
    have:a.count 59=0:=List.count_eq_zero.2 (fun hm=>j 59 hm rfl)
    simp at h;omega
   obtain⟨D,g2,G⟩:=VS k _ hc
   generalize Lib.splitB ⟨#[59]⟩ 0 k (s.extract (a.length+(⟨#[59]⟩:ByteArray).size) s.size)=P at D g2 G ⊢
   refine⟨by simp[D],?_,fun p hp=>?_⟩
   ·match P,D,g2 with
    | q::r,_,g2=>
      show (s.extract 0 (a.length+0)).data.toList++59::H7 (q::r)=_
      rw[E,g2,F,d]
   rcases Yn.1 hp with rfl|hp
   ·rw[E];exact j
   exact G p hp
def oN (Xw Xi Xe:SI):List Value:=[.int .i64 Xw.kind,.int .i64 (Xw.width:Nat),.string (Oy Xw.index),.string (Oy Xw.elem),.int .i64 Xi.kind,.int .i64 (Xi.width:Nat),.string (Oy Xi.index),.string (Oy Xi.elem),.int .i64 Xe.kind,.int .i64 (Xe.width:Nat),.string (Oy Xe.index),.string (Oy Xe.elem)]
def Cw (X:SI):Prop:=X.kind=4->0<X.width/\X.width<=64
def PU (ki ke:SK)(t:List UInt8)(i s:ByteArray):Prop:=t=i.data.toList++61::s.data.toList/\Kg ki i/\Kg ke s
def WK (ki ke:SK)(t:List UInt8)(w w':World)(e:Ending):Prop:=∃ a b ok,e=.returned (.tuple #[.agg #[a,b],.bool ok])/\MY a/\MY b/\(ok=true->∃ i s,PU ki ke t i s/\PV ki w' a i/\PV ke w' b s)/\(ok=false->¬ ∃ i s,PU ki ke t i s)/\Up w w'
theorem Bx.c12 {v0 v1 v2 v3 v4 v5 v6 v7 v8 v9 v10 v11:Value}(h:Bx W g [v0,v1,v2,v3,v4,v5,v6,v7,v8,v9,v10,v11]):(W.cell? ⟨g,0,none⟩=some v0/\W.cell? ⟨g,1,none⟩=some v1/\W.cell? ⟨g,2,none⟩=some v2/\W.cell? ⟨g,3,none⟩=some v3)/\(W.cell? ⟨g,4,none⟩=some v4/\W.cell? ⟨g,5,none⟩=some v5/\W.cell? ⟨g,6,none⟩=some v6/\W.cell? ⟨g,7,none⟩=some v7)/\W.cell? ⟨g,8,none⟩=some v8/\W.cell? ⟨g,9,none⟩=some v9/\W.cell? ⟨g,10,none⟩=some v10/\W.cell? ⟨g,11,none⟩=some v11:=
 ⟨⟨h.cell 0,h.cell 1,h.cell 2,h.cell 3⟩,⟨h.cell 4,h.cell 5,h.cell 6,h.cell 7⟩,h.cell 8,h.cell 9,h.cell 10,h.cell 11⟩
theorem PV.put2 {k:SK}{v:Value}(h:PV k W v s)(no:Q.Kh W g)(u0 u1:Value):PV k ((W.setCell ⟨g,0,none⟩ u0).setCell ⟨g,1,none⟩ u1) v s:=by
 obtain⟨F,d⟩:=h;refine⟨F,?_⟩
 by_cases j:k.kind=1
 ·rw[if_pos j] at d ⊢;exact d
 rw[if_neg j] at d ⊢
 by_cases k2:k.kind=2
 ·rw[if_pos k2] at d ⊢;obtain⟨z,e,H⟩:=d;exact⟨z,e,H.put2 no u0 u1⟩
 rw[if_neg k2] at d ⊢
 by_cases k3:k.kind=3
 ·rw[if_pos k3] at d ⊢;obtain⟨z,m,x,y,e,D,E,I,K,J,v2,rfl,ha,G⟩:=d;exact⟨_,m,x,y,e,D,E,I,K,J,v2,rfl,ha.put2 no u0 u1,G.put2 no u0 u1⟩
 rw[if_neg k3] at d ⊢;exact d
theorem Hk {l:List Value}(h:Bx W g l)(hl:∀ v∈l,MY v∨∃ p n c,v=.slice p n c):Q.Kh W g:=
 Q.Ep (l:=l) h fun v hv x e=>by
  rcases hl v hv with (h|⟨t,y,h⟩)|⟨p,n,c,h⟩<;>rw[h] at e<;>cases e
theorem DR {ki ke:SK}{t a b i:ByteArray}(h:PU ki ke t.data.toList i s)(hc:t.data.toList=a.data.toList++61::b.data.toList)(ha:∀ x∈a.data.toList,x≠61):i=a/\s=b:=by
 obtain⟨d,j⟩:=Hz (fun x hx=>(Gt h.2.1 x hx).2) ha (h.1.symm.trans hc);exact⟨Kz d,Kz j⟩
theorem A0 (Xw Xi Xe:SI)(t:ByteArray)(w:World)(ht:t.size<=1048576)(hi:Cw Xi)(he:Cw Xe)(hT:VT w) :
 Calls prog 45 #[.agg #[.int .i64 Xw.kind,.int .i64 (Xw.width:Nat),.string (Oy Xw.index),.string (Oy Xw.elem),.int .i64 Xi.kind,.int .i64 (Xi.width:Nat),.string (Oy Xi.index),.string (Oy Xi.elem),.int .i64 Xe.kind,.int .i64 (Xe.width:Nat),.string (Oy Xe.index),.string (Oy Xe.elem)],.string t] w fun e w'=>WK (On Xi) (On Xe) t.data.toList w w' e:=by
 have HT:=Hd hT;obtain⟨W0,D⟩:=O2 ((w.alloc (.cells #[.int .i64 Xw.kind,.int .i64 (Xw.width:Nat),.string (Oy Xw.index),.string (Oy Xw.elem),.int .i64 Xi.kind,.int .i64 (Xi.width:Nat),.string (Oy Xi.index),.string (Oy Xi.elem),.int .i64 Xe.kind,.int .i64 (Xe.width:Nat),.string (Oy Xe.index),.string (Oy Xe.elem)] 44)).alloc (.cells #[.nilIface,.nilIface] 79));have Y:Up w W0:=by rw[<-D];exact (Oo _ _).trans ((Oo _ _).mono (by simp))
 have a7:Bx W0 w.heap.size (oN Xw Xi Xe):=by rw[<-D];exact (Ox w (oN Xw Xi Xe) _).alloc _
 have a8:Bx W0 (w.heap.size+1) [.nilIface,.nilIface]:=by
  rw[<-D];rw[show w.heap.size+1=(w.alloc (.cells #[.int .i64 Xw.kind,.int .i64 (Xw.width:Nat),.string (Oy Xw.index),.string (Oy Xw.elem),.int .i64 Xi.kind,.int .i64 (Xi.width:Nat),.string (Oy Xi.index),.string (Oy Xi.elem),.int .i64 Xe.kind,.int .i64 (Xe.width:Nat),.string (Oy Xe.index),.string (Oy Xe.elem)] 44)).heap.size from (by simp)];exact Ox _ [.nilIface,.nilIface] _
 have HW:=Hd D;have K:=Hd Y;have U:=Hd a7;have V:=Hd a8;clear hT D Y a7 a8
 go_in
 go_upto_region 1 with fail
 rw[HW.o]
 go_wp2_with fail
 refine (DO t W0 ht (HT.o.next K.o)).mono ?_;rintro e w1 ⟨a,b,cut,rfl,ha,hb,hcut,G⟩;have d:=Hd hcut.o;have O:=K.up G;have Y1:=Hd (U.o.bl U.o.lt G);have Y2:=Hd (V.o.bl V.o.lt G);obtain⟨_,⟨c4,c5,c6,c7⟩,_⟩:=Y1.o.c12;clear G hcut
 go_wp2_with fail
 refine (N4 Xi a w1 (by omega) hi (HT.o.next O.o)).mono ?_;rintro e w2 ⟨u,b4,rfl,hu,H⟩;have T:=O.up H;have Z1:=Hd (Y1.o.bl Y1.o.lt H);have Z2:=Hd (Y2.o.bl Y2.o.lt H);obtain⟨_,_,c8,c9,d8,d9⟩:=Z1.o.c12;have HU:=Hd hu;clear H c4 c5 c6 c7 hu
 go_wp2_with fail
 refine (N4 Xe b w2 (by omega) he (HT.o.next T.o)).mono ?_;rintro e w3 ⟨v,e2,rfl,hv,I⟩;have d3:=T.up I;have V2:=Hd (Z2.o.bl Z2.o.lt I);obtain⟨d0,d1⟩:=V2.o.c2;obtain⟨f0,f1⟩:=V2.o.f2;have HV:=Hd hv;obtain⟨W4,j⟩:=O2 ((w3.setCell ⟨w.heap.size+1,0,none⟩ u).setCell ⟨w.heap.size+1,1,none⟩ v);have J:Up w W4:=by rw[<-j];exact (d3.o.setCell (p:=⟨w.heap.size+1,0,none⟩) (by simp) _).setCell (p:=⟨w.heap.size+1,1,none⟩) (by simp) _
 have Z:Up w3 w3:=Jj _ _;have e8:=Hd J;have b3:Bx W4 (w.heap.size+1) [u,v]:=by rw[<-j];exact (V2.o.set 0 u).set 1 v
 obtain⟨g0,g1⟩:=b3.c2;have HG:=Hd (And.intro g0 g1);have d5:=Hd j;have HR:Hid (WK (On Xi) (On Xe) t.data.toList w W4 (.returned (.tuple #[.agg #[u,v],.bool (cut&&b4&&e2)]))):=by
  have E:=HU.o;have F:=HV.o;have a6:Q.Kh w3 (w.heap.size+1):=Hk V2.o (fun v hv=>by
   rcases Yn.1 hv with rfl|hv
   ·exact .inl (.inl rfl)
   rcases Ye.1 hv with rfl;exact .inl (.inl rfl))
  refine⟨u,v,_,rfl,E.1,F.1,fun h=>?_,fun h=>?_,J⟩
  ·simp only[Yd] at h;obtain⟨⟨rfl,rfl⟩,rfl⟩:=h;refine⟨a,b,⟨(d.o.1 rfl).1,E.2.1.1 rfl,F.2.1.1 rfl⟩,?_,?_⟩
   ·rw[<-j];exact ((E.2.2 rfl).next I).put2 a6 u v
   rw[<-j];exact (F.2.2 rfl).put2 a6 u v
  rintro⟨i,s,hE⟩
  cases cut
  ·exact d.o.2 rfl 61 (by rw[hE.1];simp) rfl
  obtain⟨rfl,rfl⟩:=DR hE (d.o.1 rfl).1 (d.o.1 rfl).2;rw[E.2.1.2 hE.2.1,F.2.1.2 hE.2.2] at h;cases h
 have e0:=HU.o.1;have e1:=HV.o.1;clear hv I J b3 g0 g1 j c8 c9 d8 d9 Z
 rcases e0 with rfl|⟨tu,zu,rfl⟩<;>rcases e1 with rfl|⟨tv,zv,rfl⟩
 all_goals (
  cases cut<;>cases b4
  all_goals (
   go_wp2_with fail
   obtain⟨g0,g1⟩:=HG.o;rw[d5.o];refine Jh ?_ rfl HR.o;simp[results,results45,go_sem,g0,g1]))
end Go.Proofs.YtjjgilacnocigaaGreatDoor
