import Derived.Test.YtjjgilacnocigaaGreatDoorP33
set_option maxRecDepth 100000
set_option maxHeartbeats 8000000
namespace Go.Proofs.YtjjgilacnocigaaGreatDoor
open ChangeShapes WideShapes ChangeAt RowKit Proofs.Tryz
variable {r:ByteArray}
def Dh (r:ByteArray)(L:List Kd):Prop:=r.size<=3000/\L.length<=200/\∀ e∈L,e.1.size<=3000/\e.2.size<=3000
theorem Qs {r:ByteArray}:∀ {L:List Kd},Dh r L->(Hu r L).length<=3000+L.length*6002
 | [],h=>by rw[Im];have:=h.1;show r.size<=_;simp;exact this
 | e::L,h=>by
   have d:Dh r L:=⟨h.1,by have:=h.2.1;simp at this;omega,fun x hx=>h.2.2 x (by simp[hx])⟩
   have:=Qs d
   have E:=h.2.2 e (by simp)
   have j:e.1.data.toList.length=e.1.size:=rfl
   have D:e.2.data.toList.length=e.2.size:=rfl
   unfold Hu Ie at this ⊢
   simp at this ⊢
   omega
theorem LK {L:List Kd}{k:Nat}(hk:k<L.length):Oy (123::Hu r (L.take k))++(⟨#[59]⟩++L[k].1++⟨#[61]⟩++L[k].2)=Oy (123::Hu r (L.take (k+1))):=by
 rw[Jt hk,Ce];refine Kz ?_;simp[Oy,Ie]
theorem Cx (ok:Bool)(r:ByteArray)(av bv:Value)(L:List Kd)(w:World)(ha:Dp w av (L.map Prod.fst))(hb:Dp w bv (L.map Prod.snd))(hL:Dh r L) :
 Calls prog 64 #[.agg #[.bool ok,.string r,av,bv]] w fun e w'=>e=.returned (.string (Oy (E8 r L)))/\Up w w':=by
 have HA:=Hd ha;have HB:=Hd hb;have U:=Hd hL;obtain⟨p1,c1,rfl,H,b4,I⟩:=ha;obtain⟨p2,c2,rfl,J,b5,K⟩:=hb;rw[Yq] at HA HB H J;rw[Yq,Yq];obtain⟨n,hn⟩:=O2 L.length;have HN:=Hd hn;rw[hn] at HA HB H J;rw[hn];have b7:n<=200:=by rw[<-hn];exact hL.2.1
 unfold maxLen at b4 b5;have a6:Hid (0<n->∃ b1 b2,p1=some ⟨b1,0,none⟩/\p2=some ⟨b2,0,none⟩/\∀ W,Up w W->∀ k (h:k<L.length),W.cell? ⟨b1,k,none⟩=some (.string L[k].1)/\W.cell? ⟨b2,k,none⟩=some (.string L[k].2)):=by
  intro h0
  rcases I with e|⟨b1,e1,l1,V⟩
  ·rw[V7] at e;rw[e] at hn;simp at hn;omega
  rcases K with e|⟨b2,e2,l2,h2⟩
  ·rw[V7] at e;rw[e] at hn;simp at hn;omega
  refine⟨b1,b2,e1,e2,fun W hW k hk=>⟨?_,?_⟩⟩
  ·have:=V k (by rw[Yq];exact hk);rw[Vo] at this;exact (hW.cell (p:=⟨b1,k,none⟩) l1).trans this
  have:=h2 k (by rw[Yq];exact hk);rw[Vo] at this;exact (hW.cell (p:=⟨b2,k,none⟩) l2).trans this
 obtain⟨W0,j⟩:=O2 (w.alloc (.cells #[.bool ok,.string r,.slice p1 n c1,.slice p2 n c2] 60));have d:Hid (Up w W0):=by unfold Hid;rw[<-j];exact Oo _ _
 have F:Hid (Bx W0 w.heap.size [.bool ok,.string r,.slice p1 n c1,.slice p2 n c2]):=by unfold Hid;rw[<-j];exact Ox w _ _
 have HW:=Hd j;have d8:r.size<=3000:=hL.1;obtain⟨x0,x1,x2,x3⟩:=F.o.c4;obtain⟨s1,b8⟩:∃ s1:ByteArray,(⟨#[123]⟩:ByteArray)++r=s1:=⟨_,rfl⟩;have a8:Hid (s1=Oy (123::Hu r (L.take 0))):=by
  unfold Hid;rw[<-b8,List.take_zero,Im];refine Kz ?_;simp[Oy]
 clear I K hL hn j
 go_in
 go_upto_region 1 with fail
 rw[HW.o]
 go_wp2
 go_loopw [3,11] (fun vo vi W=>∃ (k:Nat) (o:ByteArray),vo=.string o/\vi=.int .i64 k/\k<=n/\Hid (o=Oy (123::Hu r (L.take k)))/\Hid (Up W0 W)) (fun _ vi _=>n - (intOf vi).toNat)
 case atStart=>exact⟨0,s1,rfl,rfl,J7 _,a8,Jj _ _⟩
 obtain⟨k,o,rfl,rfl,hk,Y,hb⟩:=hrel;have d7:o.size<=1500000:=by
  rw[Y.o]
  show (123::Hu r (L.take k)).toArray.size<=_
  have V:Dh r (L.take k):=⟨U.o.1,by rw[Jm];have:=U.o.2.1;omega,fun e he=>U.o.2.2 e (Ya he)⟩;have:=Qs V;have h2:=V.2.1;simp only[Vh,J8];omega
 obtain⟨x0,x1,x2,x3⟩:=(F.o.bl F.o.lt hb.o).c4
 by_cases b6:k<n
 ·have D:k<L.length:=by rw[HN.o];exact b6
  obtain⟨b1,b2,rfl,rfl,hc⟩:=a6.o (by omega);obtain⟨y1,y2⟩:=hc wr (d.o.trans (hb.o.mono d.o.size)) k D;have E:=Hd (LK (r:=r) D);have G:=U.o.2.2 _ (Yl D);obtain⟨u1,O⟩:=O2 (L[k].1);obtain⟨u2,T⟩:=O2 (L[k].2);rw[O] at y1 E G;rw[T] at y2 E G;obtain⟨m1,m2⟩:=G;have k0:0<=(k:Int):=by omega
  clear hc O T D
  go_wp2
  go_region
  all_goals
   go_wp2_with fail
   exact⟨⟨k+1,_,rfl,rfl,by omega,by unfold Hid;rw[Y.o];exact E.o,hb.o.drew⟩,by simp[intOf];omega⟩
 have e:k=n:=by omega
 have a7:Hid (o++⟨#[125]⟩=Oy (E8 r L)):=by
  unfold Hid;rw[Y.o,e,<-HN.o,Zi];refine Kz ?_;simp[Oy,E8]
 have Z:Hid (Up w wr):=d.o.trans (hb.o.mono d.o.size);have d3:=Hd e;clear Y hb e
 go_wp2
 go_ret
 exact⟨by rw[a7.o];rfl,Z.o⟩
structure ChkE (ki ke:SK)(r:ByteArray)(L:List Kd)(k:Nat):Prop where
 ents:∀ j (h:j<L.length),j<k->Kg ki L[j].1/\Kg ke L[j].2/\L[j].2≠r/\¬ E7 ki L[j].1
 sort:∀ j (h:j+1<L.length),j+1<k->key ki L[j].1<key ki L[j+1].1
theorem ChkE.zero (ki ke:SK)(r:ByteArray)(L:List Kd):ChkE ki ke r L 0:=⟨fun _ _ h=>absurd h (Ve _),fun _ _ h=>absurd h (Ve _)⟩
theorem ChkE.more {ki ke:SK}{L:List Kd}{k:Nat}(h:ChkE ki ke r L k)(hk:k<L.length)(h1:Kg ki L[k].1)(h2:Kg ke L[k].2)(h3:L[k].2≠r)(h4:¬ E7 ki L[k].1)(h5:∀ hk0:0<k,key ki (L[k - 1]'(by omega)).1<key ki L[k].1):ChkE ki ke r L (k+1):=by
 constructor
 ·intro j d D
  by_cases e:j=k
  ·subst e;exact⟨h1,h2,h3,h4⟩
  exact h.ents j d (by omega)
 intro j d D
 by_cases e:j+1=k
 ·subst e;exact h5 (by omega)
 exact h.sort j d (by omega)
theorem ChkE.full {ki ke:SK}{L:List Kd}(h:ChkE ki ke r L L.length):(∀ e∈L,Kg ki e.1/\Kg ke e.2/\e.2≠r/\¬ E7 ki e.1)/\L.Pairwise fun e f=>key ki e.1<key ki f.1:=by
 constructor
 ·intro e E;obtain⟨j,D,rfl⟩:=Ym E;exact h.ents j D D
 rw[Zl];intro i j J D F;have H:∀ d (hd:i+1+d<L.length),key ki L[i].1<key ki L[i+1+d].1:=by
  intro d
  induction d with
  | zero=>intro hd;exact h.sort i hd hd
  | succ d ih=>
    intro hd;have G:=ih (by omega);have I:=h.sort (i+1+d) hd hd;have h3:key ki L[i+1+(d+1)].1=key ki L[i+1+d+1].1:=rfl;omega
 have:=H (j - (i+1)) (by omega);simp only[show i+1+(j - (i+1))=j by omega] at this;exact this
def P3 (w:World)(vs:Value)(t:List UInt8)(Y:SI):Prop:=∀ W,Up w W->Calls prog 12 #[vs,.string (Oy t)] W fun e w'=>e=.returned (Hj Y)/\Up W w'
theorem P3.next {w w':World}{vs:Value}{t:List UInt8}{Y:SI}(h:P3 w vs t Y)(hb:Up w w'):P3 w' vs t Y:=fun W hW=>h W (hb.trans (hW.mono hb.size))
def SY (ki ke:SK)(s:ByteArray)(w:World)(e:Ending)(w':World):Prop:=∃ b,e=.returned (.bool b)/\(b=true↔∃ r L,K1 ki ke s r L)/\Up w w'
theorem SY.no {ki ke:SK}{s:ByteArray}{w w':World}(h:¬ ∃ r L,K1 ki ke s r L)(hb:Up w w'):SY ki ke s w (.returned (.bool false)) w':=⟨_,rfl,⟨fun e=>(by cases e),fun e=>absurd e h⟩,hb⟩
theorem Su {t:List UInt8}{L:List Kd}(h:Xt t r L):r.size<=t.length/\∀ e∈L,e.1.size<=t.length/\e.2.size<=t.length:=by
 have D:t.length=2+r.size+(L.flatMap Ie).length:=by
  rw[h.1];unfold E8 Hu;simp;have:r.data.toList.length=r.size:=rfl;omega
 refine⟨by omega,fun e he=>?_⟩;have E:(Ie e).length<=(L.flatMap Ie).length:=by
  obtain⟨A,B,rfl⟩:=List.append_of_mem he;rw[Od,V6];simp;omega
 have h3:(Ie e).length=2+e.1.size+e.2.size:=by
  unfold Ie;simp;have d:e.1.data.toList.length=e.1.size:=rfl;have j:e.2.data.toList.length=e.2.size:=rfl;omega
 omega
theorem Xd (vs:Value)(X Xi Xe:SI)(s:ByteArray)(w:World)(hs:s.size<=1048576)(h6:X.kind=6)(hri:P3 w vs X.index Xi)(hre:P3 w vs X.elem Xe)(hwi:Cw Xi)(hwe:Cw Xe)(hK:Gm (On Xi))(hw64:Xi.width<=64) :
 Calls prog 25 #[vs,Hj X,.string s] w fun e w'=>SY (On Xi) (On Xe) s w e w':=by
 have u6:=Hd hri;have u5:=Hd hre;have H6:=Hd h6;have u8:=Hd hwi;have n7:=Hd hwe;have HK:=Hd hK;obtain⟨W1,e7⟩:=O2 (w.alloc (.cells #[.int .i64 X.kind,.int .i64 (X.width:Nat),.string (Oy X.index),.string (Oy X.elem)] 37));have a7:Hid (Up w W1):=by unfold Hid;rw[<-e7];exact Oo _ _
 have a6:Hid (Bx W1 w.heap.size [.int .i64 X.kind,.int .i64 (X.width:Nat),.string (Oy X.index),.string (Oy X.elem)]):=by unfold Hid;rw[<-e7];exact Ox w _ _
 have HW:=Hd e7;obtain⟨x0,x1,x2,x3⟩:=a6.o.c4;have z6:(X.kind != 6)=false:=by rw[h6];rfl
 unfold Hj;clear e7 hri hre h6 hwi hwe hK
 by_cases hl:2000<s.size
 ·have HN:Hid (¬ ∃ r L,K1 (On Xi) (On Xe) s r L):=fun ⟨r,L,h⟩=>by have:=h.2.1;omega
  go_in
  go_upto_region 1 with fail
  rw[HW.o]
  go_wp2
  go_ret
  exact .no HN.o a7.o
 have n6:Hid (s.size<=2000):=by unfold Hid;omega
 have L3:¬ (2000:Int)<(s.size:Int):=by omega
 go_in
 go_upto_region 1 with fail
 rw[HW.o]
 go_wp2_with fail
 refine (Fy s W1 hs).mono ?_;rintro e w2 ⟨ok,r,p1,n1,c1,p2,n2,c2,rfl,g4,p3,o3⟩;have HY:=Hd g4;have HN:=Hd p3;have m8:=Hd o3;clear o3 g4 p3
 go_upto_region 6 with fail
 generalize j9:w2.alloc _=W3;have j4:Hid (Bx W3 w2.heap.size [.bool ok,.string r,.slice p1 n1 c1,.slice p2 n2 c2]):=by unfold Hid;rw[<-j9];exact Ox w2 _ _
 have g9:Hid (Up w2 W3):=by unfold Hid;rw[<-j9];exact Oo _ _
 have H:Hid (Up W1 W3):=m8.o.trans (g9.o.mono m8.o.size);obtain⟨x0,x1,x2,x3⟩:=(a6.o.bl a6.o.lt H.o).c4;clear j9
 go_wp2_with fail
 refine (u6.o W3 (a7.o.trans (H.o.mono a7.o.size))).mono ?_;rintro e w4 ⟨rfl,o4⟩;have f9:=Hd o4;unfold Hj;clear o4 x0 x1 x2 x3
 go_upto_region 7 with fail
 generalize k1:w4.alloc _=W5;have j5:Hid (Bx W5 w4.heap.size [.int .i64 Xi.kind,.int .i64 (Xi.width:Nat),.string (Oy Xi.index),.string (Oy Xi.elem)]):=by unfold Hid;rw[<-k1];exact Ox w4 _ _
 have b8:Hid (Up W3 W5):=by unfold Hid;rw[<-k1];exact f9.o.alloc f9.o.size _
 obtain⟨x0,x1,x2,x3⟩:=(a6.o.bl a6.o.lt (H.o.trans (b8.o.mono H.o.size))).c4;clear k1
 go_wp2_with fail
 refine (u5.o W5 (a7.o.trans ((H.o.trans (b8.o.mono H.o.size)).mono a7.o.size))).mono ?_;rintro e w6 ⟨rfl,o5⟩;have g0:=Hd o5;unfold Hj;clear o5 x0 x1 x2 x3
 go_upto_region 8 with fail
 generalize k5:w6.alloc _=W7;have e5:Hid (Bx W7 w6.heap.size [.int .i64 Xe.kind,.int .i64 (Xe.width:Nat),.string (Oy Xe.index),.string (Oy Xe.elem)]):=by unfold Hid;rw[<-k5];exact Ox w6 _ _
 have g1:Hid (Up W5 W7):=by unfold Hid;rw[<-k5];exact g0.o.alloc g0.o.size _
 have d2:Hid (Up W3 W7):=b8.o.trans (g1.o.mono b8.o.size);have f7:Hid (Up W1 W7):=H.o.trans (d2.o.mono H.o.size);have g2:Hid (Up w W7):=a7.o.trans (f7.o.mono a7.o.size);have c8:=Hd (j4.o.bl j4.o.lt d2.o);have j6:=Hd (j5.o.bl j5.o.lt g1.o);have n8:=Hd (a6.o.bl a6.o.lt f7.o);have f8:Hid (Up w2 W7):=g9.o.trans (d2.o.mono g9.o.size);obtain⟨x0,x1,x2,x3⟩:=c8.o.c4;obtain⟨y0,y1,y2,y3⟩:=e5.o.c4;clear k5 a6 j4 j5
 cases ok
 ·have u0:=Hd (HN.o rfl);have Z:Hid (¬ ∃ r L,K1 (On Xi) (On Xe) s r L):=fun ⟨r,L,h⟩=>u0.o ⟨r,L,h.cut⟩
  go_wp2
  go_ret
  exact .no Z.o g2.o
 obtain⟨L,hcut,ha,hb⟩:=HY.o rfl;have g3:=Hd hcut;have j1:=Hd (ha.next f8.o);have j2:=Hd (hb.next f8.o);have k7:=Su hcut;have m9:Hid (r.size<=2000/\∀ e∈L,e.1.size<=2000/\e.2.size<=2000):=by
  have h9:s.data.toList.length=s.size:=rfl;have:=n6.o;refine⟨by have:=k7.1;omega,fun e he=>?_⟩;have:=k7.2 e he;omega
 have i1:Hid ((∃ r L,K1 (On Xi) (On Xe) s r L)->GoodA (On Xi) (On Xe) r L):=fun ⟨r',L',h⟩=>by
  obtain⟨rfl,rfl⟩:=h.cut.inj g3.o;exact h.2.2
 have u2:Hid (GoodA (On Xi) (On Xe) r L->∃ r L,K1 (On Xi) (On Xe) s r L):=fun h=>⟨r,L,g3.o.1,n6.o,h⟩;have c7:Hid (n1=L.length):=by
  obtain⟨p,c,e,_⟩:=ha;rw[Yq] at e
  cases e;rfl
 have n0:Hid (n2=L.length):=by
  obtain⟨p,c,e,_⟩:=hb;rw[Yq] at e
  cases e;rfl
 clear hcut ha hb k7 HY HN
 go_wp2_with fail
 refine (Gq Xe r W7 (by have:=m9.o.1;omega) n7.o).mono ?_;rintro e w8 ⟨b,rfl,o6,b6⟩;have n3:=Hd o6;have F:=Hd b6;have O:=g2.up b6;clear o6 b6 x0 x1 x2 x3 y0 y1 y2 y3;obtain⟨x0,x1,x2,x3⟩:=(c8.o.bl c8.o.lt F.o).c4
 cases b
 ·have Z:Hid (¬ ∃ r L,K1 (On Xi) (On Xe) s r L):=fun h=>by have:=n3.o.2 (i1.o h).rest;cases this
  go_wp2
  go_ret
  exact .no Z.o O.o
 have u7:=Hd (n3.o.1 rfl)
 by_cases u9:60<n1
 ·have Z:Hid (¬ ∃ r L,K1 (On Xi) (On Xe) s r L):=fun h=>by have:=(i1.o h).most;have:=c7.o;omega
  go_wp2
  go_ret
  exact .no Z.o O.o
 have o2:n1<=60:=by omega
 have z8:¬ (60:Int)<(n1:Int):=by omega
 go_wp2_with fail
 obtain⟨G,k9⟩:=O2 w2.heap.size;obtain⟨D,l0⟩:=O2 w4.heap.size;obtain⟨E,l3⟩:=O2 w6.heap.size;have s0:Hid (∀ W,Up w8 W->W.cell? ⟨G,0,none⟩=some (.bool true)/\W.cell? ⟨G,1,none⟩=some (.string r)/\W.cell? ⟨G,2,none⟩=some (.slice p1 n1 c1)/\W.cell? ⟨G,3,none⟩=some (.slice p2 n2 c2)):=fun W hW=>by rw[<-k9];exact ((c8.o.bl c8.o.lt (F.o.trans (hW.mono F.o.size)))).c4
 have t6:Hid (∀ W,Up w8 W->W.cell? ⟨D,0,none⟩=some (.int .i64 Xi.kind)/\W.cell? ⟨D,1,none⟩=some (.int .i64 (Xi.width:Nat))/\W.cell? ⟨D,2,none⟩=some (.string (Oy Xi.index))/\W.cell? ⟨D,3,none⟩=some (.string (Oy Xi.elem))):=fun W hW=>by rw[<-l0];exact ((j6.o.bl j6.o.lt (F.o.trans (hW.mono F.o.size)))).c4
 have t7:Hid (∀ W,Up w8 W->W.cell? ⟨E,0,none⟩=some (.int .i64 Xe.kind)/\W.cell? ⟨E,1,none⟩=some (.int .i64 (Xe.width:Nat))/\W.cell? ⟨E,2,none⟩=some (.string (Oy Xe.index))/\W.cell? ⟨E,3,none⟩=some (.string (Oy Xe.elem))):=fun W hW=>by rw[<-l3];exact ((e5.o.bl e5.o.lt (F.o.trans (hW.mono F.o.size)))).c4
 have t8:Hid (0<n1->∃ b1 b2,p1=some ⟨b1,0,none⟩/\p2=some ⟨b2,0,none⟩/\∀ W,Up w8 W->∀ k (h:k<L.length),W.cell? ⟨b1,k,none⟩=some (.string L[k].1)/\W.cell? ⟨b2,k,none⟩=some (.string L[k].2)):=by
  intro h0;have hL:L≠[]:=by
   intro e;have:=c7.o;rw[e] at this;simp at this;omega
  obtain⟨pa,ca,ea,_,_,v6⟩:=j1.o;obtain⟨pb,cb,eb,_,_,v7⟩:=j2.o
  cases ea
  cases eb
  rcases v6 with e|⟨b1,e1,l1,h1⟩
  ·exact absurd (V7.1 e) hL
  rcases v7 with e|⟨b2,e2,l2,h2⟩
  ·exact absurd (V7.1 e) hL
  refine⟨b1,b2,e1,e2,fun W hW k hk=>⟨?_,?_⟩⟩
  ·have:=h1 k (by rw[Yq];exact hk);rw[Vo] at this;exact ((F.o.trans (hW.mono F.o.size)).cell (p:=⟨b1,k,none⟩) l1).trans this
  have:=h2 k (by rw[Yq];exact hk);rw[Vo] at this;exact ((F.o.trans (hW.mono F.o.size)).cell (p:=⟨b2,k,none⟩) l2).trans this
 have H3:n1<=c1/\(c1:Int)<=9223372036854775807:=by
  obtain⟨pa,ca,ea,h1,h2,_⟩:=j1.o;rw[Yq] at ea h1
  cases ea
  unfold maxLen at h2;omega
 have H4:n2<=c2/\(c2:Int)<=9223372036854775807:=by
  obtain⟨pa,ca,ea,h1,h2,_⟩:=j2.o;rw[Yq] at ea h1
  cases ea
  unfold maxLen at h2;omega
 have p0:n2=n1:=by rw[c7.o,n0.o]
 subst p0;rw[k9];rw[l0];rw[l3];clear k9 l0 l3 x0 x1 x2 x3 c8 j6 e5 n8 n0 j1 j2 u9
 go_loopw [49] (fun vi W=>∃ k:Nat,vi=.int .i64 k/\k<=n2/\Hid (ChkE (On Xi) (On Xe) r L k)/\Hid (Up w8 W)) (fun vi _=>n2 - (intOf vi).toNat)
 case atStart=>exact⟨0,rfl,J7 _,ChkE.zero _ _ _ _,Jj _ _⟩
 obtain⟨k,rfl,hk,I,hb⟩:=hrel
 by_cases w1:k<n2
 ·have J:k<L.length:=by rw[<-c7.o];exact w1
  obtain⟨b1,b2,rfl,rfl,b7⟩:=t8.o (by omega);obtain⟨u,hu⟩:=O2 (L[k].1);obtain⟨v,hv⟩:=O2 (L[k].2);have p4:=m9.o.2 _ (Yl J);rw[hu,hv] at p4;have HS:Hid (∀ W,Up w8 W->(fun W=>W.cell? ⟨G,1,none⟩=some (.string r)/\W.cell? ⟨G,2,none⟩=some (.slice (some ⟨b1,0,none⟩) n2 c1)/\W.cell? ⟨G,3,none⟩=some (.slice (some ⟨b2,0,none⟩) n2 c2)/\W.cell? ⟨D,0,none⟩=some (.int .i64 Xi.kind)/\W.cell? ⟨D,1,none⟩=some (.int .i64 (Xi.width:Nat))/\W.cell? ⟨D,2,none⟩=some (.string (Oy Xi.index))/\W.cell? ⟨D,3,none⟩=some (.string (Oy Xi.elem))/\W.cell? ⟨E,0,none⟩=some (.int .i64 Xe.kind)/\W.cell? ⟨E,1,none⟩=some (.int .i64 (Xe.width:Nat))/\W.cell? ⟨E,2,none⟩=some (.string (Oy Xe.index))/\W.cell? ⟨E,3,none⟩=some (.string (Oy Xe.elem))/\W.cell? ⟨b1,k,none⟩=some (.string u)/\W.cell? ⟨b2,k,none⟩=some (.string v)) W):=fun W hW=>by
   obtain⟨e1,e2⟩:=b7 W hW k J;rw[hu] at e1;rw[hv] at e2;have h7:=(s0.o W hW).2;have h8:=t6.o W hW;have h9:=t7.o W hW;exact⟨h7.1,h7.2.1,h7.2.2,h8.1,h8.2.1,h8.2.2.1,h8.2.2.2,h9.1,h9.2.1,h9.2.2.1,h9.2.2.2,e1,e2⟩
  have HU:=Hd hu;have HV:=Hd hv;have i6:=Hd J;have HP:Hid (0<k->∃ hk1:k - 1<L.length,∀ W,Up w8 W->W.cell? ⟨b1,k - 1,none⟩=some (.string L[k - 1].1)):=fun h0=>⟨by omega,fun W hW=>(b7 W hW (k - 1) (by omega)).1⟩;have T:Hid ((GoodA (On Xi) (On Xe) r L->False)->¬ ∃ r L,K1 (On Xi) (On Xe) s r L):=fun h h2=>h (i1.o h2);have c6:Hid (∀ W,Up w8 W->Up w W):=fun W hW=>O.o.trans (hW.mono O.o.size);obtain⟨L4,L5⟩:=p4;have k0:(0:Int)<=(k:Int):=by omega
  clear hu hv b7
  go_wp2_with fail
  refine Tx 28 rfl (S:=fun W=>W.cell? ⟨G,1,none⟩=some (.string r)/\W.cell? ⟨G,2,none⟩=some (.slice (some ⟨b1,0,none⟩) n2 c1)/\W.cell? ⟨G,3,none⟩=some (.slice (some ⟨b2,0,none⟩) n2 c2)/\W.cell? ⟨D,0,none⟩=some (.int .i64 Xi.kind)/\W.cell? ⟨D,1,none⟩=some (.int .i64 (Xi.width:Nat))/\W.cell? ⟨D,2,none⟩=some (.string (Oy Xi.index))/\W.cell? ⟨D,3,none⟩=some (.string (Oy Xi.elem))/\W.cell? ⟨E,0,none⟩=some (.int .i64 Xe.kind)/\W.cell? ⟨E,1,none⟩=some (.int .i64 (Xe.width:Nat))/\W.cell? ⟨E,2,none⟩=some (.string (Oy Xe.index))/\W.cell? ⟨E,3,none⟩=some (.string (Oy Xe.elem))/\W.cell? ⟨b1,k,none⟩=some (.string u)/\W.cell? ⟨b2,k,none⟩=some (.string v)) (by kernel_rfl) (HS.o wr.drew hb.o.drew) (fun hHeld=>?_)
  iterate 6 (refine G7 27 79 (v:=?_) rfl rfl (by kernel_rfl) (fun _ _ _ h=>h) (.inl ⟨by rfl,?_⟩) (by assumption) ?_;rotate_left;(intro w d;(try dsimp only at d);go_simp;(try with_reducible rfl));try simp only[Act.put,Ja,Jc,Jb])
  refine wpAnyH_ready (rs:=[6]) (by kernel_rfl) (by simp) ?_;refine AllReadyH.cons rfl (fun K hK=>?_) AllReadyH.nil
  go_simp
  go_at_call 26
  refine (Gq Xi u wr.drew (by omega) u8.o).mono ?_;rintro e wa ⟨b,rfl,o7,d4⟩;have e0:Hid (Up w8 wa):=hb.o.drew.trans (d4.mono hb.o.size);have i8:=Hd o7;clear o7 d4
  go_wp2_with fail
  refine hK.out _ _ (HS.o wa e0.o) (fun hHeld6=>?_);clear hK K
  try simp only[Act.put,Ja,Jc,Jb]
  cases b
  ·(refine G7 27 79 (v:=?_) rfl rfl (by kernel_rfl) (fun _ _ _ h=>h) (.inl ⟨by rfl,?_⟩) (by assumption) ?_;rotate_left;(intro w d;(try dsimp only at d);go_simp;(try with_reducible rfl));try simp only[Act.put,Ja,Jc,Jb])
   (refine G7 27 79 (v:=?_) rfl rfl (by kernel_rfl) (fun _ _ _ h=>h) (.inl ⟨by rfl,?_⟩) (by assumption) ?_;rotate_left;(intro w d;(try dsimp only at d);go_simp;(try with_reducible rfl));try simp only[Act.put,Ja,Jc,Jb])
   iterate 8 (refine G7 27 79 (v:=undef) rfl rfl (by kernel_rfl) (fun _ _ _ h=>h) (.inr ⟨by rfl,rfl⟩) (by assumption) ?_;try simp only[Act.put,Ja,Jc,Jb])
   (refine G7 27 79 (v:=?_) rfl rfl (by kernel_rfl) (fun _ _ _ h=>h) (.inl ⟨by rfl,?_⟩) (by assumption) ?_;rotate_left;(intro w d;(try dsimp only at d);go_simp;(try with_reducible rfl));try simp only[Act.put,Ja,Jc,Jb])
   (refine G7 27 79 (v:=?_) rfl rfl (by kernel_rfl) (fun _ _ _ h=>h) (.inl ⟨by rfl,?_⟩) (by assumption) ?_;rotate_left;(intro w d;(try dsimp only at d);go_simp;(try with_reducible rfl));try simp only[Act.put,Ja,Jc,Jb])
   iterate 8 (refine G7 27 79 (v:=undef) rfl rfl (by kernel_rfl) (fun _ _ _ h=>h) (.inr ⟨by rfl,rfl⟩) (by assumption) ?_;try simp only[Act.put,Ja,Jc,Jb])
   (refine G7 27 79 (v:=?_) rfl rfl (by kernel_rfl) (fun _ _ _ h=>h) (.inl ⟨by rfl,?_⟩) (by assumption) ?_;rotate_left;(intro w d;(try dsimp only at d);go_simp;(try with_reducible rfl));try simp only[Act.put,Ja,Jc,Jb])
   refine wpAnyH_done (by kernel_rfl) ?_ _;have Z:=Hd (T.o (fun h=>by have:=i8.o.2 (by rw[<-HU.o];exact (h.ents _ (Yl i6.o)).1);cases this))
   go_wp2
   go_ret
   exact .no Z.o (c6.o _ e0.o)
  (refine G7 27 79 (v:=?_) rfl rfl (by kernel_rfl) (fun _ _ _ h=>h) (.inl ⟨by rfl,?_⟩) (by assumption) ?_;rotate_left;(intro w d;(try dsimp only at d);go_simp;(try with_reducible rfl));try simp only[Act.put,Ja,Jc,Jb])
  (refine G7 27 79 (v:=?_) rfl rfl (by kernel_rfl) (fun _ _ _ h=>h) (.inl ⟨by rfl,?_⟩) (by assumption) ?_;rotate_left;(intro w d;(try dsimp only at d);go_simp;(try with_reducible rfl));try simp only[Act.put,Ja,Jc,Jb])
  iterate 6 (refine G7 27 79 (v:=?_) rfl rfl (by kernel_rfl) (fun _ _ _ h=>h) (.inl ⟨by rfl,?_⟩) (by assumption) ?_;rotate_left;(intro w d;(try dsimp only at d);go_simp;(try with_reducible rfl));try simp only[Act.put,Ja,Jc,Jb])
  refine wpAnyH_ready (rs:=[15]) (by kernel_rfl) (by simp) ?_;refine AllReadyH.cons rfl (fun K hK=>?_) AllReadyH.nil
  go_simp
  go_at_call 26
  refine (Gq Xe v wa (by omega) n7.o).mono ?_;rintro e wb ⟨b',rfl,o8,d5⟩;have U:=e0.up d5;have j0:=Hd o8;clear o8 d5
  go_wp2_with fail
  refine hK.out _ _ (HS.o wb U.o) (fun hHeld15=>?_);clear hK K
  try simp only[Act.put,Ja,Jc,Jb]
  cases b'
  ·(refine G7 27 79 (v:=?_) rfl rfl (by kernel_rfl) (fun _ _ _ h=>h) (.inl ⟨by rfl,?_⟩) (by assumption) ?_;rotate_left;(intro w d;(try dsimp only at d);go_simp;(try with_reducible rfl));try simp only[Act.put,Ja,Jc,Jb])
   (refine G7 27 79 (v:=?_) rfl rfl (by kernel_rfl) (fun _ _ _ h=>h) (.inl ⟨by rfl,?_⟩) (by assumption) ?_;rotate_left;(intro w d;(try dsimp only at d);go_simp;(try with_reducible rfl));try simp only[Act.put,Ja,Jc,Jb])
   (refine G7 27 79 (v:=?_) rfl rfl (by kernel_rfl) (fun _ _ _ h=>h) (.inl ⟨by rfl,?_⟩) (by assumption) ?_;rotate_left;(intro w d;(try dsimp only at d);go_simp;(try with_reducible rfl));try simp only[Act.put,Ja,Jc,Jb])
   iterate 8 (refine G7 27 79 (v:=undef) rfl rfl (by kernel_rfl) (fun _ _ _ h=>h) (.inr ⟨by rfl,rfl⟩) (by assumption) ?_;try simp only[Act.put,Ja,Jc,Jb])
   (refine G7 27 79 (v:=?_) rfl rfl (by kernel_rfl) (fun _ _ _ h=>h) (.inl ⟨by rfl,?_⟩) (by assumption) ?_;rotate_left;(intro w d;(try dsimp only at d);go_simp;(try with_reducible rfl));try simp only[Act.put,Ja,Jc,Jb])
   refine wpAnyH_done (by kernel_rfl) ?_ _;have Z:=Hd (T.o (fun h=>by have:=j0.o.2 (by rw[<-HV.o];exact (h.ents _ (Yl i6.o)).2.1);cases this))
   go_wp2
   go_ret
   exact .no Z.o (c6.o _ U.o)
  by_cases d7:v=r
  ·have p5:(v.toList==r.toList)=true:=by rw[d7];simp
   (refine G7 27 79 (v:=?_) rfl rfl (by kernel_rfl) (fun _ _ _ h=>h) (.inl ⟨by rfl,?_⟩) (by assumption) ?_;rotate_left;(intro w d;(try dsimp only at d);go_simp;(try with_reducible rfl));try simp only[Act.put,Ja,Jc,Jb])
   (refine G7 27 79 (v:=?_) rfl rfl (by kernel_rfl) (fun _ _ _ h=>h) (.inl ⟨by rfl,?_⟩) (by assumption) ?_;rotate_left;(intro w d;(try dsimp only at d);go_simp;(try with_reducible rfl));try simp only[Act.put,Ja,Jc,Jb])
   (refine G7 27 79 (v:=?_) rfl rfl (by kernel_rfl) (fun _ _ _ h=>h) (.inl ⟨by rfl,?_⟩) (by assumption) ?_;rotate_left;(intro w d;(try dsimp only at d);go_simp;(try with_reducible rfl));try simp only[Act.put,Ja,Jc,Jb])
   iterate 9 (refine G7 27 79 (v:=?_) rfl rfl (by kernel_rfl) (fun _ _ _ h=>h) (.inl ⟨by rfl,?_⟩) (by assumption) ?_;rotate_left;(intro w d;(try dsimp only at d);go_simp;(try with_reducible rfl));try simp only[Act.put,Ja,Jc,Jb])
   refine wpAnyH_done (by kernel_rfl) ?_ _;have Z:=Hd (T.o (fun h=>(h.ents _ (Yl i6.o)).2.2.1 (by rw[HV.o];exact d7)))
   go_wp2
   go_ret
   exact .no Z.o (c6.o _ U.o)
  have p5:(v.toList==r.toList)=false:=by rw[Jd];intro e;exact d7 (Kz (by rw[<-Je,<-Je];exact e))
  (refine G7 27 79 (v:=?_) rfl rfl (by kernel_rfl) (fun _ _ _ h=>h) (.inl ⟨by rfl,?_⟩) (by assumption) ?_;rotate_left;(intro w d;(try dsimp only at d);go_simp;(try with_reducible rfl));try simp only[Act.put,Ja,Jc,Jb])
  (refine G7 27 79 (v:=?_) rfl rfl (by kernel_rfl) (fun _ _ _ h=>h) (.inl ⟨by rfl,?_⟩) (by assumption) ?_;rotate_left;(intro w d;(try dsimp only at d);go_simp;(try with_reducible rfl));try simp only[Act.put,Ja,Jc,Jb])
  (refine G7 27 79 (v:=?_) rfl rfl (by kernel_rfl) (fun _ _ _ h=>h) (.inl ⟨by rfl,?_⟩) (by assumption) ?_;rotate_left;(intro w d;(try dsimp only at d);go_simp;(try with_reducible rfl));try simp only[Act.put,Ja,Jc,Jb])
  iterate 9 (refine G7 27 79 (v:=?_) rfl rfl (by kernel_rfl) (fun _ _ _ h=>h) (.inl ⟨by rfl,?_⟩) (by assumption) ?_;rotate_left;(intro w d;(try dsimp only at d);go_simp;(try with_reducible rfl));try simp only[Act.put,Ja,Jc,Jb])
  refine wpAnyH_done (by kernel_rfl) ?_ _
  go_wp2_with fail
  have e3:=Hd d7;have b4:=Hd (i8.o.1 (by simp));have e4:=Hd (j0.o.1 (by simp));clear i8 j0 e0 d7 p5;have p7:(Xi.kind==4)=true∨(Xi.kind==4)=false:=by cases (Xi.kind==4)<;>simp
  by_cases v8:0<k
  ·obtain⟨hk1,k8⟩:=HP.o v8;obtain⟨u1,e9⟩:=O2 (L[k - 1].1);rw[e9] at k8;have i7:=Hd k8;have j3:=Hd e9;have n5:Hid (Kg (On Xi) u1):=by unfold Hid;rw[<-e9];exact (I.o.ents (k - 1) hk1 (by omega)).1
   have w0:decide ((0:Int)<(k:Int))=true:=dT (by omega)
   obtain⟨j,hj⟩:=O2 (k - 1);rw[hj] at i7;have L2:((k:Int) - 1)=(j:Int):=by omega
   have L1:IntKind.i64.wrap (j:Int)=(j:Int):=by rw[IntKind.wrap_i64];omega
   have H5:(0:Int)<=(j:Int):=by omega
   have K3:j<n2:=by omega
   have D1:(j:Int)<(n2:Int):=by omega
   clear k8 e9 hj;refine Tx 18 rfl (S:=fun W=>W.cell? ⟨G,1,none⟩=some (.string r)/\W.cell? ⟨G,2,none⟩=some (.slice (some ⟨b1,0,none⟩) n2 c1)/\W.cell? ⟨G,3,none⟩=some (.slice (some ⟨b2,0,none⟩) n2 c2)/\W.cell? ⟨D,0,none⟩=some (.int .i64 Xi.kind)/\W.cell? ⟨D,1,none⟩=some (.int .i64 (Xi.width:Nat))/\W.cell? ⟨D,2,none⟩=some (.string (Oy Xi.index))/\W.cell? ⟨D,3,none⟩=some (.string (Oy Xi.elem))/\W.cell? ⟨E,0,none⟩=some (.int .i64 Xe.kind)/\W.cell? ⟨E,1,none⟩=some (.int .i64 (Xe.width:Nat))/\W.cell? ⟨E,2,none⟩=some (.string (Oy Xe.index))/\W.cell? ⟨E,3,none⟩=some (.string (Oy Xe.elem))/\W.cell? ⟨b1,k,none⟩=some (.string u)/\W.cell? ⟨b2,k,none⟩=some (.string v)/\W.cell? ⟨b1,j,none⟩=some (.string u1)) (by kernel_rfl) (by obtain⟨s1,s2,s3,s4,s5,s6,s7,s8,s9,l6,l7,l8,l9⟩:=HS.o wb.drew U.o.drew;exact⟨s1,s2,s3,s4,s5,s6,s7,s8,s9,l6,l7,l8,l9,i7.o wb.drew U.o.drew⟩) (fun hHeld=>?_)
   iterate 15 (refine G7 17 97 (v:=?_) rfl rfl (by kernel_rfl) (fun _ _ _ h=>h) (.inl ⟨by rfl,?_⟩) (by assumption) ?_;rotate_left;(intro w d;(try dsimp only at d);go_simp;(try with_reducible rfl));try simp only[Act.put,Ja,Jc,Jb])
   refine wpAnyH_ready (rs:=[15]) (by kernel_rfl) (by simp) ?_;refine AllReadyH.cons rfl (fun K hK=>?_) AllReadyH.nil
   go_simp
   go_at_call 29
   refine (Ss Xi u1 u wb.drew HK.o n5.o b4.o).mono ?_;rintro e wc ⟨rfl,o9⟩;have Y:Hid (Up w8 wc):=U.o.drew.trans (o9.mono U.o.size);clear o9
   go_wp2_with fail
   refine hK.out _ _ (by obtain⟨s1,s2,s3,s4,s5,s6,s7,s8,s9,l6,l7,l8,l9⟩:=HS.o wc Y.o;exact⟨s1,s2,s3,s4,s5,s6,s7,s8,s9,l6,l7,l8,l9,i7.o wc Y.o⟩) (fun hHeld15=>?_);clear hK K
   try simp only[Act.put,Ja,Jc,Jb]
   obtain⟨x,hx⟩:=O2 (Q.Nc (key (On Xi) u1) (key (On Xi) u));rw[hx];have HX:=Hd hx;clear hx
   by_cases p6:0<=x
   ·have w5:decide ((0:Int)<=x)=true:=Jn p6
    iterate 2 (refine G7 17 97 (v:=?_) rfl rfl (by kernel_rfl) (fun _ _ _ h=>h) (.inl ⟨by rfl,?_⟩) (by assumption) ?_;rotate_left;(intro w d;(try dsimp only at d);go_simp;(try with_reducible rfl));try simp only[Act.put,Ja,Jc,Jb])
    refine wpAnyH_done (by kernel_rfl) ?_ _;have Z:=Hd (T.o (fun h=>by have h9:=Zl.1 h.sort (k - 1) k hk1 J (by omega);rw[j3.o,HU.o] at h9;have h8:=HX.o;rcases Ek (key (On Xi) u1) (key (On Xi) u) with⟨a1,a2⟩|⟨a1,a2⟩|⟨a1,a2⟩<;>omega))
    go_wp2
    go_ret
    exact .no Z.o (c6.o _ Y.o)
   have w5:decide ((0:Int)<=x)=false:=Jp p6;have n4:Hid (key (On Xi) u1<key (On Xi) u):=by have h8:=HX.o;unfold Hid;rcases Ek (key (On Xi) u1) (key (On Xi) u) with⟨a1,a2⟩|⟨a1,a2⟩|⟨a1,a2⟩<;>omega
   iterate 2 (refine G7 17 97 (v:=?_) rfl rfl (by kernel_rfl) (fun _ _ _ h=>h) (.inl ⟨by rfl,?_⟩) (by assumption) ?_;rotate_left;(intro w d;(try dsimp only at d);go_simp;(try with_reducible rfl));try simp only[Act.put,Ja,Jc,Jb])
   refine wpAnyH_done (by kernel_rfl) ?_ _
   go_wp2_with fail
   rcases p7 with h4|h4
   ·have b5:Hid (Xi.kind=4):=by unfold Hid;exact Jw.1 h4
    refine Tx 14 rfl (S:=fun W=>W.cell? ⟨G,1,none⟩=some (.string r)/\W.cell? ⟨G,2,none⟩=some (.slice (some ⟨b1,0,none⟩) n2 c1)/\W.cell? ⟨G,3,none⟩=some (.slice (some ⟨b2,0,none⟩) n2 c2)/\W.cell? ⟨D,0,none⟩=some (.int .i64 Xi.kind)/\W.cell? ⟨D,1,none⟩=some (.int .i64 (Xi.width:Nat))/\W.cell? ⟨D,2,none⟩=some (.string (Oy Xi.index))/\W.cell? ⟨D,3,none⟩=some (.string (Oy Xi.elem))/\W.cell? ⟨E,0,none⟩=some (.int .i64 Xe.kind)/\W.cell? ⟨E,1,none⟩=some (.int .i64 (Xe.width:Nat))/\W.cell? ⟨E,2,none⟩=some (.string (Oy Xe.index))/\W.cell? ⟨E,3,none⟩=some (.string (Oy Xe.elem))/\W.cell? ⟨b1,k,none⟩=some (.string u)/\W.cell? ⟨b2,k,none⟩=some (.string v)) (by kernel_rfl) (HS.o wc.drew Y.o.drew) (fun hHeld=>?_)
    iterate 11 (refine G7 13 111 (v:=?_) rfl rfl (by kernel_rfl) (fun _ _ _ h=>h) (.inl ⟨by rfl,?_⟩) (by assumption) ?_;rotate_left;(intro w d;(try dsimp only at d);go_simp;(try with_reducible rfl));try simp only[Act.put,Ja,Jc,Jb])
    refine wpAnyH_ready (rs:=[11]) (by kernel_rfl) (by simp) ?_;refine AllReadyH.cons rfl (fun K hK=>?_) AllReadyH.nil
    go_simp
    go_at_call 18
    refine (Hl Xi.width wc.drew hw64).mono ?_;rintro e wz ⟨rfl,d6⟩;have a8:Hid (Up w8 wz):=Y.o.drew.trans (d6.mono Y.o.size);clear d6
    go_wp2_with fail
    refine hK.out _ _ (HS.o wz a8.o) (fun hHeld11=>?_);clear hK K
    try simp only[Act.put,Ja,Jc,Jb]
    obtain⟨z,hz⟩:=O2 (Ny Xi.width 0);rw[hz];have HZ:=Hd hz;clear hz
    by_cases V:u=z
    ·have l4:(u.toList==z.toList)=true:=by rw[V];simp
     iterate 2 (refine G7 13 111 (v:=?_) rfl rfl (by kernel_rfl) (fun _ _ _ h=>h) (.inl ⟨by rfl,?_⟩) (by assumption) ?_;rotate_left;(intro w d;(try dsimp only at d);go_simp;(try with_reducible rfl));try simp only[Act.put,Ja,Jc,Jb])
     refine wpAnyH_done (by kernel_rfl) ?_ _;have Z:=Hd (T.o (fun h=>(h.ents _ (Yl J)).2.2.2 ⟨b5.o,by rw[HU.o,V,<-HZ.o];exact Gc (k:=On Xi) (n:=0) b5.o (Ua (by decide))⟩))
     go_wp2
     go_ret
     exact .no Z.o (c6.o _ a8.o)
    have l4:(u.toList==z.toList)=false:=by rw[Jd];intro e;exact V (Kz (by rw[<-Je,<-Je];exact e))
    have b3:Hid (¬ E7 (On Xi) u):=fun h=>V (by rw[<-HZ.o];exact Df (k:=On Xi) (n:=0) b5.o hw64 b4.o h.2)
    iterate 2 (refine G7 13 111 (v:=?_) rfl rfl (by kernel_rfl) (fun _ _ _ h=>h) (.inl ⟨by rfl,?_⟩) (by assumption) ?_;rotate_left;(intro w d;(try dsimp only at d);go_simp;(try with_reducible rfl));try simp only[Act.put,Ja,Jc,Jb])
    refine wpAnyH_done (by kernel_rfl) ?_ _
    go_wp2_with fail
    exact⟨⟨k+1,by go_num,by omega,I.o.more J (by rw[HU.o];exact b4.o) (by rw[HV.o];exact e4.o) (by rw[HV.o];exact e3.o) (by rw[HU.o];exact b3.o) (fun _=>by rw[j3.o,HU.o];exact n4.o),a8⟩,by simp[intOf];omega⟩
   have b3:Hid (¬ E7 (On Xi) u):=fun h=>by have e:(Xi.kind==4)=true:=Jw.2 h.1;rw[h4] at e;cases e
   refine Tx 14 rfl (S:=fun W=>W.cell? ⟨G,1,none⟩=some (.string r)/\W.cell? ⟨G,2,none⟩=some (.slice (some ⟨b1,0,none⟩) n2 c1)/\W.cell? ⟨G,3,none⟩=some (.slice (some ⟨b2,0,none⟩) n2 c2)/\W.cell? ⟨D,0,none⟩=some (.int .i64 Xi.kind)/\W.cell? ⟨D,1,none⟩=some (.int .i64 (Xi.width:Nat))/\W.cell? ⟨D,2,none⟩=some (.string (Oy Xi.index))/\W.cell? ⟨D,3,none⟩=some (.string (Oy Xi.elem))/\W.cell? ⟨E,0,none⟩=some (.int .i64 Xe.kind)/\W.cell? ⟨E,1,none⟩=some (.int .i64 (Xe.width:Nat))/\W.cell? ⟨E,2,none⟩=some (.string (Oy Xe.index))/\W.cell? ⟨E,3,none⟩=some (.string (Oy Xe.elem))/\W.cell? ⟨b1,k,none⟩=some (.string u)/\W.cell? ⟨b2,k,none⟩=some (.string v)) (by kernel_rfl) (HS.o wc.drew Y.o.drew) (fun hHeld=>?_)
   iterate 4 (refine G7 13 111 (v:=?_) rfl rfl (by kernel_rfl) (fun _ _ _ h=>h) (.inl ⟨by rfl,?_⟩) (by assumption) ?_;rotate_left;(intro w d;(try dsimp only at d);go_simp;(try with_reducible rfl));try simp only[Act.put,Ja,Jc,Jb])
   iterate 9 (refine G7 13 111 (v:=undef) rfl rfl (by kernel_rfl) (fun _ _ _ h=>h) (.inr ⟨by rfl,rfl⟩) (by assumption) ?_;try simp only[Act.put,Ja,Jc,Jb])
   (refine G7 13 111 (v:=?_) rfl rfl (by kernel_rfl) (fun _ _ _ h=>h) (.inl ⟨by rfl,?_⟩) (by assumption) ?_;rotate_left;(intro w d;(try dsimp only at d);go_simp;(try with_reducible rfl));try simp only[Act.put,Ja,Jc,Jb])
   refine wpAnyH_done (by kernel_rfl) ?_ _
   go_wp2_with fail
   exact⟨⟨k+1,by go_num,by omega,I.o.more J (by rw[HU.o];exact b4.o) (by rw[HV.o];exact e4.o) (by rw[HV.o];exact e3.o) (by rw[HU.o];exact b3.o) (fun _=>by rw[j3.o,HU.o];exact n4.o),Y.o.drew⟩,by simp[intOf];omega⟩
  have w0:decide ((0:Int)<(k:Int))=false:=dF (by omega)
  refine Tx 18 rfl (S:=fun W=>W.cell? ⟨G,1,none⟩=some (.string r)/\W.cell? ⟨G,2,none⟩=some (.slice (some ⟨b1,0,none⟩) n2 c1)/\W.cell? ⟨G,3,none⟩=some (.slice (some ⟨b2,0,none⟩) n2 c2)/\W.cell? ⟨D,0,none⟩=some (.int .i64 Xi.kind)/\W.cell? ⟨D,1,none⟩=some (.int .i64 (Xi.width:Nat))/\W.cell? ⟨D,2,none⟩=some (.string (Oy Xi.index))/\W.cell? ⟨D,3,none⟩=some (.string (Oy Xi.elem))/\W.cell? ⟨E,0,none⟩=some (.int .i64 Xe.kind)/\W.cell? ⟨E,1,none⟩=some (.int .i64 (Xe.width:Nat))/\W.cell? ⟨E,2,none⟩=some (.string (Oy Xe.index))/\W.cell? ⟨E,3,none⟩=some (.string (Oy Xe.elem))/\W.cell? ⟨b1,k,none⟩=some (.string u)/\W.cell? ⟨b2,k,none⟩=some (.string v)) (by kernel_rfl) (HS.o wb.drew U.o.drew) (fun hHeld=>?_)
  iterate 3 (refine G7 17 97 (v:=?_) rfl rfl (by kernel_rfl) (fun _ _ _ h=>h) (.inl ⟨by rfl,?_⟩) (by assumption) ?_;rotate_left;(intro w d;(try dsimp only at d);go_simp;(try with_reducible rfl));try simp only[Act.put,Ja,Jc,Jb])
  iterate 14 (refine G7 17 97 (v:=undef) rfl rfl (by kernel_rfl) (fun _ _ _ h=>h) (.inr ⟨by rfl,rfl⟩) (by assumption) ?_;try simp only[Act.put,Ja,Jc,Jb])
  (refine G7 17 97 (v:=?_) rfl rfl (by kernel_rfl) (fun _ _ _ h=>h) (.inl ⟨by rfl,?_⟩) (by assumption) ?_;rotate_left;(intro w d;(try dsimp only at d);go_simp;(try with_reducible rfl));try simp only[Act.put,Ja,Jc,Jb])
  refine wpAnyH_done (by kernel_rfl) ?_ _
  go_wp2_with fail
  have d3:Hid (Up w8 wb.drew):=U.o.drew
  rcases p7 with h4|h4
  ·have b5:Hid (Xi.kind=4):=by unfold Hid;exact Jw.1 h4
   refine Tx 14 rfl (S:=fun W=>W.cell? ⟨G,1,none⟩=some (.string r)/\W.cell? ⟨G,2,none⟩=some (.slice (some ⟨b1,0,none⟩) n2 c1)/\W.cell? ⟨G,3,none⟩=some (.slice (some ⟨b2,0,none⟩) n2 c2)/\W.cell? ⟨D,0,none⟩=some (.int .i64 Xi.kind)/\W.cell? ⟨D,1,none⟩=some (.int .i64 (Xi.width:Nat))/\W.cell? ⟨D,2,none⟩=some (.string (Oy Xi.index))/\W.cell? ⟨D,3,none⟩=some (.string (Oy Xi.elem))/\W.cell? ⟨E,0,none⟩=some (.int .i64 Xe.kind)/\W.cell? ⟨E,1,none⟩=some (.int .i64 (Xe.width:Nat))/\W.cell? ⟨E,2,none⟩=some (.string (Oy Xe.index))/\W.cell? ⟨E,3,none⟩=some (.string (Oy Xe.elem))/\W.cell? ⟨b1,k,none⟩=some (.string u)/\W.cell? ⟨b2,k,none⟩=some (.string v)) (by kernel_rfl) (HS.o wb.drew.drew d3.o.drew) (fun hHeld=>?_)
   iterate 11 (refine G7 13 111 (v:=?_) rfl rfl (by kernel_rfl) (fun _ _ _ h=>h) (.inl ⟨by rfl,?_⟩) (by assumption) ?_;rotate_left;(intro w d;(try dsimp only at d);go_simp;(try with_reducible rfl));try simp only[Act.put,Ja,Jc,Jb])
   refine wpAnyH_ready (rs:=[11]) (by kernel_rfl) (by simp) ?_;refine AllReadyH.cons rfl (fun K hK=>?_) AllReadyH.nil
   go_simp
   go_at_call 18
   refine (Hl Xi.width wb.drew.drew hw64).mono ?_;rintro e wz ⟨rfl,d6⟩;have a8:Hid (Up w8 wz):=d3.o.drew.trans (d6.mono d3.o.size);clear d6
   go_wp2_with fail
   refine hK.out _ _ (HS.o wz a8.o) (fun hHeld11=>?_);clear hK K
   try simp only[Act.put,Ja,Jc,Jb]
   obtain⟨z,hz⟩:=O2 (Ny Xi.width 0);rw[hz];have HZ:=Hd hz;clear hz
   by_cases V:u=z
   ·have l4:(u.toList==z.toList)=true:=by rw[V];simp
    iterate 2 (refine G7 13 111 (v:=?_) rfl rfl (by kernel_rfl) (fun _ _ _ h=>h) (.inl ⟨by rfl,?_⟩) (by assumption) ?_;rotate_left;(intro w d;(try dsimp only at d);go_simp;(try with_reducible rfl));try simp only[Act.put,Ja,Jc,Jb])
    refine wpAnyH_done (by kernel_rfl) ?_ _;have Z:=Hd (T.o (fun h=>(h.ents _ (Yl J)).2.2.2 ⟨b5.o,by rw[HU.o,V,<-HZ.o];exact Gc (k:=On Xi) (n:=0) b5.o (Ua (by decide))⟩))
    go_wp2
    go_ret
    exact .no Z.o (c6.o _ a8.o)
   have l4:(u.toList==z.toList)=false:=by rw[Jd];intro e;exact V (Kz (by rw[<-Je,<-Je];exact e))
   have b3:Hid (¬ E7 (On Xi) u):=fun h=>V (by rw[<-HZ.o];exact Df (k:=On Xi) (n:=0) b5.o hw64 b4.o h.2)
   iterate 2 (refine G7 13 111 (v:=?_) rfl rfl (by kernel_rfl) (fun _ _ _ h=>h) (.inl ⟨by rfl,?_⟩) (by assumption) ?_;rotate_left;(intro w d;(try dsimp only at d);go_simp;(try with_reducible rfl));try simp only[Act.put,Ja,Jc,Jb])
   refine wpAnyH_done (by kernel_rfl) ?_ _
   go_wp2_with fail
   exact⟨⟨k+1,by go_num,by omega,I.o.more J (by rw[HU.o];exact b4.o) (by rw[HV.o];exact e4.o) (by rw[HV.o];exact e3.o) (by rw[HU.o];exact b3.o) (fun h=>absurd h (by omega)),a8⟩,by simp[intOf];omega⟩
  have b3:Hid (¬ E7 (On Xi) u):=fun h=>by have e:(Xi.kind==4)=true:=Jw.2 h.1;rw[h4] at e;cases e
  refine Tx 14 rfl (S:=fun W=>W.cell? ⟨G,1,none⟩=some (.string r)/\W.cell? ⟨G,2,none⟩=some (.slice (some ⟨b1,0,none⟩) n2 c1)/\W.cell? ⟨G,3,none⟩=some (.slice (some ⟨b2,0,none⟩) n2 c2)/\W.cell? ⟨D,0,none⟩=some (.int .i64 Xi.kind)/\W.cell? ⟨D,1,none⟩=some (.int .i64 (Xi.width:Nat))/\W.cell? ⟨D,2,none⟩=some (.string (Oy Xi.index))/\W.cell? ⟨D,3,none⟩=some (.string (Oy Xi.elem))/\W.cell? ⟨E,0,none⟩=some (.int .i64 Xe.kind)/\W.cell? ⟨E,1,none⟩=some (.int .i64 (Xe.width:Nat))/\W.cell? ⟨E,2,none⟩=some (.string (Oy Xe.index))/\W.cell? ⟨E,3,none⟩=some (.string (Oy Xe.elem))/\W.cell? ⟨b1,k,none⟩=some (.string u)/\W.cell? ⟨b2,k,none⟩=some (.string v)) (by kernel_rfl) (HS.o wb.drew.drew d3.o.drew) (fun hHeld=>?_)
  iterate 4 (refine G7 13 111 (v:=?_) rfl rfl (by kernel_rfl) (fun _ _ _ h=>h) (.inl ⟨by rfl,?_⟩) (by assumption) ?_;rotate_left;(intro w d;(try dsimp only at d);go_simp;(try with_reducible rfl));try simp only[Act.put,Ja,Jc,Jb])
  iterate 9 (refine G7 13 111 (v:=undef) rfl rfl (by kernel_rfl) (fun _ _ _ h=>h) (.inr ⟨by rfl,rfl⟩) (by assumption) ?_;try simp only[Act.put,Ja,Jc,Jb])
  (refine G7 13 111 (v:=?_) rfl rfl (by kernel_rfl) (fun _ _ _ h=>h) (.inl ⟨by rfl,?_⟩) (by assumption) ?_;rotate_left;(intro w d;(try dsimp only at d);go_simp;(try with_reducible rfl));try simp only[Act.put,Ja,Jc,Jb])
  refine wpAnyH_done (by kernel_rfl) ?_ _
  go_wp2_with fail
  exact⟨⟨k+1,by go_num,by omega,I.o.more J (by rw[HU.o];exact b4.o) (by rw[HV.o];exact e4.o) (by rw[HV.o];exact e3.o) (by rw[HU.o];exact b3.o) (fun h=>absurd h (by omega)),d3.o.drew⟩,by simp[intOf];omega⟩
 have e:k=n2:=by omega
 have HG:Hid (∃ r L,K1 (On Xi) (On Xe) s r L):=by
  have h9:=I.o;rw[e,c7.o] at h9;have h8:=h9.full;exact u2.o ⟨u7.o,by rw[<-c7.o];exact o2,h8.1,h8.2⟩
 have r9:Hid (Up w wr):=O.o.trans (hb.o.mono O.o.size);have F2:=Hd e;clear e I hb
 go_wp2
 go_ret
 exact⟨true,rfl,⟨fun _=>HG.o,fun _=>rfl⟩,r9.o⟩
end Go.Proofs.YtjjgilacnocigaaGreatDoor
