import Derived.Test.YtjjgilacnocigaaGreatDoorP32
set_option linter.all false
set_option maxRecDepth 100000
set_option maxHeartbeats 8000000
namespace Go.Proofs.YtjjgilacnocigaaGreatDoor
open ChangeShapes WideShapes ChangeAt RowKit Proofs.Tryz
variable {G i k:Nat}{W:World}{r s:ByteArray}
def AB (s:ByteArray)(w:World)(e:Ending)(w':World):Prop:=
 ∃ ok r p1 n1 c1 p2 n2 c2,e=.returned (.agg #[.bool ok,.string r,.slice p1 n1 c1,.slice p2 n2 c2])/\(ok=true->∃ L,Xt s.data.toList r L/\Dp w' (.slice p1 n1 c1) (L.map Prod.fst)/\Dp w' (.slice p2 n2 c2) (L.map Prod.snd))/\(ok=false->¬ ∃ r L,Xt s.data.toList r L)/\Up w w'
def WU:List Value:=[.bool false,.string ⟨#[]⟩,.slice none 0 0,.slice none 0 0]
structure CutI (s:ByteArray)(G:Nat)(k:Nat)(b:Bool)(i:Nat)(W:World):Prop where
 yes:b=true->k=1/\i<s.size/\(∀ j (h:j<s.size),1<=j->j<i->s[j]≠59)/\TwoR true G W ⟨#[]⟩ (.slice none 0 0) (.slice none 0 0) [] []
 no:b=false->∃ r av bv L,TwoR true G W r av bv (L.map Prod.fst) (L.map Prod.snd)/\L.length<=i/\(i<s.size->Sy s.data.toList k r L/\∀ j (h:j<s.size),k<=j->j<i->s[j]≠59)/\(i=s.size->Xt s.data.toList r L)
theorem Co (_hk:k<=i)(_hi:i<=s.size):(s.extract k i).data.toList=(s.data.toList.drop k).take (i - k):=by
 simp only[Y6,Zf,Zs]
theorem VO (hk:k<=i)(hi:i<=s.size)(h:∀ j (h:j<s.size),k<=j->j<i->s[j]≠59):PY (s.extract k i):=fun c hc=>by
 rw[Co hk hi] at hc
 obtain⟨m,hm,rfl⟩:=Ym hc
 rw[Jm,Jr] at hm
 have d:s.data.toList.length=s.size:=rfl
 rw[Zn,Zm]
 exact h (k+m) (by omega) (by omega) (by omega)
theorem Wf {ok:Bool}(h:Bx W G [.bool ok,.string r,.slice none 0 0,.slice none 0 0]):TwoR ok G W r (.slice none 0 0) (.slice none 0 0) [] []:=⟨h,Vi _ _ _ _,Vi _ _ _ _,fun _ h=>by cases h⟩
theorem CutI.go {b:Bool}(h:CutI s G k b i W)(hi:i<s.size)(h1:s[i]≠59)(h2:i+1≠s.size):CutI s G k b (i+1) W:=by
 constructor
 ·intro e;obtain⟨a,b,c,d⟩:=h.yes e;refine⟨a,by omega,fun j hj hj1 hj2=>?_,d⟩
  by_cases e:j=i
  ·subst e;exact h1
  exact c j hj hj1 (by omega)
 intro e;obtain⟨r,D,E,L,a,b,c,d⟩:=h.no e;refine⟨r,D,E,L,a,by omega,fun _=>⟨(c hi).1,fun j hj hj1 hj2=>?_⟩,fun e=>absurd e h2⟩
 by_cases e:j=i
 ·subst e;exact h1
 exact (c hi).2 j hj hj1 (by omega)
theorem FV {p:ByteArray}{m:Nat}(hm:m<p.size)(h:p[m]=61):p.data.toList=(p.extract 0 m).data.toList++61::(p.extract (m+1) p.size).data.toList:=by
 simp only[Y6,Zf,Zs,Y9,Nat.sub_zero];have hl:m<p.data.toList.length:=hm;have e:p.data.toList=p.data.toList.take m++p.data.toList.drop m:=(J9 m _).symm;have j:p.data.toList[m]=61:=h;rw[Yw hl,j] at e;have d:(p.data.toList.drop (m+1)).take (p.size - (m+1))=p.data.toList.drop (m+1):=Jf (by rw[Jr];exact O1);rw[d];exact e
theorem TwoR.drew {ok:Bool}{av bv:Value}{A V:List ByteArray}(h:TwoR ok G W r av bv A V):TwoR ok G W.drew r av bv A V:=⟨h.bx.drew,Gb h.ra (fun _ _=>rfl),Gb h.rb (fun _ _=>rfl),h.ab⟩
theorem TwoR.boxA {ok:Bool}{W':World}{av bv:Value}{A V:List ByteArray}(h:TwoR ok G W r av bv A V){o:Obj}{v:Option Nat}(hv:v=av.ownBlock∨v=bv.ownBlock)(hgr:(W.alloc o).grownBy W' v):Bx W' G [.bool ok,.string r,av,bv]:=by
 obtain⟨D,j⟩:=h.bx;have d:=h.bx.lt;refine⟨D,((hgr.block G (by simp;omega) (fun e=>?_)).trans ((Oo W o).block G d)).trans j⟩
 rcases hv with hv|hv
 ·have:=(h.ra.lt G (by rw[<-hv,e])).1;omega
 have:=(h.rb.lt G (by rw[<-hv,e])).1;omega
theorem Sq:∃ i:TypeInfo,prog.info? 9=some i/\i.zero=some (.string ⟨#[]⟩)/\i.size=1/\i.bytes=16:=⟨_,rfl,rfl,rfl,rfl⟩
theorem CutI.rest {p:ByteArray}(h:CutI s G 1 true i W)(h1:1<=i)(h0:s.data.toList.head? = some 123)(h125:∀ h:s.size - 1<s.size,s[s.size - 1]=125)(hi:i<s.size)(hc:s[i]=59∨i+1=s.size)(hp:s.extract 1 i=p):CutI s G (i+1) false (i+1) (W.setCell ⟨G,1,none⟩ (.string p)):=by
 obtain⟨_,_,hn,E⟩:=h.yes rfl;have d:PY p:=by rw[<-hp];exact VO h1 (by omega) hn
 have D:p.data.toList=(s.data.toList.drop 1).take (i - 1):=by rw[<-hp];exact Co h1 (by omega)
 refine⟨fun e=>(by cases e),fun _=>⟨p,_,_,[],Wf (E.bx.set 1 (.string p)),J7 _,fun hlt=>⟨?_,fun j _ a b=>absurd a (by omega)⟩,fun he=>?_⟩⟩
 ·rcases hc with hc|hc
  ·exact IC h1 hi h0 hc D d
  omega
 refine Mm h1 he h0 ?_ D d;have e:i=s.size - 1:=by omega
 subst e;exact h125 (by omega)
theorem Fy (s:ByteArray)(w:World)(hs:s.size<=1048576) :
 Calls prog 27 #[.string s] w fun e w'=>AB s w e w':=by
 have b9:Hid (∀ W,Up w W->(¬ ∃ r L,Xt s.data.toList r L)->AB s w (.returned (.agg #[.bool false,.string ⟨#[]⟩,.slice none 0 0,.slice none 0 0])) W):=fun W hb h=>⟨false,_,_,_,_,_,_,_,rfl,fun e=>(by cases e),fun _=>h,hb⟩;obtain⟨W1,e0⟩:=O2 (w.alloc (.cells #[.bool false,.string ⟨#[]⟩,.slice none 0 0,.slice none 0 0] 60));have f9:=Hd e0;have c7:Hid (Bx W1 w.heap.size WU):=by unfold Hid;rw[<-e0];exact Ox w WU _
 have j0:Hid (Up w W1):=by unfold Hid;rw[<-e0];exact Oo _ _
 have i7:W1.heap.size=w.heap.size+1:=by rw[<-e0];simp
 have s1:=Hd i7;obtain⟨x0,x1,x2,x3⟩:=c7.o.c4;obtain⟨f0,f1,f2,f3⟩:=c7.o.f4;have d5:Hid (∀ W,Up W1 W->Bx W w.heap.size WU):=fun W hW=>c7.o.bl c7.o.lt hW;have H:Hid (∀ W,Bx W w.heap.size WU->Bx ((((W.setCell ⟨w.heap.size,0,none⟩ (.bool false)).setCell ⟨w.heap.size,1,none⟩ (.string ⟨#[]⟩)).setCell ⟨w.heap.size,2,none⟩ (.slice none 0 0)).setCell ⟨w.heap.size,3,none⟩ (.slice none 0 0)) w.heap.size WU):=fun W h=>((((h.set 0 _).set 1 _).set 2 _).set 3 _);have E:Hid (∀ W a b c d,Up w W->Up w ((((W.setCell ⟨w.heap.size,0,none⟩ a).setCell ⟨w.heap.size,1,none⟩ b).setCell ⟨w.heap.size,2,none⟩ c).setCell ⟨w.heap.size,3,none⟩ d)):=fun W a b c d h=>(((h.sc).sc).sc).sc;clear e0 i7;have d4:s.data.toList.length=s.size:=rfl
 by_cases h2:s.size<2
 ·have HN:Hid (¬ ∃ r L,Xt s.data.toList r L):=fun ⟨r,L,h⟩=>by have:=(OB h).1;omega
  have HE:=(H.o W1 c7.o).c4;have HR:=Hd (b9.o _ (E.o W1 (.bool false) (.string ⟨#[]⟩) (.slice none 0 0) (.slice none 0 0) j0.o) HN.o);have r7:=Hd HE;clear HE H d5 b9 E
  go_in
  go_upto_region 1 with fail
  rw[f9.o]
  go_wp2_with fail
  obtain⟨g0,g1,g2,g3⟩:=r7.o;refine Jh ?_ rfl HR.o;simp[results,results27,go_sem,g0,g1,g2,g3]
 have x4:2<=s.size:=by omega
 have s8:0<s.size:=by omega
 have F:s.data.toList.head? = some s[0]:=Ns s s8;have J:s.data.toList.getLast? = some s[s.size - 1]:=by
  rw[Uc,d4,Jl (by omega)];rfl
 have U:Hid ((s[0]≠123∨s[s.size - 1]≠125)->¬ ∃ r L,Xt s.data.toList r L):=fun h ⟨r,L,hc⟩=>by
  have h9:=OB hc;rw[F,J] at h9
  rcases h with h|h
  ·exact h (Option.some.inj h9.2.1)
  exact h (Option.some.inj h9.2.2)
 have HE:=Hd (H.o W1 c7.o).c4;have d7:Hid ((¬ ∃ r L,Xt s.data.toList r L)->AB s w (.returned (.agg #[.bool false,.string ⟨#[]⟩,.slice none 0 0,.slice none 0 0])) _):=b9.o _ (E.o W1 (.bool false) (.string ⟨#[]⟩) (.slice none 0 0) (.slice none 0 0) j0.o);have x7:¬ (s.size:Int)<2:=by omega
 have y5:((s.size:Int) - 1).toNat=s.size - 1:=by omega
 have o0:s.size - 1<s.size:=by omega
 have x5:(0:Int)<=(s.size:Int) - 1:=by omega
 have x6:(s.size:Int) - 1<(s.size:Int):=by omega
 by_cases q0:s[0]=123
 case neg=>
  have z0:=Wm 123 rfl q0;have HR:=Hd (d7.o (U.o (.inl q0)));clear d7 U b9 E H d5 F J q0
  go_in
  go_upto_region 1 with fail
  rw[f9.o]
  go_wp2_with fail
  obtain⟨g0,g1,g2,g3⟩:=HE.o;refine Jh ?_ rfl HR.o;simp[results,results27,go_sem,g0,g1,g2,g3]
 have z0:=Wl 123 rfl q0
 by_cases q1:s[s.size - 1]=125
 case neg=>
  have z1:=Wm 125 rfl q1;have HR:=Hd (d7.o (U.o (.inr q1)));clear d7 U b9 E H d5 F J q0 q1
  go_in
  go_upto_region 1 with fail
  rw[f9.o]
  go_wp2_with fail
  obtain⟨g0,g1,g2,g3⟩:=HE.o;refine Jh ?_ rfl HR.o;simp[results,results27,go_sem,g0,g1,g2,g3]
 have z1:=Wl 125 rfl q1;have s0:Hid (s.data.toList.head? = some 123):=by unfold Hid;rw[F,q0]
 have j7:=Hd q1;clear d7 U HE F J q0 q1
 go_in
 go_upto_region 1 with fail
 rw[f9.o]
 go_wp2_with fail
 obtain⟨G,hG⟩:=O2 W1.heap.size;rw[hG];have n0:Hid (∀ W,Below G W1 W->Bx W w.heap.size WU):=fun W hW=>d5.o W (by unfold Up;rw[hG];exact hW);have f5:Hid (w.heap.size+1=G):=by have:=s1.o;unfold Hid;omega
 have h1:Hid (∀ W,Below G W1 W->Up w W):=fun W hW=>j0.o.trans (hW.mono (by have:=f5.o;omega));have h6:=Hd hG;clear d5 hG x0 x1 x2 x3 f0 f1 f2 f3 z0 z1
 go_loopw [5,6,7] (fun vf vb vi W=>∃ (k i:Nat) (b:Bool),vf=.int .i64 k/\vb=.bool b/\vi=.int .i64 i/\1<=i/\i<=s.size/\k<=i/\Hid (CutI s G k b i W)/\Hid (Below G W1 W)) (fun _ _ vi _=>s.size - (intOf vi).toNat)
 case atStart=>
  refine⟨1,1,true,rfl,rfl,rfl,by omega,by omega,O1,⟨fun _=>⟨rfl,by omega,fun j _ a b=>absurd a (by omega),Wf ?_⟩,fun e=>(by cases e)⟩,?_⟩
  ·rw[<-h6.o];exact Ox W1 [.bool true,.string ⟨#[]⟩,.slice none 0 0,.slice none 0 0] _
  rw[<-h6.o];exact Oo _ _
 obtain⟨k,i,b,rfl,rfl,rfl,o0,o1,e3,hc,hb⟩:=hrel
 by_cases Y:i<s.size
 ·by_cases a8:s[i]≠59/\i+1≠s.size
  ·have y0:=Wm 59 rfl a8.1;have y1:((i:Int) != (s.size:Int) - 1)=true:=by rw[bne_iff_ne];have:=a8.2;omega
   have HC:=Hd (hc.o.go Y a8.1 a8.2);clear hc a8
   go_wp2_with fail
   exact⟨⟨k,i+1,b,rfl,rfl,by go_num,by omega,by omega,by omega,HC,hb⟩,by simp[intOf];omega⟩
  have i8:Hid (s[i]=59∨i+1=s.size):=by
   by_cases e:s[i]=59
   ·exact .inl e
   refine .inr ?_
   by_cases e2:i+1=s.size
   ·exact e2
   exact absurd ⟨e,e2⟩ a8
  have HY:Hid (((s[i].toNat:Int) != 59)=false∨(((s[i].toNat:Int) != 59)=true/\((i:Int) != (s.size:Int) - 1)=false)):=by
   rcases i8.o with e|e
   ·exact .inl (Wl 59 rfl e)
   by_cases e2:s[i]=59
   ·exact .inl (Wl 59 rfl e2)
   exact .inr ⟨Wm 59 rfl e2,by rw[bne_eq_false_iff_eq];omega⟩
  clear a8;obtain⟨p,hp⟩:=O2 (s.extract k i);have HP:=Hd hp;have y4:p.size<=1048576:=by rw[<-hp,Yj];omega
  cases b
  ·obtain⟨r,av,bv,L,hT,t6,hcut,_⟩:=hc.o.no rfl;obtain⟨n9,hn⟩:=hcut Y;have b6:Hid (PY p):=by unfold Hid;rw[<-hp];exact VO e3 o1 hn
   have d6:Hid (p.data.toList=(s.data.toList.drop k).take (i - k)):=by unfold Hid;rw[<-hp];exact Co e3 o1
   have e8:=Hd n9;have D:=Hd hT;have b5:Hid (s.data.toList[i]'(by rw[d4];exact Y)=59∨(i+1=s.data.toList.length/\s.data.toList[i]'(by rw[d4];exact Y)=125)):=by
    rcases i8.o with e|e
    ·exact .inl e
    refine .inr ⟨e,?_⟩;have e2:i=s.size - 1:=by omega
    have:=j7.o;subst e2;exact this
   clear hcut n9 hn hT hc
   rcases HY.o with y0|⟨y0,y1⟩
   all_goals (
    go_wp2
    go_loop [9] (fun vk=>∃ m:Nat,vk=.int .i64 m/\m<=p.size/\Hid (∀ x (h:x<p.size),x<m->p[x]≠61)) (fun vk=>p.size - (intOf vk).toNat)
    case atStart=>exact⟨0,rfl,J7 _,fun x _ h=>absurd h (Ve _)⟩
    obtain⟨m,rfl,hm,I⟩:=hrel
    by_cases t8:m<p.size
    ·by_cases b4:p[m]=61
     ·have v0:=Wl 61 rfl b4;have w1:=Hd b4;obtain⟨a,ha⟩:=O2 (p.extract 0 m);obtain⟨b,t7⟩:=O2 (p.extract (m+1) p.size);have e7:Hid (p.data.toList=a.data.toList++61::b.data.toList):=by unfold Hid;rw[<-ha,<-t7];exact FV t8 b4
      have l9:Hid (∀ c∈a.data.toList,c≠59/\c≠61):=fun c hc=>by
       refine⟨b6.o c (by rw[e7.o];exact List.mem_append_left _ hc),?_⟩;rw[<-ha,Co (J7 _) (by omega)] at hc;obtain⟨x,hx,rfl⟩:=Ym hc;rw[Jm,Jr] at hx;rw[Zn,Zm];have hd:p.data.toList.length=p.size:=rfl;exact I.o (0+x) (by omega) (by omega)
      have m7:Hid (PY b):=fun c hc=>b6.o c (by rw[e7.o];exact List.mem_append_right _ (List.mem_cons_of_mem _ hc));obtain⟨i0,i6,o8,o9,p0⟩:=Sq;obtain⟨A,hA⟩:∃ A,A=L.map Prod.fst:=⟨_,rfl⟩;obtain⟨B,hB⟩:∃ B,B=L.map Prod.snd:=⟨_,rfl⟩;obtain⟨O,Z⟩:=O2 A.length;obtain⟨T,a6⟩:=O2 B.length;have v7:O<=1048576:=by rw[<-Z,hA,Yq];omega
      have v8:T<=1048576:=by rw[<-a6,hB,Yq];omega
      rw[<-hA,<-hB] at D;obtain⟨pa,ca,rfl,_,_,_⟩:=N0 D.o.ra;obtain⟨pb,cb,rfl,_,_,_⟩:=N0 D.o.rb;rw[Z,a6] at D;have j3:=Hd Z;have j4:=Hd a6;have j2:Hid (G+1<=wr.heap.size):=D.o.bx.lt;have j5:Hid (((wr.drew).alloc (.cells #[.string a] 9)).ownsRow (G+1) 9 1 (.slice pa O ca) O (A.map Value.string)):=by
       have:=D.o.drew.ra;rw[j3.o] at this;exact this.alloc _
      have n4:Hid (∀ j u,[Value.string a][j]? = some u->((wr.drew).alloc (.cells #[.string a] 9)).cell? ((⟨wr.heap.size,0,none⟩:Addr).add j)=some u):=World.news_of_block (cs:=#[.string a]) (t:=9) (fr:=(0,0)) (heap_alloc_new wr.drew _);have m8:Hid (∀ w6,((wr.drew).alloc (.cells #[.string a] 9)).grownBy w6 (Value.slice pa O ca).ownBlock->Bx w6 G [.bool true,.string r,.slice pa O ca,.slice pb T cb]):=fun w6 h=>D.o.drew.boxA (.inl rfl) h;have b2:=D.o.bx.cell 2;have b3:=D.o.bx.cell 3;have q2:=D.o.bx.fz 2;have s5:(wr.alloc (.cells #[.string a] 9)).cell? ⟨G,2,none⟩=some (.slice pa O ca):=((D.o.bx.alloc _).cell 2);have q7:=Hd hA;have q9:=Hd hB;have f7:Hid (O+1<=maxLen/\(O+1)*16<=140737488355328/\G+1<=((wr.drew).alloc (.cells #[.string a] 9)).heap.size):=⟨by unfold maxLen;omega,by omega,by have:=j2.o;simp;omega⟩;clear b4 hA hB Z a6 I
      go_wp2
      go_region_law ((refine step_append_lies _ rfl _ _ _ rfl (G+1) 9 i0 _ 1 16 underlying23 i6 o8 o9 p0 rfl (by decide) (.slice pa O ca) O (A.map Value.string) (by simp[Act.eval,Act.put]) j5.o ⟨wr.heap.size,0,none⟩ 1 1 [.string a] (by simp[Act.eval,Act.put]) rfl n4.o (by simp[Value.oneCell']) (by decide) f7.o.1 f7.o.2.1 f7.o.2.2 _ rfl ?_;intro g6 c6 w6 e4 b7 h8 o2;have l2:=m8.o w6 b7;have d2:=l2.cell 2;have z2:=l2.fz 2;simp only[J6,Yk] at d2))
      all_goals
       have l0:TwoR true G (w6.setCell ⟨G,2,none⟩ (.slice (some ⟨g6,0,none⟩) (O+1) c6)) r (.slice (some ⟨g6,0,none⟩) (O+1) c6) (.slice pb T cb) (A++[a]) B:=by
        have h:=D.o.drew.appA (W':=w6) (g:=g6) (cap:=c6) (a:=a) (o:=.cells #[.string a] 9) (by rw[j3.o];exact e4) b7 (by
         rcases h8 with h|h
         ·exact .inl h
         exact .inr (by show wr.heap.size<=g6;rw[h];simp))
        rw[j3.o] at h;exact h
       have k8:Below G W1 (w6.setCell ⟨G,2,none⟩ (.slice (some ⟨g6,0,none⟩) (O+1) c6)):=((hb.o.drew.alloc (by have:=j2.o;show G<=wr.heap.size;omega) (.cells #[.string a] 9)).grown b7 (by have:=j2.o;simp;omega) (fun k e=>by have:=(j5.o.lt k e).1;omega)).sc;obtain⟨W7,n7⟩:=O2 (w6.setCell ⟨G,2,none⟩ (.slice (some ⟨g6,0,none⟩) (O+1) c6));rw[n7] at l0 k8 ⊢;have V:=Hd l0;have m5:=Hd k8;clear n7 k8 l0 e4 b7 h8 o2 l2 d2 z2 b2 s5 b3 q2 j5 n4 m8 f7 D hb;have j1:Hid (G+1<=W7.heap.size):=V.o.bx.lt;have j6:Hid (((W7.drew).alloc (.cells #[.string b] 9)).ownsRow (G+1) 9 1 (.slice pb T cb) T (B.map Value.string)):=by
        have:=V.o.drew.rb;rw[j4.o] at this;exact this.alloc _
       have n5:Hid (∀ j u,[Value.string b][j]? = some u->((W7.drew).alloc (.cells #[.string b] 9)).cell? ((⟨W7.heap.size,0,none⟩:Addr).add j)=some u):=World.news_of_block (cs:=#[.string b]) (t:=9) (fr:=(0,0)) (heap_alloc_new W7.drew _);have m9:Hid (∀ w6,((W7.drew).alloc (.cells #[.string b] 9)).grownBy w6 (Value.slice pb T cb).ownBlock->Bx w6 G [.bool true,.string r,.slice (some ⟨g6,0,none⟩) (O+1) c6,.slice pb T cb]):=fun w6 h=>V.o.drew.boxA (.inr rfl) h;have b3:=V.o.bx.cell 3;have s7:(W7.alloc (.cells #[.string b] 9)).cell? ⟨G,3,none⟩=some (.slice pb T cb):=((V.o.bx.alloc _).cell 3);have q3:=V.o.bx.fz 3;have f8:Hid (T+1<=maxLen/\(T+1)*16<=140737488355328/\G+1<=((W7.drew).alloc (.cells #[.string b] 9)).heap.size):=⟨by unfold maxLen;omega,by omega,by have:=j1.o;simp;omega⟩;have u9:m+1<=p.size:=by omega
       have v1:(0:Int)<=(m:Int)+1:=by omega
       have v6:(m:Int)+1<=(p.size:Int):=by omega
       have x9:IntKind.i64.wrap ((m:Int)+1)=(m:Int)+1:=by rw[IntKind.wrap_i64];omega
       have x8:((m:Int)+1).toNat=m+1:=by omega
       go_wp2
       go_region_law ((refine step_append_lies _ rfl _ _ _ rfl (G+1) 9 i0 _ 1 16 underlying23 i6 o8 o9 p0 rfl (by decide) (.slice pb T cb) T (B.map Value.string) (by simp[Act.eval,Act.put]) j6.o ⟨W7.heap.size,0,none⟩ 1 1 [.string b] (by simp[Act.eval,Act.put]) rfl n5.o (by simp[Value.oneCell']) (by decide) f8.o.1 f8.o.2.1 f8.o.2.2 _ rfl ?_;intro g8 c8 w8 e5 b8 i1 o3;have l3:=m9.o w8 b8;have d3:=l3.cell 3;have z3:=l3.fz 3;simp only[J6,Yk] at d3))
       all_goals
        have l1:TwoR true G (w8.setCell ⟨G,3,none⟩ (.slice (some ⟨g8,0,none⟩) (T+1) c8)) r (.slice (some ⟨g6,0,none⟩) (O+1) c6) (.slice (some ⟨g8,0,none⟩) (T+1) c8) (A++[a]) (B++[b]):=by
         have h:=V.o.drew.appB (W':=w8) (g:=g8) (cap:=c8) (a:=b) (o:=.cells #[.string b] 9) (by rw[j4.o];exact e5) b8 (by
          rcases i1 with h|h
          ·exact .inl h
          exact .inr (by show W7.heap.size<=g8;rw[h];simp))
         rw[j4.o] at h;exact h
        have k9:Below G W1 (w8.setCell ⟨G,3,none⟩ (.slice (some ⟨g8,0,none⟩) (T+1) c8)):=((m5.o.drew.alloc (by have:=j1.o;show G<=W7.heap.size;omega) (.cells #[.string b] 9)).grown b8 (by have:=j1.o;simp;omega) (fun k e=>by have:=(j6.o.lt k e).1;omega)).sc;obtain⟨W9,n8⟩:=O2 (w8.setCell ⟨G,3,none⟩ (.slice (some ⟨g8,0,none⟩) (T+1) c8));rw[n8] at l1 k9 ⊢;have q8:=Hd k9;have r5:Hid (CutI s G (i+1) false (i+1) W9):=by
         refine⟨fun e=>(by cases e),fun _=>⟨r,.slice (some ⟨g6,0,none⟩) (O+1) c6,.slice (some ⟨g8,0,none⟩) (T+1) c8,L++[(a,b)],?_,by rw[Jq];simp;exact t6,fun hlt2=>⟨?_,fun j _ x y=>absurd x (by omega)⟩,fun he=>?_⟩⟩
         ·rw[Zc,Zc];have h:=l1;rw[q7.o,q9.o] at h;exact h
         ·refine DU e8.o e3 (by rw[d4];exact Y) ?_ d6.o e7.o l9.o m7.o
          rcases b5.o with e|⟨e,_⟩
          ·exact e
          omega
         refine DV e8.o e3 (by rw[d4];exact he) ?_ d6.o e7.o l9.o m7.o
         rcases b5.o with e|⟨_,e⟩
         ·have e2:i=s.size - 1:=by omega
          have:=j7.o;subst e2;exact this
         exact e
        clear n8 k9 l1 e5 b8 i1 o3 l3 d3 z3 b3 s7 q3 j6 n5 m9 f8 V m5
        go_wp2_with fail
        exact⟨⟨i+1,i+1,false,by go_num,rfl,by go_num,by omega,by omega,O1,r5,q8⟩,by simp[intOf];omega⟩
     have v0:=Wm 61 rfl b4;have r8:Hid (∀ x (h:x<p.size),x<m+1->p[x]≠61):=fun x hx h=>by
      by_cases e:x=m
      ·subst e;exact b4
      exact I.o x hx (by omega)
     clear b4 I
     go_wp2
     go_round
     case rel=>exact⟨m+1,by go_num,by omega,r8⟩
     simp[intOf];omega
    have o4:m=p.size:=by omega
    have HN:Hid (¬ ∃ r L,Xt s.data.toList r L):=DK e8.o e3 (by rw[d4];exact Y) b5.o d6.o (fun c hc=>⟨b6.o c hc,by
     obtain⟨x,hx,rfl⟩:=Ym hc;have u0:x<p.size:=hx;exact I.o x u0 (by omega)⟩)
    have K:=n0.o wr hb.o;obtain⟨d0,d1,d2,d3⟩:=K.c4;obtain⟨k0,k1,k2,k3⟩:=K.f4;have e9:=Hd (H.o wr K).c4;have HR:=Hd (b9.o _ (E.o wr (.bool false) (.string ⟨#[]⟩) (.slice none 0 0) (.slice none 0 0) (h1.o wr hb.o)) HN.o);have w3:=Hd o4;clear o4 K hb I D e8 d6 b6 b5
    go_wp2_with fail
    obtain⟨g0,g1,g2,g3⟩:=e9.o;refine Jh ?_ rfl HR.o;simp[results,results27,go_sem,g0,g1,g2,g3])
  have l5:k=1:=(hc.o.yes rfl).1;have HC:Hid (CutI s G (i+1) false (i+1) (wr.setCell ⟨G,1,none⟩ (.string p))):=by
   subst l5;exact hc.o.rest o0 s0.o (fun _=>j7.o) Y i8.o hp
  have HB:Hid (Below G W1 (wr.setCell ⟨G,1,none⟩ (.string p))):=hb.o.sc;have l4:=(hc.o.yes rfl).2.2.2.bx;have e1:=l4.cell 1;have e2:=l4.fz 1;have d6:=Hd l5;clear hc hb l4 l5
  rcases HY.o with y0|⟨y0,y1⟩
  all_goals (
   go_wp2_with fail
   exact⟨⟨i+1,i+1,false,by go_num,rfl,by go_num,by omega,by omega,O1,HC,HB⟩,by simp[intOf];omega⟩)
 have e:i=s.size:=by omega
 have HI:=Hd e
 cases b
 ·obtain⟨r,av,bv,L,hT,_,_,hA⟩:=hc.o.no rfl;have o6:=N0 hT.ra;have o7:=N0 hT.rb;have r6:=Hd (hA e);have n3:Hid (∀ (W:World),(∀ k,k≠w.heap.size->W.heap[k]? = wr.heap[k]?)->Dp W av (L.map Prod.fst)/\Dp W bv (L.map Prod.snd)):=fun W h=>⟨N0 (Gb hT.ra (fun k e=>h k (by have:=(hT.ra.lt k e).1;have:=f5.o;omega))),N0 (Gb hT.rb (fun k e=>h k (by have:=(hT.rb.lt k e).1;have:=f5.o;omega)))⟩;obtain⟨y0,y1,y2,y3⟩:=hT.bx.c4;have K:=n0.o wr hb.o;obtain⟨d0,d1,d2,d3⟩:=K.c4;obtain⟨k0,k1,k2,k3⟩:=K.f4;have s2:=Hd o6;have s3:=Hd o7;obtain⟨p1,c1,rfl,_,_,_⟩:=o6;obtain⟨p2,c2,rfl,_,_,_⟩:=o7;have s4:=Hd K;have r3:=Hd (h1.o wr hb.o);have w4:Hid (w.heap.size<G):=by have:=f5.o;unfold Hid;omega
  clear hT hA hc e K hb;have e9:=Hd ((((s4.o.set 0 (.bool true)).set 1 (.string r)).set 2 (.slice p1 (L.map Prod.fst).length c1)).set 3 (.slice p2 (L.map Prod.snd).length c2)).c4;have m6:=Hd (E.o wr (.bool true) (.string r) (.slice p1 (L.map Prod.fst).length c1) (.slice p2 (L.map Prod.snd).length c2) r3.o);obtain⟨O,Z⟩:=O2 ((L.map Prod.fst).length);obtain⟨T,a6⟩:=O2 ((L.map Prod.snd).length);rw[Z,a6] at e9 m6 n3;rw[Z] at y2;rw[a6] at y3;clear Z a6 s2 s3
  go_wp2_with fail
  obtain⟨g0,g1,g2,g3⟩:=e9.o;refine Jh ?_ rfl ⟨true,r,p1,O,c1,p2,T,c2,rfl,fun _=>⟨L,r6.o,n3.o _ ?_⟩,fun e=>(by cases e),m6.o⟩
  ·simp[results,results27,go_sem,g0,g1,g2,g3]
  intro k hk;rw[J1 _ ⟨w.heap.size,3,none⟩ _ _ hk,J1 _ ⟨w.heap.size,2,none⟩ _ _ hk,J1 _ ⟨w.heap.size,1,none⟩ _ _ hk,J1 _ ⟨w.heap.size,0,none⟩ _ _ hk]
 exact absurd (hc.o.yes rfl).2.1 Y
end Go.Proofs.YtjjgilacnocigaaGreatDoor
