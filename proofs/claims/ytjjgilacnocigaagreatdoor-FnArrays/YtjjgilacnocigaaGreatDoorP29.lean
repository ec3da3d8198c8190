import Derived.Test.YtjjgilacnocigaaGreatDoorP28
set_option maxRecDepth 100000
set_option maxHeartbeats 8000000
namespace Go.Proofs.YtjjgilacnocigaaGreatDoor
theorem Mf {α:Type}{p q:α->Bool}(h:∀ a,p a=true->q a=true):∀ (L:List α),L.countP p<=L.countP q
 | []=>O1
 | a::L=>by
   have d:=Mf h L
   rw[List.countP_cons,List.countP_cons]
   by_cases e:p a=true
   ·rw[if_pos e,if_pos (h a e)];omega
   rw[if_neg e];omega
theorem OF {α:Type}{p q:α->Bool}(h:∀ a,p a=true->q a=true){x:α}(hp:p x=false)(hq:q x=true):∀ {L:List α},x∈L->L.countP p+1<=L.countP q
 | a::L,hx=>by
   rw[List.countP_cons,List.countP_cons]
   rcases Yn.1 hx with rfl|hx
   ·have:=Mf h L
    rw[if_pos hq,if_neg (by rw[hp];decide)];omega
   have:=OF h hp hq hx
   by_cases e:p a=true
   ·rw[if_pos e,if_pos (h a e)];omega
   rw[if_neg e];omega
theorem Tn {ki:SK}{r v:ByteArray}{L:List Kd}(hk:ki.kind=4)(hv:v≠r){N:Nat}(hN:N<=2 ^ ki.width):N<=(Km ki.width r L v N).length+L.length+1:=by
 have H:∀ N,N<=2 ^ ki.width->N<=(Km ki.width r L v N).length+L.countP (fun e=>decide (key ki e.1<(N:Nat)))+1:=by
  intro N
  induction N with
  | zero=>intro _;omega
  | succ n ih=>
    intro hn;have ih:=ih (by omega);unfold Km;rw[Jq];have hm:=Mf (p:=fun e:Kd=>decide (key ki e.1<(n:Nat))) (q:=fun e=>decide (key ki e.1<((n+1:Nat):Int))) (fun a ha=>Jn (by have:=of_decide_eq_true ha;omega)) L
    by_cases j:n=0
    ·omega
    by_cases hl:K2 r L (Ny ki.width n)=v
    ·have d:∃ e∈L,e.1=Ny ki.width n:=by
      by_cases d:∃ e∈L,e.1=Ny ki.width n
      ·exact d
      exact absurd (hl.symm.trans (H8 fun e he e2=>d ⟨e,he,e2⟩)) hv
     obtain⟨e,he,e2⟩:=d;have D:key ki e.1=n:=by rw[e2];exact Gc hk (by omega)
     have:=OF (p:=fun e:Kd=>decide (key ki e.1<(n:Nat))) (q:=fun e=>decide (key ki e.1<((n+1:Nat):Int))) (fun a ha=>Jn (by have:=of_decide_eq_true ha;omega)) (x:=e) (Jp (by omega)) (Jn (by omega)) he;rw[if_pos (.inr hl)];simp only[Zo];omega
    rw[if_neg (by rintro (a|a);exact j a;exact hl a)];simp only[Vk];omega
 have E:=H N hN;have F:L.countP (fun e=>decide (key ki e.1<(N:Nat)))<=L.length:=List.countP_le_length;omega
theorem Fp {w:Nat}{r v:ByteArray}{L:List Kd}{n:Nat}:∀ {N:Nat},n<=N->(Km w r L v n).length<=(Km w r L v N).length
 | 0,h=>by rw[Nat.le_zero.1 h];exact O1
 | N+1,h=>by
   by_cases e:n=N+1
   ·subst e;exact O1
   have:=Fp (w:=w) (r:=r) (v:=v) (L:=L) (n:=n) (N:=N) (by omega)
   conv=>rhs;unfold Km
   rw[Jq];omega
def Sz (ki:SK)(r:ByteArray)(L:List Kd)(v r':ByteArray)(L':List Kd):Prop:=
 ((v=r/\r'=r/\L'=L)∨(v≠r/\r'=v/\(L'=Km ki.width r L v (2 ^ ki.width)∨L'.length=61/\60<(Km ki.width r L v (2 ^ ki.width)).length)))/\L'.length<=61
end Go.Proofs.YtjjgilacnocigaaGreatDoor
namespace Go.Proofs.YtjjgilacnocigaaGreatDoor
open Q (Kh)
open ChangeShapes WideShapes ChangeAt RowKit
variable {W W4:World}{g:Nat}{r:ByteArray}{v x:Value}
structure LQ (ki ke:SK)(g:Nat)(W4:World)(x:Value)(r:ByteArray)(L:List Kd)(v:Value)(W:World):Prop where
 glt:g<W4.heap.size
 bar:Q.Bar g W4 W
 box:W.heap[g]? = some (.cells #[x,v] 50 (0,0))
 row:ERow ki ke W4.heap.size W v L
 pv:PV ke W x r
theorem LQ.bl {ki ke:SK}{L:List Kd}{W':World}(h:LQ ki ke g W4 x r L v W)(hb:Up W W'):LQ ki ke g W4 x r L v W':=
 ⟨h.glt,h.bar.trans (Q.Bar.of hb),(hb.block g (Js h.glt h.bar.size)).trans h.box,h.row.bl hb,h.pv.next hb⟩
theorem LQ.own {ki ke:SK}{L:List Kd}(h:LQ ki ke g W4 x r L v W){b:Nat}(hb:v.ownBlock=some b):W4.heap.size<=b:=by
 obtain⟨xs,d,_⟩:=h.row.ex;exact (d.lt b hb).1
theorem LQ.more {ki ke:SK}{L M:List Kd}{v':Value}{W':World}(h:LQ ki ke g W4 x r L v W)(hg:W.grownBy W' v.ownBlock)(hr:ERow ki ke W4.heap.size W' v' M):LQ ki ke g W4 x r M v' (W'.setCell ⟨g,1,none⟩ v'):=by
 have F:=h.glt;have I:=h.bar.size;have E:∀ k,k<W4.heap.size->W'.heap[k]? = W.heap[k]? := fun k hk=>hg.block k (by omega) (fun e=>by have:=h.own (b:=k) e.symm;omega);have d:W'.heap[g]? = some (.cells #[x,v] 50 (0,0)):=(E g F).trans h.box;obtain⟨p,c,O⟩:=h.row.form;have G:Kh W' g:=S1 d h.pv.iface ⟨_,_,_,O⟩;have j:∀ b,b≠g->(W'.setCell ⟨g,1,none⟩ v').heap[b]? = W'.heap[b]? := fun b hb=>J1 _ ⟨g,1,none⟩ _ _ hb;have D:(W'.setCell ⟨g,1,none⟩ v').heap.size=W'.heap.size:=by simp
 have H:v'.ownBlock≠some g:=fun e=>by
  obtain⟨xs,J,_⟩:=hr.ex;have:=(J.lt g e).1;omega
 refine⟨F,⟨hg.os.trans h.bar.os,hg.tape.trans h.bar.tape,hg.output.trans h.bar.output,by rw[D];exact Yt I hg.size,fun k hk hkg=>(j k hkg).trans ((E k hk).trans (h.bar.block k hk hkg))⟩,Sx d v',hr.kept (by rw[D];exact O1) fun b _=>?_,?_⟩
 ·by_cases e:b=g
  ·subst e;exact .inr ⟨G,H⟩
  exact .inl (j b e)
 have K:PV ke W' x r:=h.pv.kept hg.size fun b hb=>by
  by_cases e:v.ownBlock=some b
  ·exact .inr (h.row.no b e)
  exact .inl (hg.block b hb (fun e2=>e e2.symm))
 refine K.kept (by rw[D];exact O1) fun b _=>?_
 by_cases e:b=g
 ·subst e;exact .inr G
 exact .inl (j b e)
theorem NA {k:SK}{m:Nat}(w:World)(hk:k.kind=4)(hw:k.width<=64)(hm:m<2 ^ k.width):PV k w (.iface 93 (.agg #[.int .i64 (k.width:Nat),.int .u64 (m:Nat)])) (Ny k.width m):=by
 have h:=Gc hk hm;unfold key at h;rw[if_neg (by omega),if_pos hk] at h;refine⟨Mx hk hw,?_⟩;rw[if_neg (by omega),if_neg (by omega),if_neg (by omega),if_pos hk,h]
end Go.Proofs.YtjjgilacnocigaaGreatDoor
namespace Go.Proofs.YtjjgilacnocigaaGreatDoor
open Q (Kh)
open ChangeShapes WideShapes ChangeAt RowKit Proofs.Tryz
theorem VV (ki ke:SK)(x v y:Value)(r s:ByteArray)(L:List Kd)(w:World)(hk:ki.kind=4)(h0:0<ki.width)(h1:ki.width<=64)(hx:PV ke w x r)(h:Ex ki ke w v L)(hS:SrtA ki ke r L)(hy:PV ke w y s)(hke:Wt ke)(hT:VT w)(hn:L.length<=60) :
 Calls prog 52 #[.agg #[x,v],.int .i64 (ki.width:Nat),y] w fun e w'=>∃ x' v' r' L',e=.returned (.agg #[x',v'])/\PV ke w' x' r'/\Ex ki ke w' v' L'/\Sz ki r L s r' L'/\Up w w':=by
 have HT:=Hd hT;obtain⟨W1,b6⟩:=O2 ((w.alloc (.cells #[x,v] 50)).alloc (.cells #[.nilIface,.slice none 0 0] 50));have H:Up w W1:=by rw[<-b6];exact (Oo _ _).trans ((Oo _ _).mono (by simp))
 have l3:=Hd H;have f8:Hid (Bx W1 w.heap.size [x,v]):=by unfold Hid;rw[<-b6];exact (Ox w [x,v] _).alloc _
 have i6:Hid (Bx W1 (w.heap.size+1) [.nilIface,.slice none 0 0]):=by
  unfold Hid;rw[<-b6];rw[show w.heap.size+1=(w.alloc (.cells #[x,v] 50)).heap.size from (by simp)];exact Ox _ [.nilIface,.slice none 0 0] _
 have e4:=Hd hx;have h6:=Hd h;have l9:=Hd (hx.next H);have m5:=Hd (hy.next H);have HE:=Hd (h.next H);have g9:=Hd (I5 ke y x s r W1 (hy.next H) (hx.next H) hke (HT.o.next H));have HW:=Hd b6;obtain⟨tx,zx,rfl⟩:=hx.form;obtain⟨F,Z,rfl⟩:=hy.form;obtain⟨p,cp,rfl,p9,n7,_⟩:=h;unfold maxLen at n7;have q9:(L.length:Int)<=60:=by omega
 obtain⟨c0,c1⟩:=f8.o.c2;clear hT b6 H hx hy
 go_in
 go_upto_region 1 with fail
 rw[HW.o]
 go_wp2_with fail
 refine g9.o.mono ?_;rintro e D ⟨c,rfl,hc,V⟩;have g7:=l3.up V;have b5:=Hd (f8.o.bl f8.o.lt V);have j:=Hd (i6.o.bl i6.o.lt V);have o2:=Hd (l9.o.next V);have h9:=Hd (m5.o.next V);have p0:=Hd (HE.o.next V);have d4:=Hd hc.1;clear V hc c0 c1 g9;obtain⟨c0,c1⟩:=b5.o.c2;have I:Kh D (w.heap.size+1):=Hk j.o (fun u hu=>by
  rcases Yn.1 hu with rfl|hu
  ·exact .inl (.inl rfl)
  rcases Ye.1 hu with rfl;exact .inr ⟨_,_,_,rfl⟩)
 have p1:=Hd I;clear I
 by_cases g2:c=0
 ·have k5:s=r:=d4.o.1 g2;obtain⟨e0,e1⟩:=j.o.c2;obtain⟨f0,f1⟩:=j.o.f2;have m6:=Hd k5;clear k5;have e7:Hid (Up w ((D.setCell ⟨w.heap.size+1,0,none⟩ (.iface tx zx)).setCell ⟨w.heap.size+1,1,none⟩ (.slice p L.length cp))):=(g7.o.setCell (p:=⟨w.heap.size+1,0,none⟩) (by simp) _).setCell (p:=⟨w.heap.size+1,1,none⟩) (by simp) _;have i1:Hid (∃ x' v' r' L',Ending.returned (.agg #[.iface tx zx,.slice p L.length cp])=.returned (.agg #[x',v'])/\PV ke ((D.setCell ⟨w.heap.size+1,0,none⟩ (.iface tx zx)).setCell ⟨w.heap.size+1,1,none⟩ (.slice p L.length cp)) x' r'/\Ex ki ke ((D.setCell ⟨w.heap.size+1,0,none⟩ (.iface tx zx)).setCell ⟨w.heap.size+1,1,none⟩ (.slice p L.length cp)) v' L'/\Sz ki r L s r' L'/\Up w ((D.setCell ⟨w.heap.size+1,0,none⟩ (.iface tx zx)).setCell ⟨w.heap.size+1,1,none⟩ (.slice p L.length cp))):=
   ⟨_,_,r,L,rfl,e4.o.next e7.o,h6.o.next e7.o,⟨.inl ⟨m6.o,rfl,rfl⟩,by omega⟩,e7.o⟩
  obtain⟨g0,g1⟩:=((j.o.set 0 (.iface tx zx)).set 1 (.slice p L.length cp)).c2
  go_wp2_with fail
  refine Jh ?_ rfl i1.o;simp[results,results52,go_sem,g0,g1]
 have e8:=Hd g2;have p8:(c==0)=false:=by simpa using g2
 go_upto_region 4 with fail
 generalize d7:D.alloc _=W4;have b7:Up D W4:=by rw[<-d7];exact Oo _ _
 have e3:Hid (W4.heap.size=D.heap.size+1):=by unfold Hid;rw[<-d7];simp
 have l7:Hid (LQ ki ke D.heap.size W4 (.iface F Z) s [] (.slice none 0 0) W4):=
  ⟨by have:=e3.o;omega,Q.Bar.refl _ _,by rw[<-d7];exact heap_alloc_new D _,ERow.nil _ _ _ _,h9.o.next b7⟩
 have p7:=Hd b7;obtain⟨M,hM⟩:=O2 (2 ^ ki.width - 1);have e9:Hid (2 ^ ki.width=M+1):=by unfold Hid;rw[<-hM];exact (Nat.sub_add_cancel (Nat.two_pow_pos _)).symm
 have l8:Hid (∀ W,Calls prog 92 #[.int .i64 (ki.width:Nat)] W fun e w'=>e=.returned (.int .u64 (M:Int))/\w'=W):=by
  intro W;have:=So ki.width W h0 h1;rw[hM] at this;exact this
 clear hM;have l4:Hid (∀ W,Q.Bar D.heap.size W4 W->Bx W w.heap.size [.iface tx zx,.slice p L.length cp]/\Bx W (w.heap.size+1) [.nilIface,.slice none 0 0]/\Up w W/\D.heap.size+1<=W.heap.size):=by
  intro W hb;have a6:=hb.size;have hz:=e3.o;have n3:w.heap.size+2<=D.heap.size:=by have:=j.o.lt;omega
  have k:∀ b,b<D.heap.size->W.heap[b]? = D.heap[b]? := fun b h=>(hb.block b (by omega) (by omega)).trans (b7.block b h);refine⟨?_,?_,?_,by omega⟩
  ·obtain⟨F,h⟩:=b5.o;exact⟨F,(k _ b5.o.lt).trans h⟩
  ·obtain⟨F,h⟩:=j.o;exact⟨F,(k _ j.o.lt).trans h⟩
  exact g7.o.trans ((b7.mono (show w.heap.size<=D.heap.size by omega)).trans (hb.bl (show w.heap.size<=D.heap.size by omega) (show w.heap.size<=W4.heap.size by omega)))
 have n3:w.heap.size+2<=D.heap.size:=by have:=j.o.lt;omega
 clear d7 b7 c0 c1
 go_wp2
 go_loopw [8] (fun vi W=>∃ (m:Nat) (v2:Value),vi=.int .u64 (m:Int)/\1<=m/\m<=122/\Hid (m<=2 ^ ki.width/\(Km ki.width r L s m).length<=61)/\Hid (LQ ki ke D.heap.size W4 (.iface F Z) s (Km ki.width r L s m) v2 W)) (fun vi _=>((200:Int) - intOf vi).toNat)
 case atStart=>exact⟨1,_,rfl,by omega,by omega,⟨Nat.one_le_two_pow,by simp[Km]⟩,(by rw[show Km ki.width r L s 1=[] from (by simp[Km])];exact l7)⟩
 obtain⟨m,v2,rfl,q6,q7,Y,hL⟩:=hrel;obtain⟨b0,b1⟩:=E5 hL.o.box;obtain⟨p2,q2,k7⟩:=hL.o.row.form;obtain⟨n2,g4⟩:=O2 ((Km ki.width r L s m).length);have d5:=Hd g4;rw[g4] at k7;subst k7;obtain⟨k8,k9,kb,ks⟩:=l4.o wr hL.o.bar;have j1:=Hd k8;have E:=Hd k9;have KB:=Hd kb;have o7:(n2:Int)<=61:=by have:=Y.o.2;omega
 clear k8 k9 kb g4
 go_wp2_with fail
 refine (l8.o _).mono ?_;rintro e T ⟨rfl,rfl⟩
 by_cases j9:¬ (m:Int)<=(M:Int)
 ·have f5:Hid (m=2 ^ ki.width):=by have h1:=Y.o.1;rw[e9.o] at h1;unfold Hid;rw[e9.o];omega
  obtain⟨e0,e1⟩:=E.o.c2;obtain⟨f0,f1⟩:=E.o.f2;have K:=hL.o.row;have c8:=hL.o.pv;have J:=fun b=>hL.o.own (b:=b);have I:Kh T (w.heap.size+1):=Hk E.o (fun u hu=>by
   rcases Yn.1 hu with rfl|hu
   ·exact .inl (.inl rfl)
   rcases Ye.1 hu with rfl;exact .inr ⟨_,_,_,rfl⟩)
  have hz:=e3.o;have a8:Hid (Km ki.width r L s m=Km ki.width r L s (2 ^ ki.width)∨(Km ki.width r L s m).length=61/\60<(Km ki.width r L s (2 ^ ki.width)).length):=by rw[f5.o];exact .inl rfl
  obtain⟨U,d⟩:=O2 ((T.setCell ⟨w.heap.size+1,0,none⟩ (.iface F Z)).setCell ⟨w.heap.size+1,1,none⟩ (.slice p2 n2 q2));have b3:Hid (∃ x' v' r' L',Ending.returned (.agg #[.iface F Z,.slice p2 n2 q2])=.returned (.agg #[x',v'])/\PV ke U x' r'/\Ex ki ke U v' L'/\Sz ki r L s r' L'/\Up w U):=by
   have O:∀ b,b<T.heap.size->U.heap[b]? = T.heap[b]? ∨ (Kh T b/\(Value.slice p2 n2 q2).ownBlock≠some b):=fun b _=>by
    by_cases e:b=w.heap.size+1
    ·subst e;refine .inr ⟨I,fun e=>?_⟩;have:=J _ e;omega
    rw[<-d];exact .inl ((J1 _ ⟨w.heap.size+1,1,none⟩ _ _ e).trans (J1 _ ⟨w.heap.size+1,0,none⟩ _ _ e))
   have a6:T.heap.size<=U.heap.size:=by rw[<-d];simp
   refine⟨_,_,s,_,rfl,c8.kept a6 (fun b h=>(O b h).imp id (·.1)),(K.kept a6 O).at,⟨.inr ⟨fun e=>e8.o (d4.o.2 e),rfl,a8.o⟩,Y.o.2⟩,?_⟩;rw[<-d];exact (KB.o.setCell (p:=⟨w.heap.size+1,0,none⟩) (by simp) _).setCell (p:=⟨w.heap.size+1,1,none⟩) (by simp) _
  have g0:U.cell? ⟨w.heap.size+1,0,none⟩=some (.iface F Z):=by rw[<-d];exact ((E.o.set 0 (.iface F Z)).set 1 (.slice p2 n2 q2)).c2.1
  have g1:U.cell? ⟨w.heap.size+1,1,none⟩=some (.slice p2 n2 q2):=by rw[<-d];exact ((E.o.set 0 (.iface F Z)).set 1 (.slice p2 n2 q2)).c2.2
  have f7:=Hd d;clear K c8 J I d
  go_wp2_with fail
  rw[f7.o];refine Jh ?_ rfl b3.o;simp[results,results52,go_sem,g0,g1]
 have j9:(m:Int)<=(M:Int):=Decidable.not_not.1 j9
 by_cases j5:¬ (n2:Int)<=60
 ·have f5:Hid (n2=61):=by unfold Hid;omega
  obtain⟨e0,e1⟩:=E.o.c2;obtain⟨f0,f1⟩:=E.o.f2;have K:=hL.o.row;have c8:=hL.o.pv;have J:=fun b=>hL.o.own (b:=b);have I:Kh T (w.heap.size+1):=Hk E.o (fun u hu=>by
   rcases Yn.1 hu with rfl|hu
   ·exact .inl (.inl rfl)
   rcases Ye.1 hu with rfl;exact .inr ⟨_,_,_,rfl⟩)
  have hz:=e3.o;have a8:Hid (Km ki.width r L s m=Km ki.width r L s (2 ^ ki.width)∨(Km ki.width r L s m).length=61/\60<(Km ki.width r L s (2 ^ ki.width)).length):=by have h3:=Fp (w:=ki.width) (r:=r) (v:=s) (L:=L) Y.o.1;have h4:=d5.o;have h5:=f5.o;exact .inr ⟨by omega,by omega⟩
  obtain⟨U,d⟩:=O2 ((T.setCell ⟨w.heap.size+1,0,none⟩ (.iface F Z)).setCell ⟨w.heap.size+1,1,none⟩ (.slice p2 n2 q2));have b3:Hid (∃ x' v' r' L',Ending.returned (.agg #[.iface F Z,.slice p2 n2 q2])=.returned (.agg #[x',v'])/\PV ke U x' r'/\Ex ki ke U v' L'/\Sz ki r L s r' L'/\Up w U):=by
   have O:∀ b,b<T.heap.size->U.heap[b]? = T.heap[b]? ∨ (Kh T b/\(Value.slice p2 n2 q2).ownBlock≠some b):=fun b _=>by
    by_cases e:b=w.heap.size+1
    ·subst e;refine .inr ⟨I,fun e=>?_⟩;have:=J _ e;omega
    rw[<-d];exact .inl ((J1 _ ⟨w.heap.size+1,1,none⟩ _ _ e).trans (J1 _ ⟨w.heap.size+1,0,none⟩ _ _ e))
   have a6:T.heap.size<=U.heap.size:=by rw[<-d];simp
   refine⟨_,_,s,_,rfl,c8.kept a6 (fun b h=>(O b h).imp id (·.1)),(K.kept a6 O).at,⟨.inr ⟨fun e=>e8.o (d4.o.2 e),rfl,a8.o⟩,Y.o.2⟩,?_⟩;rw[<-d];exact (KB.o.setCell (p:=⟨w.heap.size+1,0,none⟩) (by simp) _).setCell (p:=⟨w.heap.size+1,1,none⟩) (by simp) _
  have g0:U.cell? ⟨w.heap.size+1,0,none⟩=some (.iface F Z):=by rw[<-d];exact ((E.o.set 0 (.iface F Z)).set 1 (.slice p2 n2 q2)).c2.1
  have g1:U.cell? ⟨w.heap.size+1,1,none⟩=some (.slice p2 n2 q2):=by rw[<-d];exact ((E.o.set 0 (.iface F Z)).set 1 (.slice p2 n2 q2)).c2.2
  have f7:=Hd d;clear K c8 J I d
  go_wp2_with fail
  rw[f7.o];refine Jh ?_ rfl b3.o;simp[results,results52,go_sem,g0,g1]
 have j5:(n2:Int)<=60:=Decidable.not_not.1 j5;have q8:m<=121:=by
  have h1:=Tn (ki:=ki) (r:=r) (L:=L) hk (fun e=>e8.o (d4.o.2 e)) Y.o.1;have h2:=d5.o;omega
 have e2:m<2 ^ ki.width:=by rw[e9.o];omega
 go_upto_region 8 with fail
 generalize f9:T.alloc _=W5;have d8:Up T W5:=by rw[<-f9];exact Oo _ _
 have g5:Bx W5 T.heap.size [.int .i64 (ki.width:Nat),.int .u64 (m:Int)]:=by rw[<-f9];exact Ox T _ _
 have l5:=Hd (hL.o.bl d8);have j2:=Hd (j1.o.bl j1.o.lt d8);have d6:=KB.up d8;have i7:=Hd g5;have h7:=Hd (GK ki ke (.iface tx zx) (.slice p L.length cp) _ r L (Ny ki.width m) W5 (e4.o.next d6.o) (h6.o.next d6.o) hS.sort (NA W5 hk h1 e2) (fun _=>⟨h0,h1⟩) (.inr (.inl hk)) (HT.o.next d6.o) (by omega));obtain⟨d0,d1⟩:=g5.c2;obtain⟨c0,c1⟩:=j2.o.c2;clear f9 d8 g5 b0 b1
 go_wp2_with fail
 refine h7.o.mono ?_;rintro e w6 ⟨z,rfl,hz,d9⟩;have h8:=Hd (l5.o.bl d9);have j0:=d6.up d9;have i8:=Hd (i7.o.bl i7.o.lt d9);have HZ:=Hd hz;have g8:=Hd (I5 ke z (.iface F Z) (K2 r L (Ny ki.width m)) s w6 hz h8.o.pv hke (HT.o.next j0.o));obtain⟨tq,zq,rfl⟩:=hz.form;clear d9 hz c0 c1 d0 d1 h7
 go_wp2_with fail
 refine g8.o.mono ?_;rintro e w7 ⟨c7,rfl,j7,b8⟩;have G:=Hd (h8.o.bl b8);have p5:=j0.up b8;have m8:=Hd (i8.o.bl i8.o.lt b8);have m9:=Hd (HZ.o.next b8);have HD:=Hd j7.1;have n9:m≠0:=by omega
 clear b8 j7 g8
 by_cases hc:c7=0
 ·have b4:Hid (Km ki.width r L s (m+1)=Km ki.width r L s m):=by
   show Km ki.width r L s m++_=_
   rw[if_pos (.inr (HD.o.1 hc)),Z3]
  have c6:Hid (m+1<=2 ^ ki.width/\(Km ki.width r L s (m+1)).length<=61):=⟨e2,by rw[b4.o];exact Y.o.2⟩;have n4:Hid (LQ ki ke D.heap.size W4 (.iface F Z) s (Km ki.width r L s (m+1)) (.slice p2 n2 q2) w7):=by unfold Hid;rw[b4.o];exact G.o
  go_wp2_with fail
  refine⟨⟨m+1,_,rfl,by omega,by omega,c6,n4⟩,?_⟩;simp only[intOf];omega
 have b4:Hid (Km ki.width r L s (m+1)=Km ki.width r L s m++[(Ny ki.width m,K2 r L (Ny ki.width m))]):=by
  show Km ki.width r L s m++_=_
  rw[if_neg (by rintro (h|h);exact n9 h;exact hc (HD.o.2 h))]
 have c6:Hid (m+1<=2 ^ ki.width/\(Km ki.width r L s (m+1)).length<=61):=⟨e2,by rw[b4.o,Jq,d5.o];show n2+1<=61;omega⟩;obtain⟨b0,b1⟩:=E5 G.o.box;obtain⟨d0,d1⟩:=m8.o.c2;have e6:W4.heap.size<=w7.heap.size:=G.o.bar.size;have k0:n2<=1000000:=by omega
 go_upto_region 10 with fail
 go_wp2_with (at_builtin;(refine Ln (f:=(Ny ki.width m,K2 r L (Ny ki.width m))) rfl _ _ rfl rfl G.o.row (NA w7 hk h1 e2) m9.o _ rfl rfl n2 d5.o k0 e6 ?_))
 rintro ga ca w8 k1 g3;have l6:Hid (LQ ki ke D.heap.size W4 (.iface F Z) s (Km ki.width r L s (m+1)) (.slice (some ⟨ga,0,none⟩) (n2+1) ca) (w8.setCell ⟨D.heap.size,1,none⟩ (.slice (some ⟨ga,0,none⟩) (n2+1) ca))):=by
  unfold Hid;rw[b4.o];exact G.o.more g3 k1
 have n8:=G.o.glt;have j8:w8.heap[D.heap.size]? = w7.heap[D.heap.size]? := g3.block _ (by omega) (fun e=>by have:=G.o.own (b:=D.heap.size) e.symm;omega);have b9:=j8.trans G.o.box;have f1:=(show Bx w8 D.heap.size _ from ⟨_,b9⟩).fz 1;clear b0 b1 d0 d1;obtain⟨b0,b1⟩:=E5 b9;clear j8 b9 k1 g3 n8 e6
 go_wp2_with fail
 refine⟨⟨m+1,_,rfl,by omega,by omega,c6,l6⟩,?_⟩;simp only[intOf];omega
end Go.Proofs.YtjjgilacnocigaaGreatDoor
namespace Go.Proofs.YtjjgilacnocigaaGreatDoor
open ChangeShapes WideShapes ChangeAt RowKit Proofs.Tryz
def OV (ki:SK)(r:ByteArray)(L:List Kd)(i s r':ByteArray)(L':List Kd):Prop:=PN ki r L i s r' L'∨(60<L'.length/\∃ r2 L2,PN ki r L i s r2 L2/\60<L2.length)
def WG:Prop:=∀ (ki ke:SK)(x v u y:Value)(r i s:ByteArray)(L:List Kd)(w:World),Gm ki->Wt ki->Wt ke->PV ke w x r->Ex ki ke w v L->SrtA ki ke r L->L.length<=60->PV ki w u i->PV ke w y s->VT w ->
 Calls prog 22 #[.agg #[x,v],u,y] w fun e w'=>∃ x' v' r' L',e=.returned (.agg #[x',v'])/\PV ke w' x' r'/\Ex ki ke w' v' L'/\L'.length<=100/\OV ki r L i s r' L'/\Up w w'
def X9 (r:ByteArray)(L:List Kd):ByteArray:=if L.length<=60/\(E8 r L).length<=2000 then Oy (E8 r L) else ⟨#[]⟩
theorem Mw {r:ByteArray}{L:List Kd}(h:60<L.length):X9 r L=⟨#[]⟩:=if_neg (by omega)
def P2 (ki ke:SK)(a i s u:ByteArray):Prop:=(∀ r L,K1 ki ke a r L->Kg ki i->Kg ke s->∃ r' L',PutR ki ke r L i s r' L'/\u=X9 r' L')/\((¬ ∃ r L,K1 ki ke a r L/\Kg ki i/\Kg ke s)->u=⟨#[]⟩)
theorem P2.eq {ki ke:SK}{a i s u v:ByteArray}(h:P2 ki ke a i s u)(k:P2 ki ke a i s v):u=v:=by
 by_cases e:∃ r L,K1 ki ke a r L/\Kg ki i/\Kg ke s
 ·obtain⟨r,L,j,d,h3⟩:=e;obtain⟨r1,D,a1,rfl⟩:=h.1 r L j d h3;obtain⟨r2,E,b1,rfl⟩:=k.1 r L j d h3;obtain⟨rfl,rfl⟩:=a1.inj d b1;rfl
 rw[h.2 e,k.2 e]
theorem Tm (hput:WG)(b:Nat)(f:List UInt8->Option Nat)(st a i s:ByteArray)(X Xi Xe:SI)(w:World)(hs:st.size<=1048576)(ha:a.size<=1048576)(hi:i.size<=1048576)(hv:s.size<=1048576)(hT:VT w)(hm:C1 w b f)(hb:b<w.heap.size)
 (hX:Ks (Eh f) st.data.toList=X) (hXi:Ks (Eh f) X.index=Xi) (hXe:Ks (Eh f) X.elem=Xe) (hli:X.index.length<=1048576) (hle:X.elem.length<=1048576) (h6:X.kind=6) (hwi:Cw Xi) (hwe:Cw Xe) (hK:Gm (On Xi)) (hw64:Xi.width<=64) :
 Calls prog 5 #[.slice (some ⟨b,0,none⟩) 2 2,.string st,.string a,.string i,.string s] w fun e w'=>∃ u,e=.returned (.string u)/\P2 (On Xi) (On Xe) a i s u/\Up w w':=by
 have HT:=Hd hT;have H6:=Hd h6;have e7:=Hd hput;have g1:=Hd (Ii b f st X Xi Xe w hs hT hm hb hX hXi hXe hli hle);have b6:Hid ((¬ ∃ r L,K1 (On Xi) (On Xe) a r L/\Kg (On Xi) i/\Kg (On Xe) s)->P2 (On Xi) (On Xe) a i s ⟨#[]⟩):=fun h=>⟨fun r L h1 h2 h3=>absurd ⟨r,L,h1,h2,h3⟩ h,fun _=>rfl⟩;clear hm hX hXi hXe hT h6 hput
 go_in
 go_wp2_with fail
 refine g1.o.mono ?_;rintro e w2 ⟨rfl,g6⟩;have e0:=Hd g6;clear g6 g1
 go_upto_region 2 with fail
 generalize d2:w2.alloc _=W3;have c8:Hid (Bx W3 w2.heap.size [.int .i64 X.kind,.int .i64 (X.width:Nat),.string (Oy X.index),.string (Oy X.elem),.int .i64 Xi.kind,.int .i64 (Xi.width:Nat),.string (Oy Xi.index),.string (Oy Xi.elem),.int .i64 Xe.kind,.int .i64 (Xe.width:Nat),.string (Oy Xe.index),.string (Oy Xe.elem)]):=by unfold Hid;rw[<-d2];exact Ox w2 _ _
 have e1:Hid (Up w W3):=by unfold Hid;rw[<-d2];exact e0.o.trans ((Oo _ _).mono e0.o.size)
 have e9:=Hd (Xa X Xi Xe a W3 H6.o ha hwi hwe hK (HT.o.next e1.o));obtain⟨⟨y0,y1,y2,y3⟩,⟨y4,y5,y6,y7⟩,y8,y9,U,V⟩:=c8.o.c12;clear d2
 go_wp2_with fail
 refine e9.o.mono ?_;rintro e w4 ⟨x,v,ok,rfl,hx,⟨p,n,c,rfl⟩,b5,g8,d4⟩;have k1:=e1.up d4;have g2:=Hd (c8.o.bl c8.o.lt d4);have HY:=Hd b5;have HN:=Hd g8;clear d4 y0 y1 y2 y3 y4 y5 y6 y7 y8 y9 U V e9 b5 g8;obtain⟨x',h9⟩:∃ x',x'=x:=⟨_,rfl⟩
 rcases hx with rfl|⟨tx,zx,rfl⟩
 all_goals (
  go_upto_region 3 with fail
  generalize d3:w4.alloc _=W5;have E:Up w4 W5:=by rw[<-d3];exact Oo _ _
  have d0:=Hd (g2.o.bl g2.o.lt E);have a7:=Hd E;have e2:=k1.up E;have f9:Hid (Bx W5 w4.heap.size [x',.slice p n c]):=by unfold Hid;rw[h9,<-d3];exact Ox w4 _ _
  subst h9;have f7:=Hd (N4 Xi i W5 hi hwi (HT.o.next e2.o));obtain⟨⟨y0,y1,y2,y3⟩,⟨y4,y5,y6,y7⟩,y8,y9,U,V⟩:=d0.o.c12;clear d3 E
  go_wp2_with fail
  refine f7.o.mono ?_;rintro e w6 ⟨y,i1,rfl,h8,T⟩;have e3:=e2.up T;have a8:=Hd T;have l0:=Hd (d0.o.bl d0.o.lt T);have g0:=Hd (f9.o.bl f9.o.lt T);have b8:=Hd h8;have f5:=Hd (N4 Xe s w6 hv hwe (HT.o.next e3.o));clear T h8 f7 y0 y1 y2 y3 y4 y5 y6 y7 y8 y9 U V;obtain⟨⟨y0,y1,y2,y3⟩,⟨y4,y5,y6,y7⟩,y8,y9,U,V⟩:=l0.o.c12
  go_wp2_with fail
  refine f5.o.mono ?_;rintro e w8 ⟨q,d6,rfl,h7,Y⟩;have H:=e3.up Y;have G:=Hd Y;have k9:=Hd (g0.o.bl g0.o.lt Y);have b7:=Hd h7;obtain⟨c0,c1⟩:=k9.o.c2;clear Y h7 f5 y0 y1 y2 y3 y4 y5 y6 y7 y8 y9 U V
  cases ok
  ·cases i1<;>cases d6
   all_goals (
    have HQ:=Hd (b6.o (fun ⟨r,L,h1,h2,h3⟩=>HN.o rfl ⟨r,L,h1⟩))
    go_wp2_with fail
    refine Jh ?_ rfl ⟨_,rfl,HQ.o,H.o⟩;simp[results,results5,go_sem])
  cases i1
  ·cases d6
   all_goals (
    have HQ:=Hd (b6.o (fun ⟨r,L,h1,h2,h3⟩=>by have:=b8.o.2.1.2 h2;cases this))
    go_wp2_with fail
    refine Jh ?_ rfl ⟨_,rfl,HQ.o,H.o⟩;simp[results,results5,go_sem])
  cases d6
  ·have HQ:=Hd (b6.o (fun ⟨r,L,h1,h2,h3⟩=>by have:=b7.o.2.1.2 h3;cases this))
   go_wp2_with fail
   refine Jh ?_ rfl ⟨_,rfl,HQ.o,H.o⟩;simp[results,results5,go_sem]
  obtain⟨r,L,hA,g9,g5⟩:=HY.o rfl;have HA:=Hd hA;have c6:=Hd (b8.o.2.1.1 rfl);have b9:=Hd (b7.o.2.1.1 rfl);have c7:Hid (SrtA (On Xi) (On Xe) r L):=⟨hA.2.2.ents,hA.2.2.sort⟩;have e6:=Hd (e7.o (On Xi) (On Xe) _ (.slice p n c) y q r i s L w8 hK hwi hwe (((g9.next a7.o).next a8.o).next G.o) (((g5.next a7.o).next a8.o).next G.o) c7.o hA.2.2.most ((b8.o.2.2 rfl).next G.o) (b7.o.2.2 rfl) (HT.o.next H.o));clear hA g9 g5
  go_wp2_with fail
  refine e6.o.mono ?_;rintro e w9 ⟨x9,v9,r9,K,rfl,d5,g4,m9,h0,g7⟩;have k5:=H.up g7;have k7:=Hd d5;have k0:=Hd g4;obtain⟨t9,z9,rfl⟩:=d5.form;obtain⟨p9,c9,rfl,m7,m8,_⟩:=g4;have e5:Hid (P2 (On Xi) (On Xe) a i s (X9 r9 K)):=by
   refine⟨fun r' L' h1 h2 h3=>?_,fun h=>absurd ⟨r,L,HA.o,c6.o,b9.o⟩ h⟩;obtain⟨rfl,rfl⟩:=h1.inj HA.o
   rcases h0 with hq|⟨hq,r2,L2,l4,l5⟩
   ·exact⟨_,_,hq.ok hw64 c7.o HA.o.2.2.rest c6.o b9.o,rfl⟩
   exact⟨r2,L2,l4.ok hw64 c7.o HA.o.2.2.rest c6.o b9.o,by rw[Mw hq,Mw l5]⟩
  clear g7 d5 h0 c0 c1 e6
  go_upto_region 8 with fail
  generalize O:w9.alloc _=d1;have D:Up w9 d1:=by rw[<-O];exact Oo _ _
  have a6:=k5.up D;have J:Hid (Bx d1 w9.heap.size [.iface t9 z9,.slice p9 K.length c9]):=by unfold Hid;rw[<-O];exact Ox w9 _ _
  have b3:=Hd (k7.o.next D);have Z:=Hd (k0.o.next D);have e4:=Hd (XN (On Xi) (On Xe) _ _ r9 K d1 b3.o Z.o hwi hwe (HT.o.next a6.o) (by omega));obtain⟨c0,c1⟩:=J.o.c2;clear O D
  go_wp2_with fail
  refine e4.o.mono ?_;rintro e l6 ⟨rfl,j⟩;have F:=a6.up j;have f8:=Hd (J.o.bl J.o.lt j);have k8:=Hd (Fa (On Xi) (On Xe) _ _ r9 K l6 (b3.o.next j) (Z.o.next j) hwi hwe (HT.o.next F.o) (by omega));clear j c0 c1 e4;obtain⟨c0,c1⟩:=f8.o.c2
  by_cases d:K.length<=60/\(E8 r9 K).length<=2000
  ·have I:Hid (P2 (On Xi) (On Xe) a i s (Oy (E8 r9 K))):=by unfold Hid;have:=e5.o;unfold X9 at this;rw[if_pos d] at this;exact this
   rw[show decide (K.length<=60/\(E8 r9 K).length<=2000)=true from Jn d];clear d
   go_wp2_with fail
   refine k8.o.mono ?_;rintro e n2 ⟨rfl,b4⟩;have d9:=F.up b4;clear b4
   go_wp2_with fail
   refine Jh ?_ rfl ⟨_,rfl,I.o,d9.o⟩;simp[results,results5,go_sem]
  have I:Hid (P2 (On Xi) (On Xe) a i s ⟨#[]⟩):=by unfold Hid;have:=e5.o;unfold X9 at this;rw[if_neg d] at this;exact this
  rw[show decide (K.length<=60/\(E8 r9 K).length<=2000)=false from Jp d];clear d
  go_wp2_with fail
  refine Jh ?_ rfl ⟨_,rfl,I.o,F.o⟩;simp[results,results5,go_sem])
end Go.Proofs.YtjjgilacnocigaaGreatDoor
