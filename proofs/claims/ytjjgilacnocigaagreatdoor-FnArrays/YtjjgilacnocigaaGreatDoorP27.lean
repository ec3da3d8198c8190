import Derived.Test.YtjjgilacnocigaaGreatDoorP26
set_option maxRecDepth 100000
set_option maxHeartbeats 16000000
namespace Go.Proofs.YtjjgilacnocigaaGreatDoor
open ChangeShapes WideShapes ChangeAt RowKit Proofs.Tryz
open Q (Kh)
theorem RG (s:ByteArray)(w:World)(hs:s.size<=1048576)(ht:VT w) :
 Calls prog 44 #[.string s,.string ⟨#[59]⟩] w fun e w'=>∃ p0 ps,e=.returned (.slice (some ⟨w.heap.size,0,none⟩) (ps.length+1) (ps.length+1))/\w'=w.alloc (.cells ((p0::ps).map Value.string).toArray 9)/\Hid (H7 (p0::ps)=s.data.toList/\(∀ p∈p0::ps,CB p)/\∀ p∈p0::ps,p.size<=s.size)/\ps.length<=s.size:=by
 obtain⟨m,hm⟩:=ht.ml;refine (Tryz.strings_Split s ⟨#[59]⟩ m w (by omega) hm (by decide)).mono ?_;have j:Lib.countB s ⟨#[59]⟩=s.data.toList.count 59:=Lib.count_one 59 s.data.toList;obtain⟨h1,d,h3⟩:=VS _ s rfl;rw[j];generalize D:Lib.splitB ⟨#[59]⟩ 0 (s.data.toList.count 59) s=P at h1 d h3 ⊢;rintro e E ⟨rfl,rfl⟩
 match P,h1 with
 | p0::ps,h1=>
   simp only[J8,Nat.add_right_cancel_iff] at h1;refine⟨p0,ps,by rw[<-h1],rfl,⟨d,h3,fun p hp=>?_⟩,by rw[h1];exact List.count_le_length⟩;have H:∀ (P:List ByteArray),p∈P->p.data.toList.length<=(H7 P).length:=by
    intro P
    induction P with
    | nil=>intro h;cases h
    | cons q r ih=>
      intro h
      match r,ih with
      | [],_=>rcases Ye.1 h with rfl;exact O1
      | q2::r2,ih=>
        show _<=(q.data.toList++59::H7 (q2::r2)).length
        rw[Jq,J8]
        rcases Yn.1 h with rfl|h
        ·omega
        have:=ih h;omega
   have:=H _ hp;rw[d] at this;exact this
theorem NZ (sb n:Nat):∃ o,(0<n->o=1)/\∀ W,(Instr.sliceAt 23 (.slice (some ⟨sb,0,none⟩) (n+1) (n+1)) (some (.int .i64 1)) none none).run prog W=.ok (.slice (some ⟨sb,o,none⟩) n n) W:=by
 have d:∀ W,(sizeOf (prog.elem 23)).run prog W=.ok 1 W:=fun W=>by kernel_rfl
 refine⟨if n=0 then 0 else 1,fun h=>if_neg (by omega),fun W=>?_⟩;rw[run_sliceAt_slice W _ _ _ _ _ underlying23,run_slice_l W _ _ _ _ underlying23 .i64 1 (by omega) (by omega),d]
 by_cases hn:n=0
 ·subst hn;rfl
 simp only[Result.andThen_ok,sliced,if_neg hn];have:(1:Int).toNat=1:=rfl;rw[this];simp[hn,Addr.add]
theorem Xa (Xw Xi Xe:SI)(t:ByteArray)(w:World)(hw6:Xw.kind=6)(ht:t.size<=1048576)(hi:Cw Xi)(he:Cw Xe)(hK:Gm (On Xi))(hT:VT w) :
 Calls prog 20 #[.agg #[.int .i64 Xw.kind,.int .i64 (Xw.width:Nat),.string (Oy Xw.index),.string (Oy Xw.elem),.int .i64 Xi.kind,.int .i64 (Xi.width:Nat),.string (Oy Xi.index),.string (Oy Xi.elem),.int .i64 Xe.kind,.int .i64 (Xe.width:Nat),.string (Oy Xe.index),.string (Oy Xe.elem)],.string t] w fun e w'=>GF (On Xi) (On Xe) t w w' e:=by
 have HT:=Hd hT;rw[hw6];obtain⟨W1,d7⟩:=O2 ((w.alloc (.cells #[.int .i64 6,.int .i64 (Xw.width:Nat),.string (Oy Xw.index),.string (Oy Xw.elem),.int .i64 Xi.kind,.int .i64 (Xi.width:Nat),.string (Oy Xi.index),.string (Oy Xi.elem),.int .i64 Xe.kind,.int .i64 (Xe.width:Nat),.string (Oy Xe.index),.string (Oy Xe.elem)] 44)).alloc (.cells #[.nilIface,.slice none 0 0] 50));have d8:Up w W1:=by rw[<-d7];exact (Oo _ _).trans ((Oo _ _).mono (by simp))
 have j9:Bx W1 w.heap.size [.int .i64 6,.int .i64 (Xw.width:Nat),.string (Oy Xw.index),.string (Oy Xw.elem),.int .i64 Xi.kind,.int .i64 (Xi.width:Nat),.string (Oy Xi.index),.string (Oy Xi.elem),.int .i64 Xe.kind,.int .i64 (Xe.width:Nat),.string (Oy Xe.index),.string (Oy Xe.elem)]:=by rw[<-d7];exact (Ox w [.int .i64 6,.int .i64 (Xw.width:Nat),.string (Oy Xw.index),.string (Oy Xw.elem),.int .i64 Xi.kind,.int .i64 (Xi.width:Nat),.string (Oy Xi.index),.string (Oy Xi.elem),.int .i64 Xe.kind,.int .i64 (Xe.width:Nat),.string (Oy Xe.index),.string (Oy Xe.elem)] _).alloc _
 have o0:Bx W1 (w.heap.size+1) [.nilIface,.slice none 0 0]:=by
  rw[<-d7];rw[show w.heap.size+1=(w.alloc (.cells #[.int .i64 6,.int .i64 (Xw.width:Nat),.string (Oy Xw.index),.string (Oy Xw.elem),.int .i64 Xi.kind,.int .i64 (Xi.width:Nat),.string (Oy Xi.index),.string (Oy Xi.elem),.int .i64 Xe.kind,.int .i64 (Xe.width:Nat),.string (Oy Xe.index),.string (Oy Xe.elem)] 44)).heap.size from (by simp)];exact Ox _ [.nilIface,.slice none 0 0] _
 have HW:=Hd d7;have c7:=Hd d8;have l8:=Hd j9;have G:=Hd o0;have c0:=j9.cell 0;clear hT d7 d8 j9 o0;have Z:Hid (∀ W,Bx W (w.heap.size+1) [.nilIface,.slice none 0 0]->Up w W->(¬ ∃ r L,K1 (On Xi) (On Xe) t r L)->∀ W',W'=(W.setCell ⟨w.heap.size+1,0,none⟩ .nilIface).setCell ⟨w.heap.size+1,1,none⟩ (.slice none 0 0)->(W'.cell? ⟨w.heap.size+1,0,none⟩=some .nilIface/\W'.cell? ⟨w.heap.size+1,1,none⟩=some (.slice none 0 0))/\GF (On Xi) (On Xe) t w W' (.returned (.tuple #[.agg #[.nilIface,.slice none 0 0],.bool false]))):=by
  intro W hx hb hn W' e;subst e;refine⟨((hx.set 0 .nilIface).set 1 (.slice none 0 0)).c2,GF.no hn ?_⟩;exact (hb.setCell (p:=⟨w.heap.size+1,0,none⟩) (by simp) _).setCell (p:=⟨w.heap.size+1,1,none⟩) (by simp) _
 go_in
 go_upto_region 1 with fail
 rw[HW.o]
 go_wp2_with fail
 refine (P4 t ⟨#[123]⟩ W1).mono ?_;rintro e w1 ⟨T1,b1,rfl,rfl,x4,d8⟩;have c8:=Hd d8.o;clear d8
 go_wp2_with fail
 refine (UA T1 125 w1 (by omega)).mono ?_;rintro e w0 ⟨T2,b2,rfl,rfl,x5,b4⟩;have e8:=Hd b4.o;clear b4
 by_cases I:2000<t.size
 ·have HN:Hid (¬ ∃ r L,K1 (On Xi) (On Xe) t r L):=by rintro⟨r,L,h⟩;have:=h.2.1;omega
  have s8:(2000:Int)<(t.size:Int):=by omega
  obtain⟨e0,e1⟩:=G.o.c2;obtain⟨f0,f1⟩:=G.o.f2
  go_wp2_with fail
  obtain⟨⟨g0,g1⟩,hR⟩:=Z.o _ G.o c7.o HN.o _ rfl;refine Jh ?_ rfl hR;simp[results,results20,go_sem,g0,g1]
 have s7:(t.size:Int)<=2000:=by omega
 cases b1
 ·have HN:Hid (¬ ∃ r L,K1 (On Xi) (On Xe) t r L):=by
   rintro⟨r,L,h⟩;have h1:=(Me h.1).1;have h2:=c8.o.1;have h3:decide (t.data.toList.take 1=[123])=true:=Jn h1;rw[show decide (t.data.toList.take 1=[123])=false from h2.symm] at h3;cases h3
  obtain⟨e0,e1⟩:=G.o.c2;obtain⟨f0,f1⟩:=G.o.f2
  go_wp2_with fail
  obtain⟨⟨g0,g1⟩,hR⟩:=Z.o _ G.o c7.o HN.o _ rfl;refine Jh ?_ rfl hR;simp[results,results20,go_sem,g0,g1]
 cases b2
 ·have HN:Hid (¬ ∃ r L,K1 (On Xi) (On Xe) t r L):=by
   rintro⟨r,L,h⟩;have h1:=(Me h.1).2;have h2:=e8.o.1;have h4:T1.data.toList=t.data.toList.drop 1:=c8.o.2 rfl;have h3:decide (T1.data.toList.getLast? = some 125)=true:=Jn (by rw[h4];exact h1);rw[show decide (T1.data.toList.getLast? = some 125)=false from h2.symm] at h3;cases h3
  obtain⟨e0,e1⟩:=G.o.c2;obtain⟨f0,f1⟩:=G.o.f2
  go_wp2_with fail
  obtain⟨⟨g0,g1⟩,hR⟩:=Z.o _ G.o c7.o HN.o _ rfl;refine Jh ?_ rfl hR;simp[results,results20,go_sem,g0,g1]
 have k5:Hid (t.data.toList=123::(T2.data.toList++[125])):=TU (of_decide_eq_true c8.o.1.symm) (c8.o.2 rfl) (of_decide_eq_true e8.o.1.symm) (e8.o.2 rfl);have s6:t.size<=2000:=by omega
 clear c8 e8
 go_wp2_with fail
 refine (RG T2 w0 (by omega) (HT.o.next c7.o)).mono ?_;rintro e W2 ⟨p0,D,rfl,f8,hP,y0⟩;have w2:(D.length:Int)<=1048576:=by omega
 have HP:=Hd hP.o;have b4:Up w0 W2:=by rw[f8];exact Oo _ _
 have h8:=c7.up b4;have T:=Hd (l8.o.bl l8.o.lt b4);have g7:=Hd (G.o.bl G.o.lt b4);have HQ:Hid (∀ i (h:i<D.length+1),W2.cell? ⟨w0.heap.size,i,none⟩=some (.string ((p0::D)[i]'(by simpa using h)))):=by
  intro i hi2;rw[f8,(Ox w0 ((p0::D).map Value.string) 9).cell i,Zh,Jl (by simpa using hi2)];rfl
 have e9:Hid (W2.drew.cell? ⟨w0.heap.size,0,none⟩=some (.string p0)):=HQ.o 0 (by omega);have q0:=e9.o;have s9:p0.size<=1048576:=by have:=HP.o.2.2 p0 (by simp);omega
 have l6:=Hd (N4 Xe p0 W2.drew s9 he (HT.o.next h8.o.drew));have U:=T.o.c12.2.2;have n1:=And.intro U.1 (And.intro U.2.1 (And.intro U.2.2.1 (And.intro U.2.2.2 q0)));have t8:w0.heap.size<W2.heap.size:=by rw[f8];simp
 clear f8 b4 hP
 go_wp2_with fail
 refine Tx 11 rfl (S:=fun W=>W.cell? ⟨w.heap.size,8,none⟩=some (.int .i64 Xe.kind)/\W.cell? ⟨w.heap.size,9,none⟩=some (.int .i64 (Xe.width:Nat))/\W.cell? ⟨w.heap.size,10,none⟩=some (.string (Oy Xe.index))/\W.cell? ⟨w.heap.size,11,none⟩=some (.string (Oy Xe.elem))/\W.cell? ⟨w0.heap.size,0,none⟩=some (.string p0)) (by kernel_rfl) (n1) (fun hHeld=>?_);refine tk 0 48 (v:=?_) rfl rfl (by kernel_rfl) (fun _ _ _ h=>h) (Or.inl ⟨by rfl,?_⟩) (by assumption) ?_
 rotate_left
 ·(intro w d;(try dsimp only at d);go_simp;(try with_reducible rfl))
 try simp only[Act.put,Ja,Jc,Jb]
 refine tk 1 49 (v:=?_) rfl rfl (by kernel_rfl) (fun _ _ _ h=>h) (Or.inl ⟨by rfl,?_⟩) (by assumption) ?_
 rotate_left
 ·(intro w d;(try dsimp only at d);go_simp;(try with_reducible rfl))
 try simp only[Act.put,Ja,Jc,Jb]
 refine tk 2 50 (v:=?_) rfl rfl (by kernel_rfl) (fun _ _ _ h=>h) (Or.inl ⟨by rfl,?_⟩) (by assumption) ?_
 rotate_left
 ·(intro w d;(try dsimp only at d);go_simp;(try with_reducible rfl))
 try simp only[Act.put,Ja,Jc,Jb]
 refine tk 3 51 (v:=?_) rfl rfl (by kernel_rfl) (fun _ _ _ h=>h) (Or.inl ⟨by rfl,?_⟩) (by assumption) ?_
 rotate_left
 ·(intro w d;(try dsimp only at d);go_simp;(try with_reducible rfl))
 try simp only[Act.put,Ja,Jc,Jb]
 refine tk 4 52 (v:=?_) rfl rfl (by kernel_rfl) (fun _ _ _ h=>h) (Or.inl ⟨by rfl,?_⟩) (by assumption) ?_
 rotate_left
 ·(intro w d;(try dsimp only at d);go_simp;(try with_reducible rfl))
 try simp only[Act.put,Ja,Jc,Jb]
 refine wpAnyH_ready (rs:=[5]) (by kernel_rfl) (by simp) ?_;refine AllReadyH.cons rfl (fun K hK=>?_) AllReadyH.nil
 go_simp
 refine l6.o.mono ?_;rintro e H ⟨x,o1,rfl,n8,g3⟩;have V:=(T.o.drew.bl T.o.drew.lt g3).c12.2.2;have h0:=And.intro V.1 (And.intro V.2.1 (And.intro V.2.2.1 (And.intro V.2.2.2 ((g3.cell (p:=⟨w0.heap.size,0,none⟩) (Zb W2.drew _ e9.o)).trans e9.o))));have l7:=Hd n8;have J:=Hd g3;clear n8 g3 V
 go_wp2_with fail
 refine hK.out _ _ h0 (fun hHeld5=>?_);clear hK K
 try simp only[Act.put,Ja,Jc,Jb]
 refine tk 6 47 (v:=?_) rfl rfl (by kernel_rfl) (fun _ _ _ h=>h) (Or.inl ⟨by rfl,?_⟩) (by assumption) ?_
 rotate_left
 ·(intro w d;(try dsimp only at d);go_simp;(try with_reducible rfl))
 try simp only[Act.put,Ja,Jc,Jb]
 refine tk 7 54 (v:=?_) rfl rfl (by kernel_rfl) (fun _ _ _ h=>h) (Or.inl ⟨by rfl,?_⟩) (by assumption) ?_
 rotate_left
 ·(intro w d;(try dsimp only at d);go_simp;(try with_reducible rfl))
 try simp only[Act.put,Ja,Jc,Jb]
 refine tk 8 55 (v:=?_) rfl rfl (by kernel_rfl) (fun _ _ _ h=>h) (Or.inl ⟨by rfl,?_⟩) (by assumption) ?_
 rotate_left
 ·(intro w d;(try dsimp only at d);go_simp;(try with_reducible rfl))
 try simp only[Act.put,Ja,Jc,Jb]
 refine tk 9 10 (v:=?_) rfl rfl (by kernel_rfl) (fun _ _ _ h=>h) (Or.inl ⟨by rfl,?_⟩) (by assumption) ?_
 rotate_left
 ·(intro w d;(try dsimp only at d);go_simp;(try with_reducible rfl))
 try simp only[Act.put,Ja,Jc,Jb]
 refine tk 10 11 (v:=?_) rfl rfl (by kernel_rfl) (fun _ _ _ h=>h) (Or.inl ⟨by rfl,?_⟩) (by assumption) ?_
 rotate_left
 ·(intro w d;(try dsimp only at d);go_simp;(try with_reducible rfl))
 try simp only[Act.put,Ja,Jc,Jb]
 refine wpAnyH_done (by kernel_rfl) ?_ _;have h9:Hid (Up w H):=h8.o.drew.trans (J.o.mono h8.o.size);have g6:=Hd (T.o.drew.bl T.o.drew.lt J.o);have E:=Hd (g7.o.drew.bl g7.o.drew.lt J.o);have p8:Hid (∀ i (h:i<D.length+1),H.cell? ⟨w0.heap.size,i,none⟩=some (.string ((p0::D)[i]'(by simpa using h)))):=fun i hi2=>(J.o.cell (p:=⟨w0.heap.size,i,none⟩) t8).trans (HQ.o i hi2);have y1:W2.heap.size<=H.heap.size:=J.o.size;have e7:Hid (∀ r L,K1 (On Xi) (On Xe) t r L->p0=r/\D=L.map P7/\D.length<=60):=by
  intro r L h;have e:=GB k5.o HP.o.1 (by simp) HP.o.2.1 h;simp only[List.cons.injEq] at e;refine⟨e.1,e.2,?_⟩;rw[e.2,Yq];exact h.2.2.most
 clear U n1 h0 q0 e9 HQ l6 hHeld hHeld5
 by_cases x3:60<D.length
 ·have HN:Hid (¬ ∃ r L,K1 (On Xi) (On Xe) t r L):=by
   rintro⟨r,L,h⟩;have:=(e7.o r L h).2.2;omega
  have m7:(60:Int)<(D.length:Int):=by omega
  cases o1
  all_goals (
   obtain⟨e0,e1⟩:=E.o.c2;obtain⟨f0,f1⟩:=E.o.f2
   go_wp2_with fail
   obtain⟨⟨g0,g1⟩,hR⟩:=Z.o _ E.o h9.o HN.o _ rfl;refine Jh ?_ rfl hR;simp[results,results20,go_sem,g0,g1])
 have m7:(D.length:Int)<=60:=by omega
 cases o1
 ·have HN:Hid (¬ ∃ r L,K1 (On Xi) (On Xe) t r L):=by
   rintro⟨r,L,h⟩;have h1:=l7.o.2.1.2 (by rw[(e7.o r L h).1];exact h.2.2.rest);cases h1
  obtain⟨e0,e1⟩:=E.o.c2;obtain⟨f0,f1⟩:=E.o.f2
  go_wp2_with fail
  obtain⟨⟨g0,g1⟩,hR⟩:=Z.o _ E.o h9.o HN.o _ rfl;refine Jh ?_ rfl hR;simp[results,results20,go_sem,g0,g1]
 have j4:PV (On Xe) H x p0:=l7.o.2.2 rfl;have p6:=Hd j4;obtain⟨tx,zx,rfl⟩:=j4.form;clear j4
 go_upto_region 10 with fail
 generalize f9:H.alloc _=W4;have g4:Up H W4:=by rw[<-f9];exact Oo _ _
 have u1:W4.heap.size=H.heap.size+1:=by rw[<-f9];simp
 have p4:Hid (LI (On Xi) (On Xe) H.heap.size W4 (.iface tx zx) p0 D [] (.slice none 0 0) W4):=
  ⟨by omega,Q.Bar.refl _ _,by rw[<-f9];exact heap_alloc_new H _,ERow.nil _ _ _ _,p6.o.next g4,RdS.zero _ _ _ _⟩
 have x2:w.heap.size+2<=H.heap.size:=by have:=E.o.lt;omega
 have p1:Hid (∀ W,Q.Bar H.heap.size W4 W->Bx W w.heap.size [.int .i64 6,.int .i64 (Xw.width:Nat),.string (Oy Xw.index),.string (Oy Xw.elem),.int .i64 Xi.kind,.int .i64 (Xi.width:Nat),.string (Oy Xi.index),.string (Oy Xi.elem),.int .i64 Xe.kind,.int .i64 (Xe.width:Nat),.string (Oy Xe.index),.string (Oy Xe.elem)]/\Bx W (w.heap.size+1) [.nilIface,.slice none 0 0]/\(∀ i (h:i<D.length+1),W.cell? ⟨w0.heap.size,i,none⟩=some (.string ((p0::D)[i]'(by simpa using h))))/\Up w W/\H.heap.size+1<=W.heap.size):=by
  intro W hb;have j8:=hb.size;have k:∀ b,b<H.heap.size->W.heap[b]? = H.heap[b]? := fun b h=>(hb.block b (by omega) (by omega)).trans (g4.block b h);refine⟨?_,?_,fun i hi2=>?_,?_,by omega⟩
  ·obtain⟨ty,h⟩:=g6.o;exact⟨ty,(k _ g6.o.lt).trans h⟩
  ·obtain⟨ty,h⟩:=E.o;exact⟨ty,(k _ E.o.lt).trans h⟩
  ·exact (Zg (a:=⟨w0.heap.size,i,none⟩) (k w0.heap.size (by omega))).trans (p8.o i hi2)
  exact h9.o.trans ((g4.mono (show w.heap.size<=H.heap.size by omega)).trans (hb.bl (show w.heap.size<=H.heap.size by omega) (show w.heap.size<=W4.heap.size by omega)))
 obtain⟨o,ho,y2⟩:=NZ w0.heap.size D.length;have HO:=Hd ho;clear f9 g4 ho
 go_wp2
 go_loopw [70] (fun vi W=>∃ (j:Nat) (a:Int) (v:Value) (L:List Kd),vi=.int .i64 a/\Hid (a=(j:Nat)/\L.length=j)/\0<=a/\a<=(D.length:Nat)/\Hid (LI (On Xi) (On Xe) H.heap.size W4 (.iface tx zx) p0 D L v W)) (fun vi _=>((D.length:Int) - intOf vi).toNat)
 case atStart=>exact⟨0,0,_,[],rfl,⟨rfl,rfl⟩,by omega,by omega,p4⟩
 obtain⟨j,a,v,L,rfl,ha,x6,x7,hL⟩:=hrel;obtain⟨k0,k1,kq,kb,ks⟩:=p1.o wr hL.o.bar;have a6:=Hd k1;have KB:=Hd kb
 by_cases x9:a<(D.length:Nat)
 ·have hj:j<D.length:=by have:=ha.o;omega
  obtain rfl:o=1:=HO.o (by omega);have hq:=kq (1+j) (by omega);have g2:a.toNat=j:=by have:=ha.o;omega
  obtain⟨p,hp⟩:=O2 (D[j]);have t7:wr.cell? ⟨w0.heap.size,1+a.toNat,none⟩=some (.string p):=by
   rw[g2,hq];have:(p0::D)[1+j]'(by simp;omega)=D[j]:=by simp[Nat.add_comm 1 j]
   rw[this,hp]
  have t6:p.size<=1048576:=by have:=HP.o.2.2 p (by rw[<-hp];simp);omega
  have i1:Hid (∃ h:j<D.length,D[j]=p):=⟨hj,hp⟩;have l5:=Hd (A0 Xw Xi Xe p wr t6 hi he (HT.o.next kb));rw[hw6] at l5;obtain⟨⟨q8,q9,r3,r4⟩,⟨r5,r6,r7,r8⟩,r9,s0,m5,m6⟩:=k0.c12;clear kq hq hp hj k0 k1 kb g2
  go_wp2_with fail
  refine l5.o.mono ?_;rintro e w5 ⟨ea,eb,ok,rfl,n4,n5,e4,c6,g5⟩;have p2:=Hd (hL.o.bl g5);have i6:=KB.up g5;have d3:=Hd (a6.o.bl a6.o.lt g5);clear g5 t7 q8 q9 r3 r4 r5 r6 r7 r8 r9 s0 m5 m6
  cases ok
  ·have HN:Hid (¬ ∃ r L,K1 (On Xi) (On Xe) t r L):=by
    rintro⟨r,M,h⟩;obtain⟨h1,h2,_⟩:=e7.o r M h;obtain⟨hj,hp⟩:=i1.o;have I:=ha.o.2;obtain⟨i,s,hE,_⟩:=hL.o.rd.next_of (by omega) h.2.2 h2 h1.symm;have e:D[L.length]'(by omega)=p:=by simp only[I];exact hp
    rw[e] at hE;exact c6 rfl ⟨i,s,hE⟩
   clear e4 c6
   rcases n4 with rfl|⟨ta,za,rfl⟩<;>rcases n5 with rfl|⟨tb,zb,rfl⟩
   all_goals (
    go_upto_region 14 with fail
    generalize b3:w5.alloc _=W6;have Y:Bx W6 (w.heap.size+1) [.nilIface,.slice none 0 0]:=by rw[<-b3];exact d3.o.alloc _
    have n3:Up w W6:=by rw[<-b3];exact i6.o.trans ((Oo _ _).mono i6.o.size)
    obtain⟨e0,e1⟩:=Y.c2;obtain⟨f0,f1⟩:=Y.f2;have f5:=Hd Y;have o7:=Hd n3;clear b3 Y n3
    go_wp2_with fail
    obtain⟨⟨g0,g1⟩,hR⟩:=Z.o _ f5.o o7.o HN.o _ rfl;refine Jh ?_ rfl hR;simp[results,results20,go_sem,g0,g1])
  obtain⟨i,s,hE,j2,j3⟩:=e4 rfl;have HE:=Hd hE;have k9:=Hd j2;have l2:=Hd j3;obtain⟨ta,za,rfl⟩:=j2.form;obtain⟨tb,zb,rfl⟩:=j3.form;clear e4 c6 n4 n5 hE j2 j3
  go_upto_region 14 with fail
  generalize b3:w5.alloc _=W6;have F:Up w5 W6:=by rw[<-b3];exact Oo _ _
  have Y:Bx W6 w5.heap.size [.iface ta za,.iface tb zb]:=by rw[<-b3];exact Ox w5 _ _
  have d2:=Hd (p2.o.bl F);have l9:=i6.up F;have g8:=Hd (d3.o.bl d3.o.lt F);have f5:=Hd Y;obtain⟨pv,cv,hv⟩:=d2.o.row.form;obtain⟨b0,b1⟩:=E5 d2.o.box;obtain⟨d0,d1⟩:=Y.c2;have x8:L.length<=60:=by have h1:=ha.o.2;have h2:=ha.o.1;omega
  have p5:=Hd (EN (On Xi) (On Xe) (.iface tx zx) v (.iface ta za) (.iface tb zb) p0 i s L W6 d2.o.pv d2.o.row.at (k9.o.next F) (l2.o.next F) hi he hK (HT.o.next l9.o) (by omega));have l0:=Hd (k9.o.next F);have l3:=Hd (l2.o.next F);subst hv;clear b3 F Y
  go_wp2_with fail
  refine p5.o.mono ?_;rintro e w7 ⟨fits,rfl,b7,b5⟩;have O:=Hd (d2.o.bl b5);have q7:=l9.up b5;have d4:=Hd (g8.o.bl g8.o.lt b5);have q6:=Hd (f5.o.bl f5.o.lt b5);have l1:=Hd (l0.o.next b5);have l4:=Hd (l3.o.next b5);clear b5 b0 b1 d0 d1
  cases fits
  ·have HN:Hid (¬ ∃ r L,K1 (On Xi) (On Xe) t r L):=by
    rintro⟨r,M,h⟩;obtain⟨h1,h2,_⟩:=e7.o r M h;obtain⟨hj,hp⟩:=i1.o;have I:=ha.o.2;obtain⟨i',s',j1,m9⟩:=hL.o.rd.next_of (by omega) h.2.2 h2 h1.symm;have e:D[L.length]'(by omega)=p:=by simp only[I];exact hp
    rw[e] at j1;have e2:=YE (ki:=On Xi) (e:=(i,s)) (f:=(i',s')) HE.o.2.1 j1.2.1 (Kz (HE.o.1.symm.trans j1.1));simp only[Prod.mk.injEq] at e2;obtain⟨rfl,rfl⟩:=e2;have:=b7.2 m9
    cases this
   obtain⟨e0,e1⟩:=d4.o.c2;obtain⟨f0,f1⟩:=d4.o.f2;clear b7
   go_wp2_with fail
   obtain⟨⟨g0,g1⟩,hR⟩:=Z.o _ d4.o q7.o HN.o _ rfl;refine Jh ?_ rfl hR;simp[results,results20,go_sem,g0,g1]
  have p9:Hid (RdS (On Xi) (On Xe) p0 D (L++[(i,s)])):=by
   obtain⟨hj,hp⟩:=i1.o;have I:=ha.o.2;refine O.o.rd.more (by omega) ?_ (b7.1 rfl);have e:D[L.length]'(by omega)=p:=by simp only[I];exact hp
   rw[e];exact HE.o
  obtain⟨b0,b1⟩:=E5 O.o.box;obtain⟨d0,d1⟩:=q6.o.c2;clear b7
  go_upto_region 16 with fail
  have n9:W4.heap.size<=w7.heap.size:=O.o.bar.size
  go_wp2_with (at_builtin;(refine Ln (f:=(i,s)) rfl _ _ rfl rfl O.o.row l1.o l4.o _ rfl rfl L.length rfl (by omega) n9 ?_))
  rintro ga ca w8 j7 j5;rw[<-u1] at j7;have p3:=Hd (O.o.more j5 j7 p9.o);have s5:=O.o.glt;have n7:w8.heap[H.heap.size]? = w7.heap[H.heap.size]? := j5.block _ (by omega) (fun e=>by have:=O.o.own (b:=H.heap.size) e.symm;omega);have d9:=n7.trans O.o.box;have f1:=(show Bx w8 H.heap.size _ from ⟨_,d9⟩).fz 1;clear b0 b1 d0 d1;obtain⟨b0,b1⟩:=E5 d9;clear n7 d9 j7 j5 s5;have s3:0<=a+1:=by omega
  have s4:a+1<=(D.length:Nat):=by omega
  have g2:Hid (a+1=((j+1:Nat):Int)/\(L++[(i,s)]).length=j+1):=⟨by have:=ha.o.1;omega,by rw[Jq,ha.o.2];rfl⟩
  go_wp2_with fail
  refine⟨⟨j+1,a+1,_,L++[(i,s)],rfl,g2,s3,s4,p3⟩,?_⟩;simp only[intOf];omega
 have n0:L.length=D.length:=by have h1:=ha.o.1;have h2:=ha.o.2;omega
 have o9:Hid (K1 (On Xi) (On Xe) t p0 L):=PI k5.o HP.o.1 hL.o.rd n0 hL.o.pv.1 (by omega) (by omega);have e3:=hL.o.row;have j6:=hL.o.pv;have h6:=fun b=>hL.o.own (b:=b);obtain⟨b0,b1⟩:=E5 hL.o.box;obtain⟨e0,e1⟩:=a6.o.c2;obtain⟨f0,f1⟩:=a6.o.f2;obtain⟨pv,cv,hv⟩:=e3.form;subst hv;have c6:Kh wr (w.heap.size+1):=Hk a6.o (fun u hu=>by
  rcases Yn.1 hu with rfl|hu
  ·exact .inl (.inl rfl)
  rcases Ye.1 hu with rfl;exact .inr ⟨_,_,_,rfl⟩)
 have k7:Hid (GF (On Xi) (On Xe) t w ((wr.setCell ⟨w.heap.size+1,0,none⟩ (.iface tx zx)).setCell ⟨w.heap.size+1,1,none⟩ (.slice pv L.length cv)) (.returned (.tuple #[.agg #[.iface tx zx,.slice pv L.length cv],.bool true]))):=by
  have h7:∀ b,b<wr.heap.size->((wr.setCell ⟨w.heap.size+1,0,none⟩ (.iface tx zx)).setCell ⟨w.heap.size+1,1,none⟩ (.slice pv L.length cv)).heap[b]? = wr.heap[b]? ∨ (Kh wr b/\(Value.slice pv L.length cv).ownBlock≠some b):=fun b _=>by
   by_cases e:b=w.heap.size+1
   ·subst e;refine .inr ⟨c6,fun e=>?_⟩;have:=h6 _ e;omega
   exact .inl ((J1 _ ⟨w.heap.size+1,1,none⟩ _ _ e).trans (J1 _ ⟨w.heap.size+1,0,none⟩ _ _ e))
  have j8:wr.heap.size<=((wr.setCell ⟨w.heap.size+1,0,none⟩ (.iface tx zx)).setCell ⟨w.heap.size+1,1,none⟩ (.slice pv L.length cv)).heap.size:=by simp
  refine⟨_,_,true,rfl,j6.iface,⟨_,_,_,rfl⟩,fun _=>⟨p0,L,o9.o,j6.kept j8 (fun b h=>(h7 b h).imp id (·.1)),(e3.kept j8 h7).at⟩,fun e=>(by cases e),?_⟩;exact (KB.o.setCell (p:=⟨w.heap.size+1,0,none⟩) (by simp) _).setCell (p:=⟨w.heap.size+1,1,none⟩) (by simp) _
 have g0:((wr.setCell ⟨w.heap.size+1,0,none⟩ (.iface tx zx)).setCell ⟨w.heap.size+1,1,none⟩ (.slice pv L.length cv)).cell? ⟨w.heap.size+1,0,none⟩=some (.iface tx zx):=((a6.o.set 0 (.iface tx zx)).set 1 (.slice pv L.length cv)).c2.1;have g1:((wr.setCell ⟨w.heap.size+1,0,none⟩ (.iface tx zx)).setCell ⟨w.heap.size+1,1,none⟩ (.slice pv L.length cv)).cell? ⟨w.heap.size+1,1,none⟩=some (.slice pv L.length cv):=((a6.o.set 0 (.iface tx zx)).set 1 (.slice pv L.length cv)).c2.2;clear k0 k1 kq kb e3 j6 h6 c6 n0
 go_wp2_with fail
 refine Jh ?_ rfl k7.o;simp[results,results20,go_sem,g0,g1]
end Go.Proofs.YtjjgilacnocigaaGreatDoor
