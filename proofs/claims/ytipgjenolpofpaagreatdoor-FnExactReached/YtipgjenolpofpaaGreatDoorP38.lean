import Derived.Test.YtipgjenolpofpaaGreatDoorP37
import Derived.DeepKeys4
set_option maxRecDepth 100000
set_option maxHeartbeats 8000000
namespace Go.Proofs.YtipgjenolpofpaaGreatDoor
open ChangeShapes WideShapes ChangeAt RowKit Proofs.Tryz
theorem P4 {ops:Array Oper}{o:Oper}{a:Act}{K:Act->World->Prop}{Q:Exit->Act->World->Prop}{E:Prop}{W:World}{t:ByteArray}{base n:Nat}{v:Value}{xs:List Value}(hgd:o.guard=none)(s y:Operand)
 (ho:o.op=.call { callee:=.builtin .append,args:=#[s,y],argTypes:=#[22,22] }) (hs:a.eval s=v) (hown:W.ownsRow base 9 1 v n xs)
 (hx:a.eval y=.slice (some ⟨W.heap.size,0,none⟩) 1 1) (hn:n<=1000000000) (hbase:base<=W.heap.size)
 (h:∀ g cap W',W'.ownsRow base 9 1 (.slice (some ⟨g,0,none⟩) (n+1) cap) (n+1) (xs++[.string t])->(W.alloc (.cells #[.string t] 9)).grownBy W' v.ownBlock->K (a.put o.dst (.slice (some ⟨g,0,none⟩) (n+1) cap)) W') :
 if Region.wanted o (yielded ops a.tmps)=true then Oper.wp prog o a (W.alloc (.cells #[.string t] 9)) K Q else E:=by
 obtain⟨i0,d,j,A,G⟩:=R1;refine step_append_lies _ hgd s y 22 ho base 9 i0 (.string ⟨#[]⟩) 1 16 underlying22 d j A G rfl (by decide) v n xs hs (hown.alloc _) ⟨W.heap.size,0,none⟩ 1 1 [.string t] hx rfl
  (World.news_of_block (cs:=#[.string t]) (t:=9) (fr:=(0,0)) (heap_alloc_new W _)) (by simp[Value.oneCell']) (by decide) (by unfold maxLen;omega) (by omega) (by simp;omega) _ rfl ?_
 intro g cap W' I J _ _;exact h g cap W' I J
theorem Se (f:Fn)(va:Value)(w:World)(hva:O8 w va f.args)(hl:f.args.length<=5)(hzn:f.name.length<=1048576)(hzs:f.sort.length<=1048576)(hz:∀ a∈f.args,a.length<=1048576) :
 Calls prog 83 #[.agg #[.string (Oo f.name),va,.string (Oo f.sort)]] w fun e w'=>∃ p n c,e=.returned (.agg #[.string (Oo f.name),.slice p n c,.string (Oo f.sort)])/\w'.ownsRow w.heap.size 9 1 (.slice p n c) f.args.length (U3 f.args)/\Up w w':=by
 have l7:=Hd hva;obtain⟨pa,ca,rfl,h1,h2,h3⟩:=hva;have HA:=Hd h3;have HZ:=Hd hz;unfold maxLen at h2;clear h3 hz;have j4:(Oo f.name).size<=1048576:=by show f.name.toArray.size<=_;simpa using hzn
 have i6:(Oo f.sort).size<=1048576:=by show f.sort.toArray.size<=_;simpa using hzs
 go_in
 go_upto_region 1 with fail
 obtain⟨M,e6⟩:=O1 ((w.alloc (.cells #[.string (Oo f.name),.slice pa f.args.length ca,.string (Oo f.sort)] 47)).alloc (.cells #[.string ⟨#[]⟩,.slice none 0 0,.string ⟨#[]⟩] 47));have j8:Hid (Up w M):=by unfold Hid;rw[<-e6];exact ((Jh _ _).alloc Of _).alloc (by rw[Ji];omega) _
 have g8:Hid (M.heap.size=w.heap.size+2):=by unfold Hid;rw[<-e6];simp
 have f9:Hid (Bx M w.heap.size [.string (Oo f.name),.slice pa f.args.length ca,.string (Oo f.sort)]):=by unfold Hid;rw[<-e6];exact (Oi w _ _).alloc _
 have h7:Hid (Bx M (w.heap.size+1) [.string ⟨#[]⟩,.slice none 0 0,.string ⟨#[]⟩]):=by unfold Hid;rw[<-e6];have h:=Oi (w.alloc (.cells #[.string (Oo f.name),.slice pa f.args.length ca,.string (Oo f.sort)] 47)) [.string ⟨#[]⟩,.slice none 0 0,.string ⟨#[]⟩] 47;rw[Ji] at h;exact h
 rw[e6];clear e6;have V:Hid (∀ W,Up M W->W.cell? ⟨w.heap.size,0,none⟩=some (.string (Oo f.name))/\W.cell? ⟨w.heap.size,2,none⟩=some (.string (Oo f.sort))):=fun W hW=>by
  have h:=f9.o.bl f9.o.lt hW;exact⟨h.cell 0,h.cell 2⟩
 have l0:=V.o M (Jh _ _)
 go_cut [3] (fun s3 wx=>∃ gx,s3=.pointer (some ⟨gx,0,none⟩)/\w.heap.size+2<=gx/\Bx wx gx [.string (Oo f.name),.slice none 0 0,.string (Oo f.sort)]/\Up M wx)
 case first=>
  have n2:w.heap.size<M.heap.size:=by have:=g8.o;omega
  refine wp_region_held_drew (S:=fun W=>W.cell? ⟨w.heap.size,0,none⟩=some (.string (Oo f.name))/\W.cell? ⟨w.heap.size,2,none⟩=some (.string (Oo f.sort))) (by kernel_rfl) (V.o M.drew (Jh _ _).drew) (fun hHeld=>?_);refine tk 0 6 (v:=?_) rfl rfl (by kernel_rfl) (fun _ _ _ h=>h) (Or.inl ⟨by rfl,?_⟩) (by assumption) ?_
  rotate_left
  ·(intro w I;(try dsimp only at I);go_simp;(try with_reducible rfl))
  try simp only[Act.put,Ja,Je,Jd]
  refine tk 1 7 (v:=?_) rfl rfl (by kernel_rfl) (fun _ _ _ h=>h) (Or.inl ⟨by rfl,?_⟩) (by assumption) ?_
  rotate_left
  ·(intro w I;(try dsimp only at I);go_simp;(try with_reducible rfl))
  try simp only[Act.put,Ja,Je,Jd]
  refine tk 3 9 (v:=?_) rfl rfl (by kernel_rfl) (fun _ _ _ h=>h) (Or.inl ⟨by rfl,?_⟩) (by assumption) ?_
  rotate_left
  ·(intro w I;(try dsimp only at I);go_simp;(try with_reducible rfl))
  try simp only[Act.put,Ja,Je,Jd]
  refine tk 4 10 (v:=?_) rfl rfl (by kernel_rfl) (fun _ _ _ h=>h) (Or.inl ⟨by rfl,?_⟩) (by assumption) ?_
  rotate_left
  ·(intro w I;(try dsimp only at I);go_simp;(try with_reducible rfl))
  try simp only[Act.put,Ja,Je,Jd]
  refine wpAnyH_ready (rs:=[2,7]) (by kernel_rfl) (by simp) ?_;refine AllReadyH.cons rfl (fun K hK=>?_) (AllReadyH.cons rfl (fun K hK=>?_) AllReadyH.nil)
  ·go_simp
   refine (K9 (Oo f.name) _ j4).mono ?_;rintro e w2 ⟨rfl,d0⟩;have Z:Hid (Up M w2):=⟨d0.os,d0.tape,d0.output,d0.size,d0.block⟩
   go_wp2_with fail
   refine hK.o _ _ (V.o w2 Z.o) (fun hHeld2=>?_);clear hK K
   try simp only[Act.put,Ja,Je,Jd]
   refine wpAnyH_ready (rs:=[5,7]) (by kernel_rfl) (by simp) ?_;refine AllReadyH.cons rfl (fun K hK=>?_) (AllReadyH.cons rfl (fun K hK=>?_) AllReadyH.nil)
   ·go_simp
    refine (K9 (Oo f.sort) _ i6).mono ?_;rintro e w3 ⟨rfl,e3⟩;have O:=Z.up e3
    go_wp2_with fail
    refine hK.o _ _ (V.o w3 O.o) (fun hHeld3=>?_);clear hK K
    try simp only[Act.put,Ja,Je,Jd]
    refine tk 6 12 (v:=?_) rfl rfl (by kernel_rfl) (fun _ _ _ h=>h) (Or.inl ⟨by rfl,?_⟩) (by assumption) ?_
    rotate_left
    ·(intro w I;(try dsimp only at I);go_simp;(try with_reducible rfl))
    try simp only[Act.put,Ja,Je,Jd]
    have b6:Hid (Bx (w3.alloc (.cells #[.string ⟨#[]⟩,.slice none 0 0,.string ⟨#[]⟩] 47)) w3.heap.size [.string ⟨#[]⟩,.slice none 0 0,.string ⟨#[]⟩]):=Oi _ _ _;have b8:Hid (Up M (w3.alloc (.cells #[.string ⟨#[]⟩,.slice none 0 0,.string ⟨#[]⟩] 47))):=O.o.alloc O.o.size _;refine wpAnyH_ready (rs:=[7]) (by kernel_rfl) (by simp) ?_;refine AllReadyH.cons rfl (fun K hK=>?_) AllReadyH.nil
    go_simp
    refine hK.o _ _ (V.o _ b8.o) (fun hHeld4=>?_);clear hK K
    try simp only[Act.put,Ja,Je,Jd]
    obtain⟨a0,a1,a2⟩:=b6.o.k3;obtain⟨f0,f1,f2⟩:=b6.o.f3;have b5:Hid (Up M (w3.alloc (.cells #[.string (Oo f.name),.slice none 0 0,.string (Oo f.sort)] 47))):=O.o.alloc O.o.size _;have g0:Hid (Bx (w3.alloc (.cells #[.string (Oo f.name),.slice none 0 0,.string (Oo f.sort)] 47)) w3.heap.size [.string (Oo f.name),.slice none 0 0,.string (Oo f.sort)]):=Oi _ _ _;refine wpAnyH_ready (rs:=[8]) (by kernel_rfl) (by simp) ?_;refine AllReadyH.cons rfl (fun K hK=>?_) AllReadyH.nil
    go_simp
    refine hK.o _ _ (V.o _ b5.o) (fun hHeldZ=>?_);clear hK K
    try simp only[Act.put,Ja,Je,Jd]
    refine wpAnyH_done (by kernel_rfl) ?_ _
    go_wp2
    go_meet
    exact⟨w3.heap.size,rfl,by have:=g8.o;have:=O.o.size;omega,g0.o,b5.o⟩
   go_simp
   have b9:Hid (Bx (w2.alloc (.cells #[.string ⟨#[]⟩,.slice none 0 0,.string ⟨#[]⟩] 47)) w2.heap.size [.string ⟨#[]⟩,.slice none 0 0,.string ⟨#[]⟩]):=Oi _ _ _;have b8:Hid (Up M (w2.alloc (.cells #[.string ⟨#[]⟩,.slice none 0 0,.string ⟨#[]⟩] 47))):=Z.o.alloc Z.o.size _;refine hK.o _ _ (V.o _ b8.o) (fun hHeld4=>?_);clear hK K
   try simp only[Act.put,Ja,Je,Jd]
   refine wpAnyH_ready (rs:=[5]) (by kernel_rfl) (by simp) ?_;refine AllReadyH.cons rfl (fun K hK=>?_) AllReadyH.nil
   go_simp
   refine (K9 (Oo f.sort) _ i6).mono ?_;rintro e w4 ⟨rfl,d2⟩;have c6:=b8.up d2;have b6:Hid (Bx w4 w2.heap.size [.string ⟨#[]⟩,.slice none 0 0,.string ⟨#[]⟩]):=b9.o.bl b9.o.lt d2
   go_wp2_with fail
   refine hK.o _ _ (V.o w4 c6.o) (fun hHeld5=>?_);clear hK K
   try simp only[Act.put,Ja,Je,Jd]
   refine tk 6 12 (v:=?_) rfl rfl (by kernel_rfl) (fun _ _ _ h=>h) (Or.inl ⟨by rfl,?_⟩) (by assumption) ?_
   rotate_left
   ·(intro w I;(try dsimp only at I);go_simp;(try with_reducible rfl))
   try simp only[Act.put,Ja,Je,Jd]
   obtain⟨a0,a1,a2⟩:=b6.o.k3;obtain⟨f0,f1,f2⟩:=b6.o.f3;have b5:Hid (Up M (((w4.setCell ⟨w2.heap.size,0,none⟩ (.string (Oo f.name))).setCell ⟨w2.heap.size,1,none⟩ (.slice none 0 0)).setCell ⟨w2.heap.size,2,none⟩ (.string (Oo f.sort)))):=(((c6.o).setCell (p:=⟨w2.heap.size,0,none⟩) (Z.o.size) _).setCell (p:=⟨w2.heap.size,1,none⟩) (Z.o.size) _).setCell (p:=⟨w2.heap.size,2,none⟩) (Z.o.size) _;have g0:Hid (Bx (((w4.setCell ⟨w2.heap.size,0,none⟩ (.string (Oo f.name))).setCell ⟨w2.heap.size,1,none⟩ (.slice none 0 0)).setCell ⟨w2.heap.size,2,none⟩ (.string (Oo f.sort))) w2.heap.size [.string (Oo f.name),.slice none 0 0,.string (Oo f.sort)]):=((b6.o.set 0 _).set 1 _).set 2 _;refine wpAnyH_ready (rs:=[8]) (by kernel_rfl) (by simp) ?_;refine AllReadyH.cons rfl (fun K hK=>?_) AllReadyH.nil
   go_simp
   refine hK.o _ _ (V.o _ b5.o) (fun hHeldZ=>?_);clear hK K
   try simp only[Act.put,Ja,Je,Jd]
   refine wpAnyH_done (by kernel_rfl) ?_ _
   go_wp2
   go_meet
   exact⟨w2.heap.size,rfl,by have:=g8.o;have:M.heap.size<=w2.heap.size:=(Z.o.size);omega,g0.o,b5.o⟩
  go_simp
  have b9:Hid (Bx (M.alloc (.cells #[.string ⟨#[]⟩,.slice none 0 0,.string ⟨#[]⟩] 47)).drew M.heap.size [.string ⟨#[]⟩,.slice none 0 0,.string ⟨#[]⟩]):=(Oi _ _ _).drew;have b8:Hid (Up M (M.alloc (.cells #[.string ⟨#[]⟩,.slice none 0 0,.string ⟨#[]⟩] 47)).drew):=(Oy _ _).drew;refine hK.o _ _ (V.o _ b8.o) (fun hHeld4=>?_);clear hK K
  try simp only[Act.put,Ja,Je,Jd]
  refine wpAnyH_ready (rs:=[2]) (by kernel_rfl) (by simp) ?_;refine AllReadyH.cons rfl (fun K hK=>?_) AllReadyH.nil
  go_simp
  refine (K9 (Oo f.name) _ j4).mono ?_;rintro e w3 ⟨rfl,e3⟩;have O:Hid (Up M w3):=b8.o.trans (Below.mono e3 b8.o.size);have g9:Hid (Bx w3 M.heap.size [.string ⟨#[]⟩,.slice none 0 0,.string ⟨#[]⟩]):=b9.o.bl b9.o.lt e3
  go_wp2_with fail
  refine hK.o _ _ (V.o w3 O.o) (fun hHeld5=>?_);clear hK K
  try simp only[Act.put,Ja,Je,Jd]
  refine wpAnyH_ready (rs:=[5]) (by kernel_rfl) (by simp) ?_;refine AllReadyH.cons rfl (fun K hK=>?_) AllReadyH.nil
  go_simp
  refine (K9 (Oo f.sort) _ i6).mono ?_;rintro e w4 ⟨rfl,d2⟩;have c6:=O.up d2;have b6:Hid (Bx w4 M.heap.size [.string ⟨#[]⟩,.slice none 0 0,.string ⟨#[]⟩]):=g9.o.bl g9.o.lt d2
  go_wp2_with fail
  refine hK.o _ _ (V.o w4 c6.o) (fun hHeld6=>?_);clear hK K
  try simp only[Act.put,Ja,Je,Jd]
  refine tk 6 12 (v:=?_) rfl rfl (by kernel_rfl) (fun _ _ _ h=>h) (Or.inl ⟨by rfl,?_⟩) (by assumption) ?_
  rotate_left
  ·(intro w I;(try dsimp only at I);go_simp;(try with_reducible rfl))
  try simp only[Act.put,Ja,Je,Jd]
  obtain⟨a0,a1,a2⟩:=b6.o.k3;obtain⟨f0,f1,f2⟩:=b6.o.f3;have b5:Hid (Up M (((w4.setCell ⟨M.heap.size,0,none⟩ (.string (Oo f.name))).setCell ⟨M.heap.size,1,none⟩ (.slice none 0 0)).setCell ⟨M.heap.size,2,none⟩ (.string (Oo f.sort)))):=(((c6.o).sc).sc).sc;have g0:Hid (Bx (((w4.setCell ⟨M.heap.size,0,none⟩ (.string (Oo f.name))).setCell ⟨M.heap.size,1,none⟩ (.slice none 0 0)).setCell ⟨M.heap.size,2,none⟩ (.string (Oo f.sort))) M.heap.size [.string (Oo f.name),.slice none 0 0,.string (Oo f.sort)]):=((b6.o.set 0 _).set 1 _).set 2 _;refine wpAnyH_ready (rs:=[8]) (by kernel_rfl) (by simp) ?_;refine AllReadyH.cons rfl (fun K hK=>?_) AllReadyH.nil
  go_simp
  refine hK.o _ _ (V.o _ b5.o) (fun hHeldZ=>?_);clear hK K
  try simp only[Act.put,Ja,Je,Jd]
  refine wpAnyH_done (by kernel_rfl) ?_ _
  go_wp2
  go_meet
  exact⟨M.heap.size,rfl,by have:=g8.o;have:M.heap.size<=M.heap.size:=Of;omega,g0.o,b5.o⟩
 obtain⟨gx,rfl,m9,g4,g3⟩:=hcut;have i8:=Hd g4;have l5:=Hd g3;have k0:=Hd (f9.o.bl f9.o.lt g3);have k1:=Hd (h7.o.bl h7.o.lt g3);have j9:=j8.up g3;have b1:=k0.o.cell 1;simp only[Jo,Jr] at b1;clear g4 g3 f9 h7 l0;obtain⟨W2,rfl⟩:∃ W2,W2=wc:=⟨_,rfl⟩;have U:=Hd i8.o.lt
 go_wp2_with fail
 clear b1
 go_loopw [16] (fun i wr=>∃ k:Nat,k<=f.args.length/\i=.int .i64 (k:Nat)/\∃ p c,Bx wr gx [.string (Oo f.name),.slice p k c,.string (Oo f.sort)]/\wr.ownsRow W2.heap.size 9 1 (.slice p k c) k (U3 (f.args.take k))/\Bx wr (w.heap.size+1) [.string ⟨#[]⟩,.slice none 0 0,.string ⟨#[]⟩]/\Up w wr/\W2.heap.size<=wr.heap.size) (fun i _=>f.args.length - (intOf i).toNat)
 case atStart=>exact⟨0,Jy _,rfl,none,0,i8.o,⟨rfl,.inl ⟨rfl,rfl⟩⟩,k1.o,j9.o,Of⟩
 obtain⟨k,hk,rfl,p,c,g4,h0,j6,j2,j5⟩:=hrel;have J:=Hd g4;have A:=Hd h0;have a8:=Hd j6;have G:=Hd j2;have e5:=Hd j5;clear g4 h0 j6 j2 j5
 by_cases d9:k<f.args.length
 ·rcases HA.o with e0|⟨ba,rfl,l1,j3⟩
  ·rw[e0] at d9;cases d9
  have ck:=(G.o.cell (p:=⟨ba,k,none⟩) l1).trans (j3 k d9);clear j3;have h8:(Oo f.args[k]).size<=1048576:=by
   have:=HZ.o _ (Jw d9)
   show f.args[k].toArray.size<=_
   simpa using this
  obtain⟨ak,h9⟩:=O1 (f.args[k]);have h6:=Hd h9;rw[h9] at ck h8;clear h9;have i0:(0:Int)<=(k:Int):=by omega
  have i1:(k:Int)<(f.args.length:Int):=by omega
  have cr:=J.o.cell 1;simp only[Jo,Jr] at cr
  go_wp2_with fail
  refine wp_region_held_drew (S:=fun _=>True) (by kernel_rfl) trivial (fun hHeld=>?_);refine tk 0 20 (v:=?_) rfl rfl (by kernel_rfl) (fun _ _ _ h=>h) (Or.inl ⟨by rfl,?_⟩) (by assumption) ?_
  rotate_left
  ·(intro w I;go_simp;(try with_reducible rfl))
  try simp only[Act.put,Ja,Je,Jd]
  refine tk 2 22 (v:=?_) rfl rfl (by kernel_rfl) (fun _ _ _ h=>h) (Or.inl ⟨by rfl,?_⟩) (by assumption) ?_
  rotate_left
  ·(intro w I;go_simp;(try with_reducible rfl))
  try simp only[Act.put,Ja,Je,Jd]
  refine wpAnyH_ready (rs:=[1,3]) (by kernel_rfl) (by simp) ?_;refine AllReadyH.cons rfl (fun K hK=>?_) (AllReadyH.cons rfl (fun K hK=>?_) AllReadyH.nil)
  ·go_simp
   refine hK.o _ _ trivial (fun hHeldX=>?_);clear hK K
   try simp only[Act.put,Ja,Je,Jd]
   refine wpAnyH_ready (rs:=[3]) (by kernel_rfl) (by simp) ?_;refine AllReadyH.cons rfl (fun K hK=>?_) AllReadyH.nil
   go_simp
   refine (K9 (Oo ak) _ h8).mono ?_;rintro e w3 ⟨rfl,Y⟩;have d:Hid (Up wr w3):=⟨Y.os,Y.tape,Y.output,Y.size,Y.block⟩;clear Y;have c1:=(J.o.bl J.o.lt d.o).cell 1;simp only[Jo,Jr] at c1
   go_wp2_with fail
   refine hK.o _ _ trivial (fun hHeldX=>?_);clear hK K
   try simp only[Act.put,Ja,Je,Jd]
   refine wpAnyH_ready (rs:=[4]) (by kernel_rfl) (by simp) ?_;refine AllReadyH.cons rfl (fun K hK=>?_) AllReadyH.nil
   go_simp
   refine hK.o _ _ trivial (fun hHeldX=>?_);clear hK K
   try simp only[Act.put,Ja,Je,Jd]
   refine wpAnyH_ready (rs:=[5]) (by kernel_rfl) (by simp) ?_;refine AllReadyH.cons rfl (fun K hK=>?_) AllReadyH.nil;refine P4 (t:=Oo ak) (n:=k) (base:=W2.heap.size) (v:=.slice p k c) (xs:=U3 (f.args.take k)) (W:=w3) (by rfl) _ _ (by rfl) (by rfl) (Ox A.o (fun g hg=>d.o.block g (A.o.lt g hg).2)) (by rfl) (by omega) (Yk e5.o d.o.size) ?_;intro g5 c5 w5 E j;have d4:(Value.slice p k c).ownBlock≠some gx:=fun e=>by have:=Ot A.o gx e;have:=U.o;omega
   have a7:(Value.slice p k c).ownBlock≠some (w.heap.size+1):=fun e=>by have:=Ot A.o _ e;have:=U.o;omega
   have d6:Bx w5 gx [.string (Oo f.name),.slice p k c,.string (Oo f.sort)]:=by
    obtain⟨ty,h⟩:=(J.o.bl J.o.lt d.o).alloc (.cells #[.string (Oo ak)] 9);exact⟨ty,(j.block gx (by have:=J.o.lt;have:=d.o.size;simp;omega) (fun e=>d4 e.symm)).trans h⟩
   have d7:Bx w5 (w.heap.size+1) [.string ⟨#[]⟩,.slice none 0 0,.string ⟨#[]⟩]:=by
    obtain⟨ty,h⟩:=(a8.o.bl a8.o.lt d.o).alloc (.cells #[.string (Oo ak)] 9);exact⟨ty,(j.block _ (by have:=a8.o.lt;have:=d.o.size;simp;omega) (fun e=>a7 e.symm)).trans h⟩
   have c8:Up w w5:=by
    refine⟨j.os.trans (d.o.os.trans G.o.os),j.tape.trans (d.o.tape.trans G.o.tape),j.output.trans (d.o.output.trans G.o.output),?_,fun q hq=>?_⟩
    ·have h1:=j.size;have h2:=d.o.size;have h3:=G.o.size;rw[Ji] at h1;omega
    have h3:=G.o.size;have h2:=d.o.size;rw[j.block q (by simp;omega) (fun e=>by have:=Ot A.o q e.symm;have:=U.o;omega),(Oy w3 _).block q (by omega),d.o.block q (by omega),G.o.block q hq]
   have d5:W2.heap.size<=w5.heap.size:=by have h1:=j.size;have h2:=d.o.size;have h3:=e5.o;rw[Ji] at h1;omega
   have d3:g5≠gx:=fun e=>by have:=Ot E g5 rfl;have:=U.o;omega
   have b3:=Hd d6;have g1:=Hd d7;have e8:=Hd c8;have f8:=Hd d5;have f5:=Hd E;have e9:=Hd d3;clear d6 d7 c8 d5 E j d4 a7 d3;refine hK.o _ _ trivial (fun hHeldX=>?_);clear hK K
   try simp only[Act.put,Ja]
   refine tk 6 26 (v:=?_) rfl rfl (by kernel_rfl) (fun _ _ _ h=>h) (Or.inl ⟨by rfl,?_⟩) (by assumption) ?_
   rotate_left
   ·(intro w I;go_simp;(try with_reducible rfl))
   try simp only[Act.put]
   have d1:=b3.o.cell 1;simp only[Jo,Jr] at d1;have e1:=b3.o.fz 1;refine wpAnyH_ready (rs:=[7]) (by kernel_rfl) (by simp) ?_;refine AllReadyH.cons rfl (fun K hK=>?_) AllReadyH.nil
   go_simp
   refine hK.o _ _ trivial (fun hHeldX=>?_);clear hK K
   try simp only[Act.put,Ja,Je,Jd]
   refine wpAnyH_done (by kernel_rfl) ?_ _
   go_wp2
   go_roundw
   case rel=>
    have hC:U3 (f.args.take (k+1))=U3 (f.args.take k)++[.string (Oo ak)]:=by rw[Gh d9,h6.o]
    refine⟨k+1,by omega,by go_num,some ⟨g5,0,none⟩,c5,b3.o.set 1 _,?_,g1.o.other ⟨gx,1,none⟩ (by simp;omega) _,e8.o.setCell (p:=⟨gx,1,none⟩) (by show w.heap.size<=gx;omega) _,by have:=f8.o;simpa[World.setCell] using this⟩;rw[hC];exact Ox f5.o (fun g hg=>Jq _ _ _ _ (fun e=>e9.o (by cases hg;exact e)))
   simp[intOf];omega
  go_simp
  refine (K9 (Oo ak) _ h8).mono ?_;rintro e w3 ⟨rfl,Y⟩;have d:Hid (Up wr w3):=⟨Y.os,Y.tape,Y.output,Y.size,Y.block⟩;clear Y;have c1:=(J.o.bl J.o.lt d.o).cell 1;simp only[Jo,Jr] at c1
  go_wp2_with fail
  refine hK.o _ _ trivial (fun hHeldX=>?_);clear hK K
  try simp only[Act.put,Ja,Je,Jd]
  refine wpAnyH_ready (rs:=[1,4]) (by kernel_rfl) (by simp) ?_;refine AllReadyH.cons rfl (fun K hK=>?_) (AllReadyH.cons rfl (fun K hK=>?_) AllReadyH.nil)
  ·go_simp
   refine hK.o _ _ trivial (fun hHeldX=>?_);clear hK K
   try simp only[Act.put,Ja,Je,Jd]
   refine wpAnyH_ready (rs:=[4]) (by kernel_rfl) (by simp) ?_;refine AllReadyH.cons rfl (fun K hK=>?_) AllReadyH.nil
   go_simp
   refine hK.o _ _ trivial (fun hHeldX=>?_);clear hK K
   try simp only[Act.put,Ja,Je,Jd]
   refine wpAnyH_ready (rs:=[5]) (by kernel_rfl) (by simp) ?_;refine AllReadyH.cons rfl (fun K hK=>?_) AllReadyH.nil;refine P4 (t:=Oo ak) (n:=k) (base:=W2.heap.size) (v:=.slice p k c) (xs:=U3 (f.args.take k)) (W:=w3) (by rfl) _ _ (by rfl) (by rfl) (Ox A.o (fun g hg=>d.o.block g (A.o.lt g hg).2)) (by rfl) (by omega) (Yk e5.o d.o.size) ?_;intro g5 c5 w5 E j;have d4:(Value.slice p k c).ownBlock≠some gx:=fun e=>by have:=Ot A.o gx e;have:=U.o;omega
   have a7:(Value.slice p k c).ownBlock≠some (w.heap.size+1):=fun e=>by have:=Ot A.o _ e;have:=U.o;omega
   have d6:Bx w5 gx [.string (Oo f.name),.slice p k c,.string (Oo f.sort)]:=by
    obtain⟨ty,h⟩:=(J.o.bl J.o.lt d.o).alloc (.cells #[.string (Oo ak)] 9);exact⟨ty,(j.block gx (by have:=J.o.lt;have:=d.o.size;simp;omega) (fun e=>d4 e.symm)).trans h⟩
   have d7:Bx w5 (w.heap.size+1) [.string ⟨#[]⟩,.slice none 0 0,.string ⟨#[]⟩]:=by
    obtain⟨ty,h⟩:=(a8.o.bl a8.o.lt d.o).alloc (.cells #[.string (Oo ak)] 9);exact⟨ty,(j.block _ (by have:=a8.o.lt;have:=d.o.size;simp;omega) (fun e=>a7 e.symm)).trans h⟩
   have c8:Up w w5:=by
    refine⟨j.os.trans (d.o.os.trans G.o.os),j.tape.trans (d.o.tape.trans G.o.tape),j.output.trans (d.o.output.trans G.o.output),?_,fun q hq=>?_⟩
    ·have h1:=j.size;have h2:=d.o.size;have h3:=G.o.size;rw[Ji] at h1;omega
    have h3:=G.o.size;have h2:=d.o.size;rw[j.block q (by simp;omega) (fun e=>by have:=Ot A.o q e.symm;have:=U.o;omega),(Oy w3 _).block q (by omega),d.o.block q (by omega),G.o.block q hq]
   have d5:W2.heap.size<=w5.heap.size:=by have h1:=j.size;have h2:=d.o.size;have h3:=e5.o;rw[Ji] at h1;omega
   have d3:g5≠gx:=fun e=>by have:=Ot E g5 rfl;have:=U.o;omega
   have b3:=Hd d6;have g1:=Hd d7;have e8:=Hd c8;have f8:=Hd d5;have f5:=Hd E;have e9:=Hd d3;clear d6 d7 c8 d5 E j d4 a7 d3;refine hK.o _ _ trivial (fun hHeldX=>?_);clear hK K
   try simp only[Act.put,Ja]
   refine tk 6 26 (v:=?_) rfl rfl (by kernel_rfl) (fun _ _ _ h=>h) (Or.inl ⟨by rfl,?_⟩) (by assumption) ?_
   rotate_left
   ·(intro w I;go_simp;(try with_reducible rfl))
   try simp only[Act.put]
   have d1:=b3.o.cell 1;simp only[Jo,Jr] at d1;have e1:=b3.o.fz 1;refine wpAnyH_ready (rs:=[7]) (by kernel_rfl) (by simp) ?_;refine AllReadyH.cons rfl (fun K hK=>?_) AllReadyH.nil
   go_simp
   refine hK.o _ _ trivial (fun hHeldX=>?_);clear hK K
   try simp only[Act.put,Ja,Je,Jd]
   refine wpAnyH_done (by kernel_rfl) ?_ _
   go_wp2
   go_roundw
   case rel=>
    have hC:U3 (f.args.take (k+1))=U3 (f.args.take k)++[.string (Oo ak)]:=by rw[Gh d9,h6.o]
    refine⟨k+1,by omega,by go_num,some ⟨g5,0,none⟩,c5,b3.o.set 1 _,?_,g1.o.other ⟨gx,1,none⟩ (by simp;omega) _,e8.o.setCell (p:=⟨gx,1,none⟩) (by show w.heap.size<=gx;omega) _,by have:=f8.o;simpa[World.setCell] using this⟩;rw[hC];exact Ox f5.o (fun g hg=>Jq _ _ _ _ (fun e=>e9.o (by cases hg;exact e)))
   simp[intOf];omega
  go_simp
  refine hK.o _ _ trivial (fun hHeldX=>?_);clear hK K
  try simp only[Act.put,Ja,Je,Jd]
  have k7:=((J.o.bl J.o.lt d.o).alloc (.cells #[.string (Oo ak)] 9)).cell 1;simp only[Jo,Jr] at k7;refine wpAnyH_ready (rs:=[1]) (by kernel_rfl) (by simp) ?_;refine AllReadyH.cons rfl (fun K hK=>?_) AllReadyH.nil
  go_simp
  refine hK.o _ _ trivial (fun hHeldX=>?_);clear hK K
  try simp only[Act.put,Ja,Je,Jd]
  refine wpAnyH_ready (rs:=[5]) (by kernel_rfl) (by simp) ?_;refine AllReadyH.cons rfl (fun K hK=>?_) AllReadyH.nil;refine P4 (t:=Oo ak) (n:=k) (base:=W2.heap.size) (v:=.slice p k c) (xs:=U3 (f.args.take k)) (W:=w3) (by rfl) _ _ (by rfl) (by rfl) (Ox A.o (fun g hg=>d.o.block g (A.o.lt g hg).2)) (by rfl) (by omega) (Yk e5.o d.o.size) ?_;intro g5 c5 w5 E j;have d4:(Value.slice p k c).ownBlock≠some gx:=fun e=>by have:=Ot A.o gx e;have:=U.o;omega
  have a7:(Value.slice p k c).ownBlock≠some (w.heap.size+1):=fun e=>by have:=Ot A.o _ e;have:=U.o;omega
  have d6:Bx w5 gx [.string (Oo f.name),.slice p k c,.string (Oo f.sort)]:=by
   obtain⟨ty,h⟩:=(J.o.bl J.o.lt d.o).alloc (.cells #[.string (Oo ak)] 9);exact⟨ty,(j.block gx (by have:=J.o.lt;have:=d.o.size;simp;omega) (fun e=>d4 e.symm)).trans h⟩
  have d7:Bx w5 (w.heap.size+1) [.string ⟨#[]⟩,.slice none 0 0,.string ⟨#[]⟩]:=by
   obtain⟨ty,h⟩:=(a8.o.bl a8.o.lt d.o).alloc (.cells #[.string (Oo ak)] 9);exact⟨ty,(j.block _ (by have:=a8.o.lt;have:=d.o.size;simp;omega) (fun e=>a7 e.symm)).trans h⟩
  have c8:Up w w5:=by
   refine⟨j.os.trans (d.o.os.trans G.o.os),j.tape.trans (d.o.tape.trans G.o.tape),j.output.trans (d.o.output.trans G.o.output),?_,fun q hq=>?_⟩
   ·have h1:=j.size;have h2:=d.o.size;have h3:=G.o.size;rw[Ji] at h1;omega
   have h3:=G.o.size;have h2:=d.o.size;rw[j.block q (by simp;omega) (fun e=>by have:=Ot A.o q e.symm;have:=U.o;omega),(Oy w3 _).block q (by omega),d.o.block q (by omega),G.o.block q hq]
  have d5:W2.heap.size<=w5.heap.size:=by have h1:=j.size;have h2:=d.o.size;have h3:=e5.o;rw[Ji] at h1;omega
  have d3:g5≠gx:=fun e=>by have:=Ot E g5 rfl;have:=U.o;omega
  have b3:=Hd d6;have g1:=Hd d7;have e8:=Hd c8;have f8:=Hd d5;have f5:=Hd E;have e9:=Hd d3;clear d6 d7 c8 d5 E j d4 a7 d3;refine hK.o _ _ trivial (fun hHeldX=>?_);clear hK K
  try simp only[Act.put,Ja]
  refine tk 6 26 (v:=?_) rfl rfl (by kernel_rfl) (fun _ _ _ h=>h) (Or.inl ⟨by rfl,?_⟩) (by assumption) ?_
  rotate_left
  ·(intro w I;go_simp;(try with_reducible rfl))
  try simp only[Act.put]
  have d1:=b3.o.cell 1;simp only[Jo,Jr] at d1;have e1:=b3.o.fz 1;refine wpAnyH_ready (rs:=[7]) (by kernel_rfl) (by simp) ?_;refine AllReadyH.cons rfl (fun K hK=>?_) AllReadyH.nil
  go_simp
  refine hK.o _ _ trivial (fun hHeldX=>?_);clear hK K
  try simp only[Act.put,Ja,Je,Jd]
  refine wpAnyH_done (by kernel_rfl) ?_ _
  go_wp2
  go_roundw
  case rel=>
   have hC:U3 (f.args.take (k+1))=U3 (f.args.take k)++[.string (Oo ak)]:=by rw[Gh d9,h6.o]
   refine⟨k+1,by omega,by go_num,some ⟨g5,0,none⟩,c5,b3.o.set 1 _,?_,g1.o.other ⟨gx,1,none⟩ (by simp;omega) _,e8.o.setCell (p:=⟨gx,1,none⟩) (by show w.heap.size<=gx;omega) _,by have:=f8.o;simpa[World.setCell] using this⟩;rw[hC];exact Ox f5.o (fun g hg=>Jq _ _ _ _ (fun e=>e9.o (by cases hg;exact e)))
  simp[intOf];omega
 obtain rfl:k=f.args.length:=by omega
 obtain⟨c0,c1,c2⟩:=J.o.c3;obtain⟨r0,r1,r2⟩:=a8.o.c3;obtain⟨f0,f1,f2⟩:=a8.o.f3;have hq:w.heap.size<=w.heap.size+1:=by omega
 have HE:=Hd (((a8.o.set 0 (.string (Oo f.name))).set 1 (.slice p f.args.length c)).set 2 (.string (Oo f.sort)));have b5:=Hd (((G.o.setCell (p:=⟨w.heap.size+1,0,none⟩) hq (.string (Oo f.name))).setCell (p:=⟨w.heap.size+1,1,none⟩) hq (.slice p f.args.length c)).setCell (p:=⟨w.heap.size+1,2,none⟩) hq (.string (Oo f.sort)));have i7:Hid (w.heap.size+2<=W2.heap.size):=by have:=U.o;unfold Hid;omega
 clear hk
 go_wp2_with fail
 obtain⟨e0,e1,e2⟩:=HE.o.c3;refine Jj (v:=.agg #[.string (Oo f.name),.slice p f.args.length c,.string (Oo f.sort)]) ?_ rfl ⟨p,f.args.length,c,rfl,?_,b5.o⟩
 ·clear c0 c1 c2 r0 r1 r2 f0 f1 f2;simp[results,results83,go_sem,e0,e1,e2]
 have h:=A.o;rw[Yl] at h;refine E7 (Ox h (fun g hg=>?_)) (by have:=i7.o;omega);have m8:=Ot h g hg;have n1:g≠w.heap.size+1:=by have:=i7.o;omega
 rw[Jq _ _ _ _ n1,Jq _ _ _ _ n1,Jq _ _ _ _ n1]
theorem UB:Maps.Keyed prog 115:=Maps.Keyed.of_law (deep_law (m:=2) (by omega) (by kernel_rfl) (by kernel_rfl) (by kernel_rfl))
def Bj (t:Tm):Value:=.agg #[.int .i64 t.op,.string (Oo t.sort),.string (Oo t.text),.int .i64 t.a,.int .i64 t.b,.string (Oo (K2 t.kids))]
def DC (t:Tm):List Lit:=[.int .i64 t.op,.string t.sort,.string t.text,.int .i64 t.a,.int .i64 t.b,.string (K2 t.kids)]
def C9 (t:Tm):Lit:=.string (keyBytes (DC t))
structure WfT (t:Tm):Prop where
 op:(Lit.int .i64 t.op).wf=true
 a:(Lit.int .i64 t.a).wf=true
 b:(Lit.int .i64 t.b).wf=true
 sort:t.sort.length<=1048576
 text:t.text.length<=1048576
 kids:t.kids.length<=50
 kid:∀ x∈t.kids,0<=x/\x<65536
theorem H5 {t:Tm}(h:WfT t):keyOf prog 115 (Bj t)=some (C9 t):=by
 have d:prog.cellsOf 115=6:=by kernel_rfl
 have j:prog.keyType 115=true:=by kernel_rfl
 unfold keyOf;rw[underlying115];simp only[j,Za];have I:Value.formed prog 115 (Bj t)=true:=by
  unfold Bj Value.formed;rw[underlying115];simp[d]
 rw[if_pos I];have A:0<prog.types.size:=of_decide_eq_true (by kernel_rfl);obtain⟨m,J⟩:∃ m,prog.types.size=m+1:=⟨prog.types.size - 1,by omega⟩;have c3:prog.cellsOf 3=1:=by kernel_rfl
 have c9:prog.cellsOf 9=1:=by kernel_rfl
 have K:(Oo t.sort).size<=maxLen:=by show t.sort.toArray.size<=_;have:=h.sort;unfold maxLen;simp;omega
 have M:(Oo t.text).size<=maxLen:=by show t.text.toArray.size<=_;have:=h.text;unfold maxLen;simp;omega
 have O:(Oo (K2 t.kids)).size<=maxLen:=by show (K2 t.kids).toArray.size<=_;have:=h.kids;have:=Mp t.kids;unfold maxLen;simp;omega
 have E:=h.op;have G:=h.a;have h3:=h.b;rw[J];unfold Program.keyLits;rw[underlying115];unfold Bj C9 DC;simp only[Value.cells];simp[d,Program.keyLits,underlying3,underlying9,c3,c9,K,M,O,E,G,h3,Ou,List.mapM_cons]
theorem FV {x y:Int}(hx:0<=x/\x<65536)(hy:0<=y/\y<65536)(h1:UInt8.ofNat (x.toNat / 256)=UInt8.ofNat (y.toNat / 256))(h2:UInt8.ofNat x.toNat=UInt8.ofNat y.toNat):x=y:=by
 have d:=congrArg UInt8.toNat h1;have h:=congrArg UInt8.toNat h2;simp only[UInt8.toNat_ofNat'] at d h;omega
theorem EQ:∀ {a b:List Int},(∀ x∈a,0<=x/\x<65536)->(∀ x∈b,0<=x/\x<65536)->K2 a=K2 b->a=b:=by
 intro a
 induction a with
 | nil=>
   intro b _ _ h
   cases b with
   | nil=>rfl
   | cons y r=>exact absurd h (by simp[K2])
 | cons x r ih=>
   intro b ha hb h
   cases b with
   | nil=>exact absurd h (by simp[K2])
   | cons y r2=>
     have e:∀ (z:Int) (l:List Int),K2 (z::l)=UInt8.ofNat (z.toNat / 256)::UInt8.ofNat z.toNat::K2 l:=fun z l=>by simp[K2]
     rw[e,e] at h;simp only[List.cons.injEq] at h;rw[FV (ha x (by simp)) (hb y (by simp)) h.1 h.2.1,ih (fun z hz=>ha z (by simp[hz])) (fun z hz=>hb z (by simp[hz])) h.2.2]
theorem XV {t u:Tm}(ht:WfT t)(hu:WfT u)(h:C9 t=C9 u):t=u:=by
 have d:=UB.inj (H5 ht) (by rw[h];exact H5 hu);unfold Bj at d;simp only[Value.agg.injEq,Array.mk.injEq,List.cons.injEq,Value.int.injEq,Value.string.injEq,true_and,and_true] at d;obtain⟨j,A,h3,h4,h5,E⟩:=d;exact DA.2 ⟨j,I4 A,I4 h3,h4,h5,EQ ht.kid hu.kid (I4 E)⟩
def Ij (T:List Tm)(t:Tm):Option Nat:=T.findIdx? (fun u=>decide (u=t))
def Es (w:World)(b n:Nat)(T:List Tm):Prop:=
 ∃ D:DataW Unit,w.ownsMap prog 115 (plainElem prog 3) b n D/\∀ t,WfT t->Maps.has D (C9 t)=(Ij T t).isSome/\∀ i,Ij T t=some i->D.atKey (C9 t) (.lit (.int .i64 0))=.lit (.int .i64 (i:Nat))
theorem Es.low {w w':World}{b n N:Nat}{T:List Tm}(h:Es w b n T)(hb:Below N w w')(hN:b<N):Es w' b n T:=by
 obtain⟨D,⟨j,d,G,E⟩,A⟩:=h;exact⟨D,⟨j,d,(hb.block b hN).trans G,E⟩,A⟩
theorem EE {T:List Tm}{s:Tm}(h:Ij T s=none)(t:Tm):Ij (T++[s]) t=if t=s then some T.length else Ij T t:=by
 unfold Ij at h ⊢;rw[List.findIdx?_append]
 by_cases d:t=s
 ·subst d;rw[h,if_pos rfl];simp[List.findIdx?_cons]
 rw[if_neg d];have:s≠t:=fun e=>d e.symm
 cases j:List.findIdx? (fun x=>decide (x=t)) T with
 | none=>simp[List.findIdx?_cons,this]
 | some i=>simp
theorem Es.put {w:World}{b n:Nat}{T:List Tm}{D:DataW Unit}(hD:∀ t,WfT t->Maps.has D (C9 t)=(Ij T t).isSome/\∀ i,Ij T t=some i->D.atKey (C9 t) (.lit (.int .i64 0))=.lit (.int .i64 (i:Nat)))(hm:Maps.IsMap D){s:Tm}(hw:WfT s)(hs:Ij T s=none)(hown:w.ownsMap prog 115 (plainElem prog 3) b n (D.put (C9 s) (.lit (.int .i64 (T.length:Nat))))):Es w b n (T++[s]):=by
 have d:=UB.key (H5 hw);refine⟨_,hown,fun t ht=>?_⟩;rw[EE hs]
 by_cases h:t=s
 ·subst h;rw[if_pos rfl];refine⟨Maps.has_put_same hm d _,fun i hi=>?_⟩;cases hi;exact Maps.atKey_put_same hm d _ _
 rw[if_neg h];have j:C9 t≠C9 s:=fun e=>h (XV ht hw e);rw[Maps.has_put_other j,Maps.atKey_put_other j];exact hD t ht
theorem Es.bar {w w':World}{b c n:Nat}{T:List Tm}(h:Es w b n T)(hb:Bar c w w')(hc:b≠c):Es w' b n T:=by
 obtain⟨D,⟨E,A,j,I⟩,G⟩:=h;have d:b<w.heap.size:=(J1.1 j).1;exact⟨D,⟨E,A,(hb.block b d hc).trans j,I⟩,G⟩
theorem Bo {w:World}{b n:Nat}{T:List Tm}(h:Es w b n T){t:Tm}(ht:WfT t):∃ c:Int,(∀ i,Ij T t=some i->c=(i:Nat))/\(Instr.lookup 87 (.map (some b)) (Bj t) true).run prog w=.ok (.tuple #[.int .i64 c,.bool (Ij T t).isSome]) w:=by
 obtain⟨D,d,E⟩:=h;have K:(zeroValue 3).run prog w=.ok (.int .i64 0) w:=rfl;obtain⟨v,M,j,I⟩:=d.look_ok UB underlying87 K (plainElem_int underlying3 (by decide)) (H5 ht);obtain⟨c,rfl,hc,J⟩:=plainElem_int_inv underlying3 I;refine⟨c,fun i hi=>?_,?_⟩
 ·have G:=(E t ht).2 i hi;have A:=congrArg Prod.fst hc;rw[G] at A;simp at A;exact A.symm
 rw[j,(E t ht).1]
theorem A2 {w:World}{kb sb fb gb n:Nat}{S:List (List UInt8)}{F:List Fn}{T:List Tm}{vS vF vT v5:Value}{g:List UInt8->Option SI}(h:BK w kb sb fb gb n S F T vS vF vT v5 g)(t:Tm)(vk:Value)(hk:U5 w vk t.kids)(num:Tm->Bool)(hT:T.length<=1000000)(hl:t.kids.length<=1048576)(hF:F.length<=1000)(hz:∀ u∈T,u.sort.length<=1048576)(hts:t.sort.length<=1048576)(htx:t.text.length<=1048576)(hn:n<=800000000)
 (hnum:t.op=12->((Ov (Oh (Og S)) t.sort).kind=2∨(Ov (Oh (Og S)) t.sort).kind=3)->∀ W,Bar gb w W->Calls prog 118 #[.string (Oo t.sort),.string (Oo t.text)] W fun e w'=>e=.returned (.bool (num t))/\Up W w') (hno:Gi (Ov (Oh (Og S))) num F (Oq F) T t=false) :
 Calls prog 61 #[.pointer (some ⟨kb,0,none⟩),Ie t vk] w fun e w'=>e=.returned (.tuple #[.int .i64 0,.int .i64 5])/\O6 w w' kb sb fb gb n S F T vS vF vT v5 60:=by
 have K:=Hd hk;obtain⟨I,A,rfl,E,G,-⟩:=hk;have M:=Hd h;have j:Hid (Up w (w.alloc (.cells #[.int .i64 t.op,.string (Oo t.sort),.string (Oo t.text),.int .i64 t.a,.int .i64 t.b,.slice I t.kids.length A] 57))):=Oy _ _;have d:=Hd (Xp (h.next (Oy w (.cells #[.int .i64 t.op,.string (Oo t.sort),.string (Oo t.text),.int .i64 t.a,.int .i64 t.b,.slice I t.kids.length A] 57))) t (.slice I t.kids.length A) (K.o.bl j.o) num hT hl hF hz hts htx hn (fun h12 hk W hW=>hnum h12 hk W ((Bar.of j.o).trans hW)));clear h hz hnum E G;rw[hno] at d;unfold Ie at d ⊢
 go_in
 go_wp2_with fail
 refine d.o.mono ?_;rintro e O ⟨rfl,ha⟩;have J:=Hd (ha.after j.o);clear ha
 go_wp2_with fail
 refine Jj (v:=.tuple #[.int .i64 0,.int .i64 5]) ?_ rfl ⟨rfl,J.o⟩;simp[results,results61,go_sem]
theorem Lx {w:World}{kb sb fb gb tb n nT:Nat}{S:List (List UInt8)}{F:List Fn}{T:List Tm}{vS vF vT:Value}{g:List UInt8->Option SI}(h:BK w kb sb fb gb n S F T vS vF vT (.map (some tb)) g)(htm:Es w tb nT T)(hne:tb≠gb)(t:Tm)(vk:Value)(hk:U5 w vk t.kids)(num:Tm->Bool)(hT:T.length<=1000000)(hF:F.length<=1000)(hz:∀ u∈T,u.sort.length<=1048576)(hn:n<=800000000)(hwf:WfT t)
 (hnum:t.op=12->((Ov (Oh (Og S)) t.sort).kind=2∨(Ov (Oh (Og S)) t.sort).kind=3)->∀ W,Bar gb w W->Calls prog 118 #[.string (Oo t.sort),.string (Oo t.text)] W fun e w'=>e=.returned (.bool (num t))/\Up W w') (hyes:Gi (Ov (Oh (Og S))) num F (Oq F) T t=true) (j:Nat) (hj:Ij T t=some j) :
 Calls prog 61 #[.pointer (some ⟨kb,0,none⟩),Ie t vk] w fun e w'=>e=.returned (.tuple #[.int .i64 (j:Nat),.int .i64 0])/\Bar gb w w':=by
 have HI:=Hd hk;obtain⟨qk,dk,rfl,b9,c6,-⟩:=hk;have HH:=Hd h;have Z:Hid (Up w (w.alloc (.cells #[.int .i64 t.op,.string (Oo t.sort),.string (Oo t.text),.int .i64 t.a,.int .i64 t.b,.slice qk t.kids.length dk] 57))):=Oy _ _;have E:Hid (Bx (w.alloc (.cells #[.int .i64 t.op,.string (Oo t.sort),.string (Oo t.text),.int .i64 t.a,.int .i64 t.b,.slice qk t.kids.length dk] 57)) w.heap.size [.int .i64 t.op,.string (Oo t.sort),.string (Oo t.text),.int .i64 t.a,.int .i64 t.b,.slice qk t.kids.length dk]):=Oi _ _ _;have U:=Hd (Xp (h.next (Oy w (.cells #[.int .i64 t.op,.string (Oo t.sort),.string (Oo t.text),.int .i64 t.a,.int .i64 t.b,.slice qk t.kids.length dk] 57))) t (.slice qk t.kids.length dk) (HI.o.bl Z.o) num hT (by have:=hwf.kids;omega) hF hz hwf.sort hwf.text hn (fun h12 hk W hW=>hnum h12 hk W ((Bar.of Z.o).trans hW)));have b8:=Hd (htm.bar (Bar.of (g:=gb) Z.o) hne);have V:=Hd hwf;have HJ:=Hd hj;clear h hz hnum b9 c6 htm hwf hj;rw[hyes] at U;unfold Ie at U ⊢
 go_in
 go_wp2_with fail
 refine U.o.mono ?_;rintro e w2 ⟨rfl,n2,g2,-,K,d⟩;have A:=d.keep (HH.o.next Z.o).km;have b7:=Hd ((HI.o.bl Z.o).keep A);have b3:=Hd K;have b5:=Hd (b8.o.bar d hne);have M:Hid (Bar gb w w2):=(Bar.of Z.o).trans d;have a0:=A.cell _ _ (E.o.cell 0);have a1:=A.cell _ _ (E.o.cell 1);have a2:=A.cell _ _ (E.o.cell 2);have a3:=A.cell _ _ (E.o.cell 3);have a4:=A.cell _ _ (E.o.cell 4);have a5:=A.cell _ _ (E.o.cell 5);clear A K d
 go_wp2_with fail
 refine (Mr t (.slice qk t.kids.length dk) w2 b7.o V.o.kid V.o.kids).mono ?_;rintro e Y ⟨rfl,J⟩;have b4:=Hd (b3.o.next J);have O:Hid (Bar gb w Y):=M.o.trans (Bar.of J);obtain⟨c,hc,I⟩:=Bo (w:=(Y.alloc (.cells #[.int .i64 t.op,.string (Oo t.sort),.string (Oo t.text),.int .i64 t.a,.int .i64 t.b,.string (Oo (K2 t.kids))] 115)).drew) ((((b5.o.bar (Bar.of (g:=gb) J) hne).bar (Bar.of (g:=gb) (Oy Y _)) hne)).bar (Bar.refl gb _).drew hne) V.o;obtain rfl:=hc j HJ.o;rw[HJ.o] at I;simp only[Option.isSome_some] at I;unfold Bj at I;have a5:=(b4.o.next (Oy Y (.cells #[.int .i64 t.op,.string (Oo t.sort),.string (Oo t.text),.int .i64 t.a,.int .i64 t.b,.string (Oo (K2 t.kids))] 115))).box.c7.2.2.2.2.2.1;have b6:=Oi Y [.int .i64 t.op,.string (Oo t.sort),.string (Oo t.text),.int .i64 t.a,.int .i64 t.b,.string (Oo (K2 t.kids))] 115;obtain⟨k0,k1,k2,k3,k4,k5⟩:=b6.k6;have G:Hid (Bar gb w ((Y.alloc (.cells #[.int .i64 t.op,.string (Oo t.sort),.string (Oo t.text),.int .i64 t.a,.int .i64 t.b,.string (Oo (K2 t.kids))] 115)).drew)):=(O.o.trans (Bar.of (Oy _ _))).drew;clear J hc a0 a1 a2 a3 a4 b6
 go_wp2_with fail
 generalize Y.alloc (.cells #[.int .i64 t.op,.string (Oo t.sort),.string (Oo t.text),.int .i64 t.a,.int .i64 t.b,.string (Oo (K2 t.kids))] 115)=W4 at I a5 k0 k1 k2 k3 k4 k5 G ⊢
 go_region
 clear I
 go_wp2_with fail
 refine Jj (v:=.tuple #[.int .i64 (j:Nat),.int .i64 0]) ?_ rfl ⟨rfl,G.o⟩;simp[results,results61,go_sem]
theorem Bl {α:Type}{c:α->List Value}{k:Nat}(hc:∀ x,(c x).length=k):∀ (l:List α) (i d:Nat) (h:i<l.length) (_:d<k),(l.flatMap c)[i*k+d]? = (c l[i])[d]?
 | [],_,_,h,_=>by simp at h
 | x::r,0,d,_,hd=>by rw[Uf,Vu,Y4,List.getElem?_append_left (by rw[hc];exact hd)];rfl
 | x::r,i+1,d,h,hd=>by
   rw[Uf,List.getElem?_append_right (by rw[hc,Nat.succ_mul];omega)]
   have:(i+1)*k+d - (c x).length=i*k+d:=by rw[hc,Nat.succ_mul];omega
   rw[this,Bl hc r i d (by simpa using h) hd];rfl
theorem R8 {w:World}{base g n cap size:Nat}{e:TypeId}{xs:List Value}(h:w.ownsRow base e size (.slice (some ⟨g,0,none⟩) n cap) n xs){j:Nat}{u:Value}(hu:xs[j]? = some u):w.cell? ⟨g,j,none⟩=some u:=by
 rcases h.2 with⟨E,_⟩|⟨J,A,d,I,_,hb,_,_,_,G⟩
 ·cases E
 cases I;rw[cell_of_row w g j d e (0,0) hb];rw[<-G,List.getElem?_take] at hu
 split at hu
 ·simpa using hu
 cases hu
theorem Ck {w:World}{base n size:Nat}{e:TypeId}{v:Value}{xs:List Value}(h:w.ownsRow base e size v n xs):∃ p c,v=.slice p n c/\n<=c/\c<=maxLen/\(n=0∨∃ g,p=some ⟨g,0,none⟩/\g<w.heap.size):=by
 have hl:=h.lt
 rcases h.2 with⟨rfl,rfl⟩|⟨g,cap,d,rfl,_,_,j,A,_⟩
 ·exact⟨none,0,rfl,Of,Jy _,.inl rfl⟩
 exact⟨some ⟨g,0,none⟩,cap,rfl,j,A,.inr ⟨g,rfl,(hl g rfl).2⟩⟩
theorem Aq {w:World}{base:Nat}{v:Value}{L:List (List UInt8)}(h:w.ownsRow base 9 1 v L.length (U3 L)):O8 w v L:=by
 obtain⟨p,c,rfl,d,j,h3⟩:=Ck h;refine⟨p,c,rfl,d,j,?_⟩
 rcases h3 with h3|⟨g,rfl,A⟩
 ·exact .inl (Jv h3)
 exact .inr ⟨g,rfl,A,fun i hi=>R8 h (by unfold U3;rw[Y1,Jf hi];rfl)⟩
theorem UX {w:World}{base:Nat}{v:Value}{L:List Int}(h:w.ownsRow base 3 1 v L.length (G8 L)):U5 w v L:=by
 obtain⟨p,c,rfl,d,j,h3⟩:=Ck h;refine⟨p,c,rfl,d,j,?_⟩
 rcases h3 with h3|⟨g,rfl,A⟩
 ·exact .inl (Jv h3)
 exact .inr ⟨g,rfl,A,fun i hi=>R8 h (by unfold G8;rw[Y1,Jf hi];rfl)⟩
def Bm (x:Fn×Value):List Value:=[.string (Oo x.1.name),x.2,.string (Oo x.1.sort)]
def Pn (x:Tm×Value):List Value:=[.int .i64 x.1.op,.string (Oo x.1.sort),.string (Oo x.1.text),.int .i64 x.1.a,.int .i64 x.1.b,x.2]
def Qu (w:World)(base:Nat)(v:Value)(F:List Fn):Prop:=∃ X:List (Fn×Value),X.map Prod.fst=F/\w.ownsRow base 47 3 v F.length (X.flatMap Bm)/\∀ x∈X,w.ownsRow base 9 1 x.2 x.1.args.length (U3 x.1.args)
def Ha (w:World)(base:Nat)(v:Value)(T:List Tm):Prop:=∃ X:List (Tm×Value),X.map Prod.fst=T/\w.ownsRow base 57 6 v T.length (X.flatMap Pn)/\∀ x∈X,w.ownsRow base 3 1 x.2 x.1.kids.length (G8 x.1.kids)
theorem Qu.at {w:World}{base:Nat}{v:Value}{F:List Fn}(h:Qu w base v F):Eh w v F:=by
 obtain⟨X,rfl,h,I⟩:=h;obtain⟨p,c,rfl,E,G,h3⟩:=Ck h;refine⟨p,c,rfl,E,G,?_⟩
 rcases h3 with h3|⟨g,rfl,J⟩
 ·exact .inl (Jv h3)
 refine .inr ⟨g,rfl,J,fun i hi=>?_⟩;have j:i<X.length:=by simpa using hi
 have A:∀ d (u:Value),d<3->(Bm X[i])[d]? = some u->w.cell? ⟨g,i*3+d,none⟩=some u:=fun d u hd hu=>R8 h (by rw[Bl (k:=3) (fun _=>rfl) X i d j hd];exact hu);rw[Vi];exact⟨A 0 _ (by decide) rfl,⟨_,A 1 _ (by decide) rfl,Aq (I _ (Jw j))⟩,A 2 _ (by decide) rfl⟩
theorem Ha.at {w:World}{base:Nat}{v:Value}{T:List Tm}(h:Ha w base v T):Km w v T:=by
 obtain⟨X,rfl,h,I⟩:=h;obtain⟨p,c,rfl,E,G,h3⟩:=Ck h;refine⟨p,c,rfl,E,G,?_⟩
 rcases h3 with h3|⟨g,rfl,J⟩
 ·exact .inl (Jv h3)
 refine .inr ⟨g,rfl,J,fun i hi=>?_⟩;have A:i<X.length:=by simpa using hi
 have j:∀ d (u:Value),d<6->(Pn X[i])[d]? = some u->w.cell? ⟨g,i*6+d,none⟩=some u:=fun d u hd hu=>R8 h (by rw[Bl (k:=6) (fun _=>rfl) X i d A hd];exact hu);rw[Vi];exact⟨j 0 _ (by decide) rfl,j 1 _ (by decide) rfl,j 2 _ (by decide) rfl,j 3 _ (by decide) rfl,j 4 _ (by decide) rfl,_,j 5 _ (by decide) rfl,UX (I _ (Jw A))⟩
theorem Qu.keep {w w':World}{base:Nat}{v:Value}{F:List Fn}(h:Qu w base v F)(hk:∀ g cs fz,(w.heap[g]? = some (.cells cs 47 fz)∨w.heap[g]? = some (.cells cs 9 fz))->base<=g->w'.heap[g]? = w.heap[g]?):Qu w' base v F:=by
 obtain⟨X,e,d,j⟩:=h;refine⟨X,e,Ox d fun g hg=>?_,fun x hx=>Ox (j x hx) fun g hg=>?_⟩
 ·obtain⟨cs,fz,hb⟩:=Kt d g hg;exact hk g cs fz (.inl hb) (Ot d g hg)
 obtain⟨cs,fz,hb⟩:=Kt (j x hx) g hg;exact hk g cs fz (.inr hb) (Ot (j x hx) g hg)
theorem Ha.keep {w w':World}{base:Nat}{v:Value}{T:List Tm}(h:Ha w base v T)(hk:∀ g cs fz,(w.heap[g]? = some (.cells cs 57 fz)∨w.heap[g]? = some (.cells cs 3 fz))->base<=g->w'.heap[g]? = w.heap[g]?):Ha w' base v T:=by
 obtain⟨X,e,d,j⟩:=h;refine⟨X,e,Ox d fun g hg=>?_,fun x hx=>Ox (j x hx) fun g hg=>?_⟩
 ·obtain⟨cs,fz,hb⟩:=Kt d g hg;exact hk g cs fz (.inl hb) (Ot d g hg)
 obtain⟨cs,fz,hb⟩:=Kt (j x hx) g hg;exact hk g cs fz (.inr hb) (Ot (j x hx) g hg)
theorem EN:(prog.info? 47).map (fun i=>(i.zero,i.size,i.bytes))=some (some (.agg #[.string ⟨#[]⟩,.slice none 0 0,.string ⟨#[]⟩]),3,56):=by kernel_rfl
theorem S4:∃ i:TypeInfo,prog.info? 47=some i/\i.zero=some (.agg #[.string ⟨#[]⟩,.slice none 0 0,.string ⟨#[]⟩])/\i.size=3/\i.bytes=56:=info_parts EN
theorem info_term0:(prog.info? 57).map (fun i=>(i.zero,i.size,i.bytes))=some (some (.agg #[.int .i64 0,.string ⟨#[]⟩,.string ⟨#[]⟩,.int .i64 0,.int .i64 0,.slice none 0 0]),6,80):=by kernel_rfl
theorem Pp:∃ i:TypeInfo,prog.info? 57=some i/\i.zero=some (.agg #[.int .i64 0,.string ⟨#[]⟩,.string ⟨#[]⟩,.int .i64 0,.int .i64 0,.slice none 0 0])/\i.size=6/\i.bytes=80:=info_parts info_term0
theorem OJ (X:SI)(w:World)(h6:X.kind=6):Calls prog 97 #[N9 X] w fun e w'=>e=.returned (.bool (O0 X))/\Up w w':=by
 have d:Hid (O0 X=false):=by
  unfold Hid O0;rw[J9];intro h;rw[J3,Js,Js] at h;omega
 unfold N9;have z0:(X.kind==0)=false:=by rw[Jc];omega
 have j:=Eo (a:=X.kind) (b:=1) (by omega);have A:=N3 h6;clear h6
 go_in
 go_wp2
 go_ret
 exact⟨Oz d.o.symm,Oy _ _⟩
theorem S8 (own:List UInt8->Bool)(t:List UInt8)(w:World):Calls prog 97 #[N9 (Ov own t)] w fun e w'=>e=.returned (.bool (O0 (Ov own t)))/\Up w w':=by
 have G:=Xx own t
 by_cases h:(Ov own t).kind=0
 ·have j:=(ZH own).w0 t (by omega);have d:=(ZH own).a0 t (by omega);have e:Ov own t=SI.none:=by
   cases E:Ov own t with
   | mk k w i el=>
     rw[E] at h j d;simp only at h j d;rw[h,j,d.1,d.2];rfl
  rw[e];exact Dc w
 by_cases A:(Ov own t).kind=6
 ·exact OJ _ w A
 exact Df _ w h (by omega)
theorem Xc {w:World}{kb sb fb gb n:Nat}{S:List (List UInt8)}{F:List Fn}{T:List Tm}{vS vF vT v5:Value}{g:List UInt8->Option SI}(h:BK w kb sb fb gb n S F T vS vF vT v5 g)(f:Fn)(va:Value)(hva:O8 w va f.args)(hz:∀ a∈f.args,a.length<=1048576)(hzs:f.sort.length<=1048576)(hn:n<=900000000) :
 Calls prog 82 #[.pointer (some ⟨kb,0,none⟩),.agg #[.string (Oo f.name),va,.string (Oo f.sort)]] w fun e w'=>e=.returned (.bool (Kj (Oh (Og S)) f))/\O6 w w' kb sb fb gb n S F T vS vF vT v5 6:=by
 have f8:=Hd hva;obtain⟨p,c,rfl,h1,h2,h3⟩:=hva;have HA:=Hd h3;have HZ:=Hd hz;have HH:=Hd h;unfold maxLen at h2;clear h h3 hz;have e2:(Oo f.sort).size<=1048576:=by show f.sort.toArray.size<=_;simpa using hzs
 have HB:Hid (Up w (w.alloc (.cells #[.string (Oo f.name),.slice p f.args.length c,.string (Oo f.sort)] 47))):=Oy _ _;have Z:Hid (Bx (w.alloc (.cells #[.string (Oo f.name),.slice p f.args.length c,.string (Oo f.sort)] 47)) w.heap.size [.string (Oo f.name),.slice p f.args.length c,.string (Oo f.sort)]):=Oi _ _ _
 by_cases h5:5<f.args.length
 ·have G:Hid (Kj (Oh (Og S)) f=false):=by unfold Hid Kj;rw[Jg (by omega)];rfl
  go_in
  go_wp2
  go_ret
  exact⟨Oz G.o.symm,O6.of HH.o HB.o 6⟩
 have HF:Hid (Kj (Oh (Og S)) f=(f.args.all (fun a=>O0 (Ov (Oh (Og S)) a))&&(decide ((Ov (Oh (Og S)) f.sort).kind≠0)&&(decide ((Ov (Oh (Og S)) f.sort).kind≠6)||decide (f.args.length=0))))):=by
  unfold Hid Kj;rw[Jb (by omega),Za,Uw]
 go_in
 go_wp2_with fail
 obtain⟨W1,c8⟩:=O1 (w.alloc (.cells #[.string (Oo f.name),.slice p f.args.length c,.string (Oo f.sort)] 47));rw[c8] at HB Z ⊢;clear c8;have c6:Hid (∀ W,Bar gb W1 W->W.cell? ⟨w.heap.size,0,none⟩=some (.string (Oo f.name))/\W.cell? ⟨w.heap.size,1,none⟩=some (.slice p f.args.length c)/\W.cell? ⟨w.heap.size,2,none⟩=some (.string (Oo f.sort))):=fun W hW=>by
  have hk:=hW.keep (HH.o.next HB.o).km;exact⟨hk.cell _ _ (Z.o.cell 0),hk.cell _ _ (Z.o.cell 1),hk.cell _ _ (Z.o.cell 2)⟩
 go_loopw [15] (fun i wr=>∃ k:Nat,k<=f.args.length/\i=.int .i64 (k:Nat)/\(∀ j (h:j<f.args.length),j<k->O0 (Ov (Oh (Og S)) f.args[j])=true)/\∃ nr gr,nr<=n+k/\BK wr kb sb fb gb nr S F T vS vF vT v5 gr/\Bar gb W1 wr) (fun i _=>f.args.length - (intOf i).toNat)
 case atStart=>exact⟨0,Jy _,rfl,fun j _ h=>absurd h (J2 _),n,g,by omega,HH.o.next HB.o,Bar.refl _ _⟩
 obtain⟨k,hk,rfl,hp,nr,gr,d1,b5,E⟩:=hrel;have HP:=Hd hp;have J:=Hd d1;have b4:=Hd b5;have A:=Hd E;obtain⟨b0,b1,b2⟩:=c6.o wr E;clear hp d1 b5 E
 by_cases U:k<f.args.length
 ·have b7:wr.cell? ⟨(match p with|some a=>a.block|none=>0),k,none⟩=some (.string (Oo f.args[k]))/\∃ b,p=some ⟨b,0,none⟩:=by
   rcases HA.o with e0|⟨b,rfl,hb,b7⟩
   ·rw[e0] at U;cases U
   refine⟨?_,b,rfl⟩;have h1:=(HB.o.cell (p:=⟨b,k,none⟩) hb).trans (b7 k U);exact (A.o.keep (HH.o.next HB.o).km).cell _ _ h1
  obtain⟨ck,b,rfl⟩:=b7;simp only at ck;have d2:(Oo f.args[k]).size<=1048576:=by
   have:=HZ.o _ (Jw U)
   show f.args[k].toArray.size<=_
   simpa using this
  have b6:Hid (O0 (Ov (Oh (Og S)) f.args[k])=false->Kj (Oh (Og S)) f=false):=fun h=>by
   rw[HF.o];have:f.args.all (fun a=>O0 (Ov (Oh (Og S)) a))=false:=by
    rw[J9];intro h2;have:=Ju.1 h2 _ (Jw U);rw[h] at this
    cases this
   rw[this];rfl
  have K:Hid (O0 (Ov (Oh (Og S)) f.args[k])=true->∀ j (h:j<f.args.length),j<k+1->O0 (Ov (Oh (Og S)) f.args[j])=true):=fun h j hj h2=>by
   rcases J0.1 h2 with h3|rfl
   ·exact HP.o j hj h3
   exact h
  generalize f.args[k]=ak at ck d2 b6 K;have i0:(0:Int)<=(k:Int):=by omega
  have i1:(k:Int)<(f.args.length:Int):=by omega
  go_wp2_with fail
  refine (ask_sort b4.o (Oo ak) d2 (by have:=J.o;omega)).mono ?_;rw[Ou];obtain⟨X,hX⟩:=O1 (Ov (Oh (Og S)) ak);have d6:Hid (∀ W,Calls prog 97 #[N9 X] W fun e w'=>e=.returned (.bool (O0 X))/\Up W w'):=fun W=>by rw[<-hX];exact S8 _ _ W
  rw[hX] at b6 K ⊢;clear hX;rintro e w2 ⟨rfl,M⟩;have b8:=Hd M;clear M
  go_wp2_with fail
  refine (d6.o w2).mono ?_
  cases a7:O0 X
  ·have G:=Hd (b6.o a7);clear a7;rintro e w3 ⟨rfl,O⟩;have d:Hid (O6 w w3 kb sb fb gb n S F T vS vF vT v5 6):=(O6.comp (m2:=k) (by have:=J.o;omega) ((Bar.of HB.o).trans A.o) (b8.o.next O)).more (by omega);clear O
   go_wp2
   go_ret
   exact⟨Oz G.o.symm,d.o⟩
  have HR:=Hd (K.o a7);clear a7;rintro e w3 ⟨rfl,O⟩;have d7:Hid (∃ nr gr,nr<=n+(k+1)/\BK w3 kb sb fb gb nr S F T vS vF vT v5 gr/\Bar gb W1 w3):=by
   obtain⟨n',g',h1,h2,h3⟩:=b8.o.next O;have:=J.o;exact⟨n',g',by omega,h2,A.o.trans h3⟩
  clear O
  go_wp2
  go_roundw
  case rel=>exact⟨k+1,by omega,by go_num,HR.o,d7.o⟩
  simp[intOf];omega
 have b9:Hid (f.args.all (fun a=>O0 (Ov (Oh (Og S)) a))=true):=by
  unfold Hid;rw[Ju];intro a ha;obtain⟨j,hj,rfl⟩:=Ya ha;exact HP.o j hj (by omega)
 have z:¬ (k:Int)<(f.args.length:Int):=by omega
 go_wp2_with fail
 refine (ask_sort b4.o (Oo f.sort) e2 (by have:=J.o;omega)).mono ?_;rw[Ou];have I:Hid (Kj (Oh (Og S)) f=(decide ((Ov (Oh (Og S)) f.sort).kind≠0)&&(decide ((Ov (Oh (Og S)) f.sort).kind≠6)||decide (f.args.length=0)))):=by unfold Hid;rw[HF.o,b9.o];rfl
 generalize Ov (Oh (Og S)) f.sort=X at I ⊢;rintro e w2 ⟨rfl,M⟩;have d:Hid (∀ W,Up w2 W->O6 w W kb sb fb gb n S F T vS vF vT v5 6):=fun W hW=>(O6.comp (m2:=k) (by have:=J.o;omega) ((Bar.of HB.o).trans A.o) (M.next hW)).more (by omega);obtain⟨n7,g7,-,-,d0⟩:=M;obtain⟨b0,b1,b2⟩:=c6.o w2 (A.o.trans d0);have g3:w.heap.size<w2.heap.size:=Ye _ _ b0;have f9:Hid (Bx (w2.alloc (.cells #[.int .i64 X.kind,.int .i64 (X.width:Nat),.string (Oo X.index),.string (Oo X.elem)] 110)) w2.heap.size (Ri X)):=Oi _ _ _;have Y:Hid (Up w2 (w2.alloc (.cells #[.int .i64 X.kind,.int .i64 (X.width:Nat),.string (Oo X.index),.string (Oo X.elem)] 110))):=Oy _ _;clear d0;unfold N9
 by_cases V:X.kind=0
 ·have y0:=N3 V;have G:Hid (Kj (Oh (Og S)) f=false):=by unfold Hid;rw[I.o,Jg (fun h=>h V)];rfl
  clear V
  go_wp2
  go_ret
  exact⟨Oz G.o.symm,d.o _ Y.o⟩
 have y0:=Eo V
 by_cases kn:f.args.length=0
 ·have yn:((f.args.length:Int)==0)=true:=by rw[Yc];omega
  have G:Hid (Kj (Oh (Og S)) f=true):=by unfold Hid;rw[I.o,Jb V,Jb kn];simp
  clear V
  go_wp2
  go_ret
  exact⟨Oz G.o.symm,d.o _ Y.o⟩
 have yn:((f.args.length:Int)==0)=false:=by rw[Jc];omega
 by_cases k6:X.kind=6
 ·have y6:=N3 k6;have G:Hid (Kj (Oh (Og S)) f=false):=by unfold Hid;rw[I.o,Jb V,Jg (fun h=>h k6),Jg kn];rfl
  clear V k6
  go_wp2
  go_ret
  exact⟨Oz G.o.symm,d.o _ Y.o⟩
 have y6:=Eo k6;have G:Hid (Kj (Oh (Og S)) f=true):=by unfold Hid;rw[I.o,Jb V,Jb k6];rfl
 clear V k6
 go_wp2
 go_ret
 exact⟨Oz G.o.symm,d.o _ Y.o⟩
theorem A1 (kb sb fb:Nat)(f1 f2:List UInt8->Option Nat)(s:ByteArray)(w:World)(hc3:w.cell? ⟨kb,3,none⟩=some (.map (some sb)))(hc4:w.cell? ⟨kb,4,none⟩=some (.map (some fb)))(hm1:G0 w sb f1)(hm2:G0 w fb f2)(hs:s.size<=1048576)(hf:Nh f1 f2 s.data.toList=true) :
 Calls prog 53 #[.pointer (some ⟨kb,0,none⟩),.string s] w fun e w'=>e=.returned (.tuple #[.int .i64 0,.int .i64 2])/\w'=w:=by
 have h:=Hd (N7 kb sb fb f1 f2 s w hc3 hc4 hm1 hm2 hs);have d:Hid (Hk f1 f2 s.data.toList=2):=by unfold Hid Hk;rw[hf];rfl
 clear hm1 hm2 hf
 go_in
 go_wp2_with fail
 refine h.o.mono ?_;rw[d.o];rintro e j ⟨rfl,rfl⟩
 go_wp2_with fail
 refine Jj (v:=.tuple #[.int .i64 0,.int .i64 2]) ?_ rfl ⟨rfl,rfl⟩;simp[results,results53,go_sem]
theorem At {w:World}{kb sb fb gb n:Nat}{S:List (List UInt8)}{F:List Fn}{T:List Tm}{vS vF vT v5:Value}{g:List UInt8->Option SI}(h:BK w kb sb fb gb n S F T vS vF vT v5 g)(f:Fn)(va:Value)(hzn:f.name.length<=1048576)(hf:Nh (Og S) (Oq F) f.name=true) :
 Calls prog 59 #[.pointer (some ⟨kb,0,none⟩),.agg #[.string (Oo f.name),va,.string (Oo f.sort)]] w fun e w'=>e=.returned (.tuple #[.int .i64 0,.int .i64 2])/\Up w w':=by
 have A:(Oo f.name).size<=1048576:=by show f.name.toArray.size<=_;simpa using hzn
 have d:=Hd (h.next (Oy w (.cells #[.string (Oo f.name),va,.string (Oo f.sort)] 47)));have E:Hid (Up w (w.alloc (.cells #[.string (Oo f.name),va,.string (Oo f.sort)] 47))):=Oy _ _;have j:Hid (Hk (Og S) (Oq F) f.name=2):=by unfold Hid Hk;rw[hf];rfl
 clear h hf
 go_in
 go_wp2_with fail
 refine (N7 kb sb fb (Og S) (Oq F) (Oo f.name) _ d.o.box.c7.2.2.2.1 d.o.box.c7.2.2.2.2.1 d.o.sm d.o.fm A).mono ?_;rw[Ou,j.o];rintro e G ⟨rfl,rfl⟩
 go_wp2_with fail
 refine Jj (v:=.tuple #[.int .i64 0,.int .i64 2]) ?_ rfl ⟨rfl,E.o⟩;simp[results,results59,go_sem]
theorem Aw {w:World}{kb sb fb gb n:Nat}{S:List (List UInt8)}{F:List Fn}{T:List Tm}{vS vF vT v5:Value}{g:List UInt8->Option SI}(h:BK w kb sb fb gb n S F T vS vF vT v5 g)(f:Fn)(va:Value)(hva:O8 w va f.args)(hzn:f.name.length<=1048576)(hz:∀ a∈f.args,a.length<=1048576)(hzs:f.sort.length<=1048576)(hn:n<=900000000)(hf:Nh (Og S) (Oq F) f.name=false)(hno:Kj (Oh (Og S)) f=false) :
 Calls prog 59 #[.pointer (some ⟨kb,0,none⟩),.agg #[.string (Oo f.name),va,.string (Oo f.sort)]] w fun e w'=>e=.returned (.tuple #[.int .i64 0,.int .i64 3])/\O6 w w' kb sb fb gb n S F T vS vF vT v5 6:=by
 have G:(Oo f.name).size<=1048576:=by show f.name.toArray.size<=_;simpa using hzn
 have E:=Hd hva;obtain⟨K,J,rfl,-,-,-⟩:=hva;have j:=Hd (h.next (Oy w (.cells #[.string (Oo f.name),.slice K f.args.length J,.string (Oo f.sort)] 47)));have I:Hid (Up w (w.alloc (.cells #[.string (Oo f.name),.slice K f.args.length J,.string (Oo f.sort)] 47))):=Oy _ _;have A:Hid (Hk (Og S) (Oq F) f.name=0):=by unfold Hid Hk;rw[hf];rfl
 have d:=Hd (Xc j.o f _ (E.o.bl I.o) hz hzs hn);rw[hno] at d;clear h hf hno
 go_in
 go_wp2_with fail
 refine (N7 kb sb fb (Og S) (Oq F) (Oo f.name) _ j.o.box.c7.2.2.2.1 j.o.box.c7.2.2.2.2.1 j.o.sm j.o.fm G).mono ?_;rw[Ou,A.o];rintro e O ⟨rfl,rfl⟩
 go_wp2_with fail
 refine d.o.mono ?_;rintro e U ⟨rfl,ha⟩;have M:=Hd (ha.after I.o);clear ha
 go_wp2_with fail
 refine Jj (v:=.tuple #[.int .i64 0,.int .i64 3]) ?_ rfl ⟨rfl,M.o⟩;simp[results,results59,go_sem]
end Go.Proofs.YtipgjenolpofpaaGreatDoor
