import Derived.Test.YtipgjenolpofpaaGreatDoorP37
import Derived.DeepKeys4
set_option maxRecDepth 100000
set_option maxHeartbeats 8000000
namespace Go.Proofs.YtipgjenolpofpaaGreatDoor
open Go.ChangeShapes Go.WideShapes Go.ChangeAt Go.RowKit Go.Proofs.Tryz
theorem Dk {ops:Array Oper}{o:Oper}{a:Act}{K:Act->World->Prop}{Q:Exit->Act->World->Prop}{E:Prop}{W:World}{t:ByteArray}{base n:Nat}{v:Value}{xs:List Value}(hgd:o.guard=none)(s y:Operand)
 (ho:o.op=.call { callee:=.builtin .append,args:=#[s,y],argTypes:=#[22,22] }) (hs:a.eval s=v) (hown:W.ownsRow base 9 1 v n xs)
 (hx:a.eval y=.slice (some ⟨W.heap.size,0,none⟩) 1 1) (hn:n<=1000000000) (hbase:base<=W.heap.size)
 (h:∀ g cap W',W'.ownsRow base 9 1 (.slice (some ⟨g,0,none⟩) (n+1) cap) (n+1) (xs++[.string t])->(W.alloc (.cells #[.string t] 9)).grownBy W' v.ownBlock->K (a.put o.dst (.slice (some ⟨g,0,none⟩) (n+1) cap)) W') :
 if Region.wanted o (yielded ops a.tmps)=true then Oper.wp prog o a (W.alloc (.cells #[.string t] 9)) K Q else E:=by
 obtain⟨i0,d,A,G,j⟩:=Rp;refine step_append_lies _ hgd s y 22 ho base 9 i0 (.string ⟨#[]⟩) 1 16 underlying22 d A G j rfl (by decide) v n xs hs (hown.alloc _) ⟨W.heap.size,0,none⟩ 1 1 [.string t] hx rfl
  (World.news_of_block (cs:=#[.string t]) (t:=9) (fr:=(0,0)) (heap_alloc_new W _)) (by simp[Value.oneCell']) (by decide) (by unfold maxLen;omega) (by omega) (by simp;omega) _ rfl ?_
 intro g cap W' I J _ _;exact h g cap W' I J
theorem A7 (f:Fn)(va:Value)(w:World)(hva:O8 w va f.args)(hl:f.args.length<=5)(hzn:f.name.length<=1048576)(hzs:f.sort.length<=1048576)(hz:∀ a∈f.args,a.length<=1048576) :
 Calls prog 83 #[.agg #[.string (Oo f.name),va,.string (Oo f.sort)]] w fun e w'=>∃ p n c,e=.returned (.agg #[.string (Oo f.name),.slice p n c,.string (Oo f.sort)])/\w'.ownsRow w.heap.size 9 1 (.slice p n c) f.args.length (U3 f.args)/\Up w w':=by
 have m8:=Hd hva;obtain⟨pa,ca,rfl,h1,h2,h3⟩:=hva;have HA:=Hd h3;have HZ:=Hd hz;unfold maxLen at h2;clear h3 hz;have j0:(Oo f.name).size<=1048576:=by show f.name.toArray.size<=_;simpa using hzn
 have h6:(Oo f.sort).size<=1048576:=by show f.sort.toArray.size<=_;simpa using hzs
 go_enter func83,ntmps83
 go_upto_region 1 with fail
 obtain⟨J,e5⟩:=O1 ((w.alloc (.cells #[.string (Oo f.name),.slice pa f.args.length ca,.string (Oo f.sort)] 47)).alloc (.cells #[.string ⟨#[]⟩,.slice none 0 0,.string ⟨#[]⟩] 47));have k9:Hid (Up w J):=by unfold Hid;rw[<-e5];exact ((Jh _ _).alloc Of _).alloc (by rw[Ji];omega) _
 have g8:Hid (J.heap.size=w.heap.size+2):=by unfold Hid;rw[<-e5];simp
 have f5:Hid (Bx J w.heap.size [.string (Oo f.name),.slice pa f.args.length ca,.string (Oo f.sort)]):=by unfold Hid;rw[<-e5];exact (Ox w _ _).alloc _
 have h9:Hid (Bx J (w.heap.size+1) [.string ⟨#[]⟩,.slice none 0 0,.string ⟨#[]⟩]):=by unfold Hid;rw[<-e5];have h:=Ox (w.alloc (.cells #[.string (Oo f.name),.slice pa f.args.length ca,.string (Oo f.sort)] 47)) [.string ⟨#[]⟩,.slice none 0 0,.string ⟨#[]⟩] 47;rw[Ji] at h;exact h
 rw[e5];clear e5;have U:Hid (∀ W,Up J W->W.cell? ⟨w.heap.size,0,none⟩=some (.string (Oo f.name))/\W.cell? ⟨w.heap.size,2,none⟩=some (.string (Oo f.sort))):=fun W hW=>by
  have h:=f5.o.below f5.o.lt hW;exact⟨h.cell 0,h.cell 2⟩
 have l1:=U.o J (Jh _ _)
 go_cut [3] (fun s3 wx=>∃ gx,s3=.pointer (some ⟨gx,0,none⟩)/\w.heap.size+2<=gx/\Bx wx gx [.string (Oo f.name),.slice none 0 0,.string (Oo f.sort)]/\Up J wx)
 case first=>
  have n2:w.heap.size<J.heap.size:=by have:=g8.o;omega
  refine wp_region_held_drew (S:=fun W=>W.cell? ⟨w.heap.size,0,none⟩=some (.string (Oo f.name))/\W.cell? ⟨w.heap.size,2,none⟩=some (.string (Oo f.sort))) (by kernel_rfl) (U.o J.drew (Jh _ _).drew) (fun hHeld=>?_);refine tk 0 6 (v:=?_) rfl rfl (by kernel_rfl) (fun _ _ _ h=>h) (Or.inl ⟨by rfl,?_⟩) (by assumption) ?_
  rotate_left
  ·(intro w I;(try dsimp only at I);go_simp;(try with_reducible rfl))
  try simp only[Act.put,Ja,Je,Jd]
  refine tk 1 7 (v:=?_) rfl rfl (by kernel_rfl) (fun _ _ _ h=>h) (Or.inl ⟨by rfl,?_⟩) (by assumption) ?_
  rotate_left
  ·(intro w I;(try dsimp only at I);go_simp;(try with_reducible rfl))
  try simp only[Act.put,Ja,Je,Jd]
  refine tk 3 9 (v:=?_) rfl rfl (by kernel_rfl) (fun _ _ _ h=>h) (Or.inl ⟨by rfl,?_⟩) (by assumption) ?_
  rotate_left
  ·(intro w I;(try dsimp only at I);go_simp;(try with_reducible rfl))
  try simp only[Act.put,Ja,Je,Jd]
  refine tk 4 10 (v:=?_) rfl rfl (by kernel_rfl) (fun _ _ _ h=>h) (Or.inl ⟨by rfl,?_⟩) (by assumption) ?_
  rotate_left
  ·(intro w I;(try dsimp only at I);go_simp;(try with_reducible rfl))
  try simp only[Act.put,Ja,Je,Jd]
  refine wpAnyH_ready (rs:=[2,7]) (by kernel_rfl) (by simp) ?_;refine AllReadyH.cons rfl (fun K hK=>?_) (AllReadyH.cons rfl (fun K hK=>?_) AllReadyH.nil)
  ·go_simp
   refine (K9 (Oo f.name) _ j0).mono ?_;rintro e w2 ⟨rfl,b9⟩;have Z:Hid (Up J w2):=⟨b9.os,b9.tape,b9.output,b9.size,b9.block⟩
   go_wp2_with fail
   refine hK.o _ _ (U.o w2 Z.o) (fun hHeld2=>?_);clear hK K
   try simp only[Act.put,Ja,Je,Jd]
   refine wpAnyH_ready (rs:=[5,7]) (by kernel_rfl) (by simp) ?_;refine AllReadyH.cons rfl (fun K hK=>?_) (AllReadyH.cons rfl (fun K hK=>?_) AllReadyH.nil)
   ·go_simp
    refine (K9 (Oo f.sort) _ h6).mono ?_;rintro e w3 ⟨rfl,e4⟩;have O:=Z.up e4
    go_wp2_with fail
    refine hK.o _ _ (U.o w3 O.o) (fun hHeld3=>?_);clear hK K
    try simp only[Act.put,Ja,Je,Jd]
    refine tk 6 12 (v:=?_) rfl rfl (by kernel_rfl) (fun _ _ _ h=>h) (Or.inl ⟨by rfl,?_⟩) (by assumption) ?_
    rotate_left
    ·(intro w I;(try dsimp only at I);go_simp;(try with_reducible rfl))
    try simp only[Act.put,Ja,Je,Jd]
    have b5:Hid (Bx (w3.alloc (.cells #[.string ⟨#[]⟩,.slice none 0 0,.string ⟨#[]⟩] 47)) w3.heap.size [.string ⟨#[]⟩,.slice none 0 0,.string ⟨#[]⟩]):=Ox _ _ _;have d0:Hid (Up J (w3.alloc (.cells #[.string ⟨#[]⟩,.slice none 0 0,.string ⟨#[]⟩] 47))):=O.o.alloc O.o.size _;refine wpAnyH_ready (rs:=[7]) (by kernel_rfl) (by simp) ?_;refine AllReadyH.cons rfl (fun K hK=>?_) AllReadyH.nil
    go_simp
    refine hK.o _ _ (U.o _ d0.o) (fun hHeld4=>?_);clear hK K
    try simp only[Act.put,Ja,Je,Jd]
    obtain⟨a0,a1,a2⟩:=b5.o.k3;obtain⟨f0,f1,f2⟩:=b5.o.f3;have b6:Hid (Up J (w3.alloc (.cells #[.string (Oo f.name),.slice none 0 0,.string (Oo f.sort)] 47))):=O.o.alloc O.o.size _;have g0:Hid (Bx (w3.alloc (.cells #[.string (Oo f.name),.slice none 0 0,.string (Oo f.sort)] 47)) w3.heap.size [.string (Oo f.name),.slice none 0 0,.string (Oo f.sort)]):=Ox _ _ _;refine wpAnyH_ready (rs:=[8]) (by kernel_rfl) (by simp) ?_;refine AllReadyH.cons rfl (fun K hK=>?_) AllReadyH.nil
    go_simp
    refine hK.o _ _ (U.o _ b6.o) (fun hHeldZ=>?_);clear hK K
    try simp only[Act.put,Ja,Je,Jd]
    refine wpAnyH_done (by kernel_rfl) ?_ _
    go_wp2_with fail
    go_meet
    exact⟨w3.heap.size,rfl,by have:=g8.o;have:=O.o.size;omega,g0.o,b6.o⟩
   ·go_simp
    have d4:Hid (Bx (w2.alloc (.cells #[.string ⟨#[]⟩,.slice none 0 0,.string ⟨#[]⟩] 47)) w2.heap.size [.string ⟨#[]⟩,.slice none 0 0,.string ⟨#[]⟩]):=Ox _ _ _;have d0:Hid (Up J (w2.alloc (.cells #[.string ⟨#[]⟩,.slice none 0 0,.string ⟨#[]⟩] 47))):=Z.o.alloc Z.o.size _;refine hK.o _ _ (U.o _ d0.o) (fun hHeld4=>?_);clear hK K
    try simp only[Act.put,Ja,Je,Jd]
    refine wpAnyH_ready (rs:=[5]) (by kernel_rfl) (by simp) ?_;refine AllReadyH.cons rfl (fun K hK=>?_) AllReadyH.nil
    go_simp
    refine (K9 (Oo f.sort) _ h6).mono ?_;rintro e w4 ⟨rfl,d7⟩;have c8:=d0.up d7;have b5:Hid (Bx w4 w2.heap.size [.string ⟨#[]⟩,.slice none 0 0,.string ⟨#[]⟩]):=d4.o.below d4.o.lt d7
    go_wp2_with fail
    refine hK.o _ _ (U.o w4 c8.o) (fun hHeld5=>?_);clear hK K
    try simp only[Act.put,Ja,Je,Jd]
    refine tk 6 12 (v:=?_) rfl rfl (by kernel_rfl) (fun _ _ _ h=>h) (Or.inl ⟨by rfl,?_⟩) (by assumption) ?_
    rotate_left
    ·(intro w I;(try dsimp only at I);go_simp;(try with_reducible rfl))
    try simp only[Act.put,Ja,Je,Jd]
    obtain⟨a0,a1,a2⟩:=b5.o.k3;obtain⟨f0,f1,f2⟩:=b5.o.f3;have b6:Hid (Up J (((w4.setCell ⟨w2.heap.size,0,none⟩ (.string (Oo f.name))).setCell ⟨w2.heap.size,1,none⟩ (.slice none 0 0)).setCell ⟨w2.heap.size,2,none⟩ (.string (Oo f.sort)))):=(((c8.o).setCell (p:=⟨w2.heap.size,0,none⟩) (Z.o.size) _).setCell (p:=⟨w2.heap.size,1,none⟩) (Z.o.size) _).setCell (p:=⟨w2.heap.size,2,none⟩) (Z.o.size) _;have g0:Hid (Bx (((w4.setCell ⟨w2.heap.size,0,none⟩ (.string (Oo f.name))).setCell ⟨w2.heap.size,1,none⟩ (.slice none 0 0)).setCell ⟨w2.heap.size,2,none⟩ (.string (Oo f.sort))) w2.heap.size [.string (Oo f.name),.slice none 0 0,.string (Oo f.sort)]):=((b5.o.set 0 _).set 1 _).set 2 _;refine wpAnyH_ready (rs:=[8]) (by kernel_rfl) (by simp) ?_;refine AllReadyH.cons rfl (fun K hK=>?_) AllReadyH.nil
    go_simp
    refine hK.o _ _ (U.o _ b6.o) (fun hHeldZ=>?_);clear hK K
    try simp only[Act.put,Ja,Je,Jd]
    refine wpAnyH_done (by kernel_rfl) ?_ _
    go_wp2_with fail
    go_meet
    exact⟨w2.heap.size,rfl,by have:=g8.o;have:J.heap.size<=w2.heap.size:=(Z.o.size);omega,g0.o,b6.o⟩
  ·go_simp
   have d4:Hid (Bx (J.alloc (.cells #[.string ⟨#[]⟩,.slice none 0 0,.string ⟨#[]⟩] 47)).drew J.heap.size [.string ⟨#[]⟩,.slice none 0 0,.string ⟨#[]⟩]):=(Ox _ _ _).drew;have d0:Hid (Up J (J.alloc (.cells #[.string ⟨#[]⟩,.slice none 0 0,.string ⟨#[]⟩] 47)).drew):=(Oy _ _).drew;refine hK.o _ _ (U.o _ d0.o) (fun hHeld4=>?_);clear hK K
   try simp only[Act.put,Ja,Je,Jd]
   refine wpAnyH_ready (rs:=[2]) (by kernel_rfl) (by simp) ?_;refine AllReadyH.cons rfl (fun K hK=>?_) AllReadyH.nil
   go_simp
   refine (K9 (Oo f.name) _ j0).mono ?_;rintro e w3 ⟨rfl,e4⟩;have O:Hid (Up J w3):=d0.o.trans (Below.mono e4 d0.o.size);have h0:Hid (Bx w3 J.heap.size [.string ⟨#[]⟩,.slice none 0 0,.string ⟨#[]⟩]):=d4.o.below d4.o.lt e4
   go_wp2_with fail
   refine hK.o _ _ (U.o w3 O.o) (fun hHeld5=>?_);clear hK K
   try simp only[Act.put,Ja,Je,Jd]
   refine wpAnyH_ready (rs:=[5]) (by kernel_rfl) (by simp) ?_;refine AllReadyH.cons rfl (fun K hK=>?_) AllReadyH.nil
   go_simp
   refine (K9 (Oo f.sort) _ h6).mono ?_;rintro e w4 ⟨rfl,d7⟩;have c8:=O.up d7;have b5:Hid (Bx w4 J.heap.size [.string ⟨#[]⟩,.slice none 0 0,.string ⟨#[]⟩]):=h0.o.below h0.o.lt d7
   go_wp2_with fail
   refine hK.o _ _ (U.o w4 c8.o) (fun hHeld6=>?_);clear hK K
   try simp only[Act.put,Ja,Je,Jd]
   refine tk 6 12 (v:=?_) rfl rfl (by kernel_rfl) (fun _ _ _ h=>h) (Or.inl ⟨by rfl,?_⟩) (by assumption) ?_
   rotate_left
   ·(intro w I;(try dsimp only at I);go_simp;(try with_reducible rfl))
   try simp only[Act.put,Ja,Je,Jd]
   obtain⟨a0,a1,a2⟩:=b5.o.k3;obtain⟨f0,f1,f2⟩:=b5.o.f3;have b6:Hid (Up J (((w4.setCell ⟨J.heap.size,0,none⟩ (.string (Oo f.name))).setCell ⟨J.heap.size,1,none⟩ (.slice none 0 0)).setCell ⟨J.heap.size,2,none⟩ (.string (Oo f.sort)))):=(((c8.o).setCell (p:=⟨J.heap.size,0,none⟩) Of _).setCell (p:=⟨J.heap.size,1,none⟩) Of _).setCell (p:=⟨J.heap.size,2,none⟩) Of _;have g0:Hid (Bx (((w4.setCell ⟨J.heap.size,0,none⟩ (.string (Oo f.name))).setCell ⟨J.heap.size,1,none⟩ (.slice none 0 0)).setCell ⟨J.heap.size,2,none⟩ (.string (Oo f.sort))) J.heap.size [.string (Oo f.name),.slice none 0 0,.string (Oo f.sort)]):=((b5.o.set 0 _).set 1 _).set 2 _;refine wpAnyH_ready (rs:=[8]) (by kernel_rfl) (by simp) ?_;refine AllReadyH.cons rfl (fun K hK=>?_) AllReadyH.nil
   go_simp
   refine hK.o _ _ (U.o _ b6.o) (fun hHeldZ=>?_);clear hK K
   try simp only[Act.put,Ja,Je,Jd]
   refine wpAnyH_done (by kernel_rfl) ?_ _
   go_wp2_with fail
   go_meet
   exact⟨J.heap.size,rfl,by have:=g8.o;have:J.heap.size<=J.heap.size:=Of;omega,g0.o,b6.o⟩
 case rest=>
  obtain⟨gx,rfl,m7,f8,g1⟩:=hcut;have j3:=Hd f8;have l7:=Hd g1;have k8:=Hd (f5.o.below f5.o.lt g1);have l3:=Hd (h9.o.below h9.o.lt g1);have j8:=k9.up g1;have b1:=k8.o.cell 1;simp only[Jo,Jr] at b1;clear f8 g1 f5 h9 l1;obtain⟨W2,rfl⟩:∃ W2,W2=wc:=⟨_,rfl⟩;have Y:=Hd j3.o.lt
  go_wp2_with fail
  clear b1
  go_loopw [16] (fun i wr=>∃ k:Nat,k<=f.args.length/\i=.int .i64 (k:Nat)/\∃ p c,Bx wr gx [.string (Oo f.name),.slice p k c,.string (Oo f.sort)]/\wr.ownsRow W2.heap.size 9 1 (.slice p k c) k (U3 (f.args.take k))/\Bx wr (w.heap.size+1) [.string ⟨#[]⟩,.slice none 0 0,.string ⟨#[]⟩]/\Up w wr/\W2.heap.size<=wr.heap.size) (fun i _=>f.args.length - (intOf i).toNat)
  case atStart=>exact⟨0,Jy _,rfl,none,0,j3.o,⟨rfl,.inl ⟨rfl,rfl⟩⟩,l3.o,j8.o,Of⟩
  case round=>
   obtain⟨k,hk,rfl,p,c,f8,g9,j6,j1,j5⟩:=hrel;have M:=Hd f8;have A:=Hd g9;have a8:=Hd j6;have G:=Hd j1;have e6:=Hd j5;clear f8 g9 j6 j1 j5
   by_cases d9:k<f.args.length
   ·rcases HA.o with e0|⟨ba,rfl,k7,j2⟩
    ·rw[e0] at d9;cases d9
    have ck:=(G.o.cell (p:=⟨ba,k,none⟩) k7).trans (j2 k d9);clear j2;have h8:(Oo f.args[k]).size<=1048576:=by
     have:=HZ.o _ (Jw d9)
     show f.args[k].toArray.size<=_
     simpa using this
    obtain⟨ak,h7⟩:=O1 (f.args[k]);have i6:=Hd h7;rw[h7] at ck h8;clear h7;have i0:(0:Int)<=(k:Int):=by omega
    have i1:(k:Int)<(f.args.length:Int):=by omega
    have cr:=M.o.cell 1;simp only[Jo,Jr] at cr
    go_wp2_with fail
    refine wp_region_held_drew (S:=fun _=>True) (by kernel_rfl) trivial (fun hHeld=>?_);refine tk 0 20 (v:=?_) rfl rfl (by kernel_rfl) (fun _ _ _ h=>h) (Or.inl ⟨by rfl,?_⟩) (by assumption) ?_
    rotate_left
    ·(intro w I;go_simp;(try with_reducible rfl))
    try simp only[Act.put,Ja,Je,Jd]
    refine tk 2 22 (v:=?_) rfl rfl (by kernel_rfl) (fun _ _ _ h=>h) (Or.inl ⟨by rfl,?_⟩) (by assumption) ?_
    rotate_left
    ·(intro w I;go_simp;(try with_reducible rfl))
    try simp only[Act.put,Ja,Je,Jd]
    refine wpAnyH_ready (rs:=[1,3]) (by kernel_rfl) (by simp) ?_;refine AllReadyH.cons rfl (fun K hK=>?_) (AllReadyH.cons rfl (fun K hK=>?_) AllReadyH.nil)
    ·go_simp
     refine hK.o _ _ trivial (fun hHeldX=>?_);clear hK K
     try simp only[Act.put,Ja,Je,Jd]
     refine wpAnyH_ready (rs:=[3]) (by kernel_rfl) (by simp) ?_;refine AllReadyH.cons rfl (fun K hK=>?_) AllReadyH.nil
     go_simp
     refine (K9 (Oo ak) _ h8).mono ?_;rintro e w3 ⟨rfl,V⟩;have d:Hid (Up wr w3):=⟨V.os,V.tape,V.output,V.size,V.block⟩;clear V;have c1:=(M.o.below M.o.lt d.o).cell 1;simp only[Jo,Jr] at c1
     go_wp2_with fail
     refine hK.o _ _ trivial (fun hHeldX=>?_);clear hK K
     try simp only[Act.put,Ja,Je,Jd]
     refine wpAnyH_ready (rs:=[4]) (by kernel_rfl) (by simp) ?_;refine AllReadyH.cons rfl (fun K hK=>?_) AllReadyH.nil
     go_simp
     refine hK.o _ _ trivial (fun hHeldX=>?_);clear hK K
     try simp only[Act.put,Ja,Je,Jd]
     refine wpAnyH_ready (rs:=[5]) (by kernel_rfl) (by simp) ?_;refine AllReadyH.cons rfl (fun K hK=>?_) AllReadyH.nil;refine Dk (t:=Oo ak) (n:=k) (base:=W2.heap.size) (v:=.slice p k c) (xs:=U3 (f.args.take k)) (W:=w3) (by rfl) _ _ (by rfl) (by rfl) (Oi A.o (fun g hg=>d.o.block g (A.o.lt g hg).2)) (by rfl) (by omega) (Yk e6.o d.o.size) ?_;intro g5 c5 w5 E j;have c6:(Value.slice p k c).ownBlock≠some gx:=fun e=>by have:=Ot A.o gx e;have:=Y.o;omega
     have a7:(Value.slice p k c).ownBlock≠some (w.heap.size+1):=fun e=>by have:=Ot A.o _ e;have:=Y.o;omega
     have d6:Bx w5 gx [.string (Oo f.name),.slice p k c,.string (Oo f.sort)]:=by
      obtain⟨ty,h⟩:=(M.o.below M.o.lt d.o).alloc (.cells #[.string (Oo ak)] 9);exact⟨ty,(j.block gx (by have:=M.o.lt;have:=d.o.size;simp;omega) (fun e=>c6 e.symm)).trans h⟩
     have d5:Bx w5 (w.heap.size+1) [.string ⟨#[]⟩,.slice none 0 0,.string ⟨#[]⟩]:=by
      obtain⟨ty,h⟩:=(a8.o.below a8.o.lt d.o).alloc (.cells #[.string (Oo ak)] 9);exact⟨ty,(j.block _ (by have:=a8.o.lt;have:=d.o.size;simp;omega) (fun e=>a7 e.symm)).trans h⟩
     have d3:Up w w5:=by
      refine⟨j.os.trans (d.o.os.trans G.o.os),j.tape.trans (d.o.tape.trans G.o.tape),j.output.trans (d.o.output.trans G.o.output),?_,fun q hq=>?_⟩
      ·have h1:=j.size;have h2:=d.o.size;have h3:=G.o.size;rw[Ji] at h1;omega
      ·have h3:=G.o.size;have h2:=d.o.size;rw[j.block q (by simp;omega) (fun e=>by have:=Ot A.o q e.symm;have:=Y.o;omega),(Oy w3 _).block q (by omega),d.o.block q (by omega),G.o.block q hq]
     have d2:W2.heap.size<=w5.heap.size:=by have h1:=j.size;have h2:=d.o.size;have h3:=e6.o;rw[Ji] at h1;omega
     have b8:g5≠gx:=fun e=>by have:=Ot E g5 rfl;have:=Y.o;omega
     have b3:=Hd d6;have g2:=Hd d5;have e9:=Hd d3;have g4:=Hd d2;have g6:=Hd E;have f9:=Hd b8;clear d6 d5 d3 d2 E j c6 a7 b8;refine hK.o _ _ trivial (fun hHeldX=>?_);clear hK K
     try simp only[Act.put,Ja]
     refine tk 6 26 (v:=?_) rfl rfl (by kernel_rfl) (fun _ _ _ h=>h) (Or.inl ⟨by rfl,?_⟩) (by assumption) ?_
     rotate_left
     ·(intro w I;go_simp;(try with_reducible rfl))
     try simp only[Act.put]
     have d1:=b3.o.cell 1;simp only[Jo,Jr] at d1;have e1:=b3.o.frozen 1;refine wpAnyH_ready (rs:=[7]) (by kernel_rfl) (by simp) ?_;refine AllReadyH.cons rfl (fun K hK=>?_) AllReadyH.nil
     go_simp
     refine hK.o _ _ trivial (fun hHeldX=>?_);clear hK K
     try simp only[Act.put,Ja,Je,Jd]
     refine wpAnyH_done (by kernel_rfl) ?_ _
     go_wp2_with fail
     go_roundw
     case rel=>
      have hC:U3 (f.args.take (k+1))=U3 (f.args.take k)++[.string (Oo ak)]:=by rw[Ge d9,i6.o]
      refine⟨k+1,by omega,by go_num,some ⟨g5,0,none⟩,c5,b3.o.set 1 _,?_,g2.o.other ⟨gx,1,none⟩ (by simp;omega) _,e9.o.setCell (p:=⟨gx,1,none⟩) (by show w.heap.size<=gx;omega) _,by have:=g4.o;simpa[World.setCell] using this⟩;rw[hC];exact Oi g6.o (fun g hg=>Jq _ _ _ _ (fun e=>f9.o (by cases hg;exact e)))
     case measure=>simp[intOf];omega
    ·go_simp
     refine (K9 (Oo ak) _ h8).mono ?_;rintro e w3 ⟨rfl,V⟩;have d:Hid (Up wr w3):=⟨V.os,V.tape,V.output,V.size,V.block⟩;clear V;have c1:=(M.o.below M.o.lt d.o).cell 1;simp only[Jo,Jr] at c1
     go_wp2_with fail
     refine hK.o _ _ trivial (fun hHeldX=>?_);clear hK K
     try simp only[Act.put,Ja,Je,Jd]
     refine wpAnyH_ready (rs:=[1,4]) (by kernel_rfl) (by simp) ?_;refine AllReadyH.cons rfl (fun K hK=>?_) (AllReadyH.cons rfl (fun K hK=>?_) AllReadyH.nil)
     ·go_simp
      refine hK.o _ _ trivial (fun hHeldX=>?_);clear hK K
      try simp only[Act.put,Ja,Je,Jd]
      refine wpAnyH_ready (rs:=[4]) (by kernel_rfl) (by simp) ?_;refine AllReadyH.cons rfl (fun K hK=>?_) AllReadyH.nil
      go_simp
      refine hK.o _ _ trivial (fun hHeldX=>?_);clear hK K
      try simp only[Act.put,Ja,Je,Jd]
      refine wpAnyH_ready (rs:=[5]) (by kernel_rfl) (by simp) ?_;refine AllReadyH.cons rfl (fun K hK=>?_) AllReadyH.nil;refine Dk (t:=Oo ak) (n:=k) (base:=W2.heap.size) (v:=.slice p k c) (xs:=U3 (f.args.take k)) (W:=w3) (by rfl) _ _ (by rfl) (by rfl) (Oi A.o (fun g hg=>d.o.block g (A.o.lt g hg).2)) (by rfl) (by omega) (Yk e6.o d.o.size) ?_;intro g5 c5 w5 E j;have c6:(Value.slice p k c).ownBlock≠some gx:=fun e=>by have:=Ot A.o gx e;have:=Y.o;omega
      have a7:(Value.slice p k c).ownBlock≠some (w.heap.size+1):=fun e=>by have:=Ot A.o _ e;have:=Y.o;omega
      have d6:Bx w5 gx [.string (Oo f.name),.slice p k c,.string (Oo f.sort)]:=by
       obtain⟨ty,h⟩:=(M.o.below M.o.lt d.o).alloc (.cells #[.string (Oo ak)] 9);exact⟨ty,(j.block gx (by have:=M.o.lt;have:=d.o.size;simp;omega) (fun e=>c6 e.symm)).trans h⟩
      have d5:Bx w5 (w.heap.size+1) [.string ⟨#[]⟩,.slice none 0 0,.string ⟨#[]⟩]:=by
       obtain⟨ty,h⟩:=(a8.o.below a8.o.lt d.o).alloc (.cells #[.string (Oo ak)] 9);exact⟨ty,(j.block _ (by have:=a8.o.lt;have:=d.o.size;simp;omega) (fun e=>a7 e.symm)).trans h⟩
      have d3:Up w w5:=by
       refine⟨j.os.trans (d.o.os.trans G.o.os),j.tape.trans (d.o.tape.trans G.o.tape),j.output.trans (d.o.output.trans G.o.output),?_,fun q hq=>?_⟩
       ·have h1:=j.size;have h2:=d.o.size;have h3:=G.o.size;rw[Ji] at h1;omega
       ·have h3:=G.o.size;have h2:=d.o.size;rw[j.block q (by simp;omega) (fun e=>by have:=Ot A.o q e.symm;have:=Y.o;omega),(Oy w3 _).block q (by omega),d.o.block q (by omega),G.o.block q hq]
      have d2:W2.heap.size<=w5.heap.size:=by have h1:=j.size;have h2:=d.o.size;have h3:=e6.o;rw[Ji] at h1;omega
      have b8:g5≠gx:=fun e=>by have:=Ot E g5 rfl;have:=Y.o;omega
      have b3:=Hd d6;have g2:=Hd d5;have e9:=Hd d3;have g4:=Hd d2;have g6:=Hd E;have f9:=Hd b8;clear d6 d5 d3 d2 E j c6 a7 b8;refine hK.o _ _ trivial (fun hHeldX=>?_);clear hK K
      try simp only[Act.put,Ja]
      refine tk 6 26 (v:=?_) rfl rfl (by kernel_rfl) (fun _ _ _ h=>h) (Or.inl ⟨by rfl,?_⟩) (by assumption) ?_
      rotate_left
      ·(intro w I;go_simp;(try with_reducible rfl))
      try simp only[Act.put]
      have d1:=b3.o.cell 1;simp only[Jo,Jr] at d1;have e1:=b3.o.frozen 1;refine wpAnyH_ready (rs:=[7]) (by kernel_rfl) (by simp) ?_;refine AllReadyH.cons rfl (fun K hK=>?_) AllReadyH.nil
      go_simp
      refine hK.o _ _ trivial (fun hHeldX=>?_);clear hK K
      try simp only[Act.put,Ja,Je,Jd]
      refine wpAnyH_done (by kernel_rfl) ?_ _
      go_wp2_with fail
      go_roundw
      case rel=>
       have hC:U3 (f.args.take (k+1))=U3 (f.args.take k)++[.string (Oo ak)]:=by rw[Ge d9,i6.o]
       refine⟨k+1,by omega,by go_num,some ⟨g5,0,none⟩,c5,b3.o.set 1 _,?_,g2.o.other ⟨gx,1,none⟩ (by simp;omega) _,e9.o.setCell (p:=⟨gx,1,none⟩) (by show w.heap.size<=gx;omega) _,by have:=g4.o;simpa[World.setCell] using this⟩;rw[hC];exact Oi g6.o (fun g hg=>Jq _ _ _ _ (fun e=>f9.o (by cases hg;exact e)))
      case measure=>simp[intOf];omega
     ·go_simp
      refine hK.o _ _ trivial (fun hHeldX=>?_);clear hK K
      try simp only[Act.put,Ja,Je,Jd]
      have l2:=((M.o.below M.o.lt d.o).alloc (.cells #[.string (Oo ak)] 9)).cell 1;simp only[Jo,Jr] at l2;refine wpAnyH_ready (rs:=[1]) (by kernel_rfl) (by simp) ?_;refine AllReadyH.cons rfl (fun K hK=>?_) AllReadyH.nil
      go_simp
      refine hK.o _ _ trivial (fun hHeldX=>?_);clear hK K
      try simp only[Act.put,Ja,Je,Jd]
      refine wpAnyH_ready (rs:=[5]) (by kernel_rfl) (by simp) ?_;refine AllReadyH.cons rfl (fun K hK=>?_) AllReadyH.nil;refine Dk (t:=Oo ak) (n:=k) (base:=W2.heap.size) (v:=.slice p k c) (xs:=U3 (f.args.take k)) (W:=w3) (by rfl) _ _ (by rfl) (by rfl) (Oi A.o (fun g hg=>d.o.block g (A.o.lt g hg).2)) (by rfl) (by omega) (Yk e6.o d.o.size) ?_;intro g5 c5 w5 E j;have c6:(Value.slice p k c).ownBlock≠some gx:=fun e=>by have:=Ot A.o gx e;have:=Y.o;omega
      have a7:(Value.slice p k c).ownBlock≠some (w.heap.size+1):=fun e=>by have:=Ot A.o _ e;have:=Y.o;omega
      have d6:Bx w5 gx [.string (Oo f.name),.slice p k c,.string (Oo f.sort)]:=by
       obtain⟨ty,h⟩:=(M.o.below M.o.lt d.o).alloc (.cells #[.string (Oo ak)] 9);exact⟨ty,(j.block gx (by have:=M.o.lt;have:=d.o.size;simp;omega) (fun e=>c6 e.symm)).trans h⟩
      have d5:Bx w5 (w.heap.size+1) [.string ⟨#[]⟩,.slice none 0 0,.string ⟨#[]⟩]:=by
       obtain⟨ty,h⟩:=(a8.o.below a8.o.lt d.o).alloc (.cells #[.string (Oo ak)] 9);exact⟨ty,(j.block _ (by have:=a8.o.lt;have:=d.o.size;simp;omega) (fun e=>a7 e.symm)).trans h⟩
      have d3:Up w w5:=by
       refine⟨j.os.trans (d.o.os.trans G.o.os),j.tape.trans (d.o.tape.trans G.o.tape),j.output.trans (d.o.output.trans G.o.output),?_,fun q hq=>?_⟩
       ·have h1:=j.size;have h2:=d.o.size;have h3:=G.o.size;rw[Ji] at h1;omega
       ·have h3:=G.o.size;have h2:=d.o.size;rw[j.block q (by simp;omega) (fun e=>by have:=Ot A.o q e.symm;have:=Y.o;omega),(Oy w3 _).block q (by omega),d.o.block q (by omega),G.o.block q hq]
      have d2:W2.heap.size<=w5.heap.size:=by have h1:=j.size;have h2:=d.o.size;have h3:=e6.o;rw[Ji] at h1;omega
      have b8:g5≠gx:=fun e=>by have:=Ot E g5 rfl;have:=Y.o;omega
      have b3:=Hd d6;have g2:=Hd d5;have e9:=Hd d3;have g4:=Hd d2;have g6:=Hd E;have f9:=Hd b8;clear d6 d5 d3 d2 E j c6 a7 b8;refine hK.o _ _ trivial (fun hHeldX=>?_);clear hK K
      try simp only[Act.put,Ja]
      refine tk 6 26 (v:=?_) rfl rfl (by kernel_rfl) (fun _ _ _ h=>h) (Or.inl ⟨by rfl,?_⟩) (by assumption) ?_
      rotate_left
      ·(intro w I;go_simp;(try with_reducible rfl))
      try simp only[Act.put]
      have d1:=b3.o.cell 1;simp only[Jo,Jr] at d1;have e1:=b3.o.frozen 1;refine wpAnyH_ready (rs:=[7]) (by kernel_rfl) (by simp) ?_;refine AllReadyH.cons rfl (fun K hK=>?_) AllReadyH.nil
      go_simp
      refine hK.o _ _ trivial (fun hHeldX=>?_);clear hK K
      try simp only[Act.put,Ja,Je,Jd]
      refine wpAnyH_done (by kernel_rfl) ?_ _
      go_wp2_with fail
      go_roundw
      case rel=>
       have hC:U3 (f.args.take (k+1))=U3 (f.args.take k)++[.string (Oo ak)]:=by rw[Ge d9,i6.o]
       refine⟨k+1,by omega,by go_num,some ⟨g5,0,none⟩,c5,b3.o.set 1 _,?_,g2.o.other ⟨gx,1,none⟩ (by simp;omega) _,e9.o.setCell (p:=⟨gx,1,none⟩) (by show w.heap.size<=gx;omega) _,by have:=g4.o;simpa[World.setCell] using this⟩;rw[hC];exact Oi g6.o (fun g hg=>Jq _ _ _ _ (fun e=>f9.o (by cases hg;exact e)))
      case measure=>simp[intOf];omega
   ·obtain rfl:k=f.args.length:=by omega
    obtain⟨c0,c1,c2⟩:=M.o.c3;obtain⟨r0,r1,r2⟩:=a8.o.c3;obtain⟨f0,f1,f2⟩:=a8.o.f3;have hq:w.heap.size<=w.heap.size+1:=by omega
    have HE:=Hd (((a8.o.set 0 (.string (Oo f.name))).set 1 (.slice p f.args.length c)).set 2 (.string (Oo f.sort)));have b6:=Hd (((G.o.setCell (p:=⟨w.heap.size+1,0,none⟩) hq (.string (Oo f.name))).setCell (p:=⟨w.heap.size+1,1,none⟩) hq (.slice p f.args.length c)).setCell (p:=⟨w.heap.size+1,2,none⟩) hq (.string (Oo f.sort)));have j4:Hid (w.heap.size+2<=W2.heap.size):=by have:=Y.o;unfold Hid;omega
    clear hk
    go_wp2_with fail
    obtain⟨e0,e1,e2⟩:=HE.o.c3;refine Jj (v:=.agg #[.string (Oo f.name),.slice p f.args.length c,.string (Oo f.sort)]) ?_ rfl ⟨p,f.args.length,c,rfl,?_,b6.o⟩
    ·clear c0 c1 c2 r0 r1 r2 f0 f1 f2;simp[results,results83,go_sem,e0,e1,e2]
    ·have h:=A.o;rw[Yl] at h;refine E7 (Oi h (fun g hg=>?_)) (by have:=j4.o;omega);have l8:=Ot h g hg;have n1:g≠w.heap.size+1:=by have:=j4.o;omega
     rw[Jq _ _ _ _ n1,Jq _ _ _ _ n1,Jq _ _ _ _ n1]
theorem UK:Maps.Keyed prog 115:=Maps.Keyed.of_law (deep_law (m:=2) (by omega) (by kernel_rfl) (by kernel_rfl) (by kernel_rfl))
def B3 (t:Tm):Value:=.agg #[.int .i64 t.op,.string (Oo t.sort),.string (Oo t.text),.int .i64 t.a,.int .i64 t.b,.string (Oo (K2 t.kids))]
def DL (t:Tm):List Lit:=[.int .i64 t.op,.string t.sort,.string t.text,.int .i64 t.a,.int .i64 t.b,.string (K2 t.kids)]
def Fe (t:Tm):Lit:=.string (keyBytes (DL t))
structure WfT (t:Tm):Prop where
 op:(Lit.int .i64 t.op).wf=true
 a:(Lit.int .i64 t.a).wf=true
 b:(Lit.int .i64 t.b).wf=true
 sort:t.sort.length<=1048576
 text:t.text.length<=1048576
 kids:t.kids.length<=50
 kid:∀ x∈t.kids,0<=x/\x<65536
theorem Iu {t:Tm}(h:WfT t):keyOf prog 115 (B3 t)=some (Fe t):=by
 have d:prog.cellsOf 115=6:=by kernel_rfl
 have j:prog.keyType 115=true:=by kernel_rfl
 unfold keyOf;rw[underlying115];simp only[j,Za];have J:Value.formed prog 115 (B3 t)=true:=by
  unfold B3 Value.formed;rw[underlying115];simp[d]
 rw[if_pos J];have A:0<prog.types.size:=of_decide_eq_true (by kernel_rfl);obtain⟨m,I⟩:∃ m,prog.types.size=m+1:=⟨prog.types.size - 1,by omega⟩;have c3:prog.cellsOf 3=1:=by kernel_rfl
 have c9:prog.cellsOf 9=1:=by kernel_rfl
 have E:(Oo t.sort).size<=maxLen:=by show t.sort.toArray.size<=_;have:=h.sort;unfold maxLen;simp;omega
 have G:(Oo t.text).size<=maxLen:=by show t.text.toArray.size<=_;have:=h.text;unfold maxLen;simp;omega
 have K:(Oo (K2 t.kids)).size<=maxLen:=by show (K2 t.kids).toArray.size<=_;have:=h.kids;have:=M0 t.kids;unfold maxLen;simp;omega
 have M:=h.op;have O:=h.a;have h3:=h.b;rw[I];unfold Program.keyLits;rw[underlying115];unfold B3 Fe DL;simp only[Value.cells];simp[d,Program.keyLits,underlying3,underlying9,c3,c9,E,G,K,M,O,h3,Ou,List.mapM_cons]
theorem FL {x y:Int}(hx:0<=x/\x<65536)(hy:0<=y/\y<65536)(h1:UInt8.ofNat (x.toNat / 256)=UInt8.ofNat (y.toNat / 256))(h2:UInt8.ofNat x.toNat=UInt8.ofNat y.toNat):x=y:=by
 have d:=congrArg UInt8.toNat h1;have h:=congrArg UInt8.toNat h2;simp only[UInt8.toNat_ofNat'] at d h;omega
theorem GA:∀ {a b:List Int},(∀ x∈a,0<=x/\x<65536)->(∀ x∈b,0<=x/\x<65536)->K2 a=K2 b->a=b:=by
 intro a
 induction a with
 | nil=>
   intro b _ _ h
   cases b with
   | nil=>rfl
   | cons y r=>exact absurd h (by simp[K2])
 | cons x r ih=>
   intro b ha hb h
   cases b with
   | nil=>exact absurd h (by simp[K2])
   | cons y r2=>
     have e:∀ (z:Int) (l:List Int),K2 (z::l)=UInt8.ofNat (z.toNat / 256)::UInt8.ofNat z.toNat::K2 l:=fun z l=>by simp[K2]
     rw[e,e] at h;simp only[List.cons.injEq] at h;rw[FL (ha x (by simp)) (hb y (by simp)) h.1 h.2.1,ih (fun z hz=>ha z (by simp[hz])) (fun z hz=>hb z (by simp[hz])) h.2.2]
theorem XD {t u:Tm}(ht:WfT t)(hu:WfT u)(h:Fe t=Fe u):t=u:=by
 have d:=UK.inj (Iu ht) (by rw[h];exact Iu hu);unfold B3 at d;simp only[Value.agg.injEq,Array.mk.injEq,List.cons.injEq,Value.int.injEq,Value.string.injEq,true_and,and_true] at d;obtain⟨E,A,h3,h4,h5,j⟩:=d;exact DP.2 ⟨E,I5 A,I5 h3,h4,h5,GA ht.kid hu.kid (I5 j)⟩
def Im (T:List Tm)(t:Tm):Option Nat:=T.findIdx? (fun u=>decide (u=t))
def Es (w:World)(b n:Nat)(T:List Tm):Prop:=
 ∃ D:DataW Unit,w.ownsMap prog 115 (plainElem prog 3) b n D/\∀ t,WfT t->Maps.has D (Fe t)=(Im T t).isSome/\∀ i,Im T t=some i->D.atKey (Fe t) (.lit (.int .i64 0))=.lit (.int .i64 (i:Nat))
theorem Es.low {w w':World}{b n N:Nat}{T:List Tm}(h:Es w b n T)(hb:Below N w w')(hN:b<N):Es w' b n T:=by
 obtain⟨D,⟨G,j,d,A⟩,E⟩:=h;exact⟨D,⟨G,j,(hb.block b hN).trans d,A⟩,E⟩
theorem EE {T:List Tm}{s:Tm}(h:Im T s=none)(t:Tm):Im (T++[s]) t=if t=s then some T.length else Im T t:=by
 unfold Im at h ⊢;rw[List.findIdx?_append]
 by_cases d:t=s
 ·subst d;rw[h,if_pos rfl];simp[List.findIdx?_cons]
 rw[if_neg d];have:s≠t:=fun e=>d e.symm
 cases j:List.findIdx? (fun x=>decide (x=t)) T with
 | none=>simp[List.findIdx?_cons,this]
 | some i=>simp
theorem Es.put {w:World}{b n:Nat}{T:List Tm}{D:DataW Unit}(hD:∀ t,WfT t->Maps.has D (Fe t)=(Im T t).isSome/\∀ i,Im T t=some i->D.atKey (Fe t) (.lit (.int .i64 0))=.lit (.int .i64 (i:Nat)))(hm:Maps.IsMap D){s:Tm}(hw:WfT s)(hs:Im T s=none)(hown:w.ownsMap prog 115 (plainElem prog 3) b n (D.put (Fe s) (.lit (.int .i64 (T.length:Nat))))):Es w b n (T++[s]):=by
 have d:=UK.key (Iu hw);refine⟨_,hown,fun t ht=>?_⟩;rw[EE hs]
 by_cases h:t=s
 ·subst h;rw[if_pos rfl];refine⟨Maps.has_put_same hm d _,fun i hi=>?_⟩;cases hi;exact Maps.atKey_put_same hm d _ _
 rw[if_neg h];have j:Fe t≠Fe s:=fun e=>h (XD ht hw e);rw[Maps.has_put_other j,Maps.atKey_put_other j];exact hD t ht
theorem Es.bar {w w':World}{b c n:Nat}{T:List Tm}(h:Es w b n T)(hb:Bar c w w')(hc:b≠c):Es w' b n T:=by
 obtain⟨D,⟨I,A,j,E⟩,G⟩:=h;have d:b<w.heap.size:=(J2.1 j).1;exact⟨D,⟨I,A,(hb.block b d hc).trans j,E⟩,G⟩
theorem Mr {w:World}{b n:Nat}{T:List Tm}(h:Es w b n T){t:Tm}(ht:WfT t):∃ c:Int,(∀ i,Im T t=some i->c=(i:Nat))/\(Instr.lookup 87 (.map (some b)) (B3 t) true).run prog w=.ok (.tuple #[.int .i64 c,.bool (Im T t).isSome]) w:=by
 obtain⟨D,j,E⟩:=h;have I:(zeroValue 3).run prog w=.ok (.int .i64 0) w:=rfl;obtain⟨v,M,d,K⟩:=j.look_ok UK underlying87 I (plainElem_int underlying3 (by decide)) (Iu ht);obtain⟨c,rfl,hc,G⟩:=plainElem_int_inv underlying3 K;refine⟨c,fun i hi=>?_,?_⟩
 ·have J:=(E t ht).2 i hi;have A:=congrArg Prod.fst hc;rw[J] at A;simp at A;exact A.symm
 rw[d,(E t ht).1]
theorem Tw {w:World}{kb sb fb gb n:Nat}{S:List (List UInt8)}{F:List Fn}{T:List Tm}{vS vF vT v5:Value}{g:List UInt8->Option SI}(h:BK w kb sb fb gb n S F T vS vF vT v5 g)(t:Tm)(vk:Value)(hk:U6 w vk t.kids)(num:Tm->Bool)(hT:T.length<=1000000)(hl:t.kids.length<=1048576)(hF:F.length<=1000)(hz:∀ u∈T,u.sort.length<=1048576)(hts:t.sort.length<=1048576)(htx:t.text.length<=1048576)(hn:n<=800000000)
 (hnum:t.op=12->((Ov (Oh (Og S)) t.sort).kind=2∨(Ov (Oh (Og S)) t.sort).kind=3)->∀ W,Bar gb w W->Calls prog 118 #[.string (Oo t.sort),.string (Oo t.text)] W fun e w'=>e=.returned (.bool (num t))/\Up W w') (hno:Gx (Ov (Oh (Og S))) num F (Oq F) T t=false) :
 Calls prog 61 #[.pointer (some ⟨kb,0,none⟩),Ie t vk] w fun e w'=>e=.returned (.tuple #[.int .i64 0,.int .i64 5])/\O7 w w' kb sb fb gb n S F T vS vF vT v5 60:=by
 have J:=Hd hk;obtain⟨j,I,rfl,G,A,-⟩:=hk;have O:=Hd h;have E:Hid (Up w (w.alloc (.cells #[.int .i64 t.op,.string (Oo t.sort),.string (Oo t.text),.int .i64 t.a,.int .i64 t.b,.slice j t.kids.length I] 57))):=Oy _ _;have d:=Hd (Xu (h.next (Oy w (.cells #[.int .i64 t.op,.string (Oo t.sort),.string (Oo t.text),.int .i64 t.a,.int .i64 t.b,.slice j t.kids.length I] 57))) t (.slice j t.kids.length I) (J.o.below E.o) num hT hl hF hz hts htx hn (fun h12 hk W hW=>hnum h12 hk W ((Bar.of E.o).trans hW)));clear h hz hnum G A;rw[hno] at d;unfold Ie at d ⊢
 go_enter func61,ntmps61
 go_wp2_with fail
 refine d.o.mono ?_;rintro e M ⟨rfl,ha⟩;have K:=Hd (ha.after E.o);clear ha
 go_wp2_with fail
 refine Jj (v:=.tuple #[.int .i64 0,.int .i64 5]) ?_ rfl ⟨rfl,K.o⟩;simp[results,results61,go_sem]
theorem Li {w:World}{kb sb fb gb tb n nT:Nat}{S:List (List UInt8)}{F:List Fn}{T:List Tm}{vS vF vT:Value}{g:List UInt8->Option SI}(h:BK w kb sb fb gb n S F T vS vF vT (.map (some tb)) g)(htm:Es w tb nT T)(hne:tb≠gb)(t:Tm)(vk:Value)(hk:U6 w vk t.kids)(num:Tm->Bool)(hT:T.length<=1000000)(hF:F.length<=1000)(hz:∀ u∈T,u.sort.length<=1048576)(hn:n<=800000000)(hwf:WfT t)
 (hnum:t.op=12->((Ov (Oh (Og S)) t.sort).kind=2∨(Ov (Oh (Og S)) t.sort).kind=3)->∀ W,Bar gb w W->Calls prog 118 #[.string (Oo t.sort),.string (Oo t.text)] W fun e w'=>e=.returned (.bool (num t))/\Up W w') (hyes:Gx (Ov (Oh (Og S))) num F (Oq F) T t=true) (j:Nat) (hj:Im T t=some j) :
 Calls prog 61 #[.pointer (some ⟨kb,0,none⟩),Ie t vk] w fun e w'=>e=.returned (.tuple #[.int .i64 (j:Nat),.int .i64 0])/\Bar gb w w':=by
 have HI:=Hd hk;obtain⟨Z,dk,rfl,c6,b7,-⟩:=hk;have HH:=Hd h;have HB:Hid (Up w (w.alloc (.cells #[.int .i64 t.op,.string (Oo t.sort),.string (Oo t.text),.int .i64 t.a,.int .i64 t.b,.slice Z t.kids.length dk] 57))):=Oy _ _;have E:Hid (Bx (w.alloc (.cells #[.int .i64 t.op,.string (Oo t.sort),.string (Oo t.text),.int .i64 t.a,.int .i64 t.b,.slice Z t.kids.length dk] 57)) w.heap.size [.int .i64 t.op,.string (Oo t.sort),.string (Oo t.text),.int .i64 t.a,.int .i64 t.b,.slice Z t.kids.length dk]):=Ox _ _ _;have Y:=Hd (Xu (h.next (Oy w (.cells #[.int .i64 t.op,.string (Oo t.sort),.string (Oo t.text),.int .i64 t.a,.int .i64 t.b,.slice Z t.kids.length dk] 57))) t (.slice Z t.kids.length dk) (HI.o.below HB.o) num hT (by have:=hwf.kids;omega) hF hz hwf.sort hwf.text hn (fun h12 hk W hW=>hnum h12 hk W ((Bar.of HB.o).trans hW)));have b8:=Hd (htm.bar (Bar.of (g:=gb) HB.o) hne);have U:=Hd hwf;have HJ:=Hd hj;clear h hz hnum c6 b7 htm hwf hj;rw[hyes] at Y;unfold Ie at Y ⊢
 go_enter func61,ntmps61
 go_wp2_with fail
 refine Y.o.mono ?_;rintro e w2 ⟨rfl,n2,g2,-,K,d⟩;have A:=d.keep (HH.o.next HB.o).km;have b9:=Hd ((HI.o.below HB.o).keep A);have b5:=Hd K;have b3:=Hd (b8.o.bar d hne);have M:Hid (Bar gb w w2):=(Bar.of HB.o).trans d;have a0:=A.cell _ _ (E.o.cell 0);have a1:=A.cell _ _ (E.o.cell 1);have a2:=A.cell _ _ (E.o.cell 2);have a3:=A.cell _ _ (E.o.cell 3);have a4:=A.cell _ _ (E.o.cell 4);have a5:=A.cell _ _ (E.o.cell 5);clear A K d
 go_wp2_with fail
 refine (M5 t (.slice Z t.kids.length dk) w2 b9.o U.o.kid U.o.kids).mono ?_;rintro e O ⟨rfl,J⟩;have b6:=Hd (b5.o.next J);have V:Hid (Bar gb w O):=M.o.trans (Bar.of J);obtain⟨c,hc,I⟩:=Mr (w:=(O.alloc (.cells #[.int .i64 t.op,.string (Oo t.sort),.string (Oo t.text),.int .i64 t.a,.int .i64 t.b,.string (Oo (K2 t.kids))] 115)).drew) ((((b3.o.bar (Bar.of (g:=gb) J) hne).bar (Bar.of (g:=gb) (Oy O _)) hne)).bar (Bar.refl gb _).drew hne) U.o;obtain rfl:=hc j HJ.o;rw[HJ.o] at I;simp only[Option.isSome_some] at I;unfold B3 at I;have a5:=(b6.o.next (Oy O (.cells #[.int .i64 t.op,.string (Oo t.sort),.string (Oo t.text),.int .i64 t.a,.int .i64 t.b,.string (Oo (K2 t.kids))] 115))).box.c7.2.2.2.2.2.1;have b4:=Ox O [.int .i64 t.op,.string (Oo t.sort),.string (Oo t.text),.int .i64 t.a,.int .i64 t.b,.string (Oo (K2 t.kids))] 115;obtain⟨k0,k1,k2,k3,k4,k5⟩:=b4.k6;have G:Hid (Bar gb w ((O.alloc (.cells #[.int .i64 t.op,.string (Oo t.sort),.string (Oo t.text),.int .i64 t.a,.int .i64 t.b,.string (Oo (K2 t.kids))] 115)).drew)):=(V.o.trans (Bar.of (Oy _ _))).drew;clear J hc a0 a1 a2 a3 a4 b4
 go_wp2_with fail
 generalize O.alloc (.cells #[.int .i64 t.op,.string (Oo t.sort),.string (Oo t.text),.int .i64 t.a,.int .i64 t.b,.string (Oo (K2 t.kids))] 115)=W4 at I a5 k0 k1 k2 k3 k4 k5 G ⊢
 go_region
 clear I
 go_wp2_with fail
 refine Jj (v:=.tuple #[.int .i64 (j:Nat),.int .i64 0]) ?_ rfl ⟨rfl,G.o⟩;simp[results,results61,go_sem]
theorem Bi {α:Type}{c:α->List Value}{k:Nat}(hc:∀ x,(c x).length=k):∀ (l:List α) (i d:Nat) (h:i<l.length) (_:d<k),(l.flatMap c)[i*k+d]? = (c l[i])[d]?
 | [],_,_,h,_=>by simp at h
 | x::r,0,d,_,hd=>by rw[Ug,Vs,Y3,List.getElem?_append_left (by rw[hc];exact hd)];rfl
 | x::r,i+1,d,h,hd=>by
   rw[Ug,List.getElem?_append_right (by rw[hc,Nat.succ_mul];omega)]
   have:(i+1)*k+d - (c x).length=i*k+d:=by rw[hc,Nat.succ_mul];omega
   rw[this,Bi hc r i d (by simpa using h) hd];rfl
theorem R6 {w:World}{base g n cap size:Nat}{e:TypeId}{xs:List Value}(h:w.ownsRow base e size (.slice (some ⟨g,0,none⟩) n cap) n xs){j:Nat}{u:Value}(hu:xs[j]? = some u):w.cell? ⟨g,j,none⟩=some u:=by
 rcases h.2 with⟨G,_⟩|⟨J,A,d,I,_,hb,_,_,_,E⟩
 ·cases G
 cases I;rw[cell_of_row w g j d e (0,0) hb];rw[<-E,List.getElem?_take] at hu
 split at hu
 ·simpa using hu
 cases hu
theorem Cn {w:World}{base n size:Nat}{e:TypeId}{v:Value}{xs:List Value}(h:w.ownsRow base e size v n xs):∃ p c,v=.slice p n c/\n<=c/\c<=maxLen/\(n=0∨∃ g,p=some ⟨g,0,none⟩/\g<w.heap.size):=by
 have hl:=h.lt
 rcases h.2 with⟨rfl,rfl⟩|⟨g,cap,d,rfl,_,_,j,A,_⟩
 ·exact⟨none,0,rfl,Of,Jy _,.inl rfl⟩
 exact⟨some ⟨g,0,none⟩,cap,rfl,j,A,.inr ⟨g,rfl,(hl g rfl).2⟩⟩
theorem Bk {w:World}{base:Nat}{v:Value}{L:List (List UInt8)}(h:w.ownsRow base 9 1 v L.length (U3 L)):O8 w v L:=by
 obtain⟨p,c,rfl,A,j,h3⟩:=Cn h;refine⟨p,c,rfl,A,j,?_⟩
 rcases h3 with h3|⟨g,rfl,d⟩
 ·exact .inl (Jv h3)
 exact .inr ⟨g,rfl,d,fun i hi=>R6 h (by unfold U3;rw[Y2,Jf hi];rfl)⟩
theorem VJ {w:World}{base:Nat}{v:Value}{L:List Int}(h:w.ownsRow base 3 1 v L.length (G7 L)):U6 w v L:=by
 obtain⟨p,c,rfl,A,j,h3⟩:=Cn h;refine⟨p,c,rfl,A,j,?_⟩
 rcases h3 with h3|⟨g,rfl,d⟩
 ·exact .inl (Jv h3)
 exact .inr ⟨g,rfl,d,fun i hi=>R6 h (by unfold G7;rw[Y2,Jf hi];rfl)⟩
def Bc (x:Fn×Value):List Value:=[.string (Oo x.1.name),x.2,.string (Oo x.1.sort)]
def R1 (x:Tm×Value):List Value:=[.int .i64 x.1.op,.string (Oo x.1.sort),.string (Oo x.1.text),.int .i64 x.1.a,.int .i64 x.1.b,x.2]
def Qx (w:World)(base:Nat)(v:Value)(F:List Fn):Prop:=∃ X:List (Fn×Value),X.map Prod.fst=F/\w.ownsRow base 47 3 v F.length (X.flatMap Bc)/\∀ x∈X,w.ownsRow base 9 1 x.2 x.1.args.length (U3 x.1.args)
def Hs (w:World)(base:Nat)(v:Value)(T:List Tm):Prop:=∃ X:List (Tm×Value),X.map Prod.fst=T/\w.ownsRow base 57 6 v T.length (X.flatMap R1)/\∀ x∈X,w.ownsRow base 3 1 x.2 x.1.kids.length (G7 x.1.kids)
theorem Qx.at {w:World}{base:Nat}{v:Value}{F:List Fn}(h:Qx w base v F):Ex w v F:=by
 obtain⟨X,rfl,h,I⟩:=h;obtain⟨p,c,rfl,G,J,h3⟩:=Cn h;refine⟨p,c,rfl,G,J,?_⟩
 rcases h3 with h3|⟨g,rfl,E⟩
 ·exact .inl (Jv h3)
 refine .inr ⟨g,rfl,E,fun i hi=>?_⟩;have j:i<X.length:=by simpa using hi
 have A:∀ d (u:Value),d<3->(Bc X[i])[d]? = some u->w.cell? ⟨g,i*3+d,none⟩=some u:=fun d u hd hu=>R6 h (by rw[Bi (k:=3) (fun _=>rfl) X i d j hd];exact hu);rw[Vi];exact⟨A 0 _ (by decide) rfl,⟨_,A 1 _ (by decide) rfl,Bk (I _ (Jw j))⟩,A 2 _ (by decide) rfl⟩
theorem Hs.at {w:World}{base:Nat}{v:Value}{T:List Tm}(h:Hs w base v T):Kb w v T:=by
 obtain⟨X,rfl,h,I⟩:=h;obtain⟨p,c,rfl,G,J,h3⟩:=Cn h;refine⟨p,c,rfl,G,J,?_⟩
 rcases h3 with h3|⟨g,rfl,E⟩
 ·exact .inl (Jv h3)
 refine .inr ⟨g,rfl,E,fun i hi=>?_⟩;have A:i<X.length:=by simpa using hi
 have j:∀ d (u:Value),d<6->(R1 X[i])[d]? = some u->w.cell? ⟨g,i*6+d,none⟩=some u:=fun d u hd hu=>R6 h (by rw[Bi (k:=6) (fun _=>rfl) X i d A hd];exact hu);rw[Vi];exact⟨j 0 _ (by decide) rfl,j 1 _ (by decide) rfl,j 2 _ (by decide) rfl,j 3 _ (by decide) rfl,j 4 _ (by decide) rfl,_,j 5 _ (by decide) rfl,VJ (I _ (Jw A))⟩
theorem Qx.keep {w w':World}{base:Nat}{v:Value}{F:List Fn}(h:Qx w base v F)(hk:∀ g cs fz,(w.heap[g]? = some (.cells cs 47 fz)∨w.heap[g]? = some (.cells cs 9 fz))->base<=g->w'.heap[g]? = w.heap[g]?):Qx w' base v F:=by
 obtain⟨X,e,d,j⟩:=h;refine⟨X,e,Oi d fun g hg=>?_,fun x hx=>Oi (j x hx) fun g hg=>?_⟩
 ·obtain⟨cs,fz,hb⟩:=Kw d g hg;exact hk g cs fz (.inl hb) (Ot d g hg)
 obtain⟨cs,fz,hb⟩:=Kw (j x hx) g hg;exact hk g cs fz (.inr hb) (Ot (j x hx) g hg)
theorem Hs.keep {w w':World}{base:Nat}{v:Value}{T:List Tm}(h:Hs w base v T)(hk:∀ g cs fz,(w.heap[g]? = some (.cells cs 57 fz)∨w.heap[g]? = some (.cells cs 3 fz))->base<=g->w'.heap[g]? = w.heap[g]?):Hs w' base v T:=by
 obtain⟨X,e,d,j⟩:=h;refine⟨X,e,Oi d fun g hg=>?_,fun x hx=>Oi (j x hx) fun g hg=>?_⟩
 ·obtain⟨cs,fz,hb⟩:=Kw d g hg;exact hk g cs fz (.inl hb) (Ot d g hg)
 obtain⟨cs,fz,hb⟩:=Kw (j x hx) g hg;exact hk g cs fz (.inr hb) (Ot (j x hx) g hg)
theorem EG:(prog.info? 47).map (fun i=>(i.zero,i.size,i.bytes))=some (some (.agg #[.string ⟨#[]⟩,.slice none 0 0,.string ⟨#[]⟩]),3,56):=by kernel_rfl
theorem T3:∃ i:TypeInfo,prog.info? 47=some i/\i.zero=some (.agg #[.string ⟨#[]⟩,.slice none 0 0,.string ⟨#[]⟩])/\i.size=3/\i.bytes=56:=info_parts EG
theorem info_term0:(prog.info? 57).map (fun i=>(i.zero,i.size,i.bytes))=some (some (.agg #[.int .i64 0,.string ⟨#[]⟩,.string ⟨#[]⟩,.int .i64 0,.int .i64 0,.slice none 0 0]),6,80):=by kernel_rfl
theorem Dz:∃ i:TypeInfo,prog.info? 57=some i/\i.zero=some (.agg #[.int .i64 0,.string ⟨#[]⟩,.string ⟨#[]⟩,.int .i64 0,.int .i64 0,.slice none 0 0])/\i.size=6/\i.bytes=80:=info_parts info_term0
theorem YO (X:SI)(w:World)(h6:X.kind=6):Calls prog 97 #[Gy X] w fun e w'=>e=.returned (.bool (O0 X))/\Up w w':=by
 have d:Hid (O0 X=false):=by
  unfold Hid O0;rw[J9];intro h;rw[J4,Js,Js] at h;omega
 unfold Gy;have z0:(X.kind==0)=false:=by rw[Jc];omega
 have j:=Eo (a:=X.kind) (b:=1) (by omega);have A:=N4 h6;clear h6
 go_enter func97,ntmps97
 go_wp2_with fail
 go_ret
 exact⟨Oz d.o.symm,Oy _ _⟩
theorem Ty (own:List UInt8->Bool)(t:List UInt8)(w:World):Calls prog 97 #[Gy (Ov own t)] w fun e w'=>e=.returned (.bool (O0 (Ov own t)))/\Up w w':=by
 have G:=Xk own t
 by_cases h:(Ov own t).kind=0
 ·have j:=(OK own).w0 t (by omega);have d:=(OK own).a0 t (by omega);have e:Ov own t=SI.none:=by
   cases E:Ov own t with
   | mk k w i el=>
     rw[E] at h j d;simp only at h j d;rw[h,j,d.1,d.2];rfl
  rw[e];exact Df w
 by_cases A:(Ov own t).kind=6
 ·exact YO _ w A
 exact Dp _ w h (by omega)
theorem Xm {w:World}{kb sb fb gb n:Nat}{S:List (List UInt8)}{F:List Fn}{T:List Tm}{vS vF vT v5:Value}{g:List UInt8->Option SI}(h:BK w kb sb fb gb n S F T vS vF vT v5 g)(f:Fn)(va:Value)(hva:O8 w va f.args)(hz:∀ a∈f.args,a.length<=1048576)(hzs:f.sort.length<=1048576)(hn:n<=900000000) :
 Calls prog 82 #[.pointer (some ⟨kb,0,none⟩),.agg #[.string (Oo f.name),va,.string (Oo f.sort)]] w fun e w'=>e=.returned (.bool (Kj (Oh (Og S)) f))/\O7 w w' kb sb fb gb n S F T vS vF vT v5 6:=by
 have g5:=Hd hva;obtain⟨p,c,rfl,h1,h2,h3⟩:=hva;have HA:=Hd h3;have HZ:=Hd hz;have HH:=Hd h;unfold maxLen at h2;clear h h3 hz;have d7:(Oo f.sort).size<=1048576:=by show f.sort.toArray.size<=_;simpa using hzs
 have HB:Hid (Up w (w.alloc (.cells #[.string (Oo f.name),.slice p f.args.length c,.string (Oo f.sort)] 47))):=Oy _ _;have a8:Hid (Bx (w.alloc (.cells #[.string (Oo f.name),.slice p f.args.length c,.string (Oo f.sort)] 47)) w.heap.size [.string (Oo f.name),.slice p f.args.length c,.string (Oo f.sort)]):=Ox _ _ _
 by_cases h5:5<f.args.length
 ·have G:Hid (Kj (Oh (Og S)) f=false):=by unfold Hid Kj;rw[Jg (by omega)];rfl
  go_enter func82,ntmps82
  go_wp2_with fail
  go_ret
  exact⟨Oz G.o.symm,O7.of HH.o HB.o 6⟩
 have HF:Hid (Kj (Oh (Og S)) f=(f.args.all (fun a=>O0 (Ov (Oh (Og S)) a))&&(decide ((Ov (Oh (Og S)) f.sort).kind≠0)&&(decide ((Ov (Oh (Og S)) f.sort).kind≠6)||decide (f.args.length=0))))):=by
  unfold Hid Kj;rw[Jb (by omega),Za,Ux]
 go_enter func82,ntmps82
 go_wp2_with fail
 obtain⟨W1,d0⟩:=O1 (w.alloc (.cells #[.string (Oo f.name),.slice p f.args.length c,.string (Oo f.sort)] 47));rw[d0] at HB a8 ⊢;clear d0;have c6:Hid (∀ W,Bar gb W1 W->W.cell? ⟨w.heap.size,0,none⟩=some (.string (Oo f.name))/\W.cell? ⟨w.heap.size,1,none⟩=some (.slice p f.args.length c)/\W.cell? ⟨w.heap.size,2,none⟩=some (.string (Oo f.sort))):=fun W hW=>by
  have hk:=hW.keep (HH.o.next HB.o).km;exact⟨hk.cell _ _ (a8.o.cell 0),hk.cell _ _ (a8.o.cell 1),hk.cell _ _ (a8.o.cell 2)⟩
 go_loopw [15] (fun i wr=>∃ k:Nat,k<=f.args.length/\i=.int .i64 (k:Nat)/\(∀ j (h:j<f.args.length),j<k->O0 (Ov (Oh (Og S)) f.args[j])=true)/\∃ nr gr,nr<=n+k/\BK wr kb sb fb gb nr S F T vS vF vT v5 gr/\Bar gb W1 wr) (fun i _=>f.args.length - (intOf i).toNat)
 case atStart=>exact⟨0,Jy _,rfl,fun j _ h=>absurd h (J1 _),n,g,by omega,HH.o.next HB.o,Bar.refl _ _⟩
 case round=>
  obtain⟨k,hk,rfl,hp,nr,gr,b9,b4,E⟩:=hrel;have HP:=Hd hp;have U:=Hd b9;have b5:=Hd b4;have A:=Hd E;obtain⟨b0,b1,b2⟩:=c6.o wr E;clear hp b9 b4 E
  by_cases J:k<f.args.length
  ·have b6:wr.cell? ⟨(match p with|some a=>a.block|none=>0),k,none⟩=some (.string (Oo f.args[k]))/\∃ b,p=some ⟨b,0,none⟩:=by
    rcases HA.o with e0|⟨b,rfl,hb,b6⟩
    ·rw[e0] at J;cases J
    ·refine⟨?_,b,rfl⟩;have h1:=(HB.o.cell (p:=⟨b,k,none⟩) hb).trans (b6 k J);exact (A.o.keep (HH.o.next HB.o).km).cell _ _ h1
   obtain⟨ck,b,rfl⟩:=b6;simp only at ck;have d1:(Oo f.args[k]).size<=1048576:=by
    have:=HZ.o _ (Jw J)
    show f.args[k].toArray.size<=_
    simpa using this
   have b7:Hid (O0 (Ov (Oh (Og S)) f.args[k])=false->Kj (Oh (Og S)) f=false):=fun h=>by
    rw[HF.o];have:f.args.all (fun a=>O0 (Ov (Oh (Og S)) a))=false:=by
     rw[J9];intro h2;have:=Ju.1 h2 _ (Jw J);rw[h] at this
     cases this
    rw[this];rfl
   have I:Hid (O0 (Ov (Oh (Og S)) f.args[k])=true->∀ j (h:j<f.args.length),j<k+1->O0 (Ov (Oh (Og S)) f.args[j])=true):=fun h j hj h2=>by
    rcases J0.1 h2 with h3|rfl
    ·exact HP.o j hj h3
    ·exact h
   generalize f.args[k]=ak at ck d1 b7 I;have i0:(0:Int)<=(k:Int):=by omega
   have i1:(k:Int)<(f.args.length:Int):=by omega
   go_wp2_with fail
   refine (ask_sort b5.o (Oo ak) d1 (by have:=U.o;omega)).mono ?_;rw[Ou];obtain⟨X,hX⟩:=O1 (Ov (Oh (Og S)) ak);have e1:Hid (∀ W,Calls prog 97 #[Gy X] W fun e w'=>e=.returned (.bool (O0 X))/\Up W w'):=fun W=>by rw[<-hX];exact Ty _ _ W
   rw[hX] at b7 I ⊢;clear hX;rintro e w2 ⟨rfl,K⟩;have c8:=Hd K;clear K
   go_wp2_with fail
   refine (e1.o w2).mono ?_
   cases Y:O0 X
   ·have G:=Hd (b7.o Y);clear Y;rintro e w3 ⟨rfl,M⟩;have d:Hid (O7 w w3 kb sb fb gb n S F T vS vF vT v5 6):=(O7.comp (m2:=k) (by have:=U.o;omega) ((Bar.of HB.o).trans A.o) (c8.o.next M)).more (by omega);clear M
    go_wp2_with fail
    go_ret
    exact⟨Oz G.o.symm,d.o⟩
   ·have HR:=Hd (I.o Y);clear Y;rintro e w3 ⟨rfl,M⟩;have d9:Hid (∃ nr gr,nr<=n+(k+1)/\BK w3 kb sb fb gb nr S F T vS vF vT v5 gr/\Bar gb W1 w3):=by
     obtain⟨n',g',h1,h2,h3⟩:=c8.o.next M;have:=U.o;exact⟨n',g',by omega,h2,A.o.trans h3⟩
    clear M
    go_wp2_with fail
    go_roundw
    case rel=>exact⟨k+1,by omega,by go_num,HR.o,d9.o⟩
    case measure=>simp[intOf];omega
  ·have b8:Hid (f.args.all (fun a=>O0 (Ov (Oh (Og S)) a))=true):=by
    unfold Hid;rw[Ju];intro a ha;obtain⟨j,hj,rfl⟩:=Ya ha;exact HP.o j hj (by omega)
   have z:¬ (k:Int)<(f.args.length:Int):=by omega
   go_wp2_with fail
   refine (ask_sort b5.o (Oo f.sort) d7 (by have:=U.o;omega)).mono ?_;rw[Ou];have O:Hid (Kj (Oh (Og S)) f=(decide ((Ov (Oh (Og S)) f.sort).kind≠0)&&(decide ((Ov (Oh (Og S)) f.sort).kind≠6)||decide (f.args.length=0)))):=by unfold Hid;rw[HF.o,b8.o];rfl
   generalize Ov (Oh (Og S)) f.sort=X at O ⊢;rintro e w2 ⟨rfl,K⟩;have d:Hid (∀ W,Up w2 W->O7 w W kb sb fb gb n S F T vS vF vT v5 6):=fun W hW=>(O7.comp (m2:=k) (by have:=U.o;omega) ((Bar.of HB.o).trans A.o) (K.next hW)).more (by omega);obtain⟨n7,g7,-,-,d2⟩:=K;obtain⟨b0,b1,b2⟩:=c6.o w2 (A.o.trans d2);have g6:w.heap.size<w2.heap.size:=Yd _ _ b0;have g0:Hid (Bx (w2.alloc (.cells #[.int .i64 X.kind,.int .i64 (X.width:Nat),.string (Oo X.index),.string (Oo X.elem)] 110)) w2.heap.size (Ri X)):=Ox _ _ _;have Z:Hid (Up w2 (w2.alloc (.cells #[.int .i64 X.kind,.int .i64 (X.width:Nat),.string (Oo X.index),.string (Oo X.elem)] 110))):=Oy _ _;clear d2;unfold Gy
   by_cases V:X.kind=0
   ·have y0:=N4 V;have G:Hid (Kj (Oh (Og S)) f=false):=by unfold Hid;rw[O.o,Jg (fun h=>h V)];rfl
    clear V
    go_wp2_with fail
    go_ret
    exact⟨Oz G.o.symm,d.o _ Z.o⟩
   have y0:=Eo V
   by_cases kn:f.args.length=0
   ·have yn:((f.args.length:Int)==0)=true:=by rw[Yc];omega
    have G:Hid (Kj (Oh (Og S)) f=true):=by unfold Hid;rw[O.o,Jb V,Jb kn];simp
    clear V
    go_wp2_with fail
    go_ret
    exact⟨Oz G.o.symm,d.o _ Z.o⟩
   have yn:((f.args.length:Int)==0)=false:=by rw[Jc];omega
   by_cases k6:X.kind=6
   ·have y6:=N4 k6;have G:Hid (Kj (Oh (Og S)) f=false):=by unfold Hid;rw[O.o,Jb V,Jg (fun h=>h k6),Jg kn];rfl
    clear V k6
    go_wp2_with fail
    go_ret
    exact⟨Oz G.o.symm,d.o _ Z.o⟩
   ·have y6:=Eo k6;have G:Hid (Kj (Oh (Og S)) f=true):=by unfold Hid;rw[O.o,Jb V,Jb k6];rfl
    clear V k6
    go_wp2_with fail
    go_ret
    exact⟨Oz G.o.symm,d.o _ Z.o⟩
theorem A6 (kb sb fb:Nat)(f1 f2:List UInt8->Option Nat)(s:ByteArray)(w:World)(hc3:w.cell? ⟨kb,3,none⟩=some (.map (some sb)))(hc4:w.cell? ⟨kb,4,none⟩=some (.map (some fb)))(hm1:G3 w sb f1)(hm2:G3 w fb f2)(hs:s.size<=1048576)(hf:Nh f1 f2 s.data.toList=true) :
 Calls prog 53 #[.pointer (some ⟨kb,0,none⟩),.string s] w fun e w'=>e=.returned (.tuple #[.int .i64 0,.int .i64 2])/\w'=w:=by
 have h:=Hd (N6 kb sb fb f1 f2 s w hc3 hc4 hm1 hm2 hs);have d:Hid (Hk f1 f2 s.data.toList=2):=by unfold Hid Hk;rw[hf];rfl
 clear hm1 hm2 hf
 go_enter func53,ntmps53
 go_wp2_with fail
 refine h.o.mono ?_;rw[d.o];rintro e j ⟨rfl,rfl⟩
 go_wp2_with fail
 refine Jj (v:=.tuple #[.int .i64 0,.int .i64 2]) ?_ rfl ⟨rfl,rfl⟩;simp[results,results53,go_sem]
theorem Sn {w:World}{kb sb fb gb n:Nat}{S:List (List UInt8)}{F:List Fn}{T:List Tm}{vS vF vT v5:Value}{g:List UInt8->Option SI}(h:BK w kb sb fb gb n S F T vS vF vT v5 g)(f:Fn)(va:Value)(hzn:f.name.length<=1048576)(hf:Nh (Og S) (Oq F) f.name=true) :
 Calls prog 59 #[.pointer (some ⟨kb,0,none⟩),.agg #[.string (Oo f.name),va,.string (Oo f.sort)]] w fun e w'=>e=.returned (.tuple #[.int .i64 0,.int .i64 2])/\Up w w':=by
 have j:(Oo f.name).size<=1048576:=by show f.name.toArray.size<=_;simpa using hzn
 have d:=Hd (h.next (Oy w (.cells #[.string (Oo f.name),va,.string (Oo f.sort)] 47)));have E:Hid (Up w (w.alloc (.cells #[.string (Oo f.name),va,.string (Oo f.sort)] 47))):=Oy _ _;have A:Hid (Hk (Og S) (Oq F) f.name=2):=by unfold Hid Hk;rw[hf];rfl
 clear h hf
 go_enter func59,ntmps59
 go_wp2_with fail
 refine (N6 kb sb fb (Og S) (Oq F) (Oo f.name) _ d.o.box.c7.2.2.2.1 d.o.box.c7.2.2.2.2.1 d.o.sm d.o.fm j).mono ?_;rw[Ou,A.o];rintro e G ⟨rfl,rfl⟩
 go_wp2_with fail
 refine Jj (v:=.tuple #[.int .i64 0,.int .i64 2]) ?_ rfl ⟨rfl,E.o⟩;simp[results,results59,go_sem]
theorem A2 {w:World}{kb sb fb gb n:Nat}{S:List (List UInt8)}{F:List Fn}{T:List Tm}{vS vF vT v5:Value}{g:List UInt8->Option SI}(h:BK w kb sb fb gb n S F T vS vF vT v5 g)(f:Fn)(va:Value)(hva:O8 w va f.args)(hzn:f.name.length<=1048576)(hz:∀ a∈f.args,a.length<=1048576)(hzs:f.sort.length<=1048576)(hn:n<=900000000)(hf:Nh (Og S) (Oq F) f.name=false)(hno:Kj (Oh (Og S)) f=false) :
 Calls prog 59 #[.pointer (some ⟨kb,0,none⟩),.agg #[.string (Oo f.name),va,.string (Oo f.sort)]] w fun e w'=>e=.returned (.tuple #[.int .i64 0,.int .i64 3])/\O7 w w' kb sb fb gb n S F T vS vF vT v5 6:=by
 have A:(Oo f.name).size<=1048576:=by show f.name.toArray.size<=_;simpa using hzn
 have E:=Hd hva;obtain⟨K,J,rfl,-,-,-⟩:=hva;have j:=Hd (h.next (Oy w (.cells #[.string (Oo f.name),.slice K f.args.length J,.string (Oo f.sort)] 47)));have I:Hid (Up w (w.alloc (.cells #[.string (Oo f.name),.slice K f.args.length J,.string (Oo f.sort)] 47))):=Oy _ _;have G:Hid (Hk (Og S) (Oq F) f.name=0):=by unfold Hid Hk;rw[hf];rfl
 have d:=Hd (Xm j.o f _ (E.o.below I.o) hz hzs hn);rw[hno] at d;clear h hf hno
 go_enter func59,ntmps59
 go_wp2_with fail
 refine (N6 kb sb fb (Og S) (Oq F) (Oo f.name) _ j.o.box.c7.2.2.2.1 j.o.box.c7.2.2.2.2.1 j.o.sm j.o.fm A).mono ?_;rw[Ou,G.o];rintro e U ⟨rfl,rfl⟩
 go_wp2_with fail
 refine d.o.mono ?_;rintro e O ⟨rfl,ha⟩;have M:=Hd (ha.after I.o);clear ha
 go_wp2_with fail
 refine Jj (v:=.tuple #[.int .i64 0,.int .i64 3]) ?_ rfl ⟨rfl,M.o⟩;simp[results,results59,go_sem]
end Go.Proofs.YtipgjenolpofpaaGreatDoor
